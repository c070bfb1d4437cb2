import Derived.Test.YtfaajmhmcdoibaaTb
import Derived.Test.YtfaajmhmcdoibaaPutU
set_option linter.all false
set_option linter.unusedVariables false
namespace Go.Proofs.Ytfaajmhmcdoibaa
open Go.RowKit
theorem implPutU_any (x : Int) (w : World) (h0 : 0 ≤ x) (h1 : x ≤ 18446744073709551615) :
    Calls Try.prog 87 #[.int .u64 x] w fun e w' => ∃ v, e = .returned v ∧ w'.ownsRow w.heap.size 5 1 v (lebU 9 x).length (U (lebU 9 x)) ∧ Below w.heap.size w w' := by
  go_enter Try.func87, Try.ntmps87
  go_wp2_with (go_at_call 88; refine (lebPutU_any _ _ h0 h1).mono ?_; rintro e w' ⟨v, rfl, ho, hb⟩)
  go_ret
  exact ⟨_, rfl, ho, hb⟩

end Go.Proofs.Ytfaajmhmcdoibaa
namespace Go.Proofs.Ytfaajmhmcdoibaa.By
open Go.RowKit


/-- The slice's address leads to these bytes (nothing is asked of it where there is none). -/
def Has (w : World) (a : Option Addr) (xs : List Int) : Prop :=
  xs = [] ∨ ∃ b off, a = some ⟨b, off, none⟩ ∧ ∀ i, i < xs.length → w.cell? ⟨b, off + i, none⟩ = some (.int .u8 (xs.getD i 0))

theorem Has.drewN {w : World} {a : Option Addr} {xs : List Int} (h : Has w a xs) (n : Nat) : Has (w.drewN n) a xs := h
theorem Has.mk {w : World} {b off : Nat} {xs : List Int} (h : ∀ i, i < xs.length → w.cell? ⟨b, off + i, none⟩ = some (.int .u8 (xs.getD i 0))) : Has w (some ⟨b, off, none⟩) xs := .inr ⟨b, off, rfl, h⟩

set_option maxHeartbeats 400000 in
theorem eq_any (a b : Option Addr) (ca cb : Nat) (xs : List Int) (w : World) (hl : xs.length ≤ 1099511627776) (ha : Has w a xs) (hb : Has w b xs) :
    Calls Try.prog 9 #[.slice a xs.length ca, .slice b xs.length cb] w fun e w' => e = .returned (.bool true) ∧ ∃ n, w' = w.drewN n := by
  by_cases hx : xs = []
  · subst hx
    clear ha hb hl
    go_enter Try.func9, Try.ntmps9
    go_wp2
    refine wp_loop_rounds 1 ?_
    rw [rounds_succ]
    go_wp2
    go_ret
    exact ⟨rfl, 0, rfl⟩
  · have hpos : 0 < xs.length := List.length_pos_iff.2 hx
    rcases ha with h | ⟨b1, o1, rfl, hc1⟩
    · exact absurd h hx
    rcases hb with h | ⟨b2, o2, rfl, hc2⟩
    · exact absurd h hx
    have hpos' : (0 : Int) < (xs.length : Int) := by omega
    clear hx
    go_enter Try.func9, Try.ntmps9
    go_wp2
    go_loopw [5] (fun i wr => ∃ k : Nat, k ≤ xs.length ∧ i = .int .i64 k ∧ ∃ m, wr = w.drewN m) (fun i _ => xs.length - (intOf i).toNat)
    case atStart => exact ⟨0, Nat.zero_le _, rfl, 0, rfl⟩
    case round =>
      obtain ⟨k, hk, rfl, m, rfl⟩ := hrel
      by_cases hlt : k < xs.length
      · have d1 : (w.drewN m).cell? ⟨b1, o1 + k, none⟩ = some (.int .u8 (xs.getD k 0)) := hc1 k hlt
        have d2 : (w.drewN m).cell? ⟨b2, o2 + k, none⟩ = some (.int .u8 (xs.getD k 0)) := hc2 k hlt
        have hki : (k : Int) < (xs.length : Int) := by omega
        go_wp2
        go_quiet (fail)
        go_wp2
        go_roundw
        case rel => exact ⟨k + 1, by omega, by go_num, _, rfl⟩
        case measure => simp [intOf]; omega
      · go_wp2
        go_ret
        exact ⟨rfl, m, rfl⟩

/-- The bytes that markByteS writes. -/
def marks (k n : Nat) : List Int := (List.range n).map fun i => ((k + i : Nat) : Int) % 256
theorem marks_len (k n : Nat) : (marks k n).length = n := by simp [marks]
theorem marks_at (k n i : Nat) (h : i < n) : (marks k n).getD i 0 = ((k : Int) + i) % 256 := by
  simp [marks, List.getD, h]
set_option maxHeartbeats 400000 in
theorem held_any (a : Option Addr) (c n : Nat) (w : World) (hl : n ≤ 1099511627776) (ha : Has w a (marks 1 n)) :
    Calls Try.prog 13 #[.slice a n c, .int .i64 1] w fun e w' => e = .returned (.int .i64 ((1 : Int) + n)) ∧ w = w' := by
  by_cases hx : n = 0
  · subst hx
    clear ha hl
    go_enter Try.func13, Try.ntmps13
    go_wp2
    refine wp_loop_rounds 1 ?_
    rw [rounds_succ]
    go_wp2
    go_ret
    exact ⟨rfl, rfl⟩
  · have hpos : 0 < n := by omega
    rcases ha with h | ⟨b1, o1, rfl, hc1⟩
    · have := marks_len 1 n; rw [h] at this; simp at this; omega
    rw [marks_len] at hc1
    clear hx
    go_enter Try.func13, Try.ntmps13
    go_wp2
    go_loop [1, 5] (fun q i => ∃ k : Nat, k ≤ n ∧ i = .int .i64 k ∧ q = .int .i64 (1 + k)) (fun _ i => n - (intOf i).toNat)
    case atStart => exact ⟨0, Nat.zero_le _, rfl, rfl⟩
    case round =>
      obtain ⟨k, hk, rfl, rfl⟩ := hrel
      by_cases hlt : k < n
      · have d1 : w.cell? ⟨b1, o1 + k, none⟩ = some (.int .u8 ((1 + (k : Int)) % 256)) := by rw [hc1 k hlt, marks_at 1 n k hlt]; rfl
        have hki : (k : Int) < (n : Int) := by omega
        clear hc1
        go_wp2
        go_round
        case rel => exact ⟨k + 1, by omega, by go_num, by go_num⟩
        case measure => simp [intOf]; omega
      · have e : k = n := by omega
        subst e
        go_wp2
        go_ret
        exact ⟨rfl, rfl⟩


/-- A row with something in it is a slice at a block of its own. -/
theorem own_split {w : World} {B : Nat} {v : Value} {n : Nat} {L : List Int} (h : w.ownsRow B 5 1 v n (U L)) (hn : 1 ≤ n) : ∃ g cap, v = .slice (some ⟨g, 0, none⟩) n cap ∧ B ≤ g ∧ g < w.heap.size := by
  rcases h.2 with ⟨_, h0⟩ | ⟨g, cap, cur, hv, hB, hg, _⟩
  · omega
  · exact ⟨g, cap, hv, hB, (Array.getElem?_eq_some_iff.1 hg).1⟩

theorem own_has {w : World} {B g cap : Nat} {L : List Int} (h : w.ownsRow B 5 1 (.slice (some ⟨g, 0, none⟩) L.length cap) L.length (U L)) : Has w (some ⟨g, 0, none⟩) L := by
  refine .inr ⟨g, 0, rfl, fun i hi => ?_⟩
  rw [Nat.zero_add, h.cellAt i (by omega)]
  simp [List.getD, hi]

theorem own_has' {w : World} {B g cap n : Nat} (h : w.ownsRow B 5 1 (.slice (some ⟨g, 0, none⟩) n cap) n (U (marks 1 n))) : Has w (some ⟨g, 0, none⟩) (marks 1 n) :=
  own_has (L := marks 1 n) (by rw [marks_len]; exact h)

theorem own_below {w w' : World} {B C g cap n : Nat} {xs : List Value} (h : w.ownsRow B 5 1 (.slice (some ⟨g, 0, none⟩) n cap) n xs) (hb : Below C w w') (hg : g < C) : w'.ownsRow B 5 1 (.slice (some ⟨g, 0, none⟩) n cap) n xs := by
  refine ⟨h.1, ?_⟩
  rcases h.2 with h0 | ⟨g', cap', cur, hv, hB, hh, r⟩
  · exact .inl h0
  · simp only [Value.slice.injEq, Option.some.injEq, Addr.mk.injEq, and_true, true_and] at hv
    obtain ⟨rfl, rfl⟩ := hv
    exact .inr ⟨g, cap, cur, rfl, hB, (hb.block g hg).trans hh, r⟩

theorem own_grown {w w' : World} {B g g1 cap n : Nat} {xs : List Value} (h : w.ownsRow B 5 1 (.slice (some ⟨g, 0, none⟩) n cap) n xs) (hg : w.grownBy w' (some g1)) (hne : g ≠ g1) : w'.ownsRow B 5 1 (.slice (some ⟨g, 0, none⟩) n cap) n xs :=
  h.kept hg (.inr (by simp [Value.ownBlock, hne]))

theorem marks_step (k : Nat) (xs : List Int) (h : k < xs.length) : (U (marks 1 k ++ xs.drop k)).set k (.int .u8 ((1 + (k : Int)) % 256)) = U (marks 1 (k + 1) ++ xs.drop (k + 1)) := by
  have e : marks 1 (k + 1) = marks 1 k ++ [((1 + k : Nat) : Int) % 256] := by simp [marks, List.range_succ]
  rw [e, List.drop_eq_getElem_cons h]
  simp only [U, List.map_append, List.map_cons, List.append_assoc, List.cons_append, List.nil_append]
  rw [List.set_append_right _ _ (by simp [marks])]
  simp [marks]

theorem own_len {w : World} {B : Nat} {v : Value} {n : Nat} {L : List Int} (h : w.ownsRow B 5 1 v n (U L)) : L.length = n := by
  have := h.1
  simpa using this

set_option maxHeartbeats 400000 in
theorem mark_any (B g n cap : Nat) (xs : List Int) (w : World) (hl : n ≤ 1099511627776) (hown : w.ownsRow B 5 1 (.slice (some ⟨g, 0, none⟩) n cap) n (U xs)) :
    Calls Try.prog 12 #[.slice (some ⟨g, 0, none⟩) n cap, .int .i64 1] w fun e w' => e = .returned (.int .i64 ((1 : Int) + n)) ∧ w'.ownsRow B 5 1 (.slice (some ⟨g, 0, none⟩) n cap) n (U (marks 1 n)) ∧ w.grownBy w' (some g) := by
  have hxl := own_len hown
  go_enter Try.func12, Try.ntmps12
  go_wp2
  go_loopw [1, 5] (fun q i wr => ∃ k : Nat, k ≤ n ∧ i = .int .i64 k ∧ q = .int .i64 (1 + k) ∧ wr.ownsRow B 5 1 (.slice (some ⟨g, 0, none⟩) n cap) n (U (marks 1 k ++ xs.drop k)) ∧ w.grownBy wr (some g)) (fun _ i _ => n - (intOf i).toNat)
  case atStart => exact ⟨0, Nat.zero_le _, rfl, rfl, by simpa [marks] using hown, World.grownBy.refl _ _⟩
  case round =>
    obtain ⟨k, hk, rfl, rfl, ho, hg⟩ := hrel
    clear hown
    by_cases hlt : k < n
    · have hki : (k : Int) < (n : Int) := by omega
      have hcell : ∃ u, wr.cell? ⟨g, k, none⟩ = some u := by
        rw [ho.cellAt k (by omega)]
        exact ⟨_, List.getElem?_eq_getElem (by simp [marks]; omega)⟩
      obtain ⟨u, hu⟩ := hcell
      have hfz := ho.frozenAt k
      obtain ⟨s1, s2⟩ := ho.stored k (.int .u8 ((1 + (k : Int)) % 256))
      rw [marks_step k xs (by omega)] at s1
      have R := And.intro s1 (grown_trans hg s2)
      clear s1 s2 ho hg hxl
      go_wp2
      go_roundw
      case rel => exact ⟨k + 1, by omega, by go_num, by go_num, R.1, R.2⟩
      case measure => simp [intOf]; omega
    · have e : k = n := by omega
      subst e
      rw [List.drop_of_length_le (by omega), List.append_nil] at ho
      clear hxl
      go_wp2
      go_ret
      exact ⟨rfl, ho, hg⟩
end Go.Proofs.Ytfaajmhmcdoibaa.By
