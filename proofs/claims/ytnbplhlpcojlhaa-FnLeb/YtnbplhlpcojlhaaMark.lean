import Derived.Test.YtnbplhlpcojlhaaEq
namespace Go.Proofs.Ytnbplhlpcojlhaa
open Go.RowKit

theorem grown_trans {a b c : World} {row : Option Nat} (h : a.grownBy b row) (k : b.grownBy c row) : a.grownBy c row :=
  ⟨k.os.trans h.os, k.tape.trans h.tape, k.output.trans h.output, Nat.le_trans h.size k.size, fun i hi hne => (k.block i (Nat.lt_of_lt_of_le hi h.size) hne).trans (h.block i hi hne)⟩

theorem below_drewN' {B : Nat} {w w' : World} (h : Below B w w') (n : Nat) : Below B w (w'.drewN n) := ⟨h.os, h.tape, h.output, h.size, h.block⟩

/-- A row with something in it is a slice at a block of its own. -/
theorem own_split {w : World} {B : Nat} {v : Value} {n : Nat} {L : List Int} (h : w.ownsRow B 5 1 v n (U L)) (hn : 1 ≤ n) : ∃ g cap, v = .slice (some ⟨g, 0, none⟩) n cap ∧ B ≤ g ∧ g < w.heap.size := by
  rcases h.2 with ⟨_, h0⟩ | ⟨g, cap, cur, hv, hB, hg, _⟩
  · omega
  · exact ⟨g, cap, hv, hB, (Array.getElem?_eq_some_iff.1 hg).1⟩

theorem own_has {w : World} {B g cap : Nat} {L : List Int} (h : w.ownsRow B 5 1 (.slice (some ⟨g, 0, none⟩) L.length cap) L.length (U L)) : Has w (some ⟨g, 0, none⟩) L := by
  refine .inr ⟨g, 0, rfl, fun i hi => ?_⟩
  rw [Nat.zero_add, h.cellAt i (by omega)]
  simp [List.getD, hi]

theorem own_has' {w : World} {B g cap n : Nat} (h : w.ownsRow B 5 1 (.slice (some ⟨g, 0, none⟩) n cap) n (U (marks 1 n))) : Has w (some ⟨g, 0, none⟩) (marks 1 n) :=
  own_has (L := marks 1 n) (by rw [marks_len]; exact h)

theorem own_below {w w' : World} {B C g cap n : Nat} {xs : List Value} (h : w.ownsRow B 5 1 (.slice (some ⟨g, 0, none⟩) n cap) n xs) (hb : Below C w w') (hg : g < C) : w'.ownsRow B 5 1 (.slice (some ⟨g, 0, none⟩) n cap) n xs := by
  refine ⟨h.1, ?_⟩
  rcases h.2 with h0 | ⟨g', cap', cur, hv, hB, hh, r⟩
  · exact .inl h0
  · simp only [Value.slice.injEq, Option.some.injEq, Addr.mk.injEq, and_true, true_and] at hv
    obtain ⟨rfl, rfl⟩ := hv
    exact .inr ⟨g, cap, cur, rfl, hB, (hb.block g hg).trans hh, r⟩

theorem own_grown {w w' : World} {B g g1 cap n : Nat} {xs : List Value} (h : w.ownsRow B 5 1 (.slice (some ⟨g, 0, none⟩) n cap) n xs) (hg : w.grownBy w' (some g1)) (hne : g ≠ g1) : w'.ownsRow B 5 1 (.slice (some ⟨g, 0, none⟩) n cap) n xs :=
  h.kept hg (.inr (by simp [Value.ownBlock, hne]))

theorem marks_step (k : Nat) (xs : List Int) (h : k < xs.length) : (U (marks 1 k ++ xs.drop k)).set k (.int .u8 ((1 + (k : Int)) % 256)) = U (marks 1 (k + 1) ++ xs.drop (k + 1)) := by
  have e : marks 1 (k + 1) = marks 1 k ++ [((1 + k : Nat) : Int) % 256] := by simp [marks, List.range_succ]
  rw [e, List.drop_eq_getElem_cons h]
  simp only [U, List.map_append, List.map_cons, List.append_assoc, List.cons_append, List.nil_append]
  rw [List.set_append_right _ _ (by simp [marks])]
  simp [marks]

theorem own_len {w : World} {B : Nat} {v : Value} {n : Nat} {L : List Int} (h : w.ownsRow B 5 1 v n (U L)) : L.length = n := by
  have := h.1
  simpa using this

set_option maxHeartbeats 400000 in
theorem mark_any (B g n cap : Nat) (xs : List Int) (w : World) (hl : n ≤ 1099511627776) (hown : w.ownsRow B 5 1 (.slice (some ⟨g, 0, none⟩) n cap) n (U xs)) :
    Calls Try.prog 13 #[.slice (some ⟨g, 0, none⟩) n cap, .int .i64 1] w fun e w' => e = .returned (.int .i64 ((1 : Int) + n)) ∧ w'.ownsRow B 5 1 (.slice (some ⟨g, 0, none⟩) n cap) n (U (marks 1 n)) ∧ w.grownBy w' (some g) := by
  have hxl := own_len hown
  go_enter Try.func13, Try.ntmps13
  go_wp2
  go_loopw [1, 5] (fun q i wr => ∃ k : Nat, k ≤ n ∧ i = .int .i64 k ∧ q = .int .i64 (1 + k) ∧ wr.ownsRow B 5 1 (.slice (some ⟨g, 0, none⟩) n cap) n (U (marks 1 k ++ xs.drop k)) ∧ w.grownBy wr (some g)) (fun _ i _ => n - (intOf i).toNat)
  case atStart => exact ⟨0, Nat.zero_le _, rfl, rfl, by simpa [marks] using hown, World.grownBy.refl _ _⟩
  case round =>
    obtain ⟨k, hk, rfl, rfl, ho, hg⟩ := hrel
    clear hown
    by_cases hlt : k < n
    · have hki : (k : Int) < (n : Int) := by omega
      have hcell : ∃ u, wr.cell? ⟨g, k, none⟩ = some u := by
        rw [ho.cellAt k (by omega)]
        exact ⟨_, List.getElem?_eq_getElem (by simp [marks]; omega)⟩
      obtain ⟨u, hu⟩ := hcell
      have hfz := ho.frozenAt k
      obtain ⟨s1, s2⟩ := ho.stored k (.int .u8 ((1 + (k : Int)) % 256))
      rw [marks_step k xs (by omega)] at s1
      have R := And.intro s1 (grown_trans hg s2)
      clear s1 s2 ho hg hxl
      go_wp2
      go_roundw
      case rel => exact ⟨k + 1, by omega, by go_num, by go_num, R.1, R.2⟩
      case measure => simp [intOf]; omega
    · have e : k = n := by omega
      subst e
      rw [List.drop_of_length_le (by omega), List.append_nil] at ho
      clear hxl
      go_wp2
      go_ret
      exact ⟨rfl, ho, hg⟩
end Go.Proofs.Ytnbplhlpcojlhaa
