import Derived.Test.YtnbplhlpcojlhaaCut
import Derived.Deep.QuietTactic
import Derived.BigQuiet
namespace Go.Proofs.Ytnbplhlpcojlhaa
open Go.RowKit

/-- The slice's address leads to these bytes (nothing is asked of it where there is none). -/
def Has (w : World) (a : Option Addr) (xs : List Int) : Prop :=
  xs = [] ∨ ∃ b off, a = some ⟨b, off, none⟩ ∧ ∀ i, i < xs.length → w.cell? ⟨b, off + i, none⟩ = some (.int .u8 (xs.getD i 0))

theorem Has.drewN {w : World} {a : Option Addr} {xs : List Int} (h : Has w a xs) (n : Nat) : Has (w.drewN n) a xs := h
theorem Has.mk {w : World} {b off : Nat} {xs : List Int} (h : ∀ i, i < xs.length → w.cell? ⟨b, off + i, none⟩ = some (.int .u8 (xs.getD i 0))) : Has w (some ⟨b, off, none⟩) xs := .inr ⟨b, off, rfl, h⟩

set_option maxHeartbeats 400000 in
theorem eq_any (a b : Option Addr) (ca cb : Nat) (xs : List Int) (w : World) (hl : xs.length ≤ 1099511627776) (ha : Has w a xs) (hb : Has w b xs) :
    Calls Try.prog 12 #[.slice a xs.length ca, .slice b xs.length cb] w fun e w' => e = .returned (.bool true) ∧ ∃ n, w' = w.drewN n := by
  by_cases hx : xs = []
  · subst hx
    clear ha hb hl
    go_enter Try.func12, Try.ntmps12
    go_wp2
    refine wp_loop_rounds 1 ?_
    rw [rounds_succ]
    go_wp2
    go_ret
    exact ⟨rfl, 0, rfl⟩
  · have hpos : 0 < xs.length := List.length_pos_iff.2 hx
    rcases ha with h | ⟨b1, o1, rfl, hc1⟩
    · exact absurd h hx
    rcases hb with h | ⟨b2, o2, rfl, hc2⟩
    · exact absurd h hx
    have hpos' : (0 : Int) < (xs.length : Int) := by omega
    clear hx
    go_enter Try.func12, Try.ntmps12
    go_wp2
    go_loopw [5] (fun i wr => ∃ k : Nat, k ≤ xs.length ∧ i = .int .i64 k ∧ ∃ m, wr = w.drewN m) (fun i _ => xs.length - (intOf i).toNat)
    case atStart => exact ⟨0, Nat.zero_le _, rfl, 0, rfl⟩
    case round =>
      obtain ⟨k, hk, rfl, m, rfl⟩ := hrel
      by_cases hlt : k < xs.length
      · have d1 : (w.drewN m).cell? ⟨b1, o1 + k, none⟩ = some (.int .u8 (xs.getD k 0)) := hc1 k hlt
        have d2 : (w.drewN m).cell? ⟨b2, o2 + k, none⟩ = some (.int .u8 (xs.getD k 0)) := hc2 k hlt
        have hki : (k : Int) < (xs.length : Int) := by omega
        go_wp2
        go_quiet (fail)
        go_wp2
        go_roundw
        case rel => exact ⟨k + 1, by omega, by go_num, _, rfl⟩
        case measure => simp [intOf]; omega
      · go_wp2
        go_ret
        exact ⟨rfl, m, rfl⟩

/-- The bytes that markByteS writes. -/
def marks (k n : Nat) : List Int := (List.range n).map fun i => ((k + i : Nat) : Int) % 256
theorem marks_len (k n : Nat) : (marks k n).length = n := by simp [marks]
theorem marks_at (k n i : Nat) (h : i < n) : (marks k n).getD i 0 = ((k : Int) + i) % 256 := by
  simp [marks, List.getD, h]
set_option maxHeartbeats 400000 in
theorem held_any (a : Option Addr) (c n : Nat) (w : World) (hl : n ≤ 1099511627776) (ha : Has w a (marks 1 n)) :
    Calls Try.prog 14 #[.slice a n c, .int .i64 1] w fun e w' => e = .returned (.int .i64 ((1 : Int) + n)) ∧ w = w' := by
  by_cases hx : n = 0
  · subst hx
    clear ha hl
    go_enter Try.func14, Try.ntmps14
    go_wp2
    refine wp_loop_rounds 1 ?_
    rw [rounds_succ]
    go_wp2
    go_ret
    exact ⟨rfl, rfl⟩
  · have hpos : 0 < n := by omega
    rcases ha with h | ⟨b1, o1, rfl, hc1⟩
    · have := marks_len 1 n; rw [h] at this; simp at this; omega
    rw [marks_len] at hc1
    clear hx
    go_enter Try.func14, Try.ntmps14
    go_wp2
    go_loop [1, 5] (fun q i => ∃ k : Nat, k ≤ n ∧ i = .int .i64 k ∧ q = .int .i64 (1 + k)) (fun _ i => n - (intOf i).toNat)
    case atStart => exact ⟨0, Nat.zero_le _, rfl, rfl⟩
    case round =>
      obtain ⟨k, hk, rfl, rfl⟩ := hrel
      by_cases hlt : k < n
      · have d1 : w.cell? ⟨b1, o1 + k, none⟩ = some (.int .u8 ((1 + (k : Int)) % 256)) := by rw [hc1 k hlt, marks_at 1 n k hlt]; rfl
        have hki : (k : Int) < (n : Int) := by omega
        clear hc1
        go_wp2
        go_round
        case rel => exact ⟨k + 1, by omega, by go_num, by go_num⟩
        case measure => simp [intOf]; omega
      · have e : k = n := by omega
        subst e
        go_wp2
        go_ret
        exact ⟨rfl, rfl⟩
end Go.Proofs.Ytnbplhlpcojlhaa
