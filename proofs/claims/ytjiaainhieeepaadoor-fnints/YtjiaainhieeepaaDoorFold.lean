import Derived.Test.YtjiaainhieeepaaDoorSpec1
set_option linter.unusedVariables false
namespace Go.Proofs.YtjiaainhieeepaaDoor
open Go.RowKit
theorem fold_a (op : Int) (w : World) (hl : -9223372036854775808 ≤ op) (hr : op ≤ 9223372036854775807) (h0 : 80 ≤ op) (h1 : op ≤ 90) : Calls Tryd.prog 16 #[.int .i64 op] w fun e w' => e = .returned (.tuple #[.int .i64 (op - 11), .bool true]) ∧ w = w' := by
  have e : op - 80 + 69 = op - 11 := by omega
  rw [← e]
  clear e
  go_enter Tryd.func16, Tryd.ntmps16
  go_wp2
  go_ret2
  exact ⟨rfl, rfl⟩
theorem fold_b (op : Int) (w : World) (hl : -9223372036854775808 ≤ op) (hr : op ≤ 9223372036854775807) (h0 : 121 ≤ op) (h1 : op ≤ 138) : Calls Tryd.prog 16 #[.int .i64 op] w fun e w' => e = .returned (.tuple #[.int .i64 (op - 18), .bool true]) ∧ w = w' := by
  have t0 : ¬ op ≤ 90 := by omega
  have e : op - 121 + 103 = op - 18 := by omega
  rw [← e]
  clear e
  go_enter Tryd.func16, Tryd.ntmps16
  go_wp2
  go_ret2
  exact ⟨rfl, rfl⟩
theorem fold_c (op : Int) (w : World) (hl : -9223372036854775808 ≤ op) (hr : op ≤ 9223372036854775807) (h0 : ¬ (80 ≤ op ∧ op ≤ 90)) (h1 : ¬ (121 ≤ op ∧ op ≤ 138)) (h2 : 167 ≤ op) : Calls Tryd.prog 16 #[.int .i64 op] w fun e w' => e = .returned (.tuple #[.int .i64 (op), .bool true]) ∧ w = w' := by
  have t0 : ¬ op ≤ 90 := by omega
  have t1 : ¬ op ≤ 138 := by omega
  clear h0 h1
  have e : decide (167 ≤ op) = true := decide_eq_true h2
  rw [← e]
  clear e
  go_enter Tryd.func16, Tryd.ntmps16
  go_wp2
  go_ret2
  exact ⟨rfl, rfl⟩
theorem fold_d0 (op : Int) (w : World) (hl : -9223372036854775808 ≤ op) (hr : op ≤ 9223372036854775807) (hc : op < 80) : Calls Tryd.prog 16 #[.int .i64 op] w fun e w' => e = .returned (.tuple #[.int .i64 op, .bool false]) ∧ w = w' := by
  have t0 : ¬ 80 ≤ op := by omega
  have t1 : ¬ 121 ≤ op := by omega
  have e : decide (167 ≤ op) = false := decide_eq_false (by omega)
  rw [← e]
  clear e hc
  go_enter Tryd.func16, Tryd.ntmps16
  go_wp2
  go_ret2
  exact ⟨rfl, rfl⟩
theorem fold_d1 (op : Int) (w : World) (hl : -9223372036854775808 ≤ op) (hr : op ≤ 9223372036854775807) (hc : 90 < op ∧ op < 121) : Calls Tryd.prog 16 #[.int .i64 op] w fun e w' => e = .returned (.tuple #[.int .i64 op, .bool false]) ∧ w = w' := by
  have t0 : 80 ≤ op := by omega
  have t1 : ¬ op ≤ 90 := by omega
  have t2 : ¬ 121 ≤ op := by omega
  have e : decide (167 ≤ op) = false := decide_eq_false (by omega)
  rw [← e]
  clear e hc
  go_enter Tryd.func16, Tryd.ntmps16
  go_wp2
  go_ret2
  exact ⟨rfl, rfl⟩
theorem fold_d2 (op : Int) (w : World) (hl : -9223372036854775808 ≤ op) (hr : op ≤ 9223372036854775807) (hc : 138 < op ∧ op < 167) : Calls Tryd.prog 16 #[.int .i64 op] w fun e w' => e = .returned (.tuple #[.int .i64 op, .bool false]) ∧ w = w' := by
  have t0 : 80 ≤ op := by omega
  have t1 : ¬ op ≤ 90 := by omega
  have t2 : 121 ≤ op := by omega
  have t3 : ¬ op ≤ 138 := by omega
  have e : decide (167 ≤ op) = false := decide_eq_false (by omega)
  rw [← e]
  clear e hc
  go_enter Tryd.func16, Tryd.ntmps16
  go_wp2
  go_ret2
  exact ⟨rfl, rfl⟩
theorem fold_d (op : Int) (w : World) (hl : -9223372036854775808 ≤ op) (hr : op ≤ 9223372036854775807) (h0 : ¬ (80 ≤ op ∧ op ≤ 90)) (h1 : ¬ (121 ≤ op ∧ op ≤ 138)) (h2 : ¬ 167 ≤ op) : Calls Tryd.prog 16 #[.int .i64 op] w fun e w' => e = .returned (.tuple #[.int .i64 op, .bool false]) ∧ w = w' := by
  by_cases c0 : op < 80
  · exact fold_d0 op w hl hr c0
  · by_cases c1 : op < 121
    · exact fold_d1 op w hl hr (by omega)
    · exact fold_d2 op w hl hr (by omega)
end Go.Proofs.YtjiaainhieeepaaDoor
