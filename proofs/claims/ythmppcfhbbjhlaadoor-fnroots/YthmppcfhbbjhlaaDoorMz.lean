import Derived.Test.YthmppcfhbbjhlaaDoorSc
import Derived.Test.YthmppcfhbbjhlaaDoorRm
set_option linter.all false
namespace Go.Proofs.YthmppcfhbbjhlaaDoor
open Go.RowKit Go.Sort
theorem bl60 {s : Nat} (h : s < 18014398509481984) : bl s ≤ 60 := Nat.le_trans (bl_le (k := 54) h) (by decide)
theorem mt_n_z (m : Nat) (hk : kd_n m = 0) (h : mt_n m = 0) : ex_n m ≤ 0 := by
  unfold kd_n at hk
  unfold mt_n at h
  unfold ex_n
  split at hk
  · omega
  · split at hk
    · omega
    · rw [if_neg (show ¬ 2139095040 ≤ m by omega)] at h ⊢
      split at h
      · rename_i h1
        rw [if_pos h1]; omega
      · omega
theorem mt_w_z (m : Nat) (hk : kd_w m = 0) (h : mt_w m = 0) : ex_w m ≤ 0 := by
  unfold kd_w at hk
  unfold mt_w at h
  unfold ex_w
  split at hk
  · omega
  · split at hk
    · omega
    · rw [if_neg (show ¬ 9218868437227405312 ≤ m by omega)] at h ⊢
      split at h
      · rename_i h1
        rw [if_pos h1]; omega
      · omega
set_option maxHeartbeats 400000 in
theorem eqRes_any (K : Bool) (t v : Int) (w : World) :
    Calls Tryd.prog 11 #[RV K t v, RV K t v] w fun e w' => e = .returned (.bool true) ∧ Below w.heap.size w w' := by
  go_enter Tryd.func11, Tryd.ntmps11
  go_wp2
  all_goals (try go_quiet (fail))
  all_goals (try go_wp2)
  go_ret
  exact ⟨rfl, by repeat (first | exact Below.refl _ _ | apply Below.drew | (refine Below.alloc ?_ (by simp) _))⟩
end Go.Proofs.YthmppcfhbbjhlaaDoor
