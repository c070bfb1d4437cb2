import Derived.Test.YtngepdhhdbhglaaGreatDoorTab
set_option linter.all false
set_option linter.unusedVariables false
namespace Go.Proofs.YtngepdhhdbhglaaGreatDoor
open Go.RowKit
theorem l1In_c (x lo hi : Int) (w : World) : Calls Tryz.prog 46 #[.int .i64 x, .int .i64 lo, .int .i64 hi] w fun e w' => e = .returned (.bool (decide (lo ≤ x ∧ x ≤ hi))) ∧ w = w' := by
  by_cases h1 : lo ≤ x
  · by_cases h2 : x ≤ hi
    · go_enter Tryz.func46, Tryz.ntmps46
      go_wp2
      go_ret
      exact ⟨by simp [h1, h2], rfl⟩
    · go_enter Tryz.func46, Tryz.ntmps46
      go_wp2
      go_ret
      exact ⟨by simp [h1, h2], rfl⟩
  · go_enter Tryz.func46, Tryz.ntmps46
    go_wp2
    go_ret
    have hd : (decide (lo ≤ x) && decide (x ≤ hi)) = false := by simp; omega
    rw [hd]; exact ⟨rfl, rfl⟩
theorem l1In_t (x lo hi : Int) (w : World) (h : lo ≤ x ∧ x ≤ hi) : Calls Tryz.prog 46 #[.int .i64 x, .int .i64 lo, .int .i64 hi] w fun e w' => e = .returned (.bool true) ∧ w = w' :=
  (l1In_c x lo hi w).mono fun e w' ⟨a, b⟩ => ⟨by simpa [h.1, h.2] using a, b⟩
theorem l1In_f (x lo hi : Int) (w : World) (h : ¬ (lo ≤ x ∧ x ≤ hi)) : Calls Tryz.prog 46 #[.int .i64 x, .int .i64 lo, .int .i64 hi] w fun e w' => e = .returned (.bool false) ∧ w = w' :=
  (l1In_c x lo hi w).mono fun e w' ⟨a, b⟩ => ⟨by rw [a, decide_eq_false h], b⟩
theorem rng (lo n : Nat) (f : Nat → Bool) (h : (List.range n).all (fun i => f (lo + i)) = true) (p : Int) (h1 : (lo : Int) ≤ p) (h2 : p < (lo + n : Nat)) : f p.toNat = true := by
  have := List.all_eq_true.1 h (p.toNat - lo) (by simp; omega)
  rw [← this]; congr 1; omega
def formR (r : Row) : Int := if r.nm.size = 0 then -1 else r.f
theorem known_0 (p : Int) (w : World) (h2 : p ≤ -1) : Calls Tryz.prog 41 #[.int .i64 p] w fun e w' => e = .returned (.bool false) ∧ w = w' := by
  have f1 : (p == (26 : Int)) = false := by simp; omega
  have f2 : (p == (27 : Int)) = false := by simp; omega
  go_enter Tryz.func41, Tryz.ntmps41
  go_wp2_with (first | (go_at_call 46; refine (l1In_f _ _ _ _ (by omega)).mono ?_; rintro e w1 ⟨rfl, rfl⟩) | (go_at_call 46; refine (l1In_t _ _ _ _ (by omega)).mono ?_; rintro e w1 ⟨rfl, rfl⟩))
  go_ret
  exact ⟨rfl, rfl⟩
theorem known_1 (p : Int) (w : World) (h1 : 0 ≤ p) (h2 : p ≤ 5) : Calls Tryz.prog 41 #[.int .i64 p] w fun e w' => e = .returned (.bool true) ∧ w = w' := by
  have f1 : (p == (26 : Int)) = false := by simp; omega
  have f2 : (p == (27 : Int)) = false := by simp; omega
  go_enter Tryz.func41, Tryz.ntmps41
  go_wp2_with (first | (go_at_call 46; refine (l1In_f _ _ _ _ (by omega)).mono ?_; rintro e w1 ⟨rfl, rfl⟩) | (go_at_call 46; refine (l1In_t _ _ _ _ (by omega)).mono ?_; rintro e w1 ⟨rfl, rfl⟩))
  go_ret
  exact ⟨rfl, rfl⟩
theorem known_2 (p : Int) (w : World) (h1 : 6 ≤ p) (h2 : p ≤ 10) : Calls Tryz.prog 41 #[.int .i64 p] w fun e w' => e = .returned (.bool false) ∧ w = w' := by
  have f1 : (p == (26 : Int)) = false := by simp; omega
  have f2 : (p == (27 : Int)) = false := by simp; omega
  go_enter Tryz.func41, Tryz.ntmps41
  go_wp2_with (first | (go_at_call 46; refine (l1In_f _ _ _ _ (by omega)).mono ?_; rintro e w1 ⟨rfl, rfl⟩) | (go_at_call 46; refine (l1In_t _ _ _ _ (by omega)).mono ?_; rintro e w1 ⟨rfl, rfl⟩))
  go_ret
  exact ⟨rfl, rfl⟩
theorem known_3 (p : Int) (w : World) (h1 : 11 ≤ p) (h2 : p ≤ 17) : Calls Tryz.prog 41 #[.int .i64 p] w fun e w' => e = .returned (.bool true) ∧ w = w' := by
  have f1 : (p == (26 : Int)) = false := by simp; omega
  have f2 : (p == (27 : Int)) = false := by simp; omega
  go_enter Tryz.func41, Tryz.ntmps41
  go_wp2_with (first | (go_at_call 46; refine (l1In_f _ _ _ _ (by omega)).mono ?_; rintro e w1 ⟨rfl, rfl⟩) | (go_at_call 46; refine (l1In_t _ _ _ _ (by omega)).mono ?_; rintro e w1 ⟨rfl, rfl⟩))
  go_ret
  exact ⟨rfl, rfl⟩
theorem known_4 (p : Int) (w : World) (h1 : 18 ≤ p) (h2 : p ≤ 25) : Calls Tryz.prog 41 #[.int .i64 p] w fun e w' => e = .returned (.bool false) ∧ w = w' := by
  have f1 : (p == (26 : Int)) = false := by simp; omega
  have f2 : (p == (27 : Int)) = false := by simp; omega
  go_enter Tryz.func41, Tryz.ntmps41
  go_wp2_with (first | (go_at_call 46; refine (l1In_f _ _ _ _ (by omega)).mono ?_; rintro e w1 ⟨rfl, rfl⟩) | (go_at_call 46; refine (l1In_t _ _ _ _ (by omega)).mono ?_; rintro e w1 ⟨rfl, rfl⟩))
  go_ret
  exact ⟨rfl, rfl⟩
theorem known_5 (p : Int) (w : World) (h1 : 26 ≤ p) (h2 : p ≤ 26) : Calls Tryz.prog 41 #[.int .i64 p] w fun e w' => e = .returned (.bool true) ∧ w = w' := by
  have f1 : (p == (26 : Int)) = true := by simp; omega
  have f2 : (p == (27 : Int)) = false := by simp; omega
  go_enter Tryz.func41, Tryz.ntmps41
  go_wp2_with (first | (go_at_call 46; refine (l1In_f _ _ _ _ (by omega)).mono ?_; rintro e w1 ⟨rfl, rfl⟩) | (go_at_call 46; refine (l1In_t _ _ _ _ (by omega)).mono ?_; rintro e w1 ⟨rfl, rfl⟩))
  go_ret
  exact ⟨rfl, rfl⟩
theorem known_6 (p : Int) (w : World) (h1 : 27 ≤ p) (h2 : p ≤ 27) : Calls Tryz.prog 41 #[.int .i64 p] w fun e w' => e = .returned (.bool true) ∧ w = w' := by
  have f1 : (p == (26 : Int)) = false := by simp; omega
  have f2 : (p == (27 : Int)) = true := by simp; omega
  go_enter Tryz.func41, Tryz.ntmps41
  go_wp2_with (first | (go_at_call 46; refine (l1In_f _ _ _ _ (by omega)).mono ?_; rintro e w1 ⟨rfl, rfl⟩) | (go_at_call 46; refine (l1In_t _ _ _ _ (by omega)).mono ?_; rintro e w1 ⟨rfl, rfl⟩))
  go_ret
  exact ⟨rfl, rfl⟩
theorem known_7 (p : Int) (w : World) (h1 : 28 ≤ p) (h2 : p ≤ 31) : Calls Tryz.prog 41 #[.int .i64 p] w fun e w' => e = .returned (.bool false) ∧ w = w' := by
  have f1 : (p == (26 : Int)) = false := by simp; omega
  have f2 : (p == (27 : Int)) = false := by simp; omega
  go_enter Tryz.func41, Tryz.ntmps41
  go_wp2_with (first | (go_at_call 46; refine (l1In_f _ _ _ _ (by omega)).mono ?_; rintro e w1 ⟨rfl, rfl⟩) | (go_at_call 46; refine (l1In_t _ _ _ _ (by omega)).mono ?_; rintro e w1 ⟨rfl, rfl⟩))
  go_ret
  exact ⟨rfl, rfl⟩
theorem known_8 (p : Int) (w : World) (h1 : 32 ≤ p) (h2 : p ≤ 36) : Calls Tryz.prog 41 #[.int .i64 p] w fun e w' => e = .returned (.bool true) ∧ w = w' := by
  have f1 : (p == (26 : Int)) = false := by simp; omega
  have f2 : (p == (27 : Int)) = false := by simp; omega
  go_enter Tryz.func41, Tryz.ntmps41
  go_wp2_with (first | (go_at_call 46; refine (l1In_f _ _ _ _ (by omega)).mono ?_; rintro e w1 ⟨rfl, rfl⟩) | (go_at_call 46; refine (l1In_t _ _ _ _ (by omega)).mono ?_; rintro e w1 ⟨rfl, rfl⟩))
  go_ret
  exact ⟨rfl, rfl⟩
theorem known_9 (p : Int) (w : World) (h1 : 37 ≤ p) (h2 : p ≤ 39) : Calls Tryz.prog 41 #[.int .i64 p] w fun e w' => e = .returned (.bool false) ∧ w = w' := by
  have f1 : (p == (26 : Int)) = false := by simp; omega
  have f2 : (p == (27 : Int)) = false := by simp; omega
  go_enter Tryz.func41, Tryz.ntmps41
  go_wp2_with (first | (go_at_call 46; refine (l1In_f _ _ _ _ (by omega)).mono ?_; rintro e w1 ⟨rfl, rfl⟩) | (go_at_call 46; refine (l1In_t _ _ _ _ (by omega)).mono ?_; rintro e w1 ⟨rfl, rfl⟩))
  go_ret
  exact ⟨rfl, rfl⟩
theorem known_10 (p : Int) (w : World) (h1 : 40 ≤ p) (h2 : p ≤ 191) : Calls Tryz.prog 41 #[.int .i64 p] w fun e w' => e = .returned (.bool true) ∧ w = w' := by
  have f1 : (p == (26 : Int)) = false := by simp; omega
  have f2 : (p == (27 : Int)) = false := by simp; omega
  go_enter Tryz.func41, Tryz.ntmps41
  go_wp2_with (first | (go_at_call 46; refine (l1In_f _ _ _ _ (by omega)).mono ?_; rintro e w1 ⟨rfl, rfl⟩) | (go_at_call 46; refine (l1In_t _ _ _ _ (by omega)).mono ?_; rintro e w1 ⟨rfl, rfl⟩))
  go_ret
  exact ⟨rfl, rfl⟩
theorem known_11 (p : Int) (w : World) (h1 : 192 ≤ p) : Calls Tryz.prog 41 #[.int .i64 p] w fun e w' => e = .returned (.bool false) ∧ w = w' := by
  have f1 : (p == (26 : Int)) = false := by simp; omega
  have f2 : (p == (27 : Int)) = false := by simp; omega
  go_enter Tryz.func41, Tryz.ntmps41
  go_wp2_with (first | (go_at_call 46; refine (l1In_f _ _ _ _ (by omega)).mono ?_; rintro e w1 ⟨rfl, rfl⟩) | (go_at_call 46; refine (l1In_t _ _ _ _ (by omega)).mono ?_; rintro e w1 ⟨rfl, rfl⟩))
  go_ret
  exact ⟨rfl, rfl⟩
end Go.Proofs.YtngepdhhdbhglaaGreatDoor
