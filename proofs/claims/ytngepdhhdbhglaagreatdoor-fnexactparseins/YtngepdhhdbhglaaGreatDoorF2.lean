import Derived.Test.YtngepdhhdbhglaaGreatDoorF1
set_option linter.all false
set_option linter.unusedVariables false
namespace Go.Proofs.YtngepdhhdbhglaaGreatDoor
open Go.RowKit
theorem sform_0 (p : Int) (w : World) (h2 : p ≤ -1) : Calls Tryz.prog 23 #[.int .i64 p] w fun e w' => e = .returned (.int .i64 (-1)) ∧ w = w' := by
  have f1 : p < 2 := by omega
  have f2 : p ≤ 4 := by omega
  have f3 : (p == (12 : Int)) = false := by simp; omega
  have f4 : (p == (13 : Int)) = false := by simp; omega
  have f5 : (p == (16 : Int)) = false := by simp; omega
  have f6 : p < 32 := by omega
  have f7 : p ≤ 36 := by omega
  have f8 : (p == (14 : Int)) = false := by simp; omega
  have f9 : (p == (17 : Int)) = false := by simp; omega
  have f10 : p < 40 := by omega
  have f11 : p ≤ 62 := by omega
  have f12 : (p == (63 : Int)) = false := by simp; omega
  have f13 : (p == (64 : Int)) = false := by simp; omega
  have f14 : p < 65 := by omega
  have f15 : p ≤ 68 := by omega
  go_enter Tryz.func23, Tryz.ntmps23
  go_wp2_with (refine (known_0 _ _ (by omega)).mono ?_; rintro e w1 ⟨rfl, rfl⟩)
  go_ret
  exact ⟨rfl, rfl⟩
theorem sform_1 (p : Int) (w : World) (h1 : 0 ≤ p) (h2 : p ≤ 1) : Calls Tryz.prog 23 #[.int .i64 p] w fun e w' => e = .returned (.int .i64 (0)) ∧ w = w' := by
  have f1 : p < 2 := by omega
  have f2 : p ≤ 4 := by omega
  have f3 : (p == (12 : Int)) = false := by simp; omega
  have f4 : (p == (13 : Int)) = false := by simp; omega
  have f5 : (p == (16 : Int)) = false := by simp; omega
  have f6 : p < 32 := by omega
  have f7 : p ≤ 36 := by omega
  have f8 : (p == (14 : Int)) = false := by simp; omega
  have f9 : (p == (17 : Int)) = false := by simp; omega
  have f10 : p < 40 := by omega
  have f11 : p ≤ 62 := by omega
  have f12 : (p == (63 : Int)) = false := by simp; omega
  have f13 : (p == (64 : Int)) = false := by simp; omega
  have f14 : p < 65 := by omega
  have f15 : p ≤ 68 := by omega
  go_enter Tryz.func23, Tryz.ntmps23
  go_wp2_with (refine (known_1 _ _ (by omega) (by omega)).mono ?_; rintro e w1 ⟨rfl, rfl⟩)
  go_ret
  exact ⟨rfl, rfl⟩
theorem sform_2 (p : Int) (w : World) (h1 : 2 ≤ p) (h2 : p ≤ 4) : Calls Tryz.prog 23 #[.int .i64 p] w fun e w' => e = .returned (.int .i64 (1)) ∧ w = w' := by
  have f1 : ¬ p < 2 := by omega
  have f2 : p ≤ 4 := by omega
  have f3 : (p == (12 : Int)) = false := by simp; omega
  have f4 : (p == (13 : Int)) = false := by simp; omega
  have f5 : (p == (16 : Int)) = false := by simp; omega
  have f6 : p < 32 := by omega
  have f7 : p ≤ 36 := by omega
  have f8 : (p == (14 : Int)) = false := by simp; omega
  have f9 : (p == (17 : Int)) = false := by simp; omega
  have f10 : p < 40 := by omega
  have f11 : p ≤ 62 := by omega
  have f12 : (p == (63 : Int)) = false := by simp; omega
  have f13 : (p == (64 : Int)) = false := by simp; omega
  have f14 : p < 65 := by omega
  have f15 : p ≤ 68 := by omega
  go_enter Tryz.func23, Tryz.ntmps23
  go_wp2_with (refine (known_1 _ _ (by omega) (by omega)).mono ?_; rintro e w1 ⟨rfl, rfl⟩)
  go_ret
  exact ⟨rfl, rfl⟩
theorem sform_3 (p : Int) (w : World) (h1 : 5 ≤ p) (h2 : p ≤ 5) : Calls Tryz.prog 23 #[.int .i64 p] w fun e w' => e = .returned (.int .i64 (0)) ∧ w = w' := by
  have f1 : ¬ p < 2 := by omega
  have f2 : ¬ p ≤ 4 := by omega
  have f3 : (p == (12 : Int)) = false := by simp; omega
  have f4 : (p == (13 : Int)) = false := by simp; omega
  have f5 : (p == (16 : Int)) = false := by simp; omega
  have f6 : p < 32 := by omega
  have f7 : p ≤ 36 := by omega
  have f8 : (p == (14 : Int)) = false := by simp; omega
  have f9 : (p == (17 : Int)) = false := by simp; omega
  have f10 : p < 40 := by omega
  have f11 : p ≤ 62 := by omega
  have f12 : (p == (63 : Int)) = false := by simp; omega
  have f13 : (p == (64 : Int)) = false := by simp; omega
  have f14 : p < 65 := by omega
  have f15 : p ≤ 68 := by omega
  go_enter Tryz.func23, Tryz.ntmps23
  go_wp2_with (refine (known_1 _ _ (by omega) (by omega)).mono ?_; rintro e w1 ⟨rfl, rfl⟩)
  go_ret
  exact ⟨rfl, rfl⟩
theorem sform_4 (p : Int) (w : World) (h1 : 6 ≤ p) (h2 : p ≤ 10) : Calls Tryz.prog 23 #[.int .i64 p] w fun e w' => e = .returned (.int .i64 (-1)) ∧ w = w' := by
  have f1 : ¬ p < 2 := by omega
  have f2 : ¬ p ≤ 4 := by omega
  have f3 : (p == (12 : Int)) = false := by simp; omega
  have f4 : (p == (13 : Int)) = false := by simp; omega
  have f5 : (p == (16 : Int)) = false := by simp; omega
  have f6 : p < 32 := by omega
  have f7 : p ≤ 36 := by omega
  have f8 : (p == (14 : Int)) = false := by simp; omega
  have f9 : (p == (17 : Int)) = false := by simp; omega
  have f10 : p < 40 := by omega
  have f11 : p ≤ 62 := by omega
  have f12 : (p == (63 : Int)) = false := by simp; omega
  have f13 : (p == (64 : Int)) = false := by simp; omega
  have f14 : p < 65 := by omega
  have f15 : p ≤ 68 := by omega
  go_enter Tryz.func23, Tryz.ntmps23
  go_wp2_with (refine (known_2 _ _ (by omega) (by omega)).mono ?_; rintro e w1 ⟨rfl, rfl⟩)
  go_ret
  exact ⟨rfl, rfl⟩
theorem sform_5 (p : Int) (w : World) (h1 : 11 ≤ p) (h2 : p ≤ 11) : Calls Tryz.prog 23 #[.int .i64 p] w fun e w' => e = .returned (.int .i64 (0)) ∧ w = w' := by
  have f1 : ¬ p < 2 := by omega
  have f2 : ¬ p ≤ 4 := by omega
  have f3 : (p == (12 : Int)) = false := by simp; omega
  have f4 : (p == (13 : Int)) = false := by simp; omega
  have f5 : (p == (16 : Int)) = false := by simp; omega
  have f6 : p < 32 := by omega
  have f7 : p ≤ 36 := by omega
  have f8 : (p == (14 : Int)) = false := by simp; omega
  have f9 : (p == (17 : Int)) = false := by simp; omega
  have f10 : p < 40 := by omega
  have f11 : p ≤ 62 := by omega
  have f12 : (p == (63 : Int)) = false := by simp; omega
  have f13 : (p == (64 : Int)) = false := by simp; omega
  have f14 : p < 65 := by omega
  have f15 : p ≤ 68 := by omega
  go_enter Tryz.func23, Tryz.ntmps23
  go_wp2_with (refine (known_3 _ _ (by omega) (by omega)).mono ?_; rintro e w1 ⟨rfl, rfl⟩)
  go_ret
  exact ⟨rfl, rfl⟩
theorem sform_6_0 (p : Int) (w : World) (h1 : 12 ≤ p) (h2 : p ≤ 12) : Calls Tryz.prog 23 #[.int .i64 p] w fun e w' => e = .returned (.int .i64 (2)) ∧ w = w' := by
  have f1 : ¬ p < 2 := by omega
  have f2 : ¬ p ≤ 4 := by omega
  have f3 : (p == (12 : Int)) = true := by simp; omega
  have f4 : (p == (13 : Int)) = false := by simp; omega
  have f5 : (p == (16 : Int)) = false := by simp; omega
  have f6 : p < 32 := by omega
  have f7 : p ≤ 36 := by omega
  have f8 : (p == (14 : Int)) = false := by simp; omega
  have f9 : (p == (17 : Int)) = false := by simp; omega
  have f10 : p < 40 := by omega
  have f11 : p ≤ 62 := by omega
  have f12 : (p == (63 : Int)) = false := by simp; omega
  have f13 : (p == (64 : Int)) = false := by simp; omega
  have f14 : p < 65 := by omega
  have f15 : p ≤ 68 := by omega
  go_enter Tryz.func23, Tryz.ntmps23
  go_wp2_with (refine (known_3 _ _ (by omega) (by omega)).mono ?_; rintro e w1 ⟨rfl, rfl⟩)
  go_ret
  exact ⟨rfl, rfl⟩
theorem sform_6_1 (p : Int) (w : World) (h1 : 13 ≤ p) (h2 : p ≤ 13) : Calls Tryz.prog 23 #[.int .i64 p] w fun e w' => e = .returned (.int .i64 (2)) ∧ w = w' := by
  have f1 : ¬ p < 2 := by omega
  have f2 : ¬ p ≤ 4 := by omega
  have f3 : (p == (12 : Int)) = false := by simp; omega
  have f4 : (p == (13 : Int)) = true := by simp; omega
  have f5 : (p == (16 : Int)) = false := by simp; omega
  have f6 : p < 32 := by omega
  have f7 : p ≤ 36 := by omega
  have f8 : (p == (14 : Int)) = false := by simp; omega
  have f9 : (p == (17 : Int)) = false := by simp; omega
  have f10 : p < 40 := by omega
  have f11 : p ≤ 62 := by omega
  have f12 : (p == (63 : Int)) = false := by simp; omega
  have f13 : (p == (64 : Int)) = false := by simp; omega
  have f14 : p < 65 := by omega
  have f15 : p ≤ 68 := by omega
  go_enter Tryz.func23, Tryz.ntmps23
  go_wp2_with (refine (known_3 _ _ (by omega) (by omega)).mono ?_; rintro e w1 ⟨rfl, rfl⟩)
  go_ret
  exact ⟨rfl, rfl⟩
theorem sform_6 (p : Int) (w : World) (h1 : 12 ≤ p) (h2 : p ≤ 13) : Calls Tryz.prog 23 #[.int .i64 p] w fun e w' => e = .returned (.int .i64 (2)) ∧ w = w' := by
  rcases (by omega : p = 12 ∨ p = 13) with h | h
  · exact sform_6_0 p w (by omega) (by omega)
  · exact sform_6_1 p w (by omega) (by omega)
theorem sform_7 (p : Int) (w : World) (h1 : 14 ≤ p) (h2 : p ≤ 14) : Calls Tryz.prog 23 #[.int .i64 p] w fun e w' => e = .returned (.int .i64 (3)) ∧ w = w' := by
  have f1 : ¬ p < 2 := by omega
  have f2 : ¬ p ≤ 4 := by omega
  have f3 : (p == (12 : Int)) = false := by simp; omega
  have f4 : (p == (13 : Int)) = false := by simp; omega
  have f5 : (p == (16 : Int)) = false := by simp; omega
  have f6 : p < 32 := by omega
  have f7 : p ≤ 36 := by omega
  have f8 : (p == (14 : Int)) = true := by simp; omega
  have f9 : (p == (17 : Int)) = false := by simp; omega
  have f10 : p < 40 := by omega
  have f11 : p ≤ 62 := by omega
  have f12 : (p == (63 : Int)) = false := by simp; omega
  have f13 : (p == (64 : Int)) = false := by simp; omega
  have f14 : p < 65 := by omega
  have f15 : p ≤ 68 := by omega
  go_enter Tryz.func23, Tryz.ntmps23
  go_wp2_with (refine (known_3 _ _ (by omega) (by omega)).mono ?_; rintro e w1 ⟨rfl, rfl⟩)
  go_ret
  exact ⟨rfl, rfl⟩
theorem sform_8 (p : Int) (w : World) (h1 : 15 ≤ p) (h2 : p ≤ 15) : Calls Tryz.prog 23 #[.int .i64 p] w fun e w' => e = .returned (.int .i64 (0)) ∧ w = w' := by
  have f1 : ¬ p < 2 := by omega
  have f2 : ¬ p ≤ 4 := by omega
  have f3 : (p == (12 : Int)) = false := by simp; omega
  have f4 : (p == (13 : Int)) = false := by simp; omega
  have f5 : (p == (16 : Int)) = false := by simp; omega
  have f6 : p < 32 := by omega
  have f7 : p ≤ 36 := by omega
  have f8 : (p == (14 : Int)) = false := by simp; omega
  have f9 : (p == (17 : Int)) = false := by simp; omega
  have f10 : p < 40 := by omega
  have f11 : p ≤ 62 := by omega
  have f12 : (p == (63 : Int)) = false := by simp; omega
  have f13 : (p == (64 : Int)) = false := by simp; omega
  have f14 : p < 65 := by omega
  have f15 : p ≤ 68 := by omega
  go_enter Tryz.func23, Tryz.ntmps23
  go_wp2_with (refine (known_3 _ _ (by omega) (by omega)).mono ?_; rintro e w1 ⟨rfl, rfl⟩)
  go_ret
  exact ⟨rfl, rfl⟩
theorem sform_9 (p : Int) (w : World) (h1 : 16 ≤ p) (h2 : p ≤ 16) : Calls Tryz.prog 23 #[.int .i64 p] w fun e w' => e = .returned (.int .i64 (2)) ∧ w = w' := by
  have f1 : ¬ p < 2 := by omega
  have f2 : ¬ p ≤ 4 := by omega
  have f3 : (p == (12 : Int)) = false := by simp; omega
  have f4 : (p == (13 : Int)) = false := by simp; omega
  have f5 : (p == (16 : Int)) = true := by simp; omega
  have f6 : p < 32 := by omega
  have f7 : p ≤ 36 := by omega
  have f8 : (p == (14 : Int)) = false := by simp; omega
  have f9 : (p == (17 : Int)) = false := by simp; omega
  have f10 : p < 40 := by omega
  have f11 : p ≤ 62 := by omega
  have f12 : (p == (63 : Int)) = false := by simp; omega
  have f13 : (p == (64 : Int)) = false := by simp; omega
  have f14 : p < 65 := by omega
  have f15 : p ≤ 68 := by omega
  go_enter Tryz.func23, Tryz.ntmps23
  go_wp2_with (refine (known_3 _ _ (by omega) (by omega)).mono ?_; rintro e w1 ⟨rfl, rfl⟩)
  go_ret
  exact ⟨rfl, rfl⟩
theorem sform_10 (p : Int) (w : World) (h1 : 17 ≤ p) (h2 : p ≤ 17) : Calls Tryz.prog 23 #[.int .i64 p] w fun e w' => e = .returned (.int .i64 (4)) ∧ w = w' := by
  have f1 : ¬ p < 2 := by omega
  have f2 : ¬ p ≤ 4 := by omega
  have f3 : (p == (12 : Int)) = false := by simp; omega
  have f4 : (p == (13 : Int)) = false := by simp; omega
  have f5 : (p == (16 : Int)) = false := by simp; omega
  have f6 : p < 32 := by omega
  have f7 : p ≤ 36 := by omega
  have f8 : (p == (14 : Int)) = false := by simp; omega
  have f9 : (p == (17 : Int)) = true := by simp; omega
  have f10 : p < 40 := by omega
  have f11 : p ≤ 62 := by omega
  have f12 : (p == (63 : Int)) = false := by simp; omega
  have f13 : (p == (64 : Int)) = false := by simp; omega
  have f14 : p < 65 := by omega
  have f15 : p ≤ 68 := by omega
  go_enter Tryz.func23, Tryz.ntmps23
  go_wp2_with (refine (known_3 _ _ (by omega) (by omega)).mono ?_; rintro e w1 ⟨rfl, rfl⟩)
  go_ret
  exact ⟨rfl, rfl⟩
theorem sform_11 (p : Int) (w : World) (h1 : 18 ≤ p) (h2 : p ≤ 25) : Calls Tryz.prog 23 #[.int .i64 p] w fun e w' => e = .returned (.int .i64 (-1)) ∧ w = w' := by
  have f1 : ¬ p < 2 := by omega
  have f2 : ¬ p ≤ 4 := by omega
  have f3 : (p == (12 : Int)) = false := by simp; omega
  have f4 : (p == (13 : Int)) = false := by simp; omega
  have f5 : (p == (16 : Int)) = false := by simp; omega
  have f6 : p < 32 := by omega
  have f7 : p ≤ 36 := by omega
  have f8 : (p == (14 : Int)) = false := by simp; omega
  have f9 : (p == (17 : Int)) = false := by simp; omega
  have f10 : p < 40 := by omega
  have f11 : p ≤ 62 := by omega
  have f12 : (p == (63 : Int)) = false := by simp; omega
  have f13 : (p == (64 : Int)) = false := by simp; omega
  have f14 : p < 65 := by omega
  have f15 : p ≤ 68 := by omega
  go_enter Tryz.func23, Tryz.ntmps23
  go_wp2_with (refine (known_4 _ _ (by omega) (by omega)).mono ?_; rintro e w1 ⟨rfl, rfl⟩)
  go_ret
  exact ⟨rfl, rfl⟩
theorem sform_12 (p : Int) (w : World) (h1 : 26 ≤ p) (h2 : p ≤ 26) : Calls Tryz.prog 23 #[.int .i64 p] w fun e w' => e = .returned (.int .i64 (0)) ∧ w = w' := by
  have f1 : ¬ p < 2 := by omega
  have f2 : ¬ p ≤ 4 := by omega
  have f3 : (p == (12 : Int)) = false := by simp; omega
  have f4 : (p == (13 : Int)) = false := by simp; omega
  have f5 : (p == (16 : Int)) = false := by simp; omega
  have f6 : p < 32 := by omega
  have f7 : p ≤ 36 := by omega
  have f8 : (p == (14 : Int)) = false := by simp; omega
  have f9 : (p == (17 : Int)) = false := by simp; omega
  have f10 : p < 40 := by omega
  have f11 : p ≤ 62 := by omega
  have f12 : (p == (63 : Int)) = false := by simp; omega
  have f13 : (p == (64 : Int)) = false := by simp; omega
  have f14 : p < 65 := by omega
  have f15 : p ≤ 68 := by omega
  go_enter Tryz.func23, Tryz.ntmps23
  go_wp2_with (refine (known_5 _ _ (by omega) (by omega)).mono ?_; rintro e w1 ⟨rfl, rfl⟩)
  go_ret
  exact ⟨rfl, rfl⟩
theorem sform_13 (p : Int) (w : World) (h1 : 27 ≤ p) (h2 : p ≤ 27) : Calls Tryz.prog 23 #[.int .i64 p] w fun e w' => e = .returned (.int .i64 (0)) ∧ w = w' := by
  have f1 : ¬ p < 2 := by omega
  have f2 : ¬ p ≤ 4 := by omega
  have f3 : (p == (12 : Int)) = false := by simp; omega
  have f4 : (p == (13 : Int)) = false := by simp; omega
  have f5 : (p == (16 : Int)) = false := by simp; omega
  have f6 : p < 32 := by omega
  have f7 : p ≤ 36 := by omega
  have f8 : (p == (14 : Int)) = false := by simp; omega
  have f9 : (p == (17 : Int)) = false := by simp; omega
  have f10 : p < 40 := by omega
  have f11 : p ≤ 62 := by omega
  have f12 : (p == (63 : Int)) = false := by simp; omega
  have f13 : (p == (64 : Int)) = false := by simp; omega
  have f14 : p < 65 := by omega
  have f15 : p ≤ 68 := by omega
  go_enter Tryz.func23, Tryz.ntmps23
  go_wp2_with (refine (known_6 _ _ (by omega) (by omega)).mono ?_; rintro e w1 ⟨rfl, rfl⟩)
  go_ret
  exact ⟨rfl, rfl⟩
theorem sform_14 (p : Int) (w : World) (h1 : 28 ≤ p) (h2 : p ≤ 31) : Calls Tryz.prog 23 #[.int .i64 p] w fun e w' => e = .returned (.int .i64 (-1)) ∧ w = w' := by
  have f1 : ¬ p < 2 := by omega
  have f2 : ¬ p ≤ 4 := by omega
  have f3 : (p == (12 : Int)) = false := by simp; omega
  have f4 : (p == (13 : Int)) = false := by simp; omega
  have f5 : (p == (16 : Int)) = false := by simp; omega
  have f6 : p < 32 := by omega
  have f7 : p ≤ 36 := by omega
  have f8 : (p == (14 : Int)) = false := by simp; omega
  have f9 : (p == (17 : Int)) = false := by simp; omega
  have f10 : p < 40 := by omega
  have f11 : p ≤ 62 := by omega
  have f12 : (p == (63 : Int)) = false := by simp; omega
  have f13 : (p == (64 : Int)) = false := by simp; omega
  have f14 : p < 65 := by omega
  have f15 : p ≤ 68 := by omega
  go_enter Tryz.func23, Tryz.ntmps23
  go_wp2_with (refine (known_7 _ _ (by omega) (by omega)).mono ?_; rintro e w1 ⟨rfl, rfl⟩)
  go_ret
  exact ⟨rfl, rfl⟩
theorem sform_15 (p : Int) (w : World) (h1 : 32 ≤ p) (h2 : p ≤ 36) : Calls Tryz.prog 23 #[.int .i64 p] w fun e w' => e = .returned (.int .i64 (2)) ∧ w = w' := by
  have f1 : ¬ p < 2 := by omega
  have f2 : ¬ p ≤ 4 := by omega
  have f3 : (p == (12 : Int)) = false := by simp; omega
  have f4 : (p == (13 : Int)) = false := by simp; omega
  have f5 : (p == (16 : Int)) = false := by simp; omega
  have f6 : ¬ p < 32 := by omega
  have f7 : p ≤ 36 := by omega
  have f8 : (p == (14 : Int)) = false := by simp; omega
  have f9 : (p == (17 : Int)) = false := by simp; omega
  have f10 : p < 40 := by omega
  have f11 : p ≤ 62 := by omega
  have f12 : (p == (63 : Int)) = false := by simp; omega
  have f13 : (p == (64 : Int)) = false := by simp; omega
  have f14 : p < 65 := by omega
  have f15 : p ≤ 68 := by omega
  go_enter Tryz.func23, Tryz.ntmps23
  go_wp2_with (refine (known_8 _ _ (by omega) (by omega)).mono ?_; rintro e w1 ⟨rfl, rfl⟩)
  go_ret
  exact ⟨rfl, rfl⟩
theorem sform_16 (p : Int) (w : World) (h1 : 37 ≤ p) (h2 : p ≤ 39) : Calls Tryz.prog 23 #[.int .i64 p] w fun e w' => e = .returned (.int .i64 (-1)) ∧ w = w' := by
  have f1 : ¬ p < 2 := by omega
  have f2 : ¬ p ≤ 4 := by omega
  have f3 : (p == (12 : Int)) = false := by simp; omega
  have f4 : (p == (13 : Int)) = false := by simp; omega
  have f5 : (p == (16 : Int)) = false := by simp; omega
  have f6 : ¬ p < 32 := by omega
  have f7 : ¬ p ≤ 36 := by omega
  have f8 : (p == (14 : Int)) = false := by simp; omega
  have f9 : (p == (17 : Int)) = false := by simp; omega
  have f10 : p < 40 := by omega
  have f11 : p ≤ 62 := by omega
  have f12 : (p == (63 : Int)) = false := by simp; omega
  have f13 : (p == (64 : Int)) = false := by simp; omega
  have f14 : p < 65 := by omega
  have f15 : p ≤ 68 := by omega
  go_enter Tryz.func23, Tryz.ntmps23
  go_wp2_with (refine (known_9 _ _ (by omega) (by omega)).mono ?_; rintro e w1 ⟨rfl, rfl⟩)
  go_ret
  exact ⟨rfl, rfl⟩
theorem sform_17 (p : Int) (w : World) (h1 : 40 ≤ p) (h2 : p ≤ 62) : Calls Tryz.prog 23 #[.int .i64 p] w fun e w' => e = .returned (.int .i64 (5)) ∧ w = w' := by
  have f1 : ¬ p < 2 := by omega
  have f2 : ¬ p ≤ 4 := by omega
  have f3 : (p == (12 : Int)) = false := by simp; omega
  have f4 : (p == (13 : Int)) = false := by simp; omega
  have f5 : (p == (16 : Int)) = false := by simp; omega
  have f6 : ¬ p < 32 := by omega
  have f7 : ¬ p ≤ 36 := by omega
  have f8 : (p == (14 : Int)) = false := by simp; omega
  have f9 : (p == (17 : Int)) = false := by simp; omega
  have f10 : ¬ p < 40 := by omega
  have f11 : p ≤ 62 := by omega
  have f12 : (p == (63 : Int)) = false := by simp; omega
  have f13 : (p == (64 : Int)) = false := by simp; omega
  have f14 : p < 65 := by omega
  have f15 : p ≤ 68 := by omega
  go_enter Tryz.func23, Tryz.ntmps23
  go_wp2_with (refine (known_10 _ _ (by omega) (by omega)).mono ?_; rintro e w1 ⟨rfl, rfl⟩)
  go_ret
  exact ⟨rfl, rfl⟩
theorem sform_18_0 (p : Int) (w : World) (h1 : 63 ≤ p) (h2 : p ≤ 63) : Calls Tryz.prog 23 #[.int .i64 p] w fun e w' => e = .returned (.int .i64 (6)) ∧ w = w' := by
  have f1 : ¬ p < 2 := by omega
  have f2 : ¬ p ≤ 4 := by omega
  have f3 : (p == (12 : Int)) = false := by simp; omega
  have f4 : (p == (13 : Int)) = false := by simp; omega
  have f5 : (p == (16 : Int)) = false := by simp; omega
  have f6 : ¬ p < 32 := by omega
  have f7 : ¬ p ≤ 36 := by omega
  have f8 : (p == (14 : Int)) = false := by simp; omega
  have f9 : (p == (17 : Int)) = false := by simp; omega
  have f10 : ¬ p < 40 := by omega
  have f11 : ¬ p ≤ 62 := by omega
  have f12 : (p == (63 : Int)) = true := by simp; omega
  have f13 : (p == (64 : Int)) = false := by simp; omega
  have f14 : p < 65 := by omega
  have f15 : p ≤ 68 := by omega
  go_enter Tryz.func23, Tryz.ntmps23
  go_wp2_with (refine (known_10 _ _ (by omega) (by omega)).mono ?_; rintro e w1 ⟨rfl, rfl⟩)
  go_ret
  exact ⟨rfl, rfl⟩
theorem sform_18_1 (p : Int) (w : World) (h1 : 64 ≤ p) (h2 : p ≤ 64) : Calls Tryz.prog 23 #[.int .i64 p] w fun e w' => e = .returned (.int .i64 (6)) ∧ w = w' := by
  have f1 : ¬ p < 2 := by omega
  have f2 : ¬ p ≤ 4 := by omega
  have f3 : (p == (12 : Int)) = false := by simp; omega
  have f4 : (p == (13 : Int)) = false := by simp; omega
  have f5 : (p == (16 : Int)) = false := by simp; omega
  have f6 : ¬ p < 32 := by omega
  have f7 : ¬ p ≤ 36 := by omega
  have f8 : (p == (14 : Int)) = false := by simp; omega
  have f9 : (p == (17 : Int)) = false := by simp; omega
  have f10 : ¬ p < 40 := by omega
  have f11 : ¬ p ≤ 62 := by omega
  have f12 : (p == (63 : Int)) = false := by simp; omega
  have f13 : (p == (64 : Int)) = true := by simp; omega
  have f14 : p < 65 := by omega
  have f15 : p ≤ 68 := by omega
  go_enter Tryz.func23, Tryz.ntmps23
  go_wp2_with (refine (known_10 _ _ (by omega) (by omega)).mono ?_; rintro e w1 ⟨rfl, rfl⟩)
  go_ret
  exact ⟨rfl, rfl⟩
theorem sform_18 (p : Int) (w : World) (h1 : 63 ≤ p) (h2 : p ≤ 64) : Calls Tryz.prog 23 #[.int .i64 p] w fun e w' => e = .returned (.int .i64 (6)) ∧ w = w' := by
  rcases (by omega : p = 63 ∨ p = 64) with h | h
  · exact sform_18_0 p w (by omega) (by omega)
  · exact sform_18_1 p w (by omega) (by omega)
theorem sform_19 (p : Int) (w : World) (h1 : 65 ≤ p) (h2 : p ≤ 68) : Calls Tryz.prog 23 #[.int .i64 p] w fun e w' => e = .returned (.int .i64 (p - 58)) ∧ w = w' := by
  have f1 : ¬ p < 2 := by omega
  have f2 : ¬ p ≤ 4 := by omega
  have f3 : (p == (12 : Int)) = false := by simp; omega
  have f4 : (p == (13 : Int)) = false := by simp; omega
  have f5 : (p == (16 : Int)) = false := by simp; omega
  have f6 : ¬ p < 32 := by omega
  have f7 : ¬ p ≤ 36 := by omega
  have f8 : (p == (14 : Int)) = false := by simp; omega
  have f9 : (p == (17 : Int)) = false := by simp; omega
  have f10 : ¬ p < 40 := by omega
  have f11 : ¬ p ≤ 62 := by omega
  have f12 : (p == (63 : Int)) = false := by simp; omega
  have f13 : (p == (64 : Int)) = false := by simp; omega
  have f14 : ¬ p < 65 := by omega
  have f15 : p ≤ 68 := by omega
  go_enter Tryz.func23, Tryz.ntmps23
  go_wp2_with (refine (known_10 _ _ (by omega) (by omega)).mono ?_; rintro e w1 ⟨rfl, rfl⟩)
  go_ret
  exact ⟨by simp; omega, rfl⟩
theorem sform_20 (p : Int) (w : World) (h1 : 69 ≤ p) (h2 : p ≤ 191) : Calls Tryz.prog 23 #[.int .i64 p] w fun e w' => e = .returned (.int .i64 (0)) ∧ w = w' := by
  have f1 : ¬ p < 2 := by omega
  have f2 : ¬ p ≤ 4 := by omega
  have f3 : (p == (12 : Int)) = false := by simp; omega
  have f4 : (p == (13 : Int)) = false := by simp; omega
  have f5 : (p == (16 : Int)) = false := by simp; omega
  have f6 : ¬ p < 32 := by omega
  have f7 : ¬ p ≤ 36 := by omega
  have f8 : (p == (14 : Int)) = false := by simp; omega
  have f9 : (p == (17 : Int)) = false := by simp; omega
  have f10 : ¬ p < 40 := by omega
  have f11 : ¬ p ≤ 62 := by omega
  have f12 : (p == (63 : Int)) = false := by simp; omega
  have f13 : (p == (64 : Int)) = false := by simp; omega
  have f14 : ¬ p < 65 := by omega
  have f15 : ¬ p ≤ 68 := by omega
  go_enter Tryz.func23, Tryz.ntmps23
  go_wp2_with (refine (known_10 _ _ (by omega) (by omega)).mono ?_; rintro e w1 ⟨rfl, rfl⟩)
  go_ret
  exact ⟨rfl, rfl⟩
theorem sform_21 (p : Int) (w : World) (h1 : 192 ≤ p) : Calls Tryz.prog 23 #[.int .i64 p] w fun e w' => e = .returned (.int .i64 (-1)) ∧ w = w' := by
  have f1 : ¬ p < 2 := by omega
  have f2 : ¬ p ≤ 4 := by omega
  have f3 : (p == (12 : Int)) = false := by simp; omega
  have f4 : (p == (13 : Int)) = false := by simp; omega
  have f5 : (p == (16 : Int)) = false := by simp; omega
  have f6 : ¬ p < 32 := by omega
  have f7 : ¬ p ≤ 36 := by omega
  have f8 : (p == (14 : Int)) = false := by simp; omega
  have f9 : (p == (17 : Int)) = false := by simp; omega
  have f10 : ¬ p < 40 := by omega
  have f11 : ¬ p ≤ 62 := by omega
  have f12 : (p == (63 : Int)) = false := by simp; omega
  have f13 : (p == (64 : Int)) = false := by simp; omega
  have f14 : ¬ p < 65 := by omega
  have f15 : ¬ p ≤ 68 := by omega
  go_enter Tryz.func23, Tryz.ntmps23
  go_wp2_with (refine (known_11 _ _ (by omega)).mono ?_; rintro e w1 ⟨rfl, rfl⟩)
  go_ret
  exact ⟨rfl, rfl⟩
theorem sform_c (p : Int) (w : World) : Calls Tryz.prog 23 #[.int .i64 p] w fun e w' => e = .returned (.int .i64 (formR (rowOf p))) ∧ w = w' := by
  have hc : (p ≤ -1) ∨ (0 ≤ p ∧ p ≤ 1) ∨ (2 ≤ p ∧ p ≤ 4) ∨ (5 ≤ p ∧ p ≤ 5) ∨ (6 ≤ p ∧ p ≤ 10) ∨ (11 ≤ p ∧ p ≤ 11) ∨ (12 ≤ p ∧ p ≤ 13) ∨ (14 ≤ p ∧ p ≤ 14) ∨ (15 ≤ p ∧ p ≤ 15) ∨ (16 ≤ p ∧ p ≤ 16) ∨ (17 ≤ p ∧ p ≤ 17) ∨ (18 ≤ p ∧ p ≤ 25) ∨ (26 ≤ p ∧ p ≤ 26) ∨ (27 ≤ p ∧ p ≤ 27) ∨ (28 ≤ p ∧ p ≤ 31) ∨ (32 ≤ p ∧ p ≤ 36) ∨ (37 ≤ p ∧ p ≤ 39) ∨ (40 ≤ p ∧ p ≤ 62) ∨ (63 ≤ p ∧ p ≤ 64) ∨ (65 ≤ p ∧ p ≤ 68) ∨ (69 ≤ p ∧ p ≤ 191) ∨ (192 ≤ p) := by omega
  rcases hc with h | h | h | h | h | h | h | h | h | h | h | h | h | h | h | h | h | h | h | h | h | h
  · have e : formR (rowOf p) = -1 := by
      simp only [rowOf, show ¬ (0 ≤ p ∧ p < 192) by omega, if_false]; rfl
    rw [e]; exact sform_0 p w h
  · have e := of_decide_eq_true (rng 0 2 (fun i => decide (formR (tbl.getD i Z0) = 0)) (by decide +kernel) p (by omega) (by omega))
    have e' : formR (rowOf p) = 0 := by
      simp only [rowOf, show (0 ≤ p ∧ p < 192) by omega, and_self, if_true]; rw [e]
    rw [e']; exact sform_1 p w h.1 h.2
  · have e := of_decide_eq_true (rng 2 3 (fun i => decide (formR (tbl.getD i Z0) = 1)) (by decide +kernel) p (by omega) (by omega))
    have e' : formR (rowOf p) = 1 := by
      simp only [rowOf, show (0 ≤ p ∧ p < 192) by omega, and_self, if_true]; rw [e]
    rw [e']; exact sform_2 p w h.1 h.2
  · have e := of_decide_eq_true (rng 5 1 (fun i => decide (formR (tbl.getD i Z0) = 0)) (by decide +kernel) p (by omega) (by omega))
    have e' : formR (rowOf p) = 0 := by
      simp only [rowOf, show (0 ≤ p ∧ p < 192) by omega, and_self, if_true]; rw [e]
    rw [e']; exact sform_3 p w h.1 h.2
  · have e := of_decide_eq_true (rng 6 5 (fun i => decide (formR (tbl.getD i Z0) = -1)) (by decide +kernel) p (by omega) (by omega))
    have e' : formR (rowOf p) = -1 := by
      simp only [rowOf, show (0 ≤ p ∧ p < 192) by omega, and_self, if_true]; rw [e]
    rw [e']; exact sform_4 p w h.1 h.2
  · have e := of_decide_eq_true (rng 11 1 (fun i => decide (formR (tbl.getD i Z0) = 0)) (by decide +kernel) p (by omega) (by omega))
    have e' : formR (rowOf p) = 0 := by
      simp only [rowOf, show (0 ≤ p ∧ p < 192) by omega, and_self, if_true]; rw [e]
    rw [e']; exact sform_5 p w h.1 h.2
  · have e := of_decide_eq_true (rng 12 2 (fun i => decide (formR (tbl.getD i Z0) = 2)) (by decide +kernel) p (by omega) (by omega))
    have e' : formR (rowOf p) = 2 := by
      simp only [rowOf, show (0 ≤ p ∧ p < 192) by omega, and_self, if_true]; rw [e]
    rw [e']; exact sform_6 p w h.1 h.2
  · have e := of_decide_eq_true (rng 14 1 (fun i => decide (formR (tbl.getD i Z0) = 3)) (by decide +kernel) p (by omega) (by omega))
    have e' : formR (rowOf p) = 3 := by
      simp only [rowOf, show (0 ≤ p ∧ p < 192) by omega, and_self, if_true]; rw [e]
    rw [e']; exact sform_7 p w h.1 h.2
  · have e := of_decide_eq_true (rng 15 1 (fun i => decide (formR (tbl.getD i Z0) = 0)) (by decide +kernel) p (by omega) (by omega))
    have e' : formR (rowOf p) = 0 := by
      simp only [rowOf, show (0 ≤ p ∧ p < 192) by omega, and_self, if_true]; rw [e]
    rw [e']; exact sform_8 p w h.1 h.2
  · have e := of_decide_eq_true (rng 16 1 (fun i => decide (formR (tbl.getD i Z0) = 2)) (by decide +kernel) p (by omega) (by omega))
    have e' : formR (rowOf p) = 2 := by
      simp only [rowOf, show (0 ≤ p ∧ p < 192) by omega, and_self, if_true]; rw [e]
    rw [e']; exact sform_9 p w h.1 h.2
  · have e := of_decide_eq_true (rng 17 1 (fun i => decide (formR (tbl.getD i Z0) = 4)) (by decide +kernel) p (by omega) (by omega))
    have e' : formR (rowOf p) = 4 := by
      simp only [rowOf, show (0 ≤ p ∧ p < 192) by omega, and_self, if_true]; rw [e]
    rw [e']; exact sform_10 p w h.1 h.2
  · have e := of_decide_eq_true (rng 18 8 (fun i => decide (formR (tbl.getD i Z0) = -1)) (by decide +kernel) p (by omega) (by omega))
    have e' : formR (rowOf p) = -1 := by
      simp only [rowOf, show (0 ≤ p ∧ p < 192) by omega, and_self, if_true]; rw [e]
    rw [e']; exact sform_11 p w h.1 h.2
  · have e := of_decide_eq_true (rng 26 1 (fun i => decide (formR (tbl.getD i Z0) = 0)) (by decide +kernel) p (by omega) (by omega))
    have e' : formR (rowOf p) = 0 := by
      simp only [rowOf, show (0 ≤ p ∧ p < 192) by omega, and_self, if_true]; rw [e]
    rw [e']; exact sform_12 p w h.1 h.2
  · have e := of_decide_eq_true (rng 27 1 (fun i => decide (formR (tbl.getD i Z0) = 0)) (by decide +kernel) p (by omega) (by omega))
    have e' : formR (rowOf p) = 0 := by
      simp only [rowOf, show (0 ≤ p ∧ p < 192) by omega, and_self, if_true]; rw [e]
    rw [e']; exact sform_13 p w h.1 h.2
  · have e := of_decide_eq_true (rng 28 4 (fun i => decide (formR (tbl.getD i Z0) = -1)) (by decide +kernel) p (by omega) (by omega))
    have e' : formR (rowOf p) = -1 := by
      simp only [rowOf, show (0 ≤ p ∧ p < 192) by omega, and_self, if_true]; rw [e]
    rw [e']; exact sform_14 p w h.1 h.2
  · have e := of_decide_eq_true (rng 32 5 (fun i => decide (formR (tbl.getD i Z0) = 2)) (by decide +kernel) p (by omega) (by omega))
    have e' : formR (rowOf p) = 2 := by
      simp only [rowOf, show (0 ≤ p ∧ p < 192) by omega, and_self, if_true]; rw [e]
    rw [e']; exact sform_15 p w h.1 h.2
  · have e := of_decide_eq_true (rng 37 3 (fun i => decide (formR (tbl.getD i Z0) = -1)) (by decide +kernel) p (by omega) (by omega))
    have e' : formR (rowOf p) = -1 := by
      simp only [rowOf, show (0 ≤ p ∧ p < 192) by omega, and_self, if_true]; rw [e]
    rw [e']; exact sform_16 p w h.1 h.2
  · have e := of_decide_eq_true (rng 40 23 (fun i => decide (formR (tbl.getD i Z0) = 5)) (by decide +kernel) p (by omega) (by omega))
    have e' : formR (rowOf p) = 5 := by
      simp only [rowOf, show (0 ≤ p ∧ p < 192) by omega, and_self, if_true]; rw [e]
    rw [e']; exact sform_17 p w h.1 h.2
  · have e := of_decide_eq_true (rng 63 2 (fun i => decide (formR (tbl.getD i Z0) = 6)) (by decide +kernel) p (by omega) (by omega))
    have e' : formR (rowOf p) = 6 := by
      simp only [rowOf, show (0 ≤ p ∧ p < 192) by omega, and_self, if_true]; rw [e]
    rw [e']; exact sform_18 p w h.1 h.2
  · have e := of_decide_eq_true (rng 65 4 (fun i => decide (formR (tbl.getD i Z0) = (i : Int) - 58)) (by decide +kernel) p (by omega) (by omega))
    have e' : formR (rowOf p) = p - 58 := by
      simp only [rowOf, show (0 ≤ p ∧ p < 192) by omega, and_self, if_true]; rw [e]; omega
    rw [e']; exact sform_19 p w h.1 h.2
  · have e := of_decide_eq_true (rng 69 123 (fun i => decide (formR (tbl.getD i Z0) = 0)) (by decide +kernel) p (by omega) (by omega))
    have e' : formR (rowOf p) = 0 := by
      simp only [rowOf, show (0 ≤ p ∧ p < 192) by omega, and_self, if_true]; rw [e]
    rw [e']; exact sform_20 p w h.1 h.2
  · have e : formR (rowOf p) = -1 := by
      simp only [rowOf, show ¬ (0 ≤ p ∧ p < 192) by omega, if_false]; rfl
    rw [e]; exact sform_21 p w h
end Go.Proofs.YtngepdhhdbhglaaGreatDoor
