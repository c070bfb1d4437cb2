import Derived.Test.YtbdcgifdggpnlaaBase
import Derived.Lib.QuietBelow
set_option linter.all false
set_option linter.unusedVariables false
namespace Go.Proofs.Ytbdcgifdggpnlaa
open Go.RowKit Go.Sort
set_option maxRecDepth 100000
abbrev limV (a b : Int) (h : Bool) : Value := .agg #[.int .i64 a, .int .i64 b, .bool h]
def fits (a b : Int) (h : Bool) (a' b' : Int) (h' : Bool) : Bool := decide (a' ≤ a) && (!h' || (h && decide (b ≤ b')))
theorem toLim_c (a b : Int) (h : Bool) (w : World) :
    Calls Try.prog 7 #[limV a b h] w fun e w' => e = .returned (limV a b h) ∧ Below w.heap.size w w' := by
  go_enter Try.func7, Try.ntmps7
  go_wp2
  exact bodyPost_ret (v := limV a b h) (by simp [results, Try.results7, go_sem]) rfl ⟨rfl, (((Below.refl _ _).alloc (Nat.le_refl _) _).alloc (by simp) _).alloc (by simp; omega) _⟩
theorem slim_c (a b : Int) (h : Bool) (a' b' : Int) (h' : Bool) (w : World) :
    Calls Try.prog 6 #[limV a b h, limV a' b' h'] w fun e w' => e = .returned (.bool (fits a b h a' b' h')) ∧ Below w.heap.size w w' := by
  have hb : ∀ o1 o2, Below w.heap.size w ((w.alloc o1).alloc o2) := fun o1 o2 => ((Below.refl _ _).alloc (Nat.le_refl _) _).alloc (by simp) _
  by_cases h1 : a' ≤ a
  · have g1 : decide (a' ≤ a) = true := by simp [h1]
    cases h'
    · go_enter Try.func6, Try.ntmps6
      go_wp2
      go_ret
      exact ⟨by simp [fits, h1], hb _ _⟩
    · cases h
      · go_enter Try.func6, Try.ntmps6
        go_wp2
        go_ret
        exact ⟨by simp [fits, h1], hb _ _⟩
      · go_enter Try.func6, Try.ntmps6
        go_wp2
        go_ret
        exact ⟨by simp [fits, h1], hb _ _⟩
  · have g1 : decide (a' ≤ a) = false := by simp [h1]
    go_enter Try.func6, Try.ntmps6
    go_wp2
    go_ret
    exact ⟨by simp only [fits]; rw [decide_eq_false (by omega)]; rfl, hb _ _⟩
theorem ilim_c (a b : Int) (h : Bool) (a' b' : Int) (h' : Bool) (w : World) :
    Calls Try.prog 8 #[limV a b h, limV a' b' h'] w fun e w' => e = .returned (.bool (fits a b h a' b' h')) ∧ Below w.heap.size w w' := by
  have hb : ∀ o1 o2, Below w.heap.size w ((w.alloc o1).alloc o2) := fun o1 o2 => ((Below.refl _ _).alloc (Nat.le_refl _) _).alloc (by simp) _
  by_cases h1 : a < a'
  · go_enter Try.func8, Try.ntmps8
    go_wp2
    go_ret
    exact ⟨by simp only [fits]; rw [decide_eq_false (by omega)]; rfl, hb _ _⟩
  · cases h'
    · go_enter Try.func8, Try.ntmps8
      go_wp2
      go_ret
      exact ⟨by simp [fits]; omega, hb _ _⟩
    · cases h
      · go_enter Try.func8, Try.ntmps8
        go_wp2
        go_ret
        exact ⟨by simp [fits], hb _ _⟩
      · go_enter Try.func8, Try.ntmps8
        go_wp2
        go_ret
        exact ⟨by have : a' ≤ a := by omega
                  simp [fits, this], hb _ _⟩
set_option maxHeartbeats 2000000 in
theorem lawLim (a b : Int) (h : Bool) (a' b' : Int) (h' : Bool) (w : World) :
    Calls Try.prog 3 #[limV a b h, limV a' b' h'] w fun e w' => e = .returned (.bool true) ∧ Below w.heap.size w w' := by
  obtain ⟨W, hW⟩ : ∃ W, W = (w.alloc (.cells #[.int .i64 a, .int .i64 b, .bool h] 23)).alloc (.cells #[.int .i64 a', .int .i64 b', .bool h'] 23) := ⟨_, rfl⟩
  have c0 : W.cell? ⟨w.heap.size, 0, none⟩ = some (.int .i64 a) := by rw [hW, World.cell?_alloc_past _ _ _ (by simp)]; exact cell_new rfl rfl
  have c1 : W.cell? ⟨w.heap.size, 1, none⟩ = some (.int .i64 b) := by rw [hW, World.cell?_alloc_past _ _ _ (by simp)]; exact cell_new rfl rfl
  have c2 : W.cell? ⟨w.heap.size, 2, none⟩ = some (.bool h) := by rw [hW, World.cell?_alloc_past _ _ _ (by simp)]; exact cell_new rfl rfl
  have d0 : W.cell? ⟨w.heap.size + 1, 0, none⟩ = some (.int .i64 a') := by rw [hW]; exact cell_new (by simp) rfl
  have d1 : W.cell? ⟨w.heap.size + 1, 1, none⟩ = some (.int .i64 b') := by rw [hW]; exact cell_new (by simp) rfl
  have d2 : W.cell? ⟨w.heap.size + 1, 2, none⟩ = some (.bool h') := by rw [hW]; exact cell_new (by simp) rfl
  have hbW : Below w.heap.size w W := by rw [hW]; exact ((Below.refl _ _).alloc (Nat.le_refl _) _).alloc (by simp) _
  have k0 := cell_regrown c0
  have k1 := cell_regrown c1
  have k2 := cell_regrown c2
  have m0 := cell_regrown d0
  have m1 := cell_regrown d1
  have m2 := cell_regrown d2
  have HT : Hid (∀ (W : World) d os, Calls Try.prog 7 #[limV a b h] (grow (redrawn W d) os) fun e w'' => e = .returned (limV a b h) ∧ ∃ p : Regrown, w'' = grow (redrawn W p.d) p.os) := fun W d os => Calls.regrown_of (toLim_c a b h _)
  have HT' : Hid (∀ (W : World) d os, Calls Try.prog 7 #[limV a' b' h'] (grow (redrawn W d) os) fun e w'' => e = .returned (limV a' b' h') ∧ ∃ p : Regrown, w'' = grow (redrawn W p.d) p.os) := fun W d os => Calls.regrown_of (toLim_c a' b' h' _)
  have HS : Hid (∀ (W : World) d os, Calls Try.prog 6 #[limV a b h, limV a' b' h'] (grow (redrawn W d) os) fun e w'' => e = .returned (.bool (fits a b h a' b' h')) ∧ ∃ p : Regrown, w'' = grow (redrawn W p.d) p.os) := fun W d os => Calls.regrown_of (slim_c a b h a' b' h' _)
  have HI : Hid (∀ (W : World) d os, Calls Try.prog 8 #[limV a b h, limV a' b' h'] (grow (redrawn W d) os) fun e w'' => e = .returned (.bool (fits a b h a' b' h')) ∧ ∃ p : Regrown, w'' = grow (redrawn W p.d) p.os) := fun W d os => Calls.regrown_of (ilim_c a b h a' b' h' _)
  generalize fits a b h a' b' h' = r at *
  have HW := Hid.mk' hW
  have HC := Hid.mk' (And.intro c0 (And.intro c1 (And.intro c2 (And.intro d0 (And.intro d1 d2)))))
  clear hW c0 c1 c2 d0 d1 d2
  go_enter Try.func3, Try.ntmps3
  go_wp2
  rw [← HW.out]
  have T1 := HT.out W
  have T2 := HT'.out W
  have T3 := HS.out W
  refine wp_region_quiet_below (by kernel_rfl) (by kernel_rfl) ?_
  repeat (quiet_step (first | with_reducible exact T1 _ _ | with_reducible exact T2 _ _ | with_reducible exact T3 _ _))
  refine wpQuiet_nil ?_
  intro _ hw'
  obtain ⟨⟨dq, osq⟩, hw''⟩ := hw'
  subst hw''
  have hb1 := hbW.trans ((below_regrown W dq osq).mono hbW.size)
  replace k0 := cell_regrown (k0 dq osq)
  replace k1 := cell_regrown (k1 dq osq)
  replace k2 := cell_regrown (k2 dq osq)
  replace m0 := cell_regrown (m0 dq osq)
  replace m1 := cell_regrown (m1 dq osq)
  replace m2 := cell_regrown (m2 dq osq)
  clear HW HC hbW T1 T2 T3 HS
  generalize grow (redrawn W dq) osq = w5 at *
  show Exit.then _ _ Exit.normal _ w5
  go_wp2
  have T1 := HT.out w5
  have T2 := HT'.out w5
  have T3 := HI.out w5
  refine wp_region_quiet_below (by kernel_rfl) (by kernel_rfl) ?_
  repeat (quiet_step (first | with_reducible exact T1 _ _ | with_reducible exact T2 _ _ | with_reducible exact T3 _ _))
  refine wpQuiet_nil ?_
  intro _ hw'
  obtain ⟨⟨dp, osp⟩, hw''⟩ := hw'
  subst hw''
  have hb2 := hb1.trans ((below_regrown w5 dp osp).mono hb1.size)
  clear k0 k1 k2 m0 m1 m2 hb1 T1 T2 T3 HT HT' HI
  generalize grow (redrawn w5 dp) osp = w6 at *
  show Exit.then _ _ Exit.normal _ w6
  have hr : (r != r) = false := by simp
  go_wp2
  go_ret
  exact ⟨rfl, hb2⟩
end Go.Proofs.Ytbdcgifdggpnlaa
