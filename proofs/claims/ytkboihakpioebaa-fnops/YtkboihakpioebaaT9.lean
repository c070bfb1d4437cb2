import Derived.Test.YtkboihakpioebaaT7a
import Derived.Test.YtkboihakpioebaaT7b
import Derived.Test.YtkboihakpioebaaT7c
import Derived.Test.YtkboihakpioebaaT8
set_option linter.all false
set_option linter.unusedVariables false
namespace Go.Proofs.Ytkboihakpioebaa
open Go.RowKit
set_option maxRecDepth 100000
theorem stype_c (p : Int) (w : World) : Calls Try.prog 15 #[.int .i64 p] w fun e w' => ∃ a r, e = .returned (.agg #[a, r]) ∧ FT w' w.heap.size w'.heap.size a r (nz [(rowOf p).a, (rowOf p).b]).length (nz [(rowOf p).g]).length (nz [(rowOf p).a, (rowOf p).b]) (nz [(rowOf p).g]) ∧ Below w.heap.size w w' := by
  have hc : (40 ≤ p ∧ p ≤ 53) ∨ (54 ≤ p ∧ p ≤ 62) ∨ (63 ≤ p ∧ p ≤ 63) ∨ (64 ≤ p ∧ p ≤ 64) ∨ (65 ≤ p ∧ p ≤ 68) ∨ (69 ≤ p ∧ p ≤ 69) ∨ (80 ≤ p ∧ p ≤ 80) ∨ (70 ≤ p ∧ p ≤ 79) ∨ (81 ≤ p ∧ p ≤ 102) ∨ (103 ≤ p ∧ p ≤ 105) ∨ (121 ≤ p ∧ p ≤ 123) ∨ (139 ≤ p ∧ p ≤ 145) ∨ (153 ≤ p ∧ p ≤ 159) ∨ (106 ≤ p ∧ p ≤ 120) ∨ (124 ≤ p ∧ p ≤ 138) ∨ (146 ≤ p ∧ p ≤ 152) ∨ (160 ≤ p ∧ p ≤ 166) ∨ (p ≤ 39) ∨ (192 ≤ p) ∨ (167 ≤ p ∧ p ≤ 191) := by omega
  rcases hc with h | h | h | h | h | h | h | h | h | h | h | h | h | h | h | h | h | h | h | h
  · have e := of_decide_eq_true (rng 40 14 (fun i => decide (nz [(tbl.getD i Z0).a, (tbl.getD i Z0).b] = [127] ∧ nz [(tbl.getD i Z0).g] = [tyOf (tbl.getD i Z0).nm])) (by decide +kernel) p (by omega) (by omega))
    have e' : nz [(rowOf p).a, (rowOf p).b] = [127] ∧ nz [(rowOf p).g] = [tyOf (rowOf p).nm] := by
      simpa only [rowOf, show (0 ≤ p ∧ p < 192) by omega, and_self, if_true] using e
    rw [e'.1, e'.2]
    exact st_0 p _ _ w h.1 h.2 (fun w => sname_c p w) rfl
  · have e := of_decide_eq_true (rng 54 9 (fun i => decide (nz [(tbl.getD i Z0).a, (tbl.getD i Z0).b] = [127, tyOf (tbl.getD i Z0).nm] ∧ nz [(tbl.getD i Z0).g] = [])) (by decide +kernel) p (by omega) (by omega))
    have e' : nz [(rowOf p).a, (rowOf p).b] = [127, tyOf (rowOf p).nm] ∧ nz [(rowOf p).g] = [] := by
      simpa only [rowOf, show (0 ≤ p ∧ p < 192) by omega, and_self, if_true] using e
    rw [e'.1, e'.2]
    exact st_1 p _ _ w h.1 h.2 (fun w => sname_c p w) rfl
  · have e := of_decide_eq_true (rng 63 1 (fun i => decide (nz [(tbl.getD i Z0).a, (tbl.getD i Z0).b] = [] ∧ nz [(tbl.getD i Z0).g] = [127])) (by decide +kernel) p (by omega) (by omega))
    have e' : nz [(rowOf p).a, (rowOf p).b] = [] ∧ nz [(rowOf p).g] = [127] := by
      simpa only [rowOf, show (0 ≤ p ∧ p < 192) by omega, and_self, if_true] using e
    rw [e'.1, e'.2]
    exact st_2 p _ _ w h.1 h.2 (fun w => sname_c p w) rfl
  · have e := of_decide_eq_true (rng 64 1 (fun i => decide (nz [(tbl.getD i Z0).a, (tbl.getD i Z0).b] = [127] ∧ nz [(tbl.getD i Z0).g] = [127])) (by decide +kernel) p (by omega) (by omega))
    have e' : nz [(rowOf p).a, (rowOf p).b] = [127] ∧ nz [(rowOf p).g] = [127] := by
      simpa only [rowOf, show (0 ≤ p ∧ p < 192) by omega, and_self, if_true] using e
    rw [e'.1, e'.2]
    exact st_3 p _ _ w h.1 h.2 (fun w => sname_c p w) rfl
  · have e := of_decide_eq_true (rng 65 4 (fun i => decide (nz [(tbl.getD i Z0).a, (tbl.getD i Z0).b] = [] ∧ nz [(tbl.getD i Z0).g] = [tyOf (tbl.getD i Z0).nm])) (by decide +kernel) p (by omega) (by omega))
    have e' : nz [(rowOf p).a, (rowOf p).b] = [] ∧ nz [(rowOf p).g] = [tyOf (rowOf p).nm] := by
      simpa only [rowOf, show (0 ≤ p ∧ p < 192) by omega, and_self, if_true] using e
    rw [e'.1, e'.2]
    exact st_4 p _ _ w h.1 h.2 (fun w => sname_c p w) rfl
  · have e := of_decide_eq_true (rng 69 1 (fun i => decide (nz [(tbl.getD i Z0).a, (tbl.getD i Z0).b] = [tyOf (tbl.getD i Z0).nm] ∧ nz [(tbl.getD i Z0).g] = [127])) (by decide +kernel) p (by omega) (by omega))
    have e' : nz [(rowOf p).a, (rowOf p).b] = [tyOf (rowOf p).nm] ∧ nz [(rowOf p).g] = [127] := by
      simpa only [rowOf, show (0 ≤ p ∧ p < 192) by omega, and_self, if_true] using e
    rw [e'.1, e'.2]
    exact st_5 p _ _ w h.1 h.2 (fun w => sname_c p w) rfl
  · have e := of_decide_eq_true (rng 80 1 (fun i => decide (nz [(tbl.getD i Z0).a, (tbl.getD i Z0).b] = [tyOf (tbl.getD i Z0).nm] ∧ nz [(tbl.getD i Z0).g] = [127])) (by decide +kernel) p (by omega) (by omega))
    have e' : nz [(rowOf p).a, (rowOf p).b] = [tyOf (rowOf p).nm] ∧ nz [(rowOf p).g] = [127] := by
      simpa only [rowOf, show (0 ≤ p ∧ p < 192) by omega, and_self, if_true] using e
    rw [e'.1, e'.2]
    exact st_6 p _ _ w h.1 h.2 (fun w => sname_c p w) rfl
  · have e := of_decide_eq_true (rng 70 10 (fun i => decide (nz [(tbl.getD i Z0).a, (tbl.getD i Z0).b] = [tyOf (tbl.getD i Z0).nm, tyOf (tbl.getD i Z0).nm] ∧ nz [(tbl.getD i Z0).g] = [127])) (by decide +kernel) p (by omega) (by omega))
    have e' : nz [(rowOf p).a, (rowOf p).b] = [tyOf (rowOf p).nm, tyOf (rowOf p).nm] ∧ nz [(rowOf p).g] = [127] := by
      simpa only [rowOf, show (0 ≤ p ∧ p < 192) by omega, and_self, if_true] using e
    rw [e'.1, e'.2]
    exact st_7 p _ _ w h.1 h.2 (fun w => sname_c p w) rfl
  · have e := of_decide_eq_true (rng 81 22 (fun i => decide (nz [(tbl.getD i Z0).a, (tbl.getD i Z0).b] = [tyOf (tbl.getD i Z0).nm, tyOf (tbl.getD i Z0).nm] ∧ nz [(tbl.getD i Z0).g] = [127])) (by decide +kernel) p (by omega) (by omega))
    have e' : nz [(rowOf p).a, (rowOf p).b] = [tyOf (rowOf p).nm, tyOf (rowOf p).nm] ∧ nz [(rowOf p).g] = [127] := by
      simpa only [rowOf, show (0 ≤ p ∧ p < 192) by omega, and_self, if_true] using e
    rw [e'.1, e'.2]
    exact st_8 p _ _ w h.1 h.2 (fun w => sname_c p w) rfl
  · have e := of_decide_eq_true (rng 103 3 (fun i => decide (nz [(tbl.getD i Z0).a, (tbl.getD i Z0).b] = [tyOf (tbl.getD i Z0).nm] ∧ nz [(tbl.getD i Z0).g] = [tyOf (tbl.getD i Z0).nm])) (by decide +kernel) p (by omega) (by omega))
    have e' : nz [(rowOf p).a, (rowOf p).b] = [tyOf (rowOf p).nm] ∧ nz [(rowOf p).g] = [tyOf (rowOf p).nm] := by
      simpa only [rowOf, show (0 ≤ p ∧ p < 192) by omega, and_self, if_true] using e
    rw [e'.1, e'.2]
    exact st_9 p _ _ w h.1 h.2 (fun w => sname_c p w) rfl
  · have e := of_decide_eq_true (rng 121 3 (fun i => decide (nz [(tbl.getD i Z0).a, (tbl.getD i Z0).b] = [tyOf (tbl.getD i Z0).nm] ∧ nz [(tbl.getD i Z0).g] = [tyOf (tbl.getD i Z0).nm])) (by decide +kernel) p (by omega) (by omega))
    have e' : nz [(rowOf p).a, (rowOf p).b] = [tyOf (rowOf p).nm] ∧ nz [(rowOf p).g] = [tyOf (rowOf p).nm] := by
      simpa only [rowOf, show (0 ≤ p ∧ p < 192) by omega, and_self, if_true] using e
    rw [e'.1, e'.2]
    exact st_10 p _ _ w h.1 h.2 (fun w => sname_c p w) rfl
  · have e := of_decide_eq_true (rng 139 7 (fun i => decide (nz [(tbl.getD i Z0).a, (tbl.getD i Z0).b] = [tyOf (tbl.getD i Z0).nm] ∧ nz [(tbl.getD i Z0).g] = [tyOf (tbl.getD i Z0).nm])) (by decide +kernel) p (by omega) (by omega))
    have e' : nz [(rowOf p).a, (rowOf p).b] = [tyOf (rowOf p).nm] ∧ nz [(rowOf p).g] = [tyOf (rowOf p).nm] := by
      simpa only [rowOf, show (0 ≤ p ∧ p < 192) by omega, and_self, if_true] using e
    rw [e'.1, e'.2]
    exact st_11 p _ _ w h.1 h.2 (fun w => sname_c p w) rfl
  · have e := of_decide_eq_true (rng 153 7 (fun i => decide (nz [(tbl.getD i Z0).a, (tbl.getD i Z0).b] = [tyOf (tbl.getD i Z0).nm] ∧ nz [(tbl.getD i Z0).g] = [tyOf (tbl.getD i Z0).nm])) (by decide +kernel) p (by omega) (by omega))
    have e' : nz [(rowOf p).a, (rowOf p).b] = [tyOf (rowOf p).nm] ∧ nz [(rowOf p).g] = [tyOf (rowOf p).nm] := by
      simpa only [rowOf, show (0 ≤ p ∧ p < 192) by omega, and_self, if_true] using e
    rw [e'.1, e'.2]
    exact st_12 p _ _ w h.1 h.2 (fun w => sname_c p w) rfl
  · have e := of_decide_eq_true (rng 106 15 (fun i => decide (nz [(tbl.getD i Z0).a, (tbl.getD i Z0).b] = [tyOf (tbl.getD i Z0).nm, tyOf (tbl.getD i Z0).nm] ∧ nz [(tbl.getD i Z0).g] = [tyOf (tbl.getD i Z0).nm])) (by decide +kernel) p (by omega) (by omega))
    have e' : nz [(rowOf p).a, (rowOf p).b] = [tyOf (rowOf p).nm, tyOf (rowOf p).nm] ∧ nz [(rowOf p).g] = [tyOf (rowOf p).nm] := by
      simpa only [rowOf, show (0 ≤ p ∧ p < 192) by omega, and_self, if_true] using e
    rw [e'.1, e'.2]
    exact st_13 p _ _ w h.1 h.2 (fun w => sname_c p w) rfl
  · have e := of_decide_eq_true (rng 124 15 (fun i => decide (nz [(tbl.getD i Z0).a, (tbl.getD i Z0).b] = [tyOf (tbl.getD i Z0).nm, tyOf (tbl.getD i Z0).nm] ∧ nz [(tbl.getD i Z0).g] = [tyOf (tbl.getD i Z0).nm])) (by decide +kernel) p (by omega) (by omega))
    have e' : nz [(rowOf p).a, (rowOf p).b] = [tyOf (rowOf p).nm, tyOf (rowOf p).nm] ∧ nz [(rowOf p).g] = [tyOf (rowOf p).nm] := by
      simpa only [rowOf, show (0 ≤ p ∧ p < 192) by omega, and_self, if_true] using e
    rw [e'.1, e'.2]
    exact st_14 p _ _ w h.1 h.2 (fun w => sname_c p w) rfl
  · have e := of_decide_eq_true (rng 146 7 (fun i => decide (nz [(tbl.getD i Z0).a, (tbl.getD i Z0).b] = [tyOf (tbl.getD i Z0).nm, tyOf (tbl.getD i Z0).nm] ∧ nz [(tbl.getD i Z0).g] = [tyOf (tbl.getD i Z0).nm])) (by decide +kernel) p (by omega) (by omega))
    have e' : nz [(rowOf p).a, (rowOf p).b] = [tyOf (rowOf p).nm, tyOf (rowOf p).nm] ∧ nz [(rowOf p).g] = [tyOf (rowOf p).nm] := by
      simpa only [rowOf, show (0 ≤ p ∧ p < 192) by omega, and_self, if_true] using e
    rw [e'.1, e'.2]
    exact st_15 p _ _ w h.1 h.2 (fun w => sname_c p w) rfl
  · have e := of_decide_eq_true (rng 160 7 (fun i => decide (nz [(tbl.getD i Z0).a, (tbl.getD i Z0).b] = [tyOf (tbl.getD i Z0).nm, tyOf (tbl.getD i Z0).nm] ∧ nz [(tbl.getD i Z0).g] = [tyOf (tbl.getD i Z0).nm])) (by decide +kernel) p (by omega) (by omega))
    have e' : nz [(rowOf p).a, (rowOf p).b] = [tyOf (rowOf p).nm, tyOf (rowOf p).nm] ∧ nz [(rowOf p).g] = [tyOf (rowOf p).nm] := by
      simpa only [rowOf, show (0 ≤ p ∧ p < 192) by omega, and_self, if_true] using e
    rw [e'.1, e'.2]
    exact st_16 p _ _ w h.1 h.2 (fun w => sname_c p w) rfl
  · have h1 := st_17 p _ _ w h (fun w => sname_c p w) rfl
    have e : nz [(rowOf p).a, (rowOf p).b] = [] ∧ nz [(rowOf p).g] = [] := by
      by_cases h0 : 0 ≤ p
      · have e := of_decide_eq_true (rng 0 40 (fun i => decide (nz [(tbl.getD i Z0).a, (tbl.getD i Z0).b] = [] ∧ nz [(tbl.getD i Z0).g] = [])) (by decide +kernel) p (by omega) (by omega))
        simpa only [rowOf, show (0 ≤ p ∧ p < 192) by omega, and_self, if_true] using e
      · have e : rowOf p = Z0 := by simp only [rowOf, show ¬ (0 ≤ p ∧ p < 192) by omega, if_false]
        rw [e]; decide
    rw [e.1, e.2]
    exact h1
  · have e : rowOf p = Z0 := by simp only [rowOf, show ¬ (0 ≤ p ∧ p < 192) by omega, if_false]
    have h1 := st_18 p _ _ w h (fun w => sname_c p w) rfl
    rw [e]
    exact h1
  · have e := of_decide_eq_true (rng 167 25 (fun i => decide (nz [(tbl.getD i Z0).a, (tbl.getD i Z0).b] = [tyOf ((tbl.getD i Z0).nm.extract ((tbl.getD i Z0).nm.data.toList.findIdx (· == 95) + 1) (tbl.getD i Z0).nm.size)] ∧ nz [(tbl.getD i Z0).g] = [tyOf (tbl.getD i Z0).nm] ∧ (tbl.getD i Z0).nm.data.toList.findIdx (· == 95) < (tbl.getD i Z0).nm.size ∧ (tbl.getD i Z0).nm.size ≤ 100 ∧ (List.range ((tbl.getD i Z0).nm.data.toList.findIdx (· == 95))).all (fun k => decide (((tbl.getD i Z0).nm.data.toList.getD k 0).toNat ≠ 95)) = true ∧ ((tbl.getD i Z0).nm.data.toList.getD ((tbl.getD i Z0).nm.data.toList.findIdx (· == 95)) 0).toNat = 95)) (by decide +kernel) p (by omega) (by omega))
    have er : rowOf p = tbl.getD p.toNat Z0 := by simp only [rowOf, show (0 ≤ p ∧ p < 192) by omega, and_self, if_true]
    rw [← er] at e
    obtain ⟨e1, e2, e3, e4, e5, e6⟩ := e
    rw [e1, e2]
    refine st_u p _ _ _ _ w h.1 h.2 (fun w => sname_c p w) rfl e3 e4 (fun k hk => ?_) e6 rfl
    exact of_decide_eq_true (List.all_eq_true.1 e5 k (by simpa using hk))
theorem ty_len (p : Int) : (nz [(rowOf p).a, (rowOf p).b]).length ≤ 1000 ∧ (nz [(rowOf p).g]).length ≤ 1000 :=
  ⟨Nat.le_trans (nz_len _) (by simp), Nat.le_trans (nz_len _) (by simp)⟩
theorem FT.shape {w : World} {B C n m : Nat} {p r : Value} {xs ys : List Int} (h : FT w B C p r n m xs ys) : ∃ a c a' c', p = .slice a n c ∧ r = .slice a' m c' := by
  obtain ⟨a, c, e⟩ := own_slice h.hp
  obtain ⟨a', c', e'⟩ := own_slice h.hr
  exact ⟨a, c, a', c', e, e'⟩
set_option maxHeartbeats 4000000 in
theorem lawOpType (op : Int) (w : World) : Calls Try.prog 6 #[.int .i64 op] w fun e w' => e = .returned (.bool true) ∧ Below w.heap.size w w' := by
  have KS := Hid.mk' (stype_c op)
  have KI := Hid.mk' (itype_c op)
  have hl := ty_len op
  generalize nz [(rowOf op).a, (rowOf op).b] = xs at *
  generalize nz [(rowOf op).g] = ys at *
  obtain ⟨hx, hy⟩ := hl
  go_enter Try.func6, Try.ntmps6
  go_wp2_with fail
  refine (KS.out _).mono ?_
  rintro e w1 ⟨p, r, rfl, fs, b1⟩
  obtain ⟨pa, pc, ra, rc, rfl, rfl⟩ := fs.shape
  have FS := Hid.mk' fs
  have B1 := Hid.mk' b1
  clear fs b1
  go_wp2_with fail
  refine (KI.out _).mono ?_
  rintro e w2 ⟨p', r', rfl, fi, b2⟩
  obtain ⟨pa', pc', ra', rc', rfl, rfl⟩ := fi.shape
  have s2 : w1.heap.size + 1 ≤ w2.heap.size := by have := b2.size; simpa using this
  have c30 : w2.cell? ⟨w1.heap.size, 0, none⟩ = some (.slice pa xs.length pc) := by rw [b2.cell (p := ⟨w1.heap.size, 0, none⟩) (by simp)]; exact cell_new rfl rfl
  have c31 : w2.cell? ⟨w1.heap.size, 1, none⟩ = some (.slice ra ys.length rc) := by rw [b2.cell (p := ⟨w1.heap.size, 1, none⟩) (by simp)]; exact cell_new rfl rfl
  have FS2 := Hid.mk' ((FS.out.below ((Below.refl _ _).alloc (Nat.le_refl _) _) (Nat.le_refl _)).below b2 (by simp))
  have FI := Hid.mk' fi
  have B2 := Hid.mk' (B1.out.trans ((up1 b2).mono B1.out.size))
  clear fi b2 FS
  have l31 : w1.heap.size < w2.heap.size := by omega
  go_wp2_with fail
  refine (eqFT _ _ _ _ _ _ _ _ xs ys _ hx hy (FI.out.below ((Below.refl _ _).alloc (Nat.le_refl _) (.cells #[.slice pa' xs.length pc', .slice ra' ys.length rc'] 29)) (Nat.le_refl _)) (FS2.out.below ((Below.refl _ _).alloc (Nat.le_refl _) (.cells #[.slice pa' xs.length pc', .slice ra' ys.length rc'] 29)) (by omega))).mono ?_
  rintro e w3 ⟨rfl, b3⟩
  have s3 : w2.heap.size + 1 ≤ w3.heap.size := by have := b3.size; simpa using this
  have d40 : w3.cell? ⟨w2.heap.size, 0, none⟩ = some (.slice pa' xs.length pc') := by rw [b3.cell (p := ⟨w2.heap.size, 0, none⟩) (by simp)]; exact cell_new rfl rfl
  have d41 : w3.cell? ⟨w2.heap.size, 1, none⟩ = some (.slice ra' ys.length rc') := by rw [b3.cell (p := ⟨w2.heap.size, 1, none⟩) (by simp)]; exact cell_new rfl rfl
  have d30 : w3.cell? ⟨w1.heap.size, 0, none⟩ = some (.slice pa xs.length pc) := by rw [b3.cell (p := ⟨w1.heap.size, 0, none⟩) (by simp; omega), World.cell?_alloc_past _ _ _ l31]; exact c30
  have d31 : w3.cell? ⟨w1.heap.size, 1, none⟩ = some (.slice ra ys.length rc) := by rw [b3.cell (p := ⟨w1.heap.size, 1, none⟩) (by simp; omega), World.cell?_alloc_past _ _ _ l31]; exact c31
  have FI3 := Hid.mk' ((FI.out.below ((Below.refl _ _).alloc (Nat.le_refl _) (.cells #[.slice pa' xs.length pc', .slice ra' ys.length rc'] 29)) (Nat.le_refl _)).below b3 (by simp))
  have FS3 := Hid.mk' ((FS2.out.below ((Below.refl _ _).alloc (Nat.le_refl _) (.cells #[.slice pa' xs.length pc', .slice ra' ys.length rc'] 29)) (by omega)).below b3 (by simp; omega))
  have hb1 := B1.out.size
  have B3 := Hid.mk' (B2.out.trans ((up1 b3).mono B2.out.size))
  clear b3 FI FS2 c30 c31 B2
  go_wp2_with fail
  refine (markFT _ _ _ _ _ _ xs ys _ (by simp; omega) hx hy FI3.out).mono ?_
  rintro e w4 ⟨rfl, fm, bt⟩
  have s4 := bt.size
  have e40 : w4.cell? ⟨w2.heap.size, 0, none⟩ = some (.slice pa' xs.length pc') := by rw [bt.cell (.inr ⟨Nat.le_refl _, by omega⟩)]; exact d40
  have e41 : w4.cell? ⟨w2.heap.size, 1, none⟩ = some (.slice ra' ys.length rc') := by rw [bt.cell (.inr ⟨Nat.le_refl _, by omega⟩)]; exact d41
  have e30 : w4.cell? ⟨w1.heap.size, 0, none⟩ = some (.slice pa xs.length pc) := by rw [bt.cell (.inl (by simp))]; exact d30
  have e31 : w4.cell? ⟨w1.heap.size, 1, none⟩ = some (.slice ra ys.length rc) := by rw [bt.cell (.inl (by simp))]; exact d31
  have FM4 := Hid.mk' fm
  have FS4 := Hid.mk' (FS3.out.below bt.below (by simp))
  have B4 := Hid.mk' (B3.out.trans (bt.below.mono (by simp; omega)))
  clear fm bt FI3 FS3 B3 d40 d41 d30 d31
  go_wp2_with fail
  refine (heldFT _ _ _ _ _ _ _ hx hy FM4.out).mono ?_
  rintro e w5 ⟨rfl, b5⟩
  have s5 := b5.size
  have f40 : w5.cell? ⟨w2.heap.size, 0, none⟩ = some (.slice pa' xs.length pc') := by rw [b5.cell (p := ⟨w2.heap.size, 0, none⟩) (by show w2.heap.size < _; omega)]; exact e40
  have f41 : w5.cell? ⟨w2.heap.size, 1, none⟩ = some (.slice ra' ys.length rc') := by rw [b5.cell (p := ⟨w2.heap.size, 1, none⟩) (by show w2.heap.size < _; omega)]; exact e41
  have f30 : w5.cell? ⟨w1.heap.size, 0, none⟩ = some (.slice pa xs.length pc) := by rw [b5.cell (p := ⟨w1.heap.size, 0, none⟩) (by show w1.heap.size < _; omega)]; exact e30
  have f31 : w5.cell? ⟨w1.heap.size, 1, none⟩ = some (.slice ra ys.length rc) := by rw [b5.cell (p := ⟨w1.heap.size, 1, none⟩) (by show w1.heap.size < _; omega)]; exact e31
  have FM5 := Hid.mk' (FM4.out.below b5 (by omega))
  have FS5 := Hid.mk' (FS4.out.below b5 (by omega))
  have B5 := Hid.mk' (B4.out.trans (b5.mono (by omega)))
  clear b5 FM4 FS4 B4 e40 e41 e30 e31
  have hq1 : ¬ (1 : Int) + xs.length + ys.length < 0 := by omega
  go_wp2_with fail
  refine (KI.out _).mono ?_
  rintro e w6 ⟨p7, r7, rfl, f7, b6⟩
  obtain ⟨pa7, pc7, ra7, rc7, rfl, rfl⟩ := f7.shape
  have s6 := b6.size
  have g40 : w6.cell? ⟨w2.heap.size, 0, none⟩ = some (.slice pa' xs.length pc') := by rw [b6.cell (p := ⟨w2.heap.size, 0, none⟩) (by show w2.heap.size < _; omega)]; exact f40
  have g41 : w6.cell? ⟨w2.heap.size, 1, none⟩ = some (.slice ra' ys.length rc') := by rw [b6.cell (p := ⟨w2.heap.size, 1, none⟩) (by show w2.heap.size < _; omega)]; exact f41
  have g30 : w6.cell? ⟨w1.heap.size, 0, none⟩ = some (.slice pa xs.length pc) := by rw [b6.cell (p := ⟨w1.heap.size, 0, none⟩) (by show w1.heap.size < _; omega)]; exact f30
  have g31 : w6.cell? ⟨w1.heap.size, 1, none⟩ = some (.slice ra ys.length rc) := by rw [b6.cell (p := ⟨w1.heap.size, 1, none⟩) (by show w1.heap.size < _; omega)]; exact f31
  have F7 := Hid.mk' (f7.below ((Below.refl _ _).alloc (Nat.le_refl _) (.cells #[.slice pa7 xs.length pc7, .slice ra7 ys.length rc7] 29)) (Nat.le_refl _))
  have FM6 := Hid.mk' ((FM5.out.below b6 (by omega)).below ((Below.refl _ _).alloc (Nat.le_refl _) (.cells #[.slice pa7 xs.length pc7, .slice ra7 ys.length rc7] 29)) (by omega))
  have FS6 := Hid.mk' ((FS5.out.below b6 (by omega)).below ((Below.refl _ _).alloc (Nat.le_refl _) (.cells #[.slice pa7 xs.length pc7, .slice ra7 ys.length rc7] 29)) (by omega))
  have B6 := Hid.mk' (B5.out.trans (b6.mono (by omega)))
  clear b6 f7 FM5 FS5 B5 f40 f41 f30 f31
  have q1 : w1.heap.size < w6.heap.size := by omega
  have q2 : w2.heap.size < w6.heap.size := by omega
  go_wp2_with fail
  refine (eqFT _ _ _ _ _ _ _ _ xs ys _ hx hy F7.out FS6.out).mono ?_
  rintro e w8 ⟨rfl, b8⟩
  have s8 := b8.size
  simp only [World.size_alloc] at s8
  have h40 : w8.cell? ⟨w2.heap.size, 0, none⟩ = some (.slice pa' xs.length pc') := by rw [b8.cell (p := ⟨w2.heap.size, 0, none⟩) (by simp; omega), World.cell?_alloc_past _ _ _ q2]; exact g40
  have h41 : w8.cell? ⟨w2.heap.size, 1, none⟩ = some (.slice ra' ys.length rc') := by rw [b8.cell (p := ⟨w2.heap.size, 1, none⟩) (by simp; omega), World.cell?_alloc_past _ _ _ q2]; exact g41
  have FM8 := Hid.mk' (FM6.out.below b8 (by simp; omega))
  have B8 := Hid.mk' (B6.out.trans ((up1 b8).mono (by omega)))
  clear b8 FM6 FS6 F7 B6 g40 g41 g30 g31
  go_wp2_with fail
  refine (heldFT _ _ _ _ _ _ _ hx hy FM8.out).mono ?_
  rintro e w9 ⟨rfl, b9⟩
  have B9 := Hid.mk' (B8.out.trans (b9.mono (by omega)))
  clear b9 FM8 B8
  go_wp2
  go_ret
  exact ⟨rfl, B9.out⟩
end Go.Proofs.Ytkboihakpioebaa
