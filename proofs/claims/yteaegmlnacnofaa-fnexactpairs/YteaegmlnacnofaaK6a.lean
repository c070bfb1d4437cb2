import Derived.Test.YteaegmlnacnofaaK5
set_option linter.all false
set_option linter.unusedVariables false
namespace Go.Proofs.Yteaegmlnacnofaa
open Go.RowKit Go.Sort
set_option maxRecDepth 100000
set_option maxHeartbeats 4000000 in
theorem sgood_0 (x : In) (la : Option Addr) (lc : Nat) (w : World) (hf : formR (rowOf x.op) = 0) (hv : 0 ≤ x.v) : Calls Try.prog 67 #[inV x la lc] w fun e w' => e = .returned (.bool (goodF (0) x)) ∧ Below w.heap.size w w' := by
  obtain ⟨op, a, b, v, l⟩ := x
  simp only at hf hv
  have HF := Hid.mk' (sform_c op)
  rw [hf] at HF
  clear hf
  have hlz := len0 l
  go_enter Try.func67, Try.ntmps67
  go_wp2_with fail
  refine (HF.out _).mono ?_
  rintro e w1 ⟨rfl, rfl⟩
  go_wp2
  all_goals
    go_ret
    refine ⟨?_, (Below.refl _ _).alloc (Nat.le_refl _) _⟩
    first | (simp_all [goodF, u32B_zero]; done) | (simp_all [goodF, u32B_zero]; intros; omega)
set_option maxHeartbeats 4000000 in
theorem sgood_6 (x : In) (la : Option Addr) (lc : Nat) (w : World) (hf : formR (rowOf x.op) = 6) (hv : 0 ≤ x.v) : Calls Try.prog 67 #[inV x la lc] w fun e w' => e = .returned (.bool (goodF (6) x)) ∧ Below w.heap.size w w' := by
  obtain ⟨op, a, b, v, l⟩ := x
  simp only at hf hv
  have HF := Hid.mk' (sform_c op)
  rw [hf] at HF
  clear hf
  have hlz := len0 l
  go_enter Try.func67, Try.ntmps67
  go_wp2_with fail
  refine (HF.out _).mono ?_
  rintro e w1 ⟨rfl, rfl⟩
  go_wp2
  all_goals
    go_ret
    refine ⟨?_, (Below.refl _ _).alloc (Nat.le_refl _) _⟩
    first | (simp_all [goodF, u32B_zero]; done) | (simp_all [goodF, u32B_zero]; intros; omega)
set_option maxHeartbeats 4000000 in
theorem sgood_1 (x : In) (la : Option Addr) (lc : Nat) (w : World) (hf : formR (rowOf x.op) = 1) (hv : 0 ≤ x.v) : Calls Try.prog 67 #[inV x la lc] w fun e w' => e = .returned (.bool (goodF (1) x)) ∧ Below w.heap.size w w' := by
  obtain ⟨op, a, b, v, l⟩ := x
  simp only at hf hv
  have HF := Hid.mk' (sform_c op)
  rw [hf] at HF
  clear hf
  have hlz := len0 l
  have HU := Hid.mk' (ty_c a)
  generalize ht : tyB a = ta at *
  go_enter Try.func67, Try.ntmps67
  go_wp2_with fail
  refine (HF.out _).mono ?_
  rintro e w1 ⟨rfl, rfl⟩
  go_wp2_with (go_at_call 45; refine (HU.out _).mono ?_; rintro e w1 ⟨rfl, rfl⟩)
  all_goals
    go_ret
    refine ⟨?_, (Below.refl _ _).alloc (Nat.le_refl _) _⟩
    first | (simp_all [goodF, u32B_zero]; done) | (simp_all [goodF, u32B_zero]; intros; omega)
set_option maxHeartbeats 4000000 in
theorem sgood_2 (x : In) (la : Option Addr) (lc : Nat) (w : World) (hf : formR (rowOf x.op) = 2) (hv : 0 ≤ x.v) : Calls Try.prog 67 #[inV x la lc] w fun e w' => e = .returned (.bool (goodF (2) x)) ∧ Below w.heap.size w w' := by
  obtain ⟨op, a, b, v, l⟩ := x
  simp only at hf hv
  have HF := Hid.mk' (sform_c op)
  rw [hf] at HF
  clear hf
  have hlz := len0 l
  have HU := Hid.mk' (u32_c a)
  generalize ht : u32B a = ta at *
  go_enter Try.func67, Try.ntmps67
  go_wp2_with fail
  refine (HF.out _).mono ?_
  rintro e w1 ⟨rfl, rfl⟩
  go_wp2_with (go_at_call 83; refine (HU.out _).mono ?_; rintro e w1 ⟨rfl, rfl⟩)
  all_goals
    go_ret
    refine ⟨?_, (Below.refl _ _).alloc (Nat.le_refl _) _⟩
    first | (simp_all [goodF, u32B_zero]; done) | (simp_all [goodF, u32B_zero]; intros; omega)
end Go.Proofs.Yteaegmlnacnofaa
