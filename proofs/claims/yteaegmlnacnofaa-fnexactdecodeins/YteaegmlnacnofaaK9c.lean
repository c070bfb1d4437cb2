import Derived.Test.YteaegmlnacnofaaK8
set_option linter.all false
set_option linter.unusedVariables false
namespace Go.Proofs.Yteaegmlnacnofaa
open Go.RowKit Go.Sort
set_option maxRecDepth 100000
set_option maxHeartbeats 8000000 in
theorem igood_5 (op a b v : Int) (l : List Int) (la : Option Addr) (lc : Nat) (w : World) (hf : formR (rowOf op) = 5) (hv : 0 ≤ v) : Calls Try.prog 71 #[inV ⟨op, a, b, v, l⟩ la lc] w fun e w' => e = .returned (.bool (goodF (5) ⟨op, a, b, v, l⟩)) ∧ Below w.heap.size w w' := by
  have hlz := len0 l
  have HF := Hid.mk' (iform_c op)
  rw [hf] at HF
  clear hf
  go_enter Try.func71, Try.ntmps71
  go_wp2_with fail
  go_region
  go_wp2_with fail
  refine (HF.out _).mono ?_
  rintro e w1 ⟨rfl, hb⟩
  obtain ⟨⟨⟨c0, c1, c2, c3, c4⟩, cf⟩, ⟨⟨d0, d1, d2, d3, d4⟩, df⟩, bel⟩ := boxes hb
  clear hb HF
  go_wp2_with (go_at_call 84; refine (iu32_c _ _).mono ?_; rintro e w2 ⟨rfl, rfl⟩)
  all_goals
    go_ret
    refine ⟨?_, by repeat (first | exact bel | refine bset ?_)⟩
    first | (simp_all [goodF, u32B_zero]; done) | (simp_all [goodF, u32B_zero]; intros; omega)
set_option maxHeartbeats 8000000 in
theorem igood_7 (op a b v : Int) (l : List Int) (la : Option Addr) (lc : Nat) (w : World) (hf : formR (rowOf op) = 7) (hv : 0 ≤ v) : Calls Try.prog 71 #[inV ⟨op, a, b, v, l⟩ la lc] w fun e w' => e = .returned (.bool (goodF (7) ⟨op, a, b, v, l⟩)) ∧ Below w.heap.size w w' := by
  have hlz := len0 l
  have HF := Hid.mk' (iform_c op)
  rw [hf] at HF
  clear hf
  go_enter Try.func71, Try.ntmps71
  go_wp2_with fail
  go_region
  go_wp2_with fail
  refine (HF.out _).mono ?_
  rintro e w1 ⟨rfl, hb⟩
  obtain ⟨⟨⟨c0, c1, c2, c3, c4⟩, cf⟩, ⟨⟨d0, d1, d2, d3, d4⟩, df⟩, bel⟩ := boxes hb
  clear hb HF
  go_wp2
  all_goals
    go_ret
    refine ⟨?_, by repeat (first | exact bel | refine bset ?_)⟩
    first | (simp_all [goodF, u32B_zero]; done) | (simp_all [goodF, u32B_zero]; intros; omega)
set_option maxHeartbeats 8000000 in
theorem igood_9 (op a b v : Int) (l : List Int) (la : Option Addr) (lc : Nat) (w : World) (hf : formR (rowOf op) = 9) (hv : 0 ≤ v) : Calls Try.prog 71 #[inV ⟨op, a, b, v, l⟩ la lc] w fun e w' => e = .returned (.bool (goodF (9) ⟨op, a, b, v, l⟩)) ∧ Below w.heap.size w w' := by
  have hlz := len0 l
  have HF := Hid.mk' (iform_c op)
  rw [hf] at HF
  clear hf
  go_enter Try.func71, Try.ntmps71
  go_wp2_with fail
  go_region
  go_wp2_with fail
  refine (HF.out _).mono ?_
  rintro e w1 ⟨rfl, hb⟩
  obtain ⟨⟨⟨c0, c1, c2, c3, c4⟩, cf⟩, ⟨⟨d0, d1, d2, d3, d4⟩, df⟩, bel⟩ := boxes hb
  clear hb HF
  go_wp2
  all_goals
    go_ret
    refine ⟨?_, by repeat (first | exact bel | refine bset ?_)⟩
    first | (simp_all [goodF, u32B_zero]; done) | (simp_all [goodF, u32B_zero]; intros; omega)
end Go.Proofs.Yteaegmlnacnofaa
