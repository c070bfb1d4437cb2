import Derived.Test.YteaegmlnacnofaaK8
set_option linter.all false
set_option linter.unusedVariables false
namespace Go.Proofs.Yteaegmlnacnofaa
open Go.RowKit Go.Sort
set_option maxRecDepth 100000
set_option maxHeartbeats 8000000 in
theorem igood_3 (op a b v : Int) (l : List Int) (la : Option Addr) (lc : Nat) (w : World) (hf : formR (rowOf op) = 3) (hv : 0 ≤ v) (hln : l.length ≤ 1099511627776) (hH : Has w la l) : Calls Try.prog 71 #[inV ⟨op, a, b, v, l⟩ la lc] w fun e w' => e = .returned (.bool (goodF (3) ⟨op, a, b, v, l⟩)) ∧ Below w.heap.size w w' := by
  have hlz := len0 l
  have HF := Hid.mk' (iform_c op)
  rw [hf] at HF
  clear hf
  go_enter Try.func71, Try.ntmps71
  go_wp2_with fail
  go_region
  go_wp2_with fail
  refine (HF.out _).mono ?_
  rintro e w1 ⟨rfl, hb⟩
  obtain ⟨⟨⟨c0, c1, c2, c3, c4⟩, cf⟩, ⟨⟨d0, d1, d2, d3, d4⟩, df⟩, bel⟩ := boxes hb
  clear hb HF
  have HL := Hid.mk' (allAre_c la lc l w1 hln (hH.keep bel))
  generalize hal : l.all u32B = al at HL
  have HAL := Hid.mk' hal
  clear hH hal
  go_wp2_with (first | (go_at_call 84; refine (iu32_c _ _).mono ?_; rintro e w2 ⟨rfl, rfl⟩) | (go_at_call 85; refine (HL.out).mono ?_; rintro e w2 ⟨rfl, rfl⟩))
  all_goals
    go_ret
    refine ⟨?_, by repeat (first | exact bel | refine bset ?_)⟩
    simp [goodF, HAL.out]
    try simp_all
end Go.Proofs.Yteaegmlnacnofaa
