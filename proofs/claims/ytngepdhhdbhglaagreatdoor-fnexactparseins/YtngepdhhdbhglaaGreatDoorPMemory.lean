import Derived.Test.YtngepdhhdbhglaaGreatDoorTab
set_option linter.all false
set_option linter.unusedVariables false
namespace Go.Proofs.YtngepdhhdbhglaaGreatDoor
open Go.RowKit
set_option maxRecDepth 100000
set_option maxHeartbeats 8000000 in
theorem opMemory_c (p : Nat) (w : World) (h1 : 40 ≤ p) (h2 : p < 69) :
    Calls Tryz.prog 71 #[.int .i64 p] w fun e w' => e = .returned (rowV (rowOf p)) ∧ Below w.heap.size w w' := by
  generalize hr : rowOf p = r
  have hR : R53[p]? = some r := by rw [← hr]; exact R53_at p h1 h2
  go_enter Tryz.func71, Tryz.ntmps71
  go_wp2_with fail
  rw [idxT Tryz.underlying117 R53 (p := p) (r := r) (hr := hR) (hp := h2)]
  case hv => kernel_rfl
  simp only [Result.andThen_ok]
  go_wp2
  exact bodyPost_ret (v := rowV r) (by simp [results, Tryz.results71, go_sem]) rfl ⟨rfl, by repeat (first | exact Below.refl _ _ | refine Below.setCell ?_ (by first | (simp; done) | (simp; omega)) _ | refine Below.alloc ?_ (by first | (simp; done) | (simp; omega)) _ | apply Below.drew)⟩
end Go.Proofs.YtngepdhhdbhglaaGreatDoor
