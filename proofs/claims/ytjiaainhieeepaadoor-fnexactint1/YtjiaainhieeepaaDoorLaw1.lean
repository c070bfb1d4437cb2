import Derived.Test.YtjiaainhieeepaaDoorInt1
namespace Go.Proofs.YtjiaainhieeepaaDoor
open Go.RowKit

set_option maxHeartbeats 400000 in
theorem eqRes_any (K : Bool) (t v : Int) (w : World) :
    Calls Tryd.prog 7 #[RV K t v, RV K t v] w fun e w' => e = .returned (.bool true) ∧ Below w.heap.size w w' := by
  go_enter Tryd.func7, Tryd.ntmps7
  go_wp2
  all_goals (try go_quiet (fail))
  all_goals (try go_wp2)
  go_ret
  exact ⟨rfl, by repeat (first | exact Below.refl _ _ | apply Below.drew | (refine Below.alloc ?_ (by simp) _))⟩

set_option maxHeartbeats 1000000 in
theorem lawInt1 (op : Int) (A : Nat) (w : World) (hl : -9223372036854775808 ≤ op) (hr : op ≤ 9223372036854775807) (hA : A < 18446744073709551616) (hT : Tab0 w) (hz : 0 < w.heap.size) :
    Calls Tryd.prog 3 #[.int .i64 op, .int .u64 A] w fun e w' => e = .returned (.bool true) ∧ Below w.heap.size w w' := by
  obtain ⟨K, t, v, hG⟩ := agree1 op A hl hr hA
  have HI := Hid.mk' hG.1
  have HS := Hid.mk' hG.2
  have HT := Hid.mk' hT
  clear hG hT
  go_enter Tryd.func3, Tryd.ntmps3
  go_wp2_with fail
  refine (HS.out _).mono ?_
  rintro e w1 ⟨rfl, hb1⟩
  have HB1 := Hid.mk' hb1
  have hz1 := hb1.size
  clear hb1
  go_wp2_with fail
  refine (HI.out _ ?hTab ?hSize).mono ?_
  case hTab => exact HT.out.below (HB1.out.trans ((Below.refl _ _).alloc hz1 _)) hz
  case hSize => simp
  rintro e w2 ⟨rfl, hb2⟩
  have hb1 := HB1.out
  have hz2 := hb2.size
  simp at hz2
  have c0 : ∀ o, (w2.alloc o).cell? ⟨w1.heap.size, 0, none⟩ = some (.bool K) := fun o => by rw [World.cell?_alloc_past _ _ _ (by show w1.heap.size < _; omega), hb2.cell (p := ⟨w1.heap.size, 0, none⟩) (by simp)]; exact cell_new rfl rfl
  have c1 : ∀ o, (w2.alloc o).cell? ⟨w1.heap.size, 1, none⟩ = some (.int .i64 t) := fun o => by rw [World.cell?_alloc_past _ _ _ (by show w1.heap.size < _; omega), hb2.cell (p := ⟨w1.heap.size, 1, none⟩) (by simp)]; exact cell_new rfl rfl
  have c2 : ∀ o, (w2.alloc o).cell? ⟨w1.heap.size, 2, none⟩ = some (.int .u64 v) := fun o => by rw [World.cell?_alloc_past _ _ _ (by show w1.heap.size < _; omega), hb2.cell (p := ⟨w1.heap.size, 2, none⟩) (by simp)]; exact cell_new rfl rfl
  have hne : ¬ w1.heap.size = w2.heap.size := by omega
  have HB : Hid (Below w.heap.size w w2) := hb1.trans (Below.trans ((Below.refl _ _).alloc (Nat.le_refl _) _) (hb2.mono (by simp))|>.mono hz1)
  clear hb1 hb2 HI HS HT HB1
  go_wp2_with fail
  refine (eqRes_any K t v _).mono ?_
  rintro e w3 ⟨rfl, hb3⟩
  have HB3 := Hid.mk' hb3
  clear hb3
  go_wp2
  go_ret
  exact ⟨rfl, (HB.out.trans (Below.trans ((Below.refl _ _).alloc (Nat.le_refl _) _) (HB3.out.mono (by simp))|>.mono (by omega)))⟩
end Go.Proofs.YtjiaainhieeepaaDoor
