import Derived.Test.YtjiaainhieeepaaAgree
namespace Go.Proofs.Ytjiaainhieeepaa
open Go.RowKit

set_option maxHeartbeats 400000 in
theorem eqRes_any (K : Bool) (t v : Int) (w : World) :
    Calls Try.prog 6 #[RV K t v, RV K t v] w fun e w' => e = .returned (.bool true) ∧ Below w.heap.size w w' := by
  go_enter Try.func6, Try.ntmps6
  go_wp2
  all_goals (try go_quiet (fail))
  all_goals (try go_wp2)
  go_ret
  exact ⟨rfl, by repeat (first | exact Below.refl _ _ | apply Below.drew | apply below_drewN | (refine Below.alloc ?_ (by simp) _))⟩

set_option maxHeartbeats 1000000 in
theorem lawInt2 (op a b : Int) (w : World) (hl : -9223372036854775808 ≤ op) (hr : op ≤ 9223372036854775807) (ha0 : 0 ≤ a) (ha : a ≤ 18446744073709551615) (hb0 : 0 ≤ b) (hb : b ≤ 18446744073709551615) :
    Calls Try.prog 3 #[.int .i64 op, .int .u64 a, .int .u64 b] w fun e w' => e = .returned (.bool true) ∧ Below w.heap.size w w' := by
  obtain ⟨K, t, v, hA⟩ := agree2 op a b hl hr ha0 ha hb0 hb
  have HI := Hid.mk' hA.1
  have HS := Hid.mk' hA.2
  clear hA
  go_enter Try.func3, Try.ntmps3
  go_wp2_with fail
  refine (HS.out _).mono ?_
  rintro e w1 ⟨rfl, hb1⟩
  go_wp2_with fail
  refine (HI.out _).mono ?_
  rintro e w2 ⟨rfl, hb2⟩
  have hz1 := hb1.size
  have hz2 := hb2.size
  simp at hz2
  have c0 : ∀ o, (w2.alloc o).cell? ⟨w1.heap.size, 0, none⟩ = some (.bool K) := fun o => by rw [World.cell?_alloc_past _ _ _ (by show w1.heap.size < _; omega), hb2.cell (p := ⟨w1.heap.size, 0, none⟩) (by simp)]; exact cell_new rfl rfl
  have c1 : ∀ o, (w2.alloc o).cell? ⟨w1.heap.size, 1, none⟩ = some (.int .i64 t) := fun o => by rw [World.cell?_alloc_past _ _ _ (by show w1.heap.size < _; omega), hb2.cell (p := ⟨w1.heap.size, 1, none⟩) (by simp)]; exact cell_new rfl rfl
  have c2 : ∀ o, (w2.alloc o).cell? ⟨w1.heap.size, 2, none⟩ = some (.int .u64 v) := fun o => by rw [World.cell?_alloc_past _ _ _ (by show w1.heap.size < _; omega), hb2.cell (p := ⟨w1.heap.size, 2, none⟩) (by simp)]; exact cell_new rfl rfl
  have hne : ¬ w1.heap.size = w2.heap.size := by omega
  have HB : Hid (Below w.heap.size w w2) := hb1.trans (Below.trans ((Below.refl _ _).alloc (Nat.le_refl _) _) (hb2.mono (by simp))|>.mono hz1)
  clear hb1 hb2 HI HS
  go_wp2_with fail
  refine (eqRes_any K t v _).mono ?_
  rintro e w3 ⟨rfl, hb3⟩
  have HB3 := Hid.mk' hb3
  clear hb3
  go_wp2
  go_ret
  exact ⟨rfl, (HB.out.trans (Below.trans ((Below.refl _ _).alloc (Nat.le_refl _) _) (HB3.out.mono (by simp))|>.mono (by omega)))⟩
end Go.Proofs.Ytjiaainhieeepaa
