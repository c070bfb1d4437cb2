import Derived.Test.YtngepdhhdbhglaaGreatDoorF2
import Derived.Test.YtngepdhhdbhglaaGreatDoorPControl
import Derived.Test.YtngepdhhdbhglaaGreatDoorPMemory
import Derived.Test.YtngepdhhdbhglaaGreatDoorPTests
import Derived.Test.YtngepdhhdbhglaaGreatDoorPIntegers
import Derived.Test.YtngepdhhdbhglaaGreatDoorPFloats
import Derived.Test.YtngepdhhdbhglaaGreatDoorPConversions
set_option linter.all false
set_option linter.unusedVariables false
namespace Go.Proofs.YtngepdhhdbhglaaGreatDoor
open Go.RowKit
theorem up1 {w w1 : World} {o : Obj} (h : Below (w.alloc o).heap.size (w.alloc o) w1) : Below w.heap.size w w1 := Below.trans ((Below.refl _ _).alloc (Nat.le_refl _) _) (h.mono (by simp))
theorem up2 {w w1 : World} {o o' : Obj} (h : Below ((w.alloc o).alloc o').heap.size ((w.alloc o).alloc o') w1) : Below w.heap.size w w1 := up1 (up1 h)
theorem rowNew (w w1 : World) (r : Row) (t : TypeId) (h : Below (w.alloc (.cells (rowL r).toArray t)).heap.size (w.alloc (.cells (rowL r).toArray t)) w1) : Below w.heap.size w w1 ∧ w1.cell? ⟨w.heap.size, 0, none⟩ = some (.string r.nm) ∧ w1.cell? ⟨w.heap.size, 1, none⟩ = some (.int .i64 r.f) ∧ w1.cell? ⟨w.heap.size, 2, none⟩ = some (.int .i64 r.a) ∧ w1.cell? ⟨w.heap.size, 3, none⟩ = some (.int .i64 r.b) ∧ w1.cell? ⟨w.heap.size, 4, none⟩ = some (.int .i64 r.g) ∧ (∀ i, w1.frozen? ⟨w.heap.size, i, none⟩ = false) := by
  have hl : w.heap.size < (w.alloc (.cells (rowL r).toArray t)).heap.size := by simp
  refine ⟨up1 h, ?_, ?_, ?_, ?_, ?_, ?_⟩
  · rw [h.cell (p := ⟨w.heap.size, 0, none⟩) hl]; exact cell_new rfl rfl
  · rw [h.cell (p := ⟨w.heap.size, 1, none⟩) hl]; exact cell_new rfl rfl
  · rw [h.cell (p := ⟨w.heap.size, 2, none⟩) hl]; exact cell_new rfl rfl
  · rw [h.cell (p := ⟨w.heap.size, 3, none⟩) hl]; exact cell_new rfl rfl
  · rw [h.cell (p := ⟨w.heap.size, 4, none⟩) hl]; exact cell_new rfl rfl
  · intro i; rw [h.frozen (p := ⟨w.heap.size, i, none⟩) hl]; exact World.frozen?_alloc_new w _ t i
theorem set5 {w w1 : World} (v0 v1 v2 v3 v4 : Value) (b0 : Below w.heap.size w w1) : Below w.heap.size w (((((w1.setCell ⟨w.heap.size, 0, none⟩ v0).setCell ⟨w.heap.size, 1, none⟩ v1).setCell ⟨w.heap.size, 2, none⟩ v2).setCell ⟨w.heap.size, 3, none⟩ v3).setCell ⟨w.heap.size, 4, none⟩ v4) :=
  ((((b0.setCell (by simp) _).setCell (by simp) _).setCell (by simp) _).setCell (by simp) _).setCell (by simp) _
theorem find_o0 (p : Int) (w : World) (h2 : p ≤ -1) : Calls Tryz.prog 51 #[.int .i64 p] w fun e w' => e = .returned (rowV Z0) ∧ Below w.heap.size w w' := by
  have f1 : p < 0 := by omega
  have f2 : p < 192 := by omega
  have f3 : p < 40 := by omega
  have f4 : p < 69 := by omega
  have f5 : p < 103 := by omega
  have f6 : p < 139 := by omega
  have f7 : p < 167 := by omega
  go_enter Tryz.func51, Tryz.ntmps51
  go_wp2
  exact bodyPost_ret (v := rowV Z0) (by simp [results, Tryz.results51, go_sem, Z0]) rfl ⟨rfl, by repeat (first | exact Below.refl _ _ | assumption | refine Below.setCell ?_ (by first | (simp; done) | (simp; omega)) _ | refine Below.alloc ?_ (by first | (simp; done) | (simp; omega)) _ | apply Below.drew)⟩
theorem find_o1 (p : Int) (w : World) (h1 : 192 ≤ p) : Calls Tryz.prog 51 #[.int .i64 p] w fun e w' => e = .returned (rowV Z0) ∧ Below w.heap.size w w' := by
  have f1 : ¬ p < 0 := by omega
  have f2 : ¬ p < 192 := by omega
  have f3 : ¬ p < 40 := by omega
  have f4 : ¬ p < 69 := by omega
  have f5 : ¬ p < 103 := by omega
  have f6 : ¬ p < 139 := by omega
  have f7 : ¬ p < 167 := by omega
  go_enter Tryz.func51, Tryz.ntmps51
  go_wp2
  exact bodyPost_ret (v := rowV Z0) (by simp [results, Tryz.results51, go_sem, Z0]) rfl ⟨rfl, by repeat (first | exact Below.refl _ _ | assumption | refine Below.setCell ?_ (by first | (simp; done) | (simp; omega)) _ | refine Below.alloc ?_ (by first | (simp; done) | (simp; omega)) _ | apply Below.drew)⟩
theorem find_opControl (p : Nat) (w : World) (h1 : 0 ≤ p) (h2 : p ≤ 39) : Calls Tryz.prog 51 #[.int .i64 p] w fun e w' => e = .returned (rowV (rowOf p)) ∧ Below w.heap.size w w' := by
  have hc := Hid.mk' (opControl_c p (w.alloc (.cells (rowL Z0).toArray 94)) (by omega) (by omega))
  generalize hr : rowOf p = r at *
  generalize hq : (p : Int) = q at *
  have f1 : ¬ q < 0 := by omega
  have f2 : q < 192 := by omega
  have f3 : q < 40 := by omega
  have f4 : q < 69 := by omega
  have f5 : q < 103 := by omega
  have f6 : q < 139 := by omega
  have f7 : q < 167 := by omega
  go_enter Tryz.func51, Tryz.ntmps51
  go_wp2_with fail
  refine (hc.out).mono ?_
  rintro e w1 ⟨rfl, hb⟩
  obtain ⟨b0, c0, c1, c2, c3, c4, fz⟩ := rowNew w w1 Z0 94 hb
  go_wp2
  exact bodyPost_ret (v := rowV r) (by simp [results, Tryz.results51, go_sem, c0, c1, c2, c3, c4]) rfl ⟨rfl, set5 _ _ _ _ _ b0⟩
theorem find_opMemory (p : Nat) (w : World) (h1 : 40 ≤ p) (h2 : p ≤ 68) : Calls Tryz.prog 51 #[.int .i64 p] w fun e w' => e = .returned (rowV (rowOf p)) ∧ Below w.heap.size w w' := by
  have hc := Hid.mk' (opMemory_c p (w.alloc (.cells (rowL Z0).toArray 94)) (by omega) (by omega))
  generalize hr : rowOf p = r at *
  generalize hq : (p : Int) = q at *
  have f1 : ¬ q < 0 := by omega
  have f2 : q < 192 := by omega
  have f3 : ¬ q < 40 := by omega
  have f4 : q < 69 := by omega
  have f5 : q < 103 := by omega
  have f6 : q < 139 := by omega
  have f7 : q < 167 := by omega
  go_enter Tryz.func51, Tryz.ntmps51
  go_wp2_with fail
  refine (hc.out).mono ?_
  rintro e w1 ⟨rfl, hb⟩
  obtain ⟨b0, c0, c1, c2, c3, c4, fz⟩ := rowNew w w1 Z0 94 hb
  go_wp2
  exact bodyPost_ret (v := rowV r) (by simp [results, Tryz.results51, go_sem, c0, c1, c2, c3, c4]) rfl ⟨rfl, set5 _ _ _ _ _ b0⟩
theorem find_opTests (p : Nat) (w : World) (h1 : 69 ≤ p) (h2 : p ≤ 102) : Calls Tryz.prog 51 #[.int .i64 p] w fun e w' => e = .returned (rowV (rowOf p)) ∧ Below w.heap.size w w' := by
  have hc := Hid.mk' (opTests_c p (w.alloc (.cells (rowL Z0).toArray 94)) (by omega) (by omega))
  generalize hr : rowOf p = r at *
  generalize hq : (p : Int) = q at *
  have f1 : ¬ q < 0 := by omega
  have f2 : q < 192 := by omega
  have f3 : ¬ q < 40 := by omega
  have f4 : ¬ q < 69 := by omega
  have f5 : q < 103 := by omega
  have f6 : q < 139 := by omega
  have f7 : q < 167 := by omega
  go_enter Tryz.func51, Tryz.ntmps51
  go_wp2_with fail
  refine (hc.out).mono ?_
  rintro e w1 ⟨rfl, hb⟩
  obtain ⟨b0, c0, c1, c2, c3, c4, fz⟩ := rowNew w w1 Z0 94 hb
  go_wp2
  exact bodyPost_ret (v := rowV r) (by simp [results, Tryz.results51, go_sem, c0, c1, c2, c3, c4]) rfl ⟨rfl, set5 _ _ _ _ _ b0⟩
theorem find_opIntegers (p : Nat) (w : World) (h1 : 103 ≤ p) (h2 : p ≤ 138) : Calls Tryz.prog 51 #[.int .i64 p] w fun e w' => e = .returned (rowV (rowOf p)) ∧ Below w.heap.size w w' := by
  have hc := Hid.mk' (opIntegers_c p (w.alloc (.cells (rowL Z0).toArray 94)) (by omega) (by omega))
  generalize hr : rowOf p = r at *
  generalize hq : (p : Int) = q at *
  have f1 : ¬ q < 0 := by omega
  have f2 : q < 192 := by omega
  have f3 : ¬ q < 40 := by omega
  have f4 : ¬ q < 69 := by omega
  have f5 : ¬ q < 103 := by omega
  have f6 : q < 139 := by omega
  have f7 : q < 167 := by omega
  go_enter Tryz.func51, Tryz.ntmps51
  go_wp2_with fail
  refine (hc.out).mono ?_
  rintro e w1 ⟨rfl, hb⟩
  obtain ⟨b0, c0, c1, c2, c3, c4, fz⟩ := rowNew w w1 Z0 94 hb
  go_wp2
  exact bodyPost_ret (v := rowV r) (by simp [results, Tryz.results51, go_sem, c0, c1, c2, c3, c4]) rfl ⟨rfl, set5 _ _ _ _ _ b0⟩
theorem find_opFloats (p : Nat) (w : World) (h1 : 139 ≤ p) (h2 : p ≤ 166) : Calls Tryz.prog 51 #[.int .i64 p] w fun e w' => e = .returned (rowV (rowOf p)) ∧ Below w.heap.size w w' := by
  have hc := Hid.mk' (opFloats_c p (w.alloc (.cells (rowL Z0).toArray 94)) (by omega) (by omega))
  generalize hr : rowOf p = r at *
  generalize hq : (p : Int) = q at *
  have f1 : ¬ q < 0 := by omega
  have f2 : q < 192 := by omega
  have f3 : ¬ q < 40 := by omega
  have f4 : ¬ q < 69 := by omega
  have f5 : ¬ q < 103 := by omega
  have f6 : ¬ q < 139 := by omega
  have f7 : q < 167 := by omega
  go_enter Tryz.func51, Tryz.ntmps51
  go_wp2_with fail
  refine (hc.out).mono ?_
  rintro e w1 ⟨rfl, hb⟩
  obtain ⟨b0, c0, c1, c2, c3, c4, fz⟩ := rowNew w w1 Z0 94 hb
  go_wp2
  exact bodyPost_ret (v := rowV r) (by simp [results, Tryz.results51, go_sem, c0, c1, c2, c3, c4]) rfl ⟨rfl, set5 _ _ _ _ _ b0⟩
theorem find_opConversions (p : Nat) (w : World) (h1 : 167 ≤ p) (h2 : p ≤ 191) : Calls Tryz.prog 51 #[.int .i64 p] w fun e w' => e = .returned (rowV (rowOf p)) ∧ Below w.heap.size w w' := by
  have hc := Hid.mk' (opConversions_c p (w.alloc (.cells (rowL Z0).toArray 94)) (by omega) (by omega))
  generalize hr : rowOf p = r at *
  generalize hq : (p : Int) = q at *
  have f1 : ¬ q < 0 := by omega
  have f2 : q < 192 := by omega
  have f3 : ¬ q < 40 := by omega
  have f4 : ¬ q < 69 := by omega
  have f5 : ¬ q < 103 := by omega
  have f6 : ¬ q < 139 := by omega
  have f7 : ¬ q < 167 := by omega
  go_enter Tryz.func51, Tryz.ntmps51
  go_wp2_with fail
  refine (hc.out).mono ?_
  rintro e w1 ⟨rfl, hb⟩
  obtain ⟨b0, c0, c1, c2, c3, c4, fz⟩ := rowNew w w1 Z0 94 hb
  go_wp2
  exact bodyPost_ret (v := rowV r) (by simp [results, Tryz.results51, go_sem, c0, c1, c2, c3, c4]) rfl ⟨rfl, set5 _ _ _ _ _ b0⟩
theorem find_c (p : Int) (w : World) : Calls Tryz.prog 51 #[.int .i64 p] w fun e w' => e = .returned (rowV (rowOf p)) ∧ Below w.heap.size w w' := by
  by_cases h : 0 ≤ p ∧ p < 192
  · obtain ⟨n, rfl⟩ := Int.eq_ofNat_of_zero_le h.1
    have hc : (0 ≤ n ∧ n ≤ 39) ∨ (40 ≤ n ∧ n ≤ 68) ∨ (69 ≤ n ∧ n ≤ 102) ∨ (103 ≤ n ∧ n ≤ 138) ∨ (139 ≤ n ∧ n ≤ 166) ∨ (167 ≤ n ∧ n ≤ 191) := by omega
    rcases hc with h | h | h | h | h | h
    · exact find_opControl n w h.1 h.2
    · exact find_opMemory n w h.1 h.2
    · exact find_opTests n w h.1 h.2
    · exact find_opIntegers n w h.1 h.2
    · exact find_opFloats n w h.1 h.2
    · exact find_opConversions n w h.1 h.2
  · have e : rowOf p = Z0 := by simp only [rowOf, h, if_false]
    rw [e]
    rcases (by omega : p ≤ -1 ∨ 192 ≤ p) with h | h
    · exact find_o0 p w h
    · exact find_o1 p w h
end Go.Proofs.YtngepdhhdbhglaaGreatDoor
