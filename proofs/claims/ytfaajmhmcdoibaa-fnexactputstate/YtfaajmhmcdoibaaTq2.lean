import Derived.Test.YtfaajmhmcdoibaaTq1
set_option linter.all false
set_option linter.unusedVariables false
namespace Go.Proofs.Ytfaajmhmcdoibaa.NF
open Go.RowKit Go.Sort
set_option maxRecDepth 100000
theorem hb_of {W W' : World} {B : Nat} (h : Below B W W') (e : B = W.heap.size) : Below W.heap.size W W' := e ▸ h
theorem up_sets0 {B g : Nat} {w : World} (h : g + 2 < B) : Up B w w := fun k hk hl => by
  rfl
theorem up_set1_0 {B g : Nat} {w : World} (h : g + 1 < B) : Up B w w := fun k hk hl => by
  rfl
theorem up_sets1 {B g : Nat} {w : World} {v0 : Value} {o0 : Nat} (h : g + 2 < B) : Up B w (w.setCell ⟨g + 2, o0, none⟩ v0) := fun k hk hl => by
  rw [Below.heap_setCell _ _ _ _ (by show k ≠ g + 2; omega)]
theorem up_set1_1 {B g : Nat} {w : World} {v0 : Value} (h : g + 1 < B) : Up B w (w.setCell ⟨g + 1, 0, none⟩ v0) := fun k hk hl => by
  rw [Below.heap_setCell _ _ _ _ (by show k ≠ g + 1; omega)]
theorem up_sets2 {B g : Nat} {w : World} {v0 : Value} {o0 : Nat} {v1 : Value} {o1 : Nat} (h : g + 2 < B) : Up B w ((w.setCell ⟨g + 2, o0, none⟩ v0).setCell ⟨g + 2, o1, none⟩ v1) := fun k hk hl => by
  rw [Below.heap_setCell _ _ _ _ (by show k ≠ g + 2; omega), Below.heap_setCell _ _ _ _ (by show k ≠ g + 2; omega)]
theorem up_set1_2 {B g : Nat} {w : World} {v0 : Value} {v1 : Value} (h : g + 1 < B) : Up B w ((w.setCell ⟨g + 1, 0, none⟩ v0).setCell ⟨g + 1, 1, none⟩ v1) := fun k hk hl => by
  rw [Below.heap_setCell _ _ _ _ (by show k ≠ g + 1; omega), Below.heap_setCell _ _ _ _ (by show k ≠ g + 1; omega)]
theorem up_sets3 {B g : Nat} {w : World} {v0 : Value} {o0 : Nat} {v1 : Value} {o1 : Nat} {v2 : Value} {o2 : Nat} (h : g + 2 < B) : Up B w (((w.setCell ⟨g + 2, o0, none⟩ v0).setCell ⟨g + 2, o1, none⟩ v1).setCell ⟨g + 2, o2, none⟩ v2) := fun k hk hl => by
  rw [Below.heap_setCell _ _ _ _ (by show k ≠ g + 2; omega), Below.heap_setCell _ _ _ _ (by show k ≠ g + 2; omega), Below.heap_setCell _ _ _ _ (by show k ≠ g + 2; omega)]
theorem up_set1_3 {B g : Nat} {w : World} {v0 : Value} {v1 : Value} {v2 : Value} (h : g + 1 < B) : Up B w (((w.setCell ⟨g + 1, 0, none⟩ v0).setCell ⟨g + 1, 1, none⟩ v1).setCell ⟨g + 1, 2, none⟩ v2) := fun k hk hl => by
  rw [Below.heap_setCell _ _ _ _ (by show k ≠ g + 1; omega), Below.heap_setCell _ _ _ _ (by show k ≠ g + 1; omega), Below.heap_setCell _ _ _ _ (by show k ≠ g + 1; omega)]
theorem up_sets4 {B g : Nat} {w : World} {v0 : Value} {o0 : Nat} {v1 : Value} {o1 : Nat} {v2 : Value} {o2 : Nat} {v3 : Value} {o3 : Nat} (h : g + 2 < B) : Up B w ((((w.setCell ⟨g + 2, o0, none⟩ v0).setCell ⟨g + 2, o1, none⟩ v1).setCell ⟨g + 2, o2, none⟩ v2).setCell ⟨g + 2, o3, none⟩ v3) := fun k hk hl => by
  rw [Below.heap_setCell _ _ _ _ (by show k ≠ g + 2; omega), Below.heap_setCell _ _ _ _ (by show k ≠ g + 2; omega), Below.heap_setCell _ _ _ _ (by show k ≠ g + 2; omega), Below.heap_setCell _ _ _ _ (by show k ≠ g + 2; omega)]
theorem up_set1_4 {B g : Nat} {w : World} {v0 : Value} {v1 : Value} {v2 : Value} {v3 : Value} (h : g + 1 < B) : Up B w ((((w.setCell ⟨g + 1, 0, none⟩ v0).setCell ⟨g + 1, 1, none⟩ v1).setCell ⟨g + 1, 2, none⟩ v2).setCell ⟨g + 1, 3, none⟩ v3) := fun k hk hl => by
  rw [Below.heap_setCell _ _ _ _ (by show k ≠ g + 1; omega), Below.heap_setCell _ _ _ _ (by show k ≠ g + 1; omega), Below.heap_setCell _ _ _ _ (by show k ≠ g + 1; omega), Below.heap_setCell _ _ _ _ (by show k ≠ g + 1; omega)]
theorem up_sets5 {B g : Nat} {w : World} {v0 : Value} {o0 : Nat} {v1 : Value} {o1 : Nat} {v2 : Value} {o2 : Nat} {v3 : Value} {o3 : Nat} {v4 : Value} {o4 : Nat} (h : g + 2 < B) : Up B w (((((w.setCell ⟨g + 2, o0, none⟩ v0).setCell ⟨g + 2, o1, none⟩ v1).setCell ⟨g + 2, o2, none⟩ v2).setCell ⟨g + 2, o3, none⟩ v3).setCell ⟨g + 2, o4, none⟩ v4) := fun k hk hl => by
  rw [Below.heap_setCell _ _ _ _ (by show k ≠ g + 2; omega), Below.heap_setCell _ _ _ _ (by show k ≠ g + 2; omega), Below.heap_setCell _ _ _ _ (by show k ≠ g + 2; omega), Below.heap_setCell _ _ _ _ (by show k ≠ g + 2; omega), Below.heap_setCell _ _ _ _ (by show k ≠ g + 2; omega)]
theorem up_set1_5 {B g : Nat} {w : World} {v0 : Value} {v1 : Value} {v2 : Value} {v3 : Value} {v4 : Value} (h : g + 1 < B) : Up B w (((((w.setCell ⟨g + 1, 0, none⟩ v0).setCell ⟨g + 1, 1, none⟩ v1).setCell ⟨g + 1, 2, none⟩ v2).setCell ⟨g + 1, 3, none⟩ v3).setCell ⟨g + 1, 4, none⟩ v4) := fun k hk hl => by
  rw [Below.heap_setCell _ _ _ _ (by show k ≠ g + 1; omega), Below.heap_setCell _ _ _ _ (by show k ≠ g + 1; omega), Below.heap_setCell _ _ _ _ (by show k ≠ g + 1; omega), Below.heap_setCell _ _ _ _ (by show k ≠ g + 1; omega), Below.heap_setCell _ _ _ _ (by show k ≠ g + 1; omega)]
theorem up_sets6 {B g : Nat} {w : World} {v0 : Value} {o0 : Nat} {v1 : Value} {o1 : Nat} {v2 : Value} {o2 : Nat} {v3 : Value} {o3 : Nat} {v4 : Value} {o4 : Nat} {v5 : Value} {o5 : Nat} (h : g + 2 < B) : Up B w ((((((w.setCell ⟨g + 2, o0, none⟩ v0).setCell ⟨g + 2, o1, none⟩ v1).setCell ⟨g + 2, o2, none⟩ v2).setCell ⟨g + 2, o3, none⟩ v3).setCell ⟨g + 2, o4, none⟩ v4).setCell ⟨g + 2, o5, none⟩ v5) := fun k hk hl => by
  rw [Below.heap_setCell _ _ _ _ (by show k ≠ g + 2; omega), Below.heap_setCell _ _ _ _ (by show k ≠ g + 2; omega), Below.heap_setCell _ _ _ _ (by show k ≠ g + 2; omega), Below.heap_setCell _ _ _ _ (by show k ≠ g + 2; omega), Below.heap_setCell _ _ _ _ (by show k ≠ g + 2; omega), Below.heap_setCell _ _ _ _ (by show k ≠ g + 2; omega)]
theorem up_set1_6 {B g : Nat} {w : World} {v0 : Value} {v1 : Value} {v2 : Value} {v3 : Value} {v4 : Value} {v5 : Value} (h : g + 1 < B) : Up B w ((((((w.setCell ⟨g + 1, 0, none⟩ v0).setCell ⟨g + 1, 1, none⟩ v1).setCell ⟨g + 1, 2, none⟩ v2).setCell ⟨g + 1, 3, none⟩ v3).setCell ⟨g + 1, 4, none⟩ v4).setCell ⟨g + 1, 5, none⟩ v5) := fun k hk hl => by
  rw [Below.heap_setCell _ _ _ _ (by show k ≠ g + 1; omega), Below.heap_setCell _ _ _ _ (by show k ≠ g + 1; omega), Below.heap_setCell _ _ _ _ (by show k ≠ g + 1; omega), Below.heap_setCell _ _ _ _ (by show k ≠ g + 1; omega), Below.heap_setCell _ _ _ _ (by show k ≠ g + 1; omega), Below.heap_setCell _ _ _ _ (by show k ≠ g + 1; omega)]
theorem up_sets7 {B g : Nat} {w : World} {v0 : Value} {o0 : Nat} {v1 : Value} {o1 : Nat} {v2 : Value} {o2 : Nat} {v3 : Value} {o3 : Nat} {v4 : Value} {o4 : Nat} {v5 : Value} {o5 : Nat} {v6 : Value} {o6 : Nat} (h : g + 2 < B) : Up B w (((((((w.setCell ⟨g + 2, o0, none⟩ v0).setCell ⟨g + 2, o1, none⟩ v1).setCell ⟨g + 2, o2, none⟩ v2).setCell ⟨g + 2, o3, none⟩ v3).setCell ⟨g + 2, o4, none⟩ v4).setCell ⟨g + 2, o5, none⟩ v5).setCell ⟨g + 2, o6, none⟩ v6) := fun k hk hl => by
  rw [Below.heap_setCell _ _ _ _ (by show k ≠ g + 2; omega), Below.heap_setCell _ _ _ _ (by show k ≠ g + 2; omega), Below.heap_setCell _ _ _ _ (by show k ≠ g + 2; omega), Below.heap_setCell _ _ _ _ (by show k ≠ g + 2; omega), Below.heap_setCell _ _ _ _ (by show k ≠ g + 2; omega), Below.heap_setCell _ _ _ _ (by show k ≠ g + 2; omega), Below.heap_setCell _ _ _ _ (by show k ≠ g + 2; omega)]
theorem up_set1_7 {B g : Nat} {w : World} {v0 : Value} {v1 : Value} {v2 : Value} {v3 : Value} {v4 : Value} {v5 : Value} {v6 : Value} (h : g + 1 < B) : Up B w (((((((w.setCell ⟨g + 1, 0, none⟩ v0).setCell ⟨g + 1, 1, none⟩ v1).setCell ⟨g + 1, 2, none⟩ v2).setCell ⟨g + 1, 3, none⟩ v3).setCell ⟨g + 1, 4, none⟩ v4).setCell ⟨g + 1, 5, none⟩ v5).setCell ⟨g + 1, 6, none⟩ v6) := fun k hk hl => by
  rw [Below.heap_setCell _ _ _ _ (by show k ≠ g + 1; omega), Below.heap_setCell _ _ _ _ (by show k ≠ g + 1; omega), Below.heap_setCell _ _ _ _ (by show k ≠ g + 1; omega), Below.heap_setCell _ _ _ _ (by show k ≠ g + 1; omega), Below.heap_setCell _ _ _ _ (by show k ≠ g + 1; omega), Below.heap_setCell _ _ _ _ (by show k ≠ g + 1; omega), Below.heap_setCell _ _ _ _ (by show k ≠ g + 1; omega)]
theorem up_sets8 {B g : Nat} {w : World} {v0 : Value} {o0 : Nat} {v1 : Value} {o1 : Nat} {v2 : Value} {o2 : Nat} {v3 : Value} {o3 : Nat} {v4 : Value} {o4 : Nat} {v5 : Value} {o5 : Nat} {v6 : Value} {o6 : Nat} {v7 : Value} {o7 : Nat} (h : g + 2 < B) : Up B w ((((((((w.setCell ⟨g + 2, o0, none⟩ v0).setCell ⟨g + 2, o1, none⟩ v1).setCell ⟨g + 2, o2, none⟩ v2).setCell ⟨g + 2, o3, none⟩ v3).setCell ⟨g + 2, o4, none⟩ v4).setCell ⟨g + 2, o5, none⟩ v5).setCell ⟨g + 2, o6, none⟩ v6).setCell ⟨g + 2, o7, none⟩ v7) := fun k hk hl => by
  rw [Below.heap_setCell _ _ _ _ (by show k ≠ g + 2; omega), Below.heap_setCell _ _ _ _ (by show k ≠ g + 2; omega), Below.heap_setCell _ _ _ _ (by show k ≠ g + 2; omega), Below.heap_setCell _ _ _ _ (by show k ≠ g + 2; omega), Below.heap_setCell _ _ _ _ (by show k ≠ g + 2; omega), Below.heap_setCell _ _ _ _ (by show k ≠ g + 2; omega), Below.heap_setCell _ _ _ _ (by show k ≠ g + 2; omega), Below.heap_setCell _ _ _ _ (by show k ≠ g + 2; omega)]
theorem up_set1_8 {B g : Nat} {w : World} {v0 : Value} {v1 : Value} {v2 : Value} {v3 : Value} {v4 : Value} {v5 : Value} {v6 : Value} {v7 : Value} (h : g + 1 < B) : Up B w ((((((((w.setCell ⟨g + 1, 0, none⟩ v0).setCell ⟨g + 1, 1, none⟩ v1).setCell ⟨g + 1, 2, none⟩ v2).setCell ⟨g + 1, 3, none⟩ v3).setCell ⟨g + 1, 4, none⟩ v4).setCell ⟨g + 1, 5, none⟩ v5).setCell ⟨g + 1, 6, none⟩ v6).setCell ⟨g + 1, 7, none⟩ v7) := fun k hk hl => by
  rw [Below.heap_setCell _ _ _ _ (by show k ≠ g + 1; omega), Below.heap_setCell _ _ _ _ (by show k ≠ g + 1; omega), Below.heap_setCell _ _ _ _ (by show k ≠ g + 1; omega), Below.heap_setCell _ _ _ _ (by show k ≠ g + 1; omega), Below.heap_setCell _ _ _ _ (by show k ≠ g + 1; omega), Below.heap_setCell _ _ _ _ (by show k ≠ g + 1; omega), Below.heap_setCell _ _ _ _ (by show k ≠ g + 1; omega), Below.heap_setCell _ _ _ _ (by show k ≠ g + 1; omega)]
theorem up_sets9 {B g : Nat} {w : World} {v0 : Value} {o0 : Nat} {v1 : Value} {o1 : Nat} {v2 : Value} {o2 : Nat} {v3 : Value} {o3 : Nat} {v4 : Value} {o4 : Nat} {v5 : Value} {o5 : Nat} {v6 : Value} {o6 : Nat} {v7 : Value} {o7 : Nat} {v8 : Value} {o8 : Nat} (h : g + 2 < B) : Up B w (((((((((w.setCell ⟨g + 2, o0, none⟩ v0).setCell ⟨g + 2, o1, none⟩ v1).setCell ⟨g + 2, o2, none⟩ v2).setCell ⟨g + 2, o3, none⟩ v3).setCell ⟨g + 2, o4, none⟩ v4).setCell ⟨g + 2, o5, none⟩ v5).setCell ⟨g + 2, o6, none⟩ v6).setCell ⟨g + 2, o7, none⟩ v7).setCell ⟨g + 2, o8, none⟩ v8) := fun k hk hl => by
  rw [Below.heap_setCell _ _ _ _ (by show k ≠ g + 2; omega), Below.heap_setCell _ _ _ _ (by show k ≠ g + 2; omega), Below.heap_setCell _ _ _ _ (by show k ≠ g + 2; omega), Below.heap_setCell _ _ _ _ (by show k ≠ g + 2; omega), Below.heap_setCell _ _ _ _ (by show k ≠ g + 2; omega), Below.heap_setCell _ _ _ _ (by show k ≠ g + 2; omega), Below.heap_setCell _ _ _ _ (by show k ≠ g + 2; omega), Below.heap_setCell _ _ _ _ (by show k ≠ g + 2; omega), Below.heap_setCell _ _ _ _ (by show k ≠ g + 2; omega)]
theorem up_set1_9 {B g : Nat} {w : World} {v0 : Value} {v1 : Value} {v2 : Value} {v3 : Value} {v4 : Value} {v5 : Value} {v6 : Value} {v7 : Value} {v8 : Value} (h : g + 1 < B) : Up B w (((((((((w.setCell ⟨g + 1, 0, none⟩ v0).setCell ⟨g + 1, 1, none⟩ v1).setCell ⟨g + 1, 2, none⟩ v2).setCell ⟨g + 1, 3, none⟩ v3).setCell ⟨g + 1, 4, none⟩ v4).setCell ⟨g + 1, 5, none⟩ v5).setCell ⟨g + 1, 6, none⟩ v6).setCell ⟨g + 1, 7, none⟩ v7).setCell ⟨g + 1, 8, none⟩ v8) := fun k hk hl => by
  rw [Below.heap_setCell _ _ _ _ (by show k ≠ g + 1; omega), Below.heap_setCell _ _ _ _ (by show k ≠ g + 1; omega), Below.heap_setCell _ _ _ _ (by show k ≠ g + 1; omega), Below.heap_setCell _ _ _ _ (by show k ≠ g + 1; omega), Below.heap_setCell _ _ _ _ (by show k ≠ g + 1; omega), Below.heap_setCell _ _ _ _ (by show k ≠ g + 1; omega), Below.heap_setCell _ _ _ _ (by show k ≠ g + 1; omega), Below.heap_setCell _ _ _ _ (by show k ≠ g + 1; omega), Below.heap_setCell _ _ _ _ (by show k ≠ g + 1; omega)]
theorem up_sets10 {B g : Nat} {w : World} {v0 : Value} {o0 : Nat} {v1 : Value} {o1 : Nat} {v2 : Value} {o2 : Nat} {v3 : Value} {o3 : Nat} {v4 : Value} {o4 : Nat} {v5 : Value} {o5 : Nat} {v6 : Value} {o6 : Nat} {v7 : Value} {o7 : Nat} {v8 : Value} {o8 : Nat} {v9 : Value} {o9 : Nat} (h : g + 2 < B) : Up B w ((((((((((w.setCell ⟨g + 2, o0, none⟩ v0).setCell ⟨g + 2, o1, none⟩ v1).setCell ⟨g + 2, o2, none⟩ v2).setCell ⟨g + 2, o3, none⟩ v3).setCell ⟨g + 2, o4, none⟩ v4).setCell ⟨g + 2, o5, none⟩ v5).setCell ⟨g + 2, o6, none⟩ v6).setCell ⟨g + 2, o7, none⟩ v7).setCell ⟨g + 2, o8, none⟩ v8).setCell ⟨g + 2, o9, none⟩ v9) := fun k hk hl => by
  rw [Below.heap_setCell _ _ _ _ (by show k ≠ g + 2; omega), Below.heap_setCell _ _ _ _ (by show k ≠ g + 2; omega), Below.heap_setCell _ _ _ _ (by show k ≠ g + 2; omega), Below.heap_setCell _ _ _ _ (by show k ≠ g + 2; omega), Below.heap_setCell _ _ _ _ (by show k ≠ g + 2; omega), Below.heap_setCell _ _ _ _ (by show k ≠ g + 2; omega), Below.heap_setCell _ _ _ _ (by show k ≠ g + 2; omega), Below.heap_setCell _ _ _ _ (by show k ≠ g + 2; omega), Below.heap_setCell _ _ _ _ (by show k ≠ g + 2; omega), Below.heap_setCell _ _ _ _ (by show k ≠ g + 2; omega)]
theorem up_set1_10 {B g : Nat} {w : World} {v0 : Value} {v1 : Value} {v2 : Value} {v3 : Value} {v4 : Value} {v5 : Value} {v6 : Value} {v7 : Value} {v8 : Value} {v9 : Value} (h : g + 1 < B) : Up B w ((((((((((w.setCell ⟨g + 1, 0, none⟩ v0).setCell ⟨g + 1, 1, none⟩ v1).setCell ⟨g + 1, 2, none⟩ v2).setCell ⟨g + 1, 3, none⟩ v3).setCell ⟨g + 1, 4, none⟩ v4).setCell ⟨g + 1, 5, none⟩ v5).setCell ⟨g + 1, 6, none⟩ v6).setCell ⟨g + 1, 7, none⟩ v7).setCell ⟨g + 1, 8, none⟩ v8).setCell ⟨g + 1, 9, none⟩ v9) := fun k hk hl => by
  rw [Below.heap_setCell _ _ _ _ (by show k ≠ g + 1; omega), Below.heap_setCell _ _ _ _ (by show k ≠ g + 1; omega), Below.heap_setCell _ _ _ _ (by show k ≠ g + 1; omega), Below.heap_setCell _ _ _ _ (by show k ≠ g + 1; omega), Below.heap_setCell _ _ _ _ (by show k ≠ g + 1; omega), Below.heap_setCell _ _ _ _ (by show k ≠ g + 1; omega), Below.heap_setCell _ _ _ _ (by show k ≠ g + 1; omega), Below.heap_setCell _ _ _ _ (by show k ≠ g + 1; omega), Below.heap_setCell _ _ _ _ (by show k ≠ g + 1; omega), Below.heap_setCell _ _ _ _ (by show k ≠ g + 1; omega)]
theorem up_sets11 {B g : Nat} {w : World} {v0 : Value} {o0 : Nat} {v1 : Value} {o1 : Nat} {v2 : Value} {o2 : Nat} {v3 : Value} {o3 : Nat} {v4 : Value} {o4 : Nat} {v5 : Value} {o5 : Nat} {v6 : Value} {o6 : Nat} {v7 : Value} {o7 : Nat} {v8 : Value} {o8 : Nat} {v9 : Value} {o9 : Nat} {v10 : Value} {o10 : Nat} (h : g + 2 < B) : Up B w (((((((((((w.setCell ⟨g + 2, o0, none⟩ v0).setCell ⟨g + 2, o1, none⟩ v1).setCell ⟨g + 2, o2, none⟩ v2).setCell ⟨g + 2, o3, none⟩ v3).setCell ⟨g + 2, o4, none⟩ v4).setCell ⟨g + 2, o5, none⟩ v5).setCell ⟨g + 2, o6, none⟩ v6).setCell ⟨g + 2, o7, none⟩ v7).setCell ⟨g + 2, o8, none⟩ v8).setCell ⟨g + 2, o9, none⟩ v9).setCell ⟨g + 2, o10, none⟩ v10) := fun k hk hl => by
  rw [Below.heap_setCell _ _ _ _ (by show k ≠ g + 2; omega), Below.heap_setCell _ _ _ _ (by show k ≠ g + 2; omega), Below.heap_setCell _ _ _ _ (by show k ≠ g + 2; omega), Below.heap_setCell _ _ _ _ (by show k ≠ g + 2; omega), Below.heap_setCell _ _ _ _ (by show k ≠ g + 2; omega), Below.heap_setCell _ _ _ _ (by show k ≠ g + 2; omega), Below.heap_setCell _ _ _ _ (by show k ≠ g + 2; omega), Below.heap_setCell _ _ _ _ (by show k ≠ g + 2; omega), Below.heap_setCell _ _ _ _ (by show k ≠ g + 2; omega), Below.heap_setCell _ _ _ _ (by show k ≠ g + 2; omega), Below.heap_setCell _ _ _ _ (by show k ≠ g + 2; omega)]
theorem up_set1_11 {B g : Nat} {w : World} {v0 : Value} {v1 : Value} {v2 : Value} {v3 : Value} {v4 : Value} {v5 : Value} {v6 : Value} {v7 : Value} {v8 : Value} {v9 : Value} {v10 : Value} (h : g + 1 < B) : Up B w (((((((((((w.setCell ⟨g + 1, 0, none⟩ v0).setCell ⟨g + 1, 1, none⟩ v1).setCell ⟨g + 1, 2, none⟩ v2).setCell ⟨g + 1, 3, none⟩ v3).setCell ⟨g + 1, 4, none⟩ v4).setCell ⟨g + 1, 5, none⟩ v5).setCell ⟨g + 1, 6, none⟩ v6).setCell ⟨g + 1, 7, none⟩ v7).setCell ⟨g + 1, 8, none⟩ v8).setCell ⟨g + 1, 9, none⟩ v9).setCell ⟨g + 1, 10, none⟩ v10) := fun k hk hl => by
  rw [Below.heap_setCell _ _ _ _ (by show k ≠ g + 1; omega), Below.heap_setCell _ _ _ _ (by show k ≠ g + 1; omega), Below.heap_setCell _ _ _ _ (by show k ≠ g + 1; omega), Below.heap_setCell _ _ _ _ (by show k ≠ g + 1; omega), Below.heap_setCell _ _ _ _ (by show k ≠ g + 1; omega), Below.heap_setCell _ _ _ _ (by show k ≠ g + 1; omega), Below.heap_setCell _ _ _ _ (by show k ≠ g + 1; omega), Below.heap_setCell _ _ _ _ (by show k ≠ g + 1; omega), Below.heap_setCell _ _ _ _ (by show k ≠ g + 1; omega), Below.heap_setCell _ _ _ _ (by show k ≠ g + 1; omega), Below.heap_setCell _ _ _ _ (by show k ≠ g + 1; omega)]
theorem up_sets12 {B g : Nat} {w : World} {v0 : Value} {o0 : Nat} {v1 : Value} {o1 : Nat} {v2 : Value} {o2 : Nat} {v3 : Value} {o3 : Nat} {v4 : Value} {o4 : Nat} {v5 : Value} {o5 : Nat} {v6 : Value} {o6 : Nat} {v7 : Value} {o7 : Nat} {v8 : Value} {o8 : Nat} {v9 : Value} {o9 : Nat} {v10 : Value} {o10 : Nat} {v11 : Value} {o11 : Nat} (h : g + 2 < B) : Up B w ((((((((((((w.setCell ⟨g + 2, o0, none⟩ v0).setCell ⟨g + 2, o1, none⟩ v1).setCell ⟨g + 2, o2, none⟩ v2).setCell ⟨g + 2, o3, none⟩ v3).setCell ⟨g + 2, o4, none⟩ v4).setCell ⟨g + 2, o5, none⟩ v5).setCell ⟨g + 2, o6, none⟩ v6).setCell ⟨g + 2, o7, none⟩ v7).setCell ⟨g + 2, o8, none⟩ v8).setCell ⟨g + 2, o9, none⟩ v9).setCell ⟨g + 2, o10, none⟩ v10).setCell ⟨g + 2, o11, none⟩ v11) := fun k hk hl => by
  rw [Below.heap_setCell _ _ _ _ (by show k ≠ g + 2; omega), Below.heap_setCell _ _ _ _ (by show k ≠ g + 2; omega), Below.heap_setCell _ _ _ _ (by show k ≠ g + 2; omega), Below.heap_setCell _ _ _ _ (by show k ≠ g + 2; omega), Below.heap_setCell _ _ _ _ (by show k ≠ g + 2; omega), Below.heap_setCell _ _ _ _ (by show k ≠ g + 2; omega), Below.heap_setCell _ _ _ _ (by show k ≠ g + 2; omega), Below.heap_setCell _ _ _ _ (by show k ≠ g + 2; omega), Below.heap_setCell _ _ _ _ (by show k ≠ g + 2; omega), Below.heap_setCell _ _ _ _ (by show k ≠ g + 2; omega), Below.heap_setCell _ _ _ _ (by show k ≠ g + 2; omega), Below.heap_setCell _ _ _ _ (by show k ≠ g + 2; omega)]
theorem up_set1_12 {B g : Nat} {w : World} {v0 : Value} {v1 : Value} {v2 : Value} {v3 : Value} {v4 : Value} {v5 : Value} {v6 : Value} {v7 : Value} {v8 : Value} {v9 : Value} {v10 : Value} {v11 : Value} (h : g + 1 < B) : Up B w ((((((((((((w.setCell ⟨g + 1, 0, none⟩ v0).setCell ⟨g + 1, 1, none⟩ v1).setCell ⟨g + 1, 2, none⟩ v2).setCell ⟨g + 1, 3, none⟩ v3).setCell ⟨g + 1, 4, none⟩ v4).setCell ⟨g + 1, 5, none⟩ v5).setCell ⟨g + 1, 6, none⟩ v6).setCell ⟨g + 1, 7, none⟩ v7).setCell ⟨g + 1, 8, none⟩ v8).setCell ⟨g + 1, 9, none⟩ v9).setCell ⟨g + 1, 10, none⟩ v10).setCell ⟨g + 1, 11, none⟩ v11) := fun k hk hl => by
  rw [Below.heap_setCell _ _ _ _ (by show k ≠ g + 1; omega), Below.heap_setCell _ _ _ _ (by show k ≠ g + 1; omega), Below.heap_setCell _ _ _ _ (by show k ≠ g + 1; omega), Below.heap_setCell _ _ _ _ (by show k ≠ g + 1; omega), Below.heap_setCell _ _ _ _ (by show k ≠ g + 1; omega), Below.heap_setCell _ _ _ _ (by show k ≠ g + 1; omega), Below.heap_setCell _ _ _ _ (by show k ≠ g + 1; omega), Below.heap_setCell _ _ _ _ (by show k ≠ g + 1; omega), Below.heap_setCell _ _ _ _ (by show k ≠ g + 1; omega), Below.heap_setCell _ _ _ _ (by show k ≠ g + 1; omega), Below.heap_setCell _ _ _ _ (by show k ≠ g + 1; omega), Below.heap_setCell _ _ _ _ (by show k ≠ g + 1; omega)]
theorem up_sets13 {B g : Nat} {w : World} {v0 : Value} {o0 : Nat} {v1 : Value} {o1 : Nat} {v2 : Value} {o2 : Nat} {v3 : Value} {o3 : Nat} {v4 : Value} {o4 : Nat} {v5 : Value} {o5 : Nat} {v6 : Value} {o6 : Nat} {v7 : Value} {o7 : Nat} {v8 : Value} {o8 : Nat} {v9 : Value} {o9 : Nat} {v10 : Value} {o10 : Nat} {v11 : Value} {o11 : Nat} {v12 : Value} {o12 : Nat} (h : g + 2 < B) : Up B w (((((((((((((w.setCell ⟨g + 2, o0, none⟩ v0).setCell ⟨g + 2, o1, none⟩ v1).setCell ⟨g + 2, o2, none⟩ v2).setCell ⟨g + 2, o3, none⟩ v3).setCell ⟨g + 2, o4, none⟩ v4).setCell ⟨g + 2, o5, none⟩ v5).setCell ⟨g + 2, o6, none⟩ v6).setCell ⟨g + 2, o7, none⟩ v7).setCell ⟨g + 2, o8, none⟩ v8).setCell ⟨g + 2, o9, none⟩ v9).setCell ⟨g + 2, o10, none⟩ v10).setCell ⟨g + 2, o11, none⟩ v11).setCell ⟨g + 2, o12, none⟩ v12) := fun k hk hl => by
  rw [Below.heap_setCell _ _ _ _ (by show k ≠ g + 2; omega), Below.heap_setCell _ _ _ _ (by show k ≠ g + 2; omega), Below.heap_setCell _ _ _ _ (by show k ≠ g + 2; omega), Below.heap_setCell _ _ _ _ (by show k ≠ g + 2; omega), Below.heap_setCell _ _ _ _ (by show k ≠ g + 2; omega), Below.heap_setCell _ _ _ _ (by show k ≠ g + 2; omega), Below.heap_setCell _ _ _ _ (by show k ≠ g + 2; omega), Below.heap_setCell _ _ _ _ (by show k ≠ g + 2; omega), Below.heap_setCell _ _ _ _ (by show k ≠ g + 2; omega), Below.heap_setCell _ _ _ _ (by show k ≠ g + 2; omega), Below.heap_setCell _ _ _ _ (by show k ≠ g + 2; omega), Below.heap_setCell _ _ _ _ (by show k ≠ g + 2; omega), Below.heap_setCell _ _ _ _ (by show k ≠ g + 2; omega)]
theorem up_set1_13 {B g : Nat} {w : World} {v0 : Value} {v1 : Value} {v2 : Value} {v3 : Value} {v4 : Value} {v5 : Value} {v6 : Value} {v7 : Value} {v8 : Value} {v9 : Value} {v10 : Value} {v11 : Value} {v12 : Value} (h : g + 1 < B) : Up B w (((((((((((((w.setCell ⟨g + 1, 0, none⟩ v0).setCell ⟨g + 1, 1, none⟩ v1).setCell ⟨g + 1, 2, none⟩ v2).setCell ⟨g + 1, 3, none⟩ v3).setCell ⟨g + 1, 4, none⟩ v4).setCell ⟨g + 1, 5, none⟩ v5).setCell ⟨g + 1, 6, none⟩ v6).setCell ⟨g + 1, 7, none⟩ v7).setCell ⟨g + 1, 8, none⟩ v8).setCell ⟨g + 1, 9, none⟩ v9).setCell ⟨g + 1, 10, none⟩ v10).setCell ⟨g + 1, 11, none⟩ v11).setCell ⟨g + 1, 12, none⟩ v12) := fun k hk hl => by
  rw [Below.heap_setCell _ _ _ _ (by show k ≠ g + 1; omega), Below.heap_setCell _ _ _ _ (by show k ≠ g + 1; omega), Below.heap_setCell _ _ _ _ (by show k ≠ g + 1; omega), Below.heap_setCell _ _ _ _ (by show k ≠ g + 1; omega), Below.heap_setCell _ _ _ _ (by show k ≠ g + 1; omega), Below.heap_setCell _ _ _ _ (by show k ≠ g + 1; omega), Below.heap_setCell _ _ _ _ (by show k ≠ g + 1; omega), Below.heap_setCell _ _ _ _ (by show k ≠ g + 1; omega), Below.heap_setCell _ _ _ _ (by show k ≠ g + 1; omega), Below.heap_setCell _ _ _ _ (by show k ≠ g + 1; omega), Below.heap_setCell _ _ _ _ (by show k ≠ g + 1; omega), Below.heap_setCell _ _ _ _ (by show k ≠ g + 1; omega), Below.heap_setCell _ _ _ _ (by show k ≠ g + 1; omega)]
set_option maxHeartbeats 8000000 in
theorem rtLab_c (x : Lab) (w : World) (hI : Lab.Is 0 w x) (hl : Lab.LB 1048576 x) :
    Calls Try.prog 58 #[.agg #[.int .i64 x.pc, .int .i64 x.ar, .int .i64 x.ht, .bool x.lp]] w fun e w' => e = .returned (.agg #[.int .i64 x.pc, .int .i64 x.ar, .int .i64 x.ht, .bool x.lp]) ∧ Lab.Is w.heap.size w' x ∧ Below w.heap.size w w' := by
  have T0 := Hid.mk' (three w [.int .i64 x.pc, .int .i64 x.ar, .int .i64 x.ht, .bool x.lp] [.int .i64 0, .int .i64 0, .int .i64 0, .bool false] [.int .i64 0, .int .i64 0, .int .i64 0, .bool false] 115 56 56)
  go_enter Try.func58, Try.ntmps58
  go_upto_region 2 with fail
  refine wp_gen (fun W => Bk W w.heap.size [.int .i64 x.pc, .int .i64 x.ar, .int .i64 x.ht, .bool x.lp] ∧ Bk W (w.heap.size + 1) [.int .i64 0, .int .i64 0, .int .i64 0, .bool false] ∧ Bk W (w.heap.size + 2) [.int .i64 0, .int .i64 0, .int .i64 0, .bool false] ∧ Below w.heap.size w W) T0.out ?_
  rintro W ⟨bb, br, bo, hb⟩
  clear T0
  have e1 : w.heap.size ≠ w.heap.size + 1 := by omega
  have e2 : w.heap.size ≠ w.heap.size + 2 := by omega
  have e3 : w.heap.size + 1 ≠ w.heap.size + 2 := by omega
  have e4 : w.heap.size + 2 ≠ w.heap.size + 1 := by omega
  have q0 : W.cell? ⟨w.heap.size, 0, none⟩ = some (.int .i64 x.pc) := bb.2.1 0 _ rfl
  have o0 : W.cell? ⟨w.heap.size + 2, 0, none⟩ = some (.int .i64 0) := bo.2.1 0 _ rfl
  have s0 : W.cell? ⟨w.heap.size + 1, 0, none⟩ = some (.int .i64 0) := br.2.1 0 _ rfl
  have q1 : W.cell? ⟨w.heap.size, 1, none⟩ = some (.int .i64 x.ar) := bb.2.1 1 _ rfl
  have o1 : W.cell? ⟨w.heap.size + 2, 1, none⟩ = some (.int .i64 0) := bo.2.1 1 _ rfl
  have s1 : W.cell? ⟨w.heap.size + 1, 1, none⟩ = some (.int .i64 0) := br.2.1 1 _ rfl
  have q2 : W.cell? ⟨w.heap.size, 2, none⟩ = some (.int .i64 x.ht) := bb.2.1 2 _ rfl
  have o2 : W.cell? ⟨w.heap.size + 2, 2, none⟩ = some (.int .i64 0) := bo.2.1 2 _ rfl
  have s2 : W.cell? ⟨w.heap.size + 1, 2, none⟩ = some (.int .i64 0) := br.2.1 2 _ rfl
  have q3 : W.cell? ⟨w.heap.size, 3, none⟩ = some (.bool x.lp) := bb.2.1 3 _ rfl
  have o3 : W.cell? ⟨w.heap.size + 2, 3, none⟩ = some (.bool false) := bo.2.1 3 _ rfl
  have s3 : W.cell? ⟨w.heap.size + 1, 3, none⟩ = some (.bool false) := br.2.1 3 _ rfl
  have fo := bo.2.2
  have fr := br.2.2
  have HB := Hid.mk' hb
  clear hb bb br bo
  go_wp2
  exact bodyPost_ret (v := .agg #[.int .i64 x.pc, .int .i64 x.ar, .int .i64 x.ht, .bool x.lp]) (by simp [results, Try.results58, go_sem, s0, s1, s2, s3, e3, e4]) rfl ⟨rfl, trivial, ((((((((HB.out.setCell (by show w.heap.size ≤ w.heap.size + 2; omega) _).setCell (by show w.heap.size ≤ w.heap.size + 2; omega) _).setCell (by show w.heap.size ≤ w.heap.size + 2; omega) _).setCell (by show w.heap.size ≤ w.heap.size + 2; omega) _).setCell (by show w.heap.size ≤ w.heap.size + 1; omega) _).setCell (by show w.heap.size ≤ w.heap.size + 1; omega) _).setCell (by show w.heap.size ≤ w.heap.size + 1; omega) _).setCell (by show w.heap.size ≤ w.heap.size + 1; omega) _)⟩
theorem Try.infoLab : (Try.prog.info? 56).map (fun i => (i.zero, i.size, i.bytes)) = some (some (.agg #[.int .i64 0, .int .i64 0, .int .i64 0, .bool false]), 4, 32) := by kernel_rfl
theorem makeLab (n : Nat) (hn : n ≤ 1048576) (w : World) : (Instr.makeSlice 52 (.int .i64 (n : Int)) (.int .i64 (n : Int))).run Try.prog w = .ok (.slice (some ⟨w.heap.size, 0, none⟩) n n) (w.alloc (.cells (madeCells #[.int .i64 0, .int .i64 0, .int .i64 0, .bool false] (n * 4)) 56)) := by
  obtain ⟨i, hi, hzz⟩ := Option.map_eq_some_iff.1 Try.infoLab
  simp only [Prod.mk.injEq] at hzz
  obtain ⟨hz, hs, hb⟩ := hzz
  have := run_make (P := Try.prog) w 52 56 i _ Try.underlying52 hi hz .i64 .i64 n n (by omega) (by omega) (by rw [hb]; omega) (by omega)
  rw [hs] at this
  simpa [Value.cells] using this
structure CpLab (w : World) (g n k : Nat) (xs : List Lab) (W : World) : Prop where
  blk : ∃ cur, W.heap[g]? = some (.cells cur 56 (0, 0)) ∧ cur.size = n * 4
  done : ∀ i, i < k → (W.cell? ⟨g, i * 4, none⟩ = some (.int .i64 (xs.getD i Lab.z).pc) ∧ W.cell? ⟨g, i * 4 + 1, none⟩ = some (.int .i64 (xs.getD i Lab.z).ar) ∧ W.cell? ⟨g, i * 4 + 2, none⟩ = some (.int .i64 (xs.getD i Lab.z).ht) ∧ W.cell? ⟨g, i * 4 + 3, none⟩ = some (.bool (xs.getD i Lab.z).lp)) ∧ Lab.Is (g + 1) W (xs.getD i Lab.z)
  bel : Below w.heap.size w W
  ge : w.heap.size ≤ g
theorem CpLab.cells {w W : World} {g n k : Nat} {xs : List Lab} (h : CpLab w g n k xs W) : g < W.heap.size ∧ (∀ j, j < n * 4 → ∃ u, W.cell? ⟨g, j, none⟩ = some u) ∧ ∀ j, W.frozen? ⟨g, j, none⟩ = false := by
  obtain ⟨cur, e, hc⟩ := h.blk
  have hl : g < W.heap.size := by
    rcases Nat.lt_or_ge g W.heap.size with h' | h'
    · exact h'
    · rw [Array.getElem?_eq_none h'] at e; cases e
  refine ⟨hl, fun j hj => ?_, fun j => ?_⟩
  · simp only [World.cell?, e]
    exact ⟨cur[j]'(by omega), by simp [show j < cur.size by omega]⟩
  · simp only [World.frozen?, e]; simp
theorem CpLab.keep {w W W1 : World} {g n k : Nat} {xs : List Lab} (h : CpLab w g n k xs W) (hb : Below W.heap.size W W1) : CpLab w g n k xs W1 := by
  obtain ⟨cur, e, hc⟩ := h.blk
  have hl := h.cells.1
  refine ⟨⟨cur, (hb.block g hl).trans e, hc⟩, fun i hi => ?_, h.bel.trans (hb.mono h.bel.size), h.ge⟩
  obtain ⟨⟨q0, q1, q2, q3⟩, hi2⟩ := h.done i hi
  exact ⟨⟨(hb.cell (p := ⟨g, i * 4, none⟩) hl).trans q0, (hb.cell (p := ⟨g, i * 4 + 1, none⟩) hl).trans q1, (hb.cell (p := ⟨g, i * 4 + 2, none⟩) hl).trans q2, (hb.cell (p := ⟨g, i * 4 + 3, none⟩) hl).trans q3⟩, hi2.up (up_below hb)⟩
theorem blk_Lab {w : World} {g o n : Nat} {v : Value} (h : ∃ cur, w.heap[g]? = some (.cells cur 56 (0, 0)) ∧ cur.size = n) : ∃ cur, (w.setCell ⟨g, o, none⟩ v).heap[g]? = some (.cells cur 56 (0, 0)) ∧ cur.size = n := by
  obtain ⟨cur, e, hc⟩ := h
  refine ⟨cur.setIfInBounds o v, ?_, by simpa using hc⟩
  simp only [World.setCell, Array.getElem?_modify, if_true, e, Option.map_some]
  rfl
theorem CpLab.step {w W : World} {g n k : Nat} {xs : List Lab} (H : CpLab w g n k xs W) (hk : k < n) (x : Lab) (hx : x = xs.getD k Lab.z) (ho : Lab.Is (g + 1) W x) :
    CpLab w g n (k + 1) xs ((((W.setCell ⟨g, k * 4, none⟩ (.int .i64 x.pc)).setCell ⟨g, k * 4 + 1, none⟩ (.int .i64 x.ar)).setCell ⟨g, k * 4 + 2, none⟩ (.int .i64 x.ht)).setCell ⟨g, k * 4 + 3, none⟩ (.bool x.lp)) := by
  obtain ⟨hl, hc, hf⟩ := H.cells
  obtain ⟨u0, e0⟩ := hc (k * 4) (by omega)
  obtain ⟨u1, e1⟩ := hc (k * 4 + 1) (by omega)
  obtain ⟨u2, e2⟩ := hc (k * 4 + 2) (by omega)
  obtain ⟨u3, e3⟩ := hc (k * 4 + 3) (by omega)
  refine ⟨blk_Lab (blk_Lab (blk_Lab (blk_Lab (H.blk)))), fun i hi => ?_, ((((H.bel.setCell H.ge _).setCell H.ge _).setCell H.ge _).setCell H.ge _), H.ge⟩
  by_cases hik : i = k
  · subst hik
    rw [← hx]
    exact ⟨⟨set_off (set_off (set_off (set_same (e0)) (by omega)) (by omega)) (by omega), set_off (set_off (set_same (set_off (e1) (by omega))) (by omega)) (by omega), set_off (set_same (set_off (set_off (e2) (by omega)) (by omega))) (by omega), set_same (set_off (set_off (set_off (e3) (by omega)) (by omega)) (by omega))⟩, ((((ho.up (up_set (Nat.lt_succ_self g))).up (up_set (Nat.lt_succ_self g))).up (up_set (Nat.lt_succ_self g))).up (up_set (Nat.lt_succ_self g)))⟩
  · obtain ⟨⟨q0, q1, q2, q3⟩, hi2⟩ := H.done i (by omega)
    exact ⟨⟨set_off (set_off (set_off (set_off (q0) (by omega)) (by omega)) (by omega)) (by omega), set_off (set_off (set_off (set_off (q1) (by omega)) (by omega)) (by omega)) (by omega), set_off (set_off (set_off (set_off (q2) (by omega)) (by omega)) (by omega)) (by omega), set_off (set_off (set_off (set_off (q3) (by omega)) (by omega)) (by omega)) (by omega)⟩, ((((hi2.up (up_set (Nat.lt_succ_self g))).up (up_set (Nat.lt_succ_self g))).up (up_set (Nat.lt_succ_self g))).up (up_set (Nat.lt_succ_self g)))⟩
theorem CpLab.ls {w W : World} {g : Nat} {xs : List Lab} (h : CpLab w g xs.length xs.length xs W) : Lab.Ls g W (some ⟨g, 0, none⟩) xs := by
  refine .inr ⟨g, 0, rfl, Nat.le_refl _, fun i hi => ?_⟩
  obtain ⟨qs, hi2⟩ := h.done i hi
  rw [Nat.zero_add]
  exact ⟨qs, hi2.mono (Nat.le_succ g)⟩
set_option maxHeartbeats 8000000 in
theorem rtLabs_c (a : Option Addr) (c : Nat) (xs : List Lab) (w : World) (hl : xs.length ≤ 1048576 ∧ ∀ i, i < xs.length → Lab.LB 1048576 (xs.getD i Lab.z)) (hL : Lab.Ls 0 w a xs) :
    Calls Try.prog 52 #[.slice a xs.length c] w fun e w' => e = .returned (.slice (some ⟨w.heap.size, 0, none⟩) xs.length xs.length) ∧ Lab.Ls w.heap.size w' (some ⟨w.heap.size, 0, none⟩) xs ∧ Below w.heap.size w w' := by
  obtain ⟨hn, hll⟩ := hl
  have hmk := makeLab xs.length hn
  have HL := Hid.mk' hL
  have Hl := Hid.mk' hll
  clear hL hll
  have hst : CpLab w w.heap.size xs.length 0 xs (w.alloc (.cells (madeCells #[.int .i64 0, .int .i64 0, .int .i64 0, .bool false] (xs.length * 4)) 56)) :=
    ⟨⟨_, heap_new _ _, by simp [madeCells]⟩, fun i hi => by omega, (Below.refl _ _).alloc (Nat.le_refl _) _, Nat.le_refl _⟩
  have HS := Hid.mk' hst
  clear hst
  go_enter Try.func52, Try.ntmps52
  go_wp2
  go_loopw [4] (fun i wr => ∃ k : Nat, k ≤ xs.length ∧ i = .int .i64 k ∧ CpLab w w.heap.size xs.length k xs wr) (fun i _ => xs.length - (intOf i).toNat)
  case atStart => exact ⟨0, Nat.zero_le _, rfl, HS.out⟩
  case round =>
    obtain ⟨k, hk, rfl, hcp⟩ := hrel
    clear HS hmk
    by_cases hlt : k < xs.length
    · have hki : (k : Int) < (xs.length : Int) := by omega
      rcases HL.out.up (up_below hcp.bel) with hx | ⟨b, o, ea, _, hc⟩
      · subst hx; simp at hlt
      have hxk := hc k hlt
      have hxl := Hl.out k hlt
      subst ea
      obtain ⟨x, hx⟩ : ∃ x, x = xs.getD k Lab.z := ⟨_, rfl⟩
      rw [← hx] at hxk hxl
      obtain ⟨⟨q0, q1, q2, q3⟩, hi⟩ := hxk
      have HT := Hid.mk' (rtLab_c x wr hi hxl)
      have HX := Hid.mk' hx
      have HP := Hid.mk' hcp
      clear hx hc hcp hi HL
      go_wp2_with fail
      refine HT.out.mono ?_
      rintro e w1 ⟨rfl, ho, hb⟩
      have hcp1 := HP.out.keep hb
      obtain ⟨hl1, hc1, hf1⟩ := hcp1.cells
      obtain ⟨u0, e0⟩ := hc1 (k * 4) (by omega)
      obtain ⟨u1, e1⟩ := hc1 (k * 4 + 1) (by omega)
      obtain ⟨u2, e2⟩ := hc1 (k * 4 + 2) (by omega)
      obtain ⟨u3, e3⟩ := hc1 (k * 4 + 3) (by omega)
      have HP1 := Hid.mk' (hcp1.step hlt x HX.out (ho.mono (by have := HP.out.cells.1; omega)))
      clear ho hb hcp1 hc1 HT HP q0 q1 q2 q3
      go_wp2
      go_roundw
      case rel => exact ⟨k + 1, by omega, by go_num, HP1.out⟩
      case measure => simp [intOf]; omega
    · have e : k = xs.length := by omega
      subst e
      go_wp2
      go_ret
      exact ⟨rfl, hcp.ls, hcp.bel⟩
end Go.Proofs.Ytfaajmhmcdoibaa.NF
