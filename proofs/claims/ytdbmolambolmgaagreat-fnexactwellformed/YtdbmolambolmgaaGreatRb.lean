import Derived.Test.YtdbmolambolmgaaGreatR3a
set_option linter.all false
set_option linter.unusedVariables false
namespace Go.Proofs.YtdbmolambolmgaaGreat
open Go.RowKit Go.Sort
set_option maxRecDepth 100000
theorem hb_of {W W' : World} {B : Nat} (h : Below B W W') (e : B = W.heap.size) : Below W.heap.size W W' := e ▸ h
theorem up_sets0 {B g : Nat} {w : World} (h : g + 2 < B) : Up B w w := fun k hk hl => by
  rfl
theorem up_set1_0 {B g : Nat} {w : World} (h : g + 1 < B) : Up B w w := fun k hk hl => by
  rfl
theorem up_sets1 {B g : Nat} {w : World} {v0 : Value} {o0 : Nat} (h : g + 2 < B) : Up B w (w.setCell ⟨g + 2, o0, none⟩ v0) := fun k hk hl => by
  rw [Below.heap_setCell _ _ _ _ (by show k ≠ g + 2; omega)]
theorem up_set1_1 {B g : Nat} {w : World} {v0 : Value} (h : g + 1 < B) : Up B w (w.setCell ⟨g + 1, 0, none⟩ v0) := fun k hk hl => by
  rw [Below.heap_setCell _ _ _ _ (by show k ≠ g + 1; omega)]
theorem up_sets2 {B g : Nat} {w : World} {v0 : Value} {o0 : Nat} {v1 : Value} {o1 : Nat} (h : g + 2 < B) : Up B w ((w.setCell ⟨g + 2, o0, none⟩ v0).setCell ⟨g + 2, o1, none⟩ v1) := fun k hk hl => by
  rw [Below.heap_setCell _ _ _ _ (by show k ≠ g + 2; omega), Below.heap_setCell _ _ _ _ (by show k ≠ g + 2; omega)]
theorem up_set1_2 {B g : Nat} {w : World} {v0 : Value} {v1 : Value} (h : g + 1 < B) : Up B w ((w.setCell ⟨g + 1, 0, none⟩ v0).setCell ⟨g + 1, 1, none⟩ v1) := fun k hk hl => by
  rw [Below.heap_setCell _ _ _ _ (by show k ≠ g + 1; omega), Below.heap_setCell _ _ _ _ (by show k ≠ g + 1; omega)]
theorem up_sets3 {B g : Nat} {w : World} {v0 : Value} {o0 : Nat} {v1 : Value} {o1 : Nat} {v2 : Value} {o2 : Nat} (h : g + 2 < B) : Up B w (((w.setCell ⟨g + 2, o0, none⟩ v0).setCell ⟨g + 2, o1, none⟩ v1).setCell ⟨g + 2, o2, none⟩ v2) := fun k hk hl => by
  rw [Below.heap_setCell _ _ _ _ (by show k ≠ g + 2; omega), Below.heap_setCell _ _ _ _ (by show k ≠ g + 2; omega), Below.heap_setCell _ _ _ _ (by show k ≠ g + 2; omega)]
theorem up_set1_3 {B g : Nat} {w : World} {v0 : Value} {v1 : Value} {v2 : Value} (h : g + 1 < B) : Up B w (((w.setCell ⟨g + 1, 0, none⟩ v0).setCell ⟨g + 1, 1, none⟩ v1).setCell ⟨g + 1, 2, none⟩ v2) := fun k hk hl => by
  rw [Below.heap_setCell _ _ _ _ (by show k ≠ g + 1; omega), Below.heap_setCell _ _ _ _ (by show k ≠ g + 1; omega), Below.heap_setCell _ _ _ _ (by show k ≠ g + 1; omega)]
theorem up_sets4 {B g : Nat} {w : World} {v0 : Value} {o0 : Nat} {v1 : Value} {o1 : Nat} {v2 : Value} {o2 : Nat} {v3 : Value} {o3 : Nat} (h : g + 2 < B) : Up B w ((((w.setCell ⟨g + 2, o0, none⟩ v0).setCell ⟨g + 2, o1, none⟩ v1).setCell ⟨g + 2, o2, none⟩ v2).setCell ⟨g + 2, o3, none⟩ v3) := fun k hk hl => by
  rw [Below.heap_setCell _ _ _ _ (by show k ≠ g + 2; omega), Below.heap_setCell _ _ _ _ (by show k ≠ g + 2; omega), Below.heap_setCell _ _ _ _ (by show k ≠ g + 2; omega), Below.heap_setCell _ _ _ _ (by show k ≠ g + 2; omega)]
theorem up_set1_4 {B g : Nat} {w : World} {v0 : Value} {v1 : Value} {v2 : Value} {v3 : Value} (h : g + 1 < B) : Up B w ((((w.setCell ⟨g + 1, 0, none⟩ v0).setCell ⟨g + 1, 1, none⟩ v1).setCell ⟨g + 1, 2, none⟩ v2).setCell ⟨g + 1, 3, none⟩ v3) := fun k hk hl => by
  rw [Below.heap_setCell _ _ _ _ (by show k ≠ g + 1; omega), Below.heap_setCell _ _ _ _ (by show k ≠ g + 1; omega), Below.heap_setCell _ _ _ _ (by show k ≠ g + 1; omega), Below.heap_setCell _ _ _ _ (by show k ≠ g + 1; omega)]
theorem up_sets5 {B g : Nat} {w : World} {v0 : Value} {o0 : Nat} {v1 : Value} {o1 : Nat} {v2 : Value} {o2 : Nat} {v3 : Value} {o3 : Nat} {v4 : Value} {o4 : Nat} (h : g + 2 < B) : Up B w (((((w.setCell ⟨g + 2, o0, none⟩ v0).setCell ⟨g + 2, o1, none⟩ v1).setCell ⟨g + 2, o2, none⟩ v2).setCell ⟨g + 2, o3, none⟩ v3).setCell ⟨g + 2, o4, none⟩ v4) := fun k hk hl => by
  rw [Below.heap_setCell _ _ _ _ (by show k ≠ g + 2; omega), Below.heap_setCell _ _ _ _ (by show k ≠ g + 2; omega), Below.heap_setCell _ _ _ _ (by show k ≠ g + 2; omega), Below.heap_setCell _ _ _ _ (by show k ≠ g + 2; omega), Below.heap_setCell _ _ _ _ (by show k ≠ g + 2; omega)]
theorem up_set1_5 {B g : Nat} {w : World} {v0 : Value} {v1 : Value} {v2 : Value} {v3 : Value} {v4 : Value} (h : g + 1 < B) : Up B w (((((w.setCell ⟨g + 1, 0, none⟩ v0).setCell ⟨g + 1, 1, none⟩ v1).setCell ⟨g + 1, 2, none⟩ v2).setCell ⟨g + 1, 3, none⟩ v3).setCell ⟨g + 1, 4, none⟩ v4) := fun k hk hl => by
  rw [Below.heap_setCell _ _ _ _ (by show k ≠ g + 1; omega), Below.heap_setCell _ _ _ _ (by show k ≠ g + 1; omega), Below.heap_setCell _ _ _ _ (by show k ≠ g + 1; omega), Below.heap_setCell _ _ _ _ (by show k ≠ g + 1; omega), Below.heap_setCell _ _ _ _ (by show k ≠ g + 1; omega)]
theorem up_sets6 {B g : Nat} {w : World} {v0 : Value} {o0 : Nat} {v1 : Value} {o1 : Nat} {v2 : Value} {o2 : Nat} {v3 : Value} {o3 : Nat} {v4 : Value} {o4 : Nat} {v5 : Value} {o5 : Nat} (h : g + 2 < B) : Up B w ((((((w.setCell ⟨g + 2, o0, none⟩ v0).setCell ⟨g + 2, o1, none⟩ v1).setCell ⟨g + 2, o2, none⟩ v2).setCell ⟨g + 2, o3, none⟩ v3).setCell ⟨g + 2, o4, none⟩ v4).setCell ⟨g + 2, o5, none⟩ v5) := fun k hk hl => by
  rw [Below.heap_setCell _ _ _ _ (by show k ≠ g + 2; omega), Below.heap_setCell _ _ _ _ (by show k ≠ g + 2; omega), Below.heap_setCell _ _ _ _ (by show k ≠ g + 2; omega), Below.heap_setCell _ _ _ _ (by show k ≠ g + 2; omega), Below.heap_setCell _ _ _ _ (by show k ≠ g + 2; omega), Below.heap_setCell _ _ _ _ (by show k ≠ g + 2; omega)]
theorem up_set1_6 {B g : Nat} {w : World} {v0 : Value} {v1 : Value} {v2 : Value} {v3 : Value} {v4 : Value} {v5 : Value} (h : g + 1 < B) : Up B w ((((((w.setCell ⟨g + 1, 0, none⟩ v0).setCell ⟨g + 1, 1, none⟩ v1).setCell ⟨g + 1, 2, none⟩ v2).setCell ⟨g + 1, 3, none⟩ v3).setCell ⟨g + 1, 4, none⟩ v4).setCell ⟨g + 1, 5, none⟩ v5) := fun k hk hl => by
  rw [Below.heap_setCell _ _ _ _ (by show k ≠ g + 1; omega), Below.heap_setCell _ _ _ _ (by show k ≠ g + 1; omega), Below.heap_setCell _ _ _ _ (by show k ≠ g + 1; omega), Below.heap_setCell _ _ _ _ (by show k ≠ g + 1; omega), Below.heap_setCell _ _ _ _ (by show k ≠ g + 1; omega), Below.heap_setCell _ _ _ _ (by show k ≠ g + 1; omega)]
theorem up_sets7 {B g : Nat} {w : World} {v0 : Value} {o0 : Nat} {v1 : Value} {o1 : Nat} {v2 : Value} {o2 : Nat} {v3 : Value} {o3 : Nat} {v4 : Value} {o4 : Nat} {v5 : Value} {o5 : Nat} {v6 : Value} {o6 : Nat} (h : g + 2 < B) : Up B w (((((((w.setCell ⟨g + 2, o0, none⟩ v0).setCell ⟨g + 2, o1, none⟩ v1).setCell ⟨g + 2, o2, none⟩ v2).setCell ⟨g + 2, o3, none⟩ v3).setCell ⟨g + 2, o4, none⟩ v4).setCell ⟨g + 2, o5, none⟩ v5).setCell ⟨g + 2, o6, none⟩ v6) := fun k hk hl => by
  rw [Below.heap_setCell _ _ _ _ (by show k ≠ g + 2; omega), Below.heap_setCell _ _ _ _ (by show k ≠ g + 2; omega), Below.heap_setCell _ _ _ _ (by show k ≠ g + 2; omega), Below.heap_setCell _ _ _ _ (by show k ≠ g + 2; omega), Below.heap_setCell _ _ _ _ (by show k ≠ g + 2; omega), Below.heap_setCell _ _ _ _ (by show k ≠ g + 2; omega), Below.heap_setCell _ _ _ _ (by show k ≠ g + 2; omega)]
theorem up_set1_7 {B g : Nat} {w : World} {v0 : Value} {v1 : Value} {v2 : Value} {v3 : Value} {v4 : Value} {v5 : Value} {v6 : Value} (h : g + 1 < B) : Up B w (((((((w.setCell ⟨g + 1, 0, none⟩ v0).setCell ⟨g + 1, 1, none⟩ v1).setCell ⟨g + 1, 2, none⟩ v2).setCell ⟨g + 1, 3, none⟩ v3).setCell ⟨g + 1, 4, none⟩ v4).setCell ⟨g + 1, 5, none⟩ v5).setCell ⟨g + 1, 6, none⟩ v6) := fun k hk hl => by
  rw [Below.heap_setCell _ _ _ _ (by show k ≠ g + 1; omega), Below.heap_setCell _ _ _ _ (by show k ≠ g + 1; omega), Below.heap_setCell _ _ _ _ (by show k ≠ g + 1; omega), Below.heap_setCell _ _ _ _ (by show k ≠ g + 1; omega), Below.heap_setCell _ _ _ _ (by show k ≠ g + 1; omega), Below.heap_setCell _ _ _ _ (by show k ≠ g + 1; omega), Below.heap_setCell _ _ _ _ (by show k ≠ g + 1; omega)]
theorem up_sets8 {B g : Nat} {w : World} {v0 : Value} {o0 : Nat} {v1 : Value} {o1 : Nat} {v2 : Value} {o2 : Nat} {v3 : Value} {o3 : Nat} {v4 : Value} {o4 : Nat} {v5 : Value} {o5 : Nat} {v6 : Value} {o6 : Nat} {v7 : Value} {o7 : Nat} (h : g + 2 < B) : Up B w ((((((((w.setCell ⟨g + 2, o0, none⟩ v0).setCell ⟨g + 2, o1, none⟩ v1).setCell ⟨g + 2, o2, none⟩ v2).setCell ⟨g + 2, o3, none⟩ v3).setCell ⟨g + 2, o4, none⟩ v4).setCell ⟨g + 2, o5, none⟩ v5).setCell ⟨g + 2, o6, none⟩ v6).setCell ⟨g + 2, o7, none⟩ v7) := fun k hk hl => by
  rw [Below.heap_setCell _ _ _ _ (by show k ≠ g + 2; omega), Below.heap_setCell _ _ _ _ (by show k ≠ g + 2; omega), Below.heap_setCell _ _ _ _ (by show k ≠ g + 2; omega), Below.heap_setCell _ _ _ _ (by show k ≠ g + 2; omega), Below.heap_setCell _ _ _ _ (by show k ≠ g + 2; omega), Below.heap_setCell _ _ _ _ (by show k ≠ g + 2; omega), Below.heap_setCell _ _ _ _ (by show k ≠ g + 2; omega), Below.heap_setCell _ _ _ _ (by show k ≠ g + 2; omega)]
theorem up_set1_8 {B g : Nat} {w : World} {v0 : Value} {v1 : Value} {v2 : Value} {v3 : Value} {v4 : Value} {v5 : Value} {v6 : Value} {v7 : Value} (h : g + 1 < B) : Up B w ((((((((w.setCell ⟨g + 1, 0, none⟩ v0).setCell ⟨g + 1, 1, none⟩ v1).setCell ⟨g + 1, 2, none⟩ v2).setCell ⟨g + 1, 3, none⟩ v3).setCell ⟨g + 1, 4, none⟩ v4).setCell ⟨g + 1, 5, none⟩ v5).setCell ⟨g + 1, 6, none⟩ v6).setCell ⟨g + 1, 7, none⟩ v7) := fun k hk hl => by
  rw [Below.heap_setCell _ _ _ _ (by show k ≠ g + 1; omega), Below.heap_setCell _ _ _ _ (by show k ≠ g + 1; omega), Below.heap_setCell _ _ _ _ (by show k ≠ g + 1; omega), Below.heap_setCell _ _ _ _ (by show k ≠ g + 1; omega), Below.heap_setCell _ _ _ _ (by show k ≠ g + 1; omega), Below.heap_setCell _ _ _ _ (by show k ≠ g + 1; omega), Below.heap_setCell _ _ _ _ (by show k ≠ g + 1; omega), Below.heap_setCell _ _ _ _ (by show k ≠ g + 1; omega)]
theorem up_sets9 {B g : Nat} {w : World} {v0 : Value} {o0 : Nat} {v1 : Value} {o1 : Nat} {v2 : Value} {o2 : Nat} {v3 : Value} {o3 : Nat} {v4 : Value} {o4 : Nat} {v5 : Value} {o5 : Nat} {v6 : Value} {o6 : Nat} {v7 : Value} {o7 : Nat} {v8 : Value} {o8 : Nat} (h : g + 2 < B) : Up B w (((((((((w.setCell ⟨g + 2, o0, none⟩ v0).setCell ⟨g + 2, o1, none⟩ v1).setCell ⟨g + 2, o2, none⟩ v2).setCell ⟨g + 2, o3, none⟩ v3).setCell ⟨g + 2, o4, none⟩ v4).setCell ⟨g + 2, o5, none⟩ v5).setCell ⟨g + 2, o6, none⟩ v6).setCell ⟨g + 2, o7, none⟩ v7).setCell ⟨g + 2, o8, none⟩ v8) := fun k hk hl => by
  rw [Below.heap_setCell _ _ _ _ (by show k ≠ g + 2; omega), Below.heap_setCell _ _ _ _ (by show k ≠ g + 2; omega), Below.heap_setCell _ _ _ _ (by show k ≠ g + 2; omega), Below.heap_setCell _ _ _ _ (by show k ≠ g + 2; omega), Below.heap_setCell _ _ _ _ (by show k ≠ g + 2; omega), Below.heap_setCell _ _ _ _ (by show k ≠ g + 2; omega), Below.heap_setCell _ _ _ _ (by show k ≠ g + 2; omega), Below.heap_setCell _ _ _ _ (by show k ≠ g + 2; omega), Below.heap_setCell _ _ _ _ (by show k ≠ g + 2; omega)]
theorem up_set1_9 {B g : Nat} {w : World} {v0 : Value} {v1 : Value} {v2 : Value} {v3 : Value} {v4 : Value} {v5 : Value} {v6 : Value} {v7 : Value} {v8 : Value} (h : g + 1 < B) : Up B w (((((((((w.setCell ⟨g + 1, 0, none⟩ v0).setCell ⟨g + 1, 1, none⟩ v1).setCell ⟨g + 1, 2, none⟩ v2).setCell ⟨g + 1, 3, none⟩ v3).setCell ⟨g + 1, 4, none⟩ v4).setCell ⟨g + 1, 5, none⟩ v5).setCell ⟨g + 1, 6, none⟩ v6).setCell ⟨g + 1, 7, none⟩ v7).setCell ⟨g + 1, 8, none⟩ v8) := fun k hk hl => by
  rw [Below.heap_setCell _ _ _ _ (by show k ≠ g + 1; omega), Below.heap_setCell _ _ _ _ (by show k ≠ g + 1; omega), Below.heap_setCell _ _ _ _ (by show k ≠ g + 1; omega), Below.heap_setCell _ _ _ _ (by show k ≠ g + 1; omega), Below.heap_setCell _ _ _ _ (by show k ≠ g + 1; omega), Below.heap_setCell _ _ _ _ (by show k ≠ g + 1; omega), Below.heap_setCell _ _ _ _ (by show k ≠ g + 1; omega), Below.heap_setCell _ _ _ _ (by show k ≠ g + 1; omega), Below.heap_setCell _ _ _ _ (by show k ≠ g + 1; omega)]
theorem up_sets10 {B g : Nat} {w : World} {v0 : Value} {o0 : Nat} {v1 : Value} {o1 : Nat} {v2 : Value} {o2 : Nat} {v3 : Value} {o3 : Nat} {v4 : Value} {o4 : Nat} {v5 : Value} {o5 : Nat} {v6 : Value} {o6 : Nat} {v7 : Value} {o7 : Nat} {v8 : Value} {o8 : Nat} {v9 : Value} {o9 : Nat} (h : g + 2 < B) : Up B w ((((((((((w.setCell ⟨g + 2, o0, none⟩ v0).setCell ⟨g + 2, o1, none⟩ v1).setCell ⟨g + 2, o2, none⟩ v2).setCell ⟨g + 2, o3, none⟩ v3).setCell ⟨g + 2, o4, none⟩ v4).setCell ⟨g + 2, o5, none⟩ v5).setCell ⟨g + 2, o6, none⟩ v6).setCell ⟨g + 2, o7, none⟩ v7).setCell ⟨g + 2, o8, none⟩ v8).setCell ⟨g + 2, o9, none⟩ v9) := fun k hk hl => by
  rw [Below.heap_setCell _ _ _ _ (by show k ≠ g + 2; omega), Below.heap_setCell _ _ _ _ (by show k ≠ g + 2; omega), Below.heap_setCell _ _ _ _ (by show k ≠ g + 2; omega), Below.heap_setCell _ _ _ _ (by show k ≠ g + 2; omega), Below.heap_setCell _ _ _ _ (by show k ≠ g + 2; omega), Below.heap_setCell _ _ _ _ (by show k ≠ g + 2; omega), Below.heap_setCell _ _ _ _ (by show k ≠ g + 2; omega), Below.heap_setCell _ _ _ _ (by show k ≠ g + 2; omega), Below.heap_setCell _ _ _ _ (by show k ≠ g + 2; omega), Below.heap_setCell _ _ _ _ (by show k ≠ g + 2; omega)]
theorem up_set1_10 {B g : Nat} {w : World} {v0 : Value} {v1 : Value} {v2 : Value} {v3 : Value} {v4 : Value} {v5 : Value} {v6 : Value} {v7 : Value} {v8 : Value} {v9 : Value} (h : g + 1 < B) : Up B w ((((((((((w.setCell ⟨g + 1, 0, none⟩ v0).setCell ⟨g + 1, 1, none⟩ v1).setCell ⟨g + 1, 2, none⟩ v2).setCell ⟨g + 1, 3, none⟩ v3).setCell ⟨g + 1, 4, none⟩ v4).setCell ⟨g + 1, 5, none⟩ v5).setCell ⟨g + 1, 6, none⟩ v6).setCell ⟨g + 1, 7, none⟩ v7).setCell ⟨g + 1, 8, none⟩ v8).setCell ⟨g + 1, 9, none⟩ v9) := fun k hk hl => by
  rw [Below.heap_setCell _ _ _ _ (by show k ≠ g + 1; omega), Below.heap_setCell _ _ _ _ (by show k ≠ g + 1; omega), Below.heap_setCell _ _ _ _ (by show k ≠ g + 1; omega), Below.heap_setCell _ _ _ _ (by show k ≠ g + 1; omega), Below.heap_setCell _ _ _ _ (by show k ≠ g + 1; omega), Below.heap_setCell _ _ _ _ (by show k ≠ g + 1; omega), Below.heap_setCell _ _ _ _ (by show k ≠ g + 1; omega), Below.heap_setCell _ _ _ _ (by show k ≠ g + 1; omega), Below.heap_setCell _ _ _ _ (by show k ≠ g + 1; omega), Below.heap_setCell _ _ _ _ (by show k ≠ g + 1; omega)]
theorem up_sets11 {B g : Nat} {w : World} {v0 : Value} {o0 : Nat} {v1 : Value} {o1 : Nat} {v2 : Value} {o2 : Nat} {v3 : Value} {o3 : Nat} {v4 : Value} {o4 : Nat} {v5 : Value} {o5 : Nat} {v6 : Value} {o6 : Nat} {v7 : Value} {o7 : Nat} {v8 : Value} {o8 : Nat} {v9 : Value} {o9 : Nat} {v10 : Value} {o10 : Nat} (h : g + 2 < B) : Up B w (((((((((((w.setCell ⟨g + 2, o0, none⟩ v0).setCell ⟨g + 2, o1, none⟩ v1).setCell ⟨g + 2, o2, none⟩ v2).setCell ⟨g + 2, o3, none⟩ v3).setCell ⟨g + 2, o4, none⟩ v4).setCell ⟨g + 2, o5, none⟩ v5).setCell ⟨g + 2, o6, none⟩ v6).setCell ⟨g + 2, o7, none⟩ v7).setCell ⟨g + 2, o8, none⟩ v8).setCell ⟨g + 2, o9, none⟩ v9).setCell ⟨g + 2, o10, none⟩ v10) := fun k hk hl => by
  rw [Below.heap_setCell _ _ _ _ (by show k ≠ g + 2; omega), Below.heap_setCell _ _ _ _ (by show k ≠ g + 2; omega), Below.heap_setCell _ _ _ _ (by show k ≠ g + 2; omega), Below.heap_setCell _ _ _ _ (by show k ≠ g + 2; omega), Below.heap_setCell _ _ _ _ (by show k ≠ g + 2; omega), Below.heap_setCell _ _ _ _ (by show k ≠ g + 2; omega), Below.heap_setCell _ _ _ _ (by show k ≠ g + 2; omega), Below.heap_setCell _ _ _ _ (by show k ≠ g + 2; omega), Below.heap_setCell _ _ _ _ (by show k ≠ g + 2; omega), Below.heap_setCell _ _ _ _ (by show k ≠ g + 2; omega), Below.heap_setCell _ _ _ _ (by show k ≠ g + 2; omega)]
theorem up_set1_11 {B g : Nat} {w : World} {v0 : Value} {v1 : Value} {v2 : Value} {v3 : Value} {v4 : Value} {v5 : Value} {v6 : Value} {v7 : Value} {v8 : Value} {v9 : Value} {v10 : Value} (h : g + 1 < B) : Up B w (((((((((((w.setCell ⟨g + 1, 0, none⟩ v0).setCell ⟨g + 1, 1, none⟩ v1).setCell ⟨g + 1, 2, none⟩ v2).setCell ⟨g + 1, 3, none⟩ v3).setCell ⟨g + 1, 4, none⟩ v4).setCell ⟨g + 1, 5, none⟩ v5).setCell ⟨g + 1, 6, none⟩ v6).setCell ⟨g + 1, 7, none⟩ v7).setCell ⟨g + 1, 8, none⟩ v8).setCell ⟨g + 1, 9, none⟩ v9).setCell ⟨g + 1, 10, none⟩ v10) := fun k hk hl => by
  rw [Below.heap_setCell _ _ _ _ (by show k ≠ g + 1; omega), Below.heap_setCell _ _ _ _ (by show k ≠ g + 1; omega), Below.heap_setCell _ _ _ _ (by show k ≠ g + 1; omega), Below.heap_setCell _ _ _ _ (by show k ≠ g + 1; omega), Below.heap_setCell _ _ _ _ (by show k ≠ g + 1; omega), Below.heap_setCell _ _ _ _ (by show k ≠ g + 1; omega), Below.heap_setCell _ _ _ _ (by show k ≠ g + 1; omega), Below.heap_setCell _ _ _ _ (by show k ≠ g + 1; omega), Below.heap_setCell _ _ _ _ (by show k ≠ g + 1; omega), Below.heap_setCell _ _ _ _ (by show k ≠ g + 1; omega), Below.heap_setCell _ _ _ _ (by show k ≠ g + 1; omega)]
theorem up_sets12 {B g : Nat} {w : World} {v0 : Value} {o0 : Nat} {v1 : Value} {o1 : Nat} {v2 : Value} {o2 : Nat} {v3 : Value} {o3 : Nat} {v4 : Value} {o4 : Nat} {v5 : Value} {o5 : Nat} {v6 : Value} {o6 : Nat} {v7 : Value} {o7 : Nat} {v8 : Value} {o8 : Nat} {v9 : Value} {o9 : Nat} {v10 : Value} {o10 : Nat} {v11 : Value} {o11 : Nat} (h : g + 2 < B) : Up B w ((((((((((((w.setCell ⟨g + 2, o0, none⟩ v0).setCell ⟨g + 2, o1, none⟩ v1).setCell ⟨g + 2, o2, none⟩ v2).setCell ⟨g + 2, o3, none⟩ v3).setCell ⟨g + 2, o4, none⟩ v4).setCell ⟨g + 2, o5, none⟩ v5).setCell ⟨g + 2, o6, none⟩ v6).setCell ⟨g + 2, o7, none⟩ v7).setCell ⟨g + 2, o8, none⟩ v8).setCell ⟨g + 2, o9, none⟩ v9).setCell ⟨g + 2, o10, none⟩ v10).setCell ⟨g + 2, o11, none⟩ v11) := fun k hk hl => by
  rw [Below.heap_setCell _ _ _ _ (by show k ≠ g + 2; omega), Below.heap_setCell _ _ _ _ (by show k ≠ g + 2; omega), Below.heap_setCell _ _ _ _ (by show k ≠ g + 2; omega), Below.heap_setCell _ _ _ _ (by show k ≠ g + 2; omega), Below.heap_setCell _ _ _ _ (by show k ≠ g + 2; omega), Below.heap_setCell _ _ _ _ (by show k ≠ g + 2; omega), Below.heap_setCell _ _ _ _ (by show k ≠ g + 2; omega), Below.heap_setCell _ _ _ _ (by show k ≠ g + 2; omega), Below.heap_setCell _ _ _ _ (by show k ≠ g + 2; omega), Below.heap_setCell _ _ _ _ (by show k ≠ g + 2; omega), Below.heap_setCell _ _ _ _ (by show k ≠ g + 2; omega), Below.heap_setCell _ _ _ _ (by show k ≠ g + 2; omega)]
theorem up_set1_12 {B g : Nat} {w : World} {v0 : Value} {v1 : Value} {v2 : Value} {v3 : Value} {v4 : Value} {v5 : Value} {v6 : Value} {v7 : Value} {v8 : Value} {v9 : Value} {v10 : Value} {v11 : Value} (h : g + 1 < B) : Up B w ((((((((((((w.setCell ⟨g + 1, 0, none⟩ v0).setCell ⟨g + 1, 1, none⟩ v1).setCell ⟨g + 1, 2, none⟩ v2).setCell ⟨g + 1, 3, none⟩ v3).setCell ⟨g + 1, 4, none⟩ v4).setCell ⟨g + 1, 5, none⟩ v5).setCell ⟨g + 1, 6, none⟩ v6).setCell ⟨g + 1, 7, none⟩ v7).setCell ⟨g + 1, 8, none⟩ v8).setCell ⟨g + 1, 9, none⟩ v9).setCell ⟨g + 1, 10, none⟩ v10).setCell ⟨g + 1, 11, none⟩ v11) := fun k hk hl => by
  rw [Below.heap_setCell _ _ _ _ (by show k ≠ g + 1; omega), Below.heap_setCell _ _ _ _ (by show k ≠ g + 1; omega), Below.heap_setCell _ _ _ _ (by show k ≠ g + 1; omega), Below.heap_setCell _ _ _ _ (by show k ≠ g + 1; omega), Below.heap_setCell _ _ _ _ (by show k ≠ g + 1; omega), Below.heap_setCell _ _ _ _ (by show k ≠ g + 1; omega), Below.heap_setCell _ _ _ _ (by show k ≠ g + 1; omega), Below.heap_setCell _ _ _ _ (by show k ≠ g + 1; omega), Below.heap_setCell _ _ _ _ (by show k ≠ g + 1; omega), Below.heap_setCell _ _ _ _ (by show k ≠ g + 1; omega), Below.heap_setCell _ _ _ _ (by show k ≠ g + 1; omega), Below.heap_setCell _ _ _ _ (by show k ≠ g + 1; omega)]
theorem up_sets13 {B g : Nat} {w : World} {v0 : Value} {o0 : Nat} {v1 : Value} {o1 : Nat} {v2 : Value} {o2 : Nat} {v3 : Value} {o3 : Nat} {v4 : Value} {o4 : Nat} {v5 : Value} {o5 : Nat} {v6 : Value} {o6 : Nat} {v7 : Value} {o7 : Nat} {v8 : Value} {o8 : Nat} {v9 : Value} {o9 : Nat} {v10 : Value} {o10 : Nat} {v11 : Value} {o11 : Nat} {v12 : Value} {o12 : Nat} (h : g + 2 < B) : Up B w (((((((((((((w.setCell ⟨g + 2, o0, none⟩ v0).setCell ⟨g + 2, o1, none⟩ v1).setCell ⟨g + 2, o2, none⟩ v2).setCell ⟨g + 2, o3, none⟩ v3).setCell ⟨g + 2, o4, none⟩ v4).setCell ⟨g + 2, o5, none⟩ v5).setCell ⟨g + 2, o6, none⟩ v6).setCell ⟨g + 2, o7, none⟩ v7).setCell ⟨g + 2, o8, none⟩ v8).setCell ⟨g + 2, o9, none⟩ v9).setCell ⟨g + 2, o10, none⟩ v10).setCell ⟨g + 2, o11, none⟩ v11).setCell ⟨g + 2, o12, none⟩ v12) := fun k hk hl => by
  rw [Below.heap_setCell _ _ _ _ (by show k ≠ g + 2; omega), Below.heap_setCell _ _ _ _ (by show k ≠ g + 2; omega), Below.heap_setCell _ _ _ _ (by show k ≠ g + 2; omega), Below.heap_setCell _ _ _ _ (by show k ≠ g + 2; omega), Below.heap_setCell _ _ _ _ (by show k ≠ g + 2; omega), Below.heap_setCell _ _ _ _ (by show k ≠ g + 2; omega), Below.heap_setCell _ _ _ _ (by show k ≠ g + 2; omega), Below.heap_setCell _ _ _ _ (by show k ≠ g + 2; omega), Below.heap_setCell _ _ _ _ (by show k ≠ g + 2; omega), Below.heap_setCell _ _ _ _ (by show k ≠ g + 2; omega), Below.heap_setCell _ _ _ _ (by show k ≠ g + 2; omega), Below.heap_setCell _ _ _ _ (by show k ≠ g + 2; omega), Below.heap_setCell _ _ _ _ (by show k ≠ g + 2; omega)]
theorem up_set1_13 {B g : Nat} {w : World} {v0 : Value} {v1 : Value} {v2 : Value} {v3 : Value} {v4 : Value} {v5 : Value} {v6 : Value} {v7 : Value} {v8 : Value} {v9 : Value} {v10 : Value} {v11 : Value} {v12 : Value} (h : g + 1 < B) : Up B w (((((((((((((w.setCell ⟨g + 1, 0, none⟩ v0).setCell ⟨g + 1, 1, none⟩ v1).setCell ⟨g + 1, 2, none⟩ v2).setCell ⟨g + 1, 3, none⟩ v3).setCell ⟨g + 1, 4, none⟩ v4).setCell ⟨g + 1, 5, none⟩ v5).setCell ⟨g + 1, 6, none⟩ v6).setCell ⟨g + 1, 7, none⟩ v7).setCell ⟨g + 1, 8, none⟩ v8).setCell ⟨g + 1, 9, none⟩ v9).setCell ⟨g + 1, 10, none⟩ v10).setCell ⟨g + 1, 11, none⟩ v11).setCell ⟨g + 1, 12, none⟩ v12) := fun k hk hl => by
  rw [Below.heap_setCell _ _ _ _ (by show k ≠ g + 1; omega), Below.heap_setCell _ _ _ _ (by show k ≠ g + 1; omega), Below.heap_setCell _ _ _ _ (by show k ≠ g + 1; omega), Below.heap_setCell _ _ _ _ (by show k ≠ g + 1; omega), Below.heap_setCell _ _ _ _ (by show k ≠ g + 1; omega), Below.heap_setCell _ _ _ _ (by show k ≠ g + 1; omega), Below.heap_setCell _ _ _ _ (by show k ≠ g + 1; omega), Below.heap_setCell _ _ _ _ (by show k ≠ g + 1; omega), Below.heap_setCell _ _ _ _ (by show k ≠ g + 1; omega), Below.heap_setCell _ _ _ _ (by show k ≠ g + 1; omega), Below.heap_setCell _ _ _ _ (by show k ≠ g + 1; omega), Below.heap_setCell _ _ _ _ (by show k ≠ g + 1; omega), Below.heap_setCell _ _ _ _ (by show k ≠ g + 1; omega)]
set_option maxHeartbeats 8000000 in
theorem rtLimits_c (x : Limits) (w : World) (hI : Limits.Is 0 w x) (hl : Limits.LB 1048576 x) :
    Calls Tryz.prog 117 #[.agg #[.int .i64 x.min, .int .i64 x.max, .bool x.has]] w fun e w' => e = .returned (.agg #[.int .i64 x.min, .int .i64 x.max, .bool x.has]) ∧ Limits.Is w.heap.size w' x ∧ Below w.heap.size w w' := by
  have T0 := Hid.mk' (three w [.int .i64 x.min, .int .i64 x.max, .bool x.has] [.int .i64 0, .int .i64 0, .bool false] [.int .i64 0, .int .i64 0, .bool false] 162 99 99)
  go_enter Tryz.func117, Tryz.ntmps117
  go_upto_region 2 with fail
  refine wp_gen (fun W => Bk W w.heap.size [.int .i64 x.min, .int .i64 x.max, .bool x.has] ∧ Bk W (w.heap.size + 1) [.int .i64 0, .int .i64 0, .bool false] ∧ Bk W (w.heap.size + 2) [.int .i64 0, .int .i64 0, .bool false] ∧ Below w.heap.size w W) T0.out ?_
  rintro W ⟨bb, br, bo, hb⟩
  clear T0
  have e1 : w.heap.size ≠ w.heap.size + 1 := by omega
  have e2 : w.heap.size ≠ w.heap.size + 2 := by omega
  have e3 : w.heap.size + 1 ≠ w.heap.size + 2 := by omega
  have e4 : w.heap.size + 2 ≠ w.heap.size + 1 := by omega
  have q0 : W.cell? ⟨w.heap.size, 0, none⟩ = some (.int .i64 x.min) := bb.2.1 0 _ rfl
  have o0 : W.cell? ⟨w.heap.size + 2, 0, none⟩ = some (.int .i64 0) := bo.2.1 0 _ rfl
  have s0 : W.cell? ⟨w.heap.size + 1, 0, none⟩ = some (.int .i64 0) := br.2.1 0 _ rfl
  have q1 : W.cell? ⟨w.heap.size, 1, none⟩ = some (.int .i64 x.max) := bb.2.1 1 _ rfl
  have o1 : W.cell? ⟨w.heap.size + 2, 1, none⟩ = some (.int .i64 0) := bo.2.1 1 _ rfl
  have s1 : W.cell? ⟨w.heap.size + 1, 1, none⟩ = some (.int .i64 0) := br.2.1 1 _ rfl
  have q2 : W.cell? ⟨w.heap.size, 2, none⟩ = some (.bool x.has) := bb.2.1 2 _ rfl
  have o2 : W.cell? ⟨w.heap.size + 2, 2, none⟩ = some (.bool false) := bo.2.1 2 _ rfl
  have s2 : W.cell? ⟨w.heap.size + 1, 2, none⟩ = some (.bool false) := br.2.1 2 _ rfl
  have fo := bo.2.2
  have fr := br.2.2
  have HB := Hid.mk' hb
  clear hb bb br bo
  go_wp2
  exact bodyPost_ret (v := .agg #[.int .i64 x.min, .int .i64 x.max, .bool x.has]) (by simp [results, Tryz.results117, go_sem, s0, s1, s2, e3, e4]) rfl ⟨rfl, trivial, ((((((HB.out.setCell (by show w.heap.size ≤ w.heap.size + 2; omega) _).setCell (by show w.heap.size ≤ w.heap.size + 2; omega) _).setCell (by show w.heap.size ≤ w.heap.size + 2; omega) _).setCell (by show w.heap.size ≤ w.heap.size + 1; omega) _).setCell (by show w.heap.size ≤ w.heap.size + 1; omega) _).setCell (by show w.heap.size ≤ w.heap.size + 1; omega) _)⟩
set_option maxHeartbeats 8000000 in
theorem rtGType_c (x : GType) (w : World) (hI : GType.Is 0 w x) (hl : GType.LB 1048576 x) :
    Calls Tryz.prog 171 #[.agg #[.int .i64 x.ty, .bool x.mu]] w fun e w' => e = .returned (.agg #[.int .i64 x.ty, .bool x.mu]) ∧ GType.Is w.heap.size w' x ∧ Below w.heap.size w w' := by
  have T0 := Hid.mk' (three w [.int .i64 x.ty, .bool x.mu] [.int .i64 0, .bool false] [.int .i64 0, .bool false] 163 101 101)
  go_enter Tryz.func171, Tryz.ntmps171
  go_upto_region 2 with fail
  refine wp_gen (fun W => Bk W w.heap.size [.int .i64 x.ty, .bool x.mu] ∧ Bk W (w.heap.size + 1) [.int .i64 0, .bool false] ∧ Bk W (w.heap.size + 2) [.int .i64 0, .bool false] ∧ Below w.heap.size w W) T0.out ?_
  rintro W ⟨bb, br, bo, hb⟩
  clear T0
  have e1 : w.heap.size ≠ w.heap.size + 1 := by omega
  have e2 : w.heap.size ≠ w.heap.size + 2 := by omega
  have e3 : w.heap.size + 1 ≠ w.heap.size + 2 := by omega
  have e4 : w.heap.size + 2 ≠ w.heap.size + 1 := by omega
  have q0 : W.cell? ⟨w.heap.size, 0, none⟩ = some (.int .i64 x.ty) := bb.2.1 0 _ rfl
  have o0 : W.cell? ⟨w.heap.size + 2, 0, none⟩ = some (.int .i64 0) := bo.2.1 0 _ rfl
  have s0 : W.cell? ⟨w.heap.size + 1, 0, none⟩ = some (.int .i64 0) := br.2.1 0 _ rfl
  have q1 : W.cell? ⟨w.heap.size, 1, none⟩ = some (.bool x.mu) := bb.2.1 1 _ rfl
  have o1 : W.cell? ⟨w.heap.size + 2, 1, none⟩ = some (.bool false) := bo.2.1 1 _ rfl
  have s1 : W.cell? ⟨w.heap.size + 1, 1, none⟩ = some (.bool false) := br.2.1 1 _ rfl
  have fo := bo.2.2
  have fr := br.2.2
  have HB := Hid.mk' hb
  clear hb bb br bo
  go_wp2
  exact bodyPost_ret (v := .agg #[.int .i64 x.ty, .bool x.mu]) (by simp [results, Tryz.results171, go_sem, s0, s1, e3, e4]) rfl ⟨rfl, trivial, ((((HB.out.setCell (by show w.heap.size ≤ w.heap.size + 2; omega) _).setCell (by show w.heap.size ≤ w.heap.size + 2; omega) _).setCell (by show w.heap.size ≤ w.heap.size + 1; omega) _).setCell (by show w.heap.size ≤ w.heap.size + 1; omega) _)⟩
set_option maxHeartbeats 8000000 in
theorem rtGrp_c (x : Grp) (w : World) (hI : Grp.Is 0 w x) (hl : Grp.LB 1048576 x) :
    Calls Tryz.prog 216 #[.agg #[.int .i64 x.n, .int .i64 x.ty]] w fun e w' => e = .returned (.agg #[.int .i64 x.n, .int .i64 x.ty]) ∧ Grp.Is w.heap.size w' x ∧ Below w.heap.size w w' := by
  have T0 := Hid.mk' (three w [.int .i64 x.n, .int .i64 x.ty] [.int .i64 0, .int .i64 0] [.int .i64 0, .int .i64 0] 292 191 191)
  go_enter Tryz.func216, Tryz.ntmps216
  go_upto_region 2 with fail
  refine wp_gen (fun W => Bk W w.heap.size [.int .i64 x.n, .int .i64 x.ty] ∧ Bk W (w.heap.size + 1) [.int .i64 0, .int .i64 0] ∧ Bk W (w.heap.size + 2) [.int .i64 0, .int .i64 0] ∧ Below w.heap.size w W) T0.out ?_
  rintro W ⟨bb, br, bo, hb⟩
  clear T0
  have e1 : w.heap.size ≠ w.heap.size + 1 := by omega
  have e2 : w.heap.size ≠ w.heap.size + 2 := by omega
  have e3 : w.heap.size + 1 ≠ w.heap.size + 2 := by omega
  have e4 : w.heap.size + 2 ≠ w.heap.size + 1 := by omega
  have q0 : W.cell? ⟨w.heap.size, 0, none⟩ = some (.int .i64 x.n) := bb.2.1 0 _ rfl
  have o0 : W.cell? ⟨w.heap.size + 2, 0, none⟩ = some (.int .i64 0) := bo.2.1 0 _ rfl
  have s0 : W.cell? ⟨w.heap.size + 1, 0, none⟩ = some (.int .i64 0) := br.2.1 0 _ rfl
  have q1 : W.cell? ⟨w.heap.size, 1, none⟩ = some (.int .i64 x.ty) := bb.2.1 1 _ rfl
  have o1 : W.cell? ⟨w.heap.size + 2, 1, none⟩ = some (.int .i64 0) := bo.2.1 1 _ rfl
  have s1 : W.cell? ⟨w.heap.size + 1, 1, none⟩ = some (.int .i64 0) := br.2.1 1 _ rfl
  have fo := bo.2.2
  have fr := br.2.2
  have HB := Hid.mk' hb
  clear hb bb br bo
  go_wp2
  exact bodyPost_ret (v := .agg #[.int .i64 x.n, .int .i64 x.ty]) (by simp [results, Tryz.results216, go_sem, s0, s1, e3, e4]) rfl ⟨rfl, trivial, ((((HB.out.setCell (by show w.heap.size ≤ w.heap.size + 2; omega) _).setCell (by show w.heap.size ≤ w.heap.size + 2; omega) _).setCell (by show w.heap.size ≤ w.heap.size + 1; omega) _).setCell (by show w.heap.size ≤ w.heap.size + 1; omega) _)⟩
set_option maxHeartbeats 8000000 in
theorem rtIn_c (x : In) (a1 : Option Addr) (c1 : Nat) (w : World) (hI : In.Is 0 w x a1) (hl : In.LB 1048576 x) :
    Calls Tryz.prog 215 #[.agg #[.int .i64 x.op, .int .i64 x.a, .int .i64 x.b, .int .u64 x.v, .slice a1 x.l.length c1]] w fun e w' => ∃ b1, e = .returned (.agg #[.int .i64 x.op, .int .i64 x.a, .int .i64 x.b, .int .u64 x.v, .slice (some ⟨b1, 0, none⟩) x.l.length x.l.length]) ∧ In.Is w.heap.size w' x (some ⟨b1, 0, none⟩) ∧ Below w.heap.size w w' := by
  have l4 : x.l.length ≤ 1048576 := hl
  have r1 := hI
  clear hI
  have R1 := Hid.mk' r1
  clear r1
  have T0 := Hid.mk' (three w [.int .i64 x.op, .int .i64 x.a, .int .i64 x.b, .int .u64 x.v, .slice a1 x.l.length c1] [.int .i64 0, .int .i64 0, .int .i64 0, .int .u64 0, .slice none 0 0] [.int .i64 0, .int .i64 0, .int .i64 0, .int .u64 0, .slice none 0 0] 289 188 188)
  go_enter Tryz.func215, Tryz.ntmps215
  go_upto_region 2 with fail
  refine wp_gen (fun W => Bk W w.heap.size [.int .i64 x.op, .int .i64 x.a, .int .i64 x.b, .int .u64 x.v, .slice a1 x.l.length c1] ∧ Bk W (w.heap.size + 1) [.int .i64 0, .int .i64 0, .int .i64 0, .int .u64 0, .slice none 0 0] ∧ Bk W (w.heap.size + 2) [.int .i64 0, .int .i64 0, .int .i64 0, .int .u64 0, .slice none 0 0] ∧ Below w.heap.size w W) T0.out ?_
  rintro W ⟨bb, br, bo, hb⟩
  clear T0
  have e1 : w.heap.size ≠ w.heap.size + 1 := by omega
  have e2 : w.heap.size ≠ w.heap.size + 2 := by omega
  have e3 : w.heap.size + 1 ≠ w.heap.size + 2 := by omega
  have e4 : w.heap.size + 2 ≠ w.heap.size + 1 := by omega
  have q0 : W.cell? ⟨w.heap.size, 0, none⟩ = some (.int .i64 x.op) := bb.2.1 0 _ rfl
  have o0 : W.cell? ⟨w.heap.size + 2, 0, none⟩ = some (.int .i64 0) := bo.2.1 0 _ rfl
  have s0 : W.cell? ⟨w.heap.size + 1, 0, none⟩ = some (.int .i64 0) := br.2.1 0 _ rfl
  have q1 : W.cell? ⟨w.heap.size, 1, none⟩ = some (.int .i64 x.a) := bb.2.1 1 _ rfl
  have o1 : W.cell? ⟨w.heap.size + 2, 1, none⟩ = some (.int .i64 0) := bo.2.1 1 _ rfl
  have s1 : W.cell? ⟨w.heap.size + 1, 1, none⟩ = some (.int .i64 0) := br.2.1 1 _ rfl
  have q2 : W.cell? ⟨w.heap.size, 2, none⟩ = some (.int .i64 x.b) := bb.2.1 2 _ rfl
  have o2 : W.cell? ⟨w.heap.size + 2, 2, none⟩ = some (.int .i64 0) := bo.2.1 2 _ rfl
  have s2 : W.cell? ⟨w.heap.size + 1, 2, none⟩ = some (.int .i64 0) := br.2.1 2 _ rfl
  have q3 : W.cell? ⟨w.heap.size, 3, none⟩ = some (.int .u64 x.v) := bb.2.1 3 _ rfl
  have o3 : W.cell? ⟨w.heap.size + 2, 3, none⟩ = some (.int .u64 0) := bo.2.1 3 _ rfl
  have s3 : W.cell? ⟨w.heap.size + 1, 3, none⟩ = some (.int .u64 0) := br.2.1 3 _ rfl
  have q4 : W.cell? ⟨w.heap.size, 4, none⟩ = some (.slice a1 x.l.length c1) := bb.2.1 4 _ rfl
  have o4 : W.cell? ⟨w.heap.size + 2, 4, none⟩ = some (.slice none 0 0) := bo.2.1 4 _ rfl
  have s4 : W.cell? ⟨w.heap.size + 1, 4, none⟩ = some (.slice none 0 0) := br.2.1 4 _ rfl
  have fo := bo.2.2
  have fr := br.2.2
  have hC1 : Below w.heap.size w ((((W.setCell ⟨w.heap.size + 2, 0, none⟩ (.int .i64 x.op)).setCell ⟨w.heap.size + 2, 1, none⟩ (.int .i64 x.a)).setCell ⟨w.heap.size + 2, 2, none⟩ (.int .i64 x.b)).setCell ⟨w.heap.size + 2, 3, none⟩ (.int .u64 x.v)) := ((((hb.setCell (by show w.heap.size ≤ w.heap.size + 2; omega) _).setCell (by show w.heap.size ≤ w.heap.size + 2; omega) _).setCell (by show w.heap.size ≤ w.heap.size + 2; omega) _).setCell (by show w.heap.size ≤ w.heap.size + 2; omega) _)
  have HC1 := Hid.mk' (rtInts_c a1 c1 x.l ((((W.setCell ⟨w.heap.size + 2, 0, none⟩ (.int .i64 x.op)).setCell ⟨w.heap.size + 2, 1, none⟩ (.int .i64 x.a)).setCell ⟨w.heap.size + 2, 2, none⟩ (.int .i64 x.b)).setCell ⟨w.heap.size + 2, 3, none⟩ (.int .u64 x.v)) l4 (R1.out.up (up_below hC1)))
  obtain ⟨B1, hB1⟩ : ∃ B, B = (((((W.setCell ⟨w.heap.size + 2, 0, none⟩ (.int .i64 x.op)).setCell ⟨w.heap.size + 2, 1, none⟩ (.int .i64 x.a)).setCell ⟨w.heap.size + 2, 2, none⟩ (.int .i64 x.b)).setCell ⟨w.heap.size + 2, 3, none⟩ (.int .u64 x.v))).heap.size := ⟨_, rfl⟩
  rw [← hB1] at HC1
  have HQ1 := Hid.mk' hB1
  clear hB1
  have bb1 : Bk ((((W.setCell ⟨w.heap.size + 2, 0, none⟩ (.int .i64 x.op)).setCell ⟨w.heap.size + 2, 1, none⟩ (.int .i64 x.a)).setCell ⟨w.heap.size + 2, 2, none⟩ (.int .i64 x.b)).setCell ⟨w.heap.size + 2, 3, none⟩ (.int .u64 x.v)) w.heap.size [.int .i64 x.op, .int .i64 x.a, .int .i64 x.b, .int .u64 x.v, .slice a1 x.l.length c1] := ((((bb.other (by omega)).other (by omega)).other (by omega)).other (by omega))
  have br1 : Bk ((((W.setCell ⟨w.heap.size + 2, 0, none⟩ (.int .i64 x.op)).setCell ⟨w.heap.size + 2, 1, none⟩ (.int .i64 x.a)).setCell ⟨w.heap.size + 2, 2, none⟩ (.int .i64 x.b)).setCell ⟨w.heap.size + 2, 3, none⟩ (.int .u64 x.v)) (w.heap.size + 1) [.int .i64 0, .int .i64 0, .int .i64 0, .int .u64 0, .slice none 0 0] := ((((br.other (by omega)).other (by omega)).other (by omega)).other (by omega))
  have bo1 : Bk ((((W.setCell ⟨w.heap.size + 2, 0, none⟩ (.int .i64 x.op)).setCell ⟨w.heap.size + 2, 1, none⟩ (.int .i64 x.a)).setCell ⟨w.heap.size + 2, 2, none⟩ (.int .i64 x.b)).setCell ⟨w.heap.size + 2, 3, none⟩ (.int .u64 x.v)) (w.heap.size + 2) [.int .i64 x.op, .int .i64 x.a, .int .i64 x.b, .int .u64 x.v, .slice none 0 0] := bo.set.set.set.set
  go_wp2_with fail
  refine HC1.out.mono ?_
  rintro e W1 ⟨rfl, n1, hb1⟩
  have bbn := bb1.keep (hb_of hb1 HQ1.out)
  have brn := br1.keep (hb_of hb1 HQ1.out)
  have bon := bo1.keep (hb_of hb1 HQ1.out)
  have hbn : Below w.heap.size w W1 := hC1.trans ((hb_of hb1 HQ1.out).mono hC1.size)
  clear bb br bo hb fo fr q0 o0 s0 q1 o1 s1 q2 o2 s2 q3 o3 s3 q4 o4 s4
  have bb := bbn
  have br := brn
  have bo := bon
  have hb := hbn
  clear bbn brn bon hbn
  have hBle1 : w.heap.size + 2 < B1 := by rw [HQ1.out]; exact bo1.1
  have n1 := n1.mono (show w.heap.size + 3 ≤ B1 by omega)
  clear hC1 HC1 bb1 br1 bo1 hb1
  have q0 : W1.cell? ⟨w.heap.size, 0, none⟩ = some (.int .i64 x.op) := bb.2.1 0 _ rfl
  have o0 : W1.cell? ⟨w.heap.size + 2, 0, none⟩ = some (.int .i64 x.op) := bo.2.1 0 _ rfl
  have s0 : W1.cell? ⟨w.heap.size + 1, 0, none⟩ = some (.int .i64 0) := br.2.1 0 _ rfl
  have q1 : W1.cell? ⟨w.heap.size, 1, none⟩ = some (.int .i64 x.a) := bb.2.1 1 _ rfl
  have o1 : W1.cell? ⟨w.heap.size + 2, 1, none⟩ = some (.int .i64 x.a) := bo.2.1 1 _ rfl
  have s1 : W1.cell? ⟨w.heap.size + 1, 1, none⟩ = some (.int .i64 0) := br.2.1 1 _ rfl
  have q2 : W1.cell? ⟨w.heap.size, 2, none⟩ = some (.int .i64 x.b) := bb.2.1 2 _ rfl
  have o2 : W1.cell? ⟨w.heap.size + 2, 2, none⟩ = some (.int .i64 x.b) := bo.2.1 2 _ rfl
  have s2 : W1.cell? ⟨w.heap.size + 1, 2, none⟩ = some (.int .i64 0) := br.2.1 2 _ rfl
  have q3 : W1.cell? ⟨w.heap.size, 3, none⟩ = some (.int .u64 x.v) := bb.2.1 3 _ rfl
  have o3 : W1.cell? ⟨w.heap.size + 2, 3, none⟩ = some (.int .u64 x.v) := bo.2.1 3 _ rfl
  have s3 : W1.cell? ⟨w.heap.size + 1, 3, none⟩ = some (.int .u64 0) := br.2.1 3 _ rfl
  have q4 : W1.cell? ⟨w.heap.size, 4, none⟩ = some (.slice a1 x.l.length c1) := bb.2.1 4 _ rfl
  have o4 : W1.cell? ⟨w.heap.size + 2, 4, none⟩ = some (.slice none 0 0) := bo.2.1 4 _ rfl
  have s4 : W1.cell? ⟨w.heap.size + 1, 4, none⟩ = some (.slice none 0 0) := br.2.1 4 _ rfl
  have fo := bo.2.2
  have fr := br.2.2
  have HB := Hid.mk' hb
  have HN1 := Hid.mk' n1
  clear hb bb br bo n1
  go_wp2
  exact bodyPost_ret (v := .agg #[.int .i64 x.op, .int .i64 x.a, .int .i64 x.b, .int .u64 x.v, .slice (some ⟨B1, 0, none⟩) x.l.length x.l.length]) (by simp [results, Tryz.results215, go_sem, s0, s1, s2, s3, s4, e3, e4]) rfl ⟨B1, rfl, ((HN1.out.up (up_sets1 (by omega))).up (up_set1_5 (by omega))).mono (by omega), ((((((HB.out.setCell (by show w.heap.size ≤ w.heap.size + 2; omega) _).setCell (by show w.heap.size ≤ w.heap.size + 1; omega) _).setCell (by show w.heap.size ≤ w.heap.size + 1; omega) _).setCell (by show w.heap.size ≤ w.heap.size + 1; omega) _).setCell (by show w.heap.size ≤ w.heap.size + 1; omega) _).setCell (by show w.heap.size ≤ w.heap.size + 1; omega) _)⟩
end Go.Proofs.YtdbmolambolmgaaGreat

set_option linter.unusedVariables false
namespace Go.Proofs.YtdbmolambolmgaaGreat
open Go.RowKit Go.Sort
set_option maxRecDepth 100000
theorem Tryz.infoIn : (Tryz.prog.info? 188).map (fun i => (i.zero, i.size, i.bytes)) = some (some (.agg #[.int .i64 0, .int .i64 0, .int .i64 0, .int .u64 0, .slice none 0 0]), 5, 56) := by kernel_rfl
theorem makeIn (n : Nat) (hn : n ≤ 1048576) (w : World) : (Instr.makeSlice 68 (.int .i64 (n : Int)) (.int .i64 (n : Int))).run Tryz.prog w = .ok (.slice (some ⟨w.heap.size, 0, none⟩) n n) (w.alloc (.cells (madeCells #[.int .i64 0, .int .i64 0, .int .i64 0, .int .u64 0, .slice none 0 0] (n * 5)) 188)) := by
  obtain ⟨i, hi, hzz⟩ := Option.map_eq_some_iff.1 Tryz.infoIn
  simp only [Prod.mk.injEq] at hzz
  obtain ⟨hz, hs, hb⟩ := hzz
  have := run_make (P := Tryz.prog) w 68 188 i _ Tryz.underlying68 hi hz .i64 .i64 n n (by omega) (by omega) (by rw [hb]; omega) (by omega)
  rw [hs] at this
  simpa [Value.cells] using this
structure CpIn (w : World) (g n k : Nat) (xs : List In) (W : World) : Prop where
  blk : ∃ cur, W.heap[g]? = some (.cells cur 188 (0, 0)) ∧ cur.size = n * 5
  done : ∀ i, i < k → ∃ a1 c1, (W.cell? ⟨g, i * 5, none⟩ = some (.int .i64 (xs.getD i I0).op) ∧ W.cell? ⟨g, i * 5 + 1, none⟩ = some (.int .i64 (xs.getD i I0).a) ∧ W.cell? ⟨g, i * 5 + 2, none⟩ = some (.int .i64 (xs.getD i I0).b) ∧ W.cell? ⟨g, i * 5 + 3, none⟩ = some (.int .u64 (xs.getD i I0).v) ∧ W.cell? ⟨g, i * 5 + 4, none⟩ = some (.slice a1 (xs.getD i I0).l.length c1)) ∧ In.Is (g + 1) W (xs.getD i I0) a1
  bel : Below w.heap.size w W
  ge : w.heap.size ≤ g
theorem CpIn.cells {w W : World} {g n k : Nat} {xs : List In} (h : CpIn w g n k xs W) : g < W.heap.size ∧ (∀ j, j < n * 5 → ∃ u, W.cell? ⟨g, j, none⟩ = some u) ∧ ∀ j, W.frozen? ⟨g, j, none⟩ = false := by
  obtain ⟨cur, e, hc⟩ := h.blk
  have hl : g < W.heap.size := by
    rcases Nat.lt_or_ge g W.heap.size with h' | h'
    · exact h'
    · rw [Array.getElem?_eq_none h'] at e; cases e
  refine ⟨hl, fun j hj => ?_, fun j => ?_⟩
  · simp only [World.cell?, e]
    exact ⟨cur[j]'(by omega), by simp [show j < cur.size by omega]⟩
  · simp only [World.frozen?, e]; simp
theorem CpIn.keep {w W W1 : World} {g n k : Nat} {xs : List In} (h : CpIn w g n k xs W) (hb : Below W.heap.size W W1) : CpIn w g n k xs W1 := by
  obtain ⟨cur, e, hc⟩ := h.blk
  have hl := h.cells.1
  refine ⟨⟨cur, (hb.block g hl).trans e, hc⟩, fun i hi => ?_, h.bel.trans (hb.mono h.bel.size), h.ge⟩
  obtain ⟨a1, c1, ⟨q0, q1, q2, q3, q4⟩, hi2⟩ := h.done i hi
  exact ⟨a1, c1, ⟨(hb.cell (p := ⟨g, i * 5, none⟩) hl).trans q0, (hb.cell (p := ⟨g, i * 5 + 1, none⟩) hl).trans q1, (hb.cell (p := ⟨g, i * 5 + 2, none⟩) hl).trans q2, (hb.cell (p := ⟨g, i * 5 + 3, none⟩) hl).trans q3, (hb.cell (p := ⟨g, i * 5 + 4, none⟩) hl).trans q4⟩, hi2.up (up_below hb)⟩
theorem blk_In {w : World} {g o n : Nat} {v : Value} (h : ∃ cur, w.heap[g]? = some (.cells cur 188 (0, 0)) ∧ cur.size = n) : ∃ cur, (w.setCell ⟨g, o, none⟩ v).heap[g]? = some (.cells cur 188 (0, 0)) ∧ cur.size = n := by
  obtain ⟨cur, e, hc⟩ := h
  refine ⟨cur.setIfInBounds o v, ?_, by simpa using hc⟩
  simp only [World.setCell, Array.getElem?_modify, if_true, e, Option.map_some]
  rfl
theorem CpIn.step {w W : World} {g n k : Nat} {xs : List In} {b1 : Nat} (H : CpIn w g n k xs W) (hk : k < n) (x : In) (hx : x = xs.getD k I0) (ho : In.Is (g + 1) W x (some ⟨b1, 0, none⟩)) :
    CpIn w g n (k + 1) xs (((((W.setCell ⟨g, k * 5, none⟩ (.int .i64 x.op)).setCell ⟨g, k * 5 + 1, none⟩ (.int .i64 x.a)).setCell ⟨g, k * 5 + 2, none⟩ (.int .i64 x.b)).setCell ⟨g, k * 5 + 3, none⟩ (.int .u64 x.v)).setCell ⟨g, k * 5 + 4, none⟩ (.slice (some ⟨b1, 0, none⟩) x.l.length x.l.length)) := by
  obtain ⟨hl, hc, hf⟩ := H.cells
  obtain ⟨u0, e0⟩ := hc (k * 5) (by omega)
  obtain ⟨u1, e1⟩ := hc (k * 5 + 1) (by omega)
  obtain ⟨u2, e2⟩ := hc (k * 5 + 2) (by omega)
  obtain ⟨u3, e3⟩ := hc (k * 5 + 3) (by omega)
  obtain ⟨u4, e4⟩ := hc (k * 5 + 4) (by omega)
  refine ⟨blk_In (blk_In (blk_In (blk_In (blk_In (H.blk))))), fun i hi => ?_, (((((H.bel.setCell H.ge _).setCell H.ge _).setCell H.ge _).setCell H.ge _).setCell H.ge _), H.ge⟩
  by_cases hik : i = k
  · subst hik
    rw [← hx]
    exact ⟨_, _, ⟨set_off (set_off (set_off (set_off (set_same (e0)) (by omega)) (by omega)) (by omega)) (by omega), set_off (set_off (set_off (set_same (set_off (e1) (by omega))) (by omega)) (by omega)) (by omega), set_off (set_off (set_same (set_off (set_off (e2) (by omega)) (by omega))) (by omega)) (by omega), set_off (set_same (set_off (set_off (set_off (e3) (by omega)) (by omega)) (by omega))) (by omega), set_same (set_off (set_off (set_off (set_off (e4) (by omega)) (by omega)) (by omega)) (by omega))⟩, (((((ho.up (up_set (Nat.lt_succ_self g))).up (up_set (Nat.lt_succ_self g))).up (up_set (Nat.lt_succ_self g))).up (up_set (Nat.lt_succ_self g))).up (up_set (Nat.lt_succ_self g)))⟩
  · obtain ⟨a1, c1, ⟨q0, q1, q2, q3, q4⟩, hi2⟩ := H.done i (by omega)
    exact ⟨a1, c1, ⟨set_off (set_off (set_off (set_off (set_off (q0) (by omega)) (by omega)) (by omega)) (by omega)) (by omega), set_off (set_off (set_off (set_off (set_off (q1) (by omega)) (by omega)) (by omega)) (by omega)) (by omega), set_off (set_off (set_off (set_off (set_off (q2) (by omega)) (by omega)) (by omega)) (by omega)) (by omega), set_off (set_off (set_off (set_off (set_off (q3) (by omega)) (by omega)) (by omega)) (by omega)) (by omega), set_off (set_off (set_off (set_off (set_off (q4) (by omega)) (by omega)) (by omega)) (by omega)) (by omega)⟩, (((((hi2.up (up_set (Nat.lt_succ_self g))).up (up_set (Nat.lt_succ_self g))).up (up_set (Nat.lt_succ_self g))).up (up_set (Nat.lt_succ_self g))).up (up_set (Nat.lt_succ_self g)))⟩
theorem CpIn.ls {w W : World} {g : Nat} {xs : List In} (h : CpIn w g xs.length xs.length xs W) : In.Ls g W (some ⟨g, 0, none⟩) xs := by
  refine .inr ⟨g, 0, rfl, Nat.le_refl _, fun i hi => ?_⟩
  obtain ⟨a1, c1, qs, hi2⟩ := h.done i hi
  rw [Nat.zero_add]
  exact ⟨a1, c1, qs, hi2.mono (Nat.le_succ g)⟩
set_option maxHeartbeats 8000000 in
theorem rtIns_c (a : Option Addr) (c : Nat) (xs : List In) (w : World) (hl : xs.length ≤ 1048576 ∧ ∀ i, i < xs.length → In.LB 1048576 (xs.getD i I0)) (hL : In.Ls 0 w a xs) :
    Calls Tryz.prog 172 #[.slice a xs.length c] w fun e w' => e = .returned (.slice (some ⟨w.heap.size, 0, none⟩) xs.length xs.length) ∧ In.Ls w.heap.size w' (some ⟨w.heap.size, 0, none⟩) xs ∧ Below w.heap.size w w' := by
  obtain ⟨hn, hll⟩ := hl
  have hmk := makeIn xs.length hn
  have HL := Hid.mk' hL
  have Hl := Hid.mk' hll
  clear hL hll
  have hst : CpIn w w.heap.size xs.length 0 xs (w.alloc (.cells (madeCells #[.int .i64 0, .int .i64 0, .int .i64 0, .int .u64 0, .slice none 0 0] (xs.length * 5)) 188)) :=
    ⟨⟨_, heap_new _ _, by simp [madeCells]⟩, fun i hi => by omega, (Below.refl _ _).alloc (Nat.le_refl _) _, Nat.le_refl _⟩
  have HS := Hid.mk' hst
  clear hst
  go_enter Tryz.func172, Tryz.ntmps172
  go_wp2
  go_loopw [4] (fun i wr => ∃ k : Nat, k ≤ xs.length ∧ i = .int .i64 k ∧ CpIn w w.heap.size xs.length k xs wr) (fun i _ => xs.length - (intOf i).toNat)
  case atStart => exact ⟨0, Nat.zero_le _, rfl, HS.out⟩
  case round =>
    obtain ⟨k, hk, rfl, hcp⟩ := hrel
    clear HS hmk
    by_cases hlt : k < xs.length
    · have hki : (k : Int) < (xs.length : Int) := by omega
      rcases HL.out.up (up_below hcp.bel) with hx | ⟨b, o, ea, _, hc⟩
      · subst hx; simp at hlt
      have hxk := hc k hlt
      have hxl := Hl.out k hlt
      subst ea
      obtain ⟨x, hx⟩ : ∃ x, x = xs.getD k I0 := ⟨_, rfl⟩
      rw [← hx] at hxk hxl
      obtain ⟨a1, c1, ⟨q0, q1, q2, q3, q4⟩, hi⟩ := hxk
      have HT := Hid.mk' (rtIn_c x a1 c1 wr hi hxl)
      have HX := Hid.mk' hx
      have HP := Hid.mk' hcp
      clear hx hc hcp hi HL
      go_wp2_with fail
      refine HT.out.mono ?_
      rintro e w1 ⟨b1, rfl, ho, hb⟩
      have hcp1 := HP.out.keep hb
      obtain ⟨hl1, hc1, hf1⟩ := hcp1.cells
      obtain ⟨u0, e0⟩ := hc1 (k * 5) (by omega)
      obtain ⟨u1, e1⟩ := hc1 (k * 5 + 1) (by omega)
      obtain ⟨u2, e2⟩ := hc1 (k * 5 + 2) (by omega)
      obtain ⟨u3, e3⟩ := hc1 (k * 5 + 3) (by omega)
      obtain ⟨u4, e4⟩ := hc1 (k * 5 + 4) (by omega)
      have HP1 := Hid.mk' (hcp1.step hlt x HX.out (ho.mono (by have := HP.out.cells.1; omega)))
      clear ho hb hcp1 hc1 HT HP q0 q1 q2 q3 q4
      go_wp2
      go_roundw
      case rel => exact ⟨k + 1, by omega, by go_num, HP1.out⟩
      case measure => simp [intOf]; omega
    · have e : k = xs.length := by omega
      subst e
      go_wp2
      go_ret
      exact ⟨rfl, hcp.ls, hcp.bel⟩
theorem Tryz.infoLimits : (Tryz.prog.info? 99).map (fun i => (i.zero, i.size, i.bytes)) = some (some (.agg #[.int .i64 0, .int .i64 0, .bool false]), 3, 24) := by kernel_rfl
theorem makeLimits (n : Nat) (hn : n ≤ 1048576) (w : World) : (Instr.makeSlice 38 (.int .i64 (n : Int)) (.int .i64 (n : Int))).run Tryz.prog w = .ok (.slice (some ⟨w.heap.size, 0, none⟩) n n) (w.alloc (.cells (madeCells #[.int .i64 0, .int .i64 0, .bool false] (n * 3)) 99)) := by
  obtain ⟨i, hi, hzz⟩ := Option.map_eq_some_iff.1 Tryz.infoLimits
  simp only [Prod.mk.injEq] at hzz
  obtain ⟨hz, hs, hb⟩ := hzz
  have := run_make (P := Tryz.prog) w 38 99 i _ Tryz.underlying38 hi hz .i64 .i64 n n (by omega) (by omega) (by rw [hb]; omega) (by omega)
  rw [hs] at this
  simpa [Value.cells] using this
structure CpLimits (w : World) (g n k : Nat) (xs : List Limits) (W : World) : Prop where
  blk : ∃ cur, W.heap[g]? = some (.cells cur 99 (0, 0)) ∧ cur.size = n * 3
  done : ∀ i, i < k → (W.cell? ⟨g, i * 3, none⟩ = some (.int .i64 (xs.getD i Limits.z).min) ∧ W.cell? ⟨g, i * 3 + 1, none⟩ = some (.int .i64 (xs.getD i Limits.z).max) ∧ W.cell? ⟨g, i * 3 + 2, none⟩ = some (.bool (xs.getD i Limits.z).has)) ∧ Limits.Is (g + 1) W (xs.getD i Limits.z)
  bel : Below w.heap.size w W
  ge : w.heap.size ≤ g
theorem CpLimits.cells {w W : World} {g n k : Nat} {xs : List Limits} (h : CpLimits w g n k xs W) : g < W.heap.size ∧ (∀ j, j < n * 3 → ∃ u, W.cell? ⟨g, j, none⟩ = some u) ∧ ∀ j, W.frozen? ⟨g, j, none⟩ = false := by
  obtain ⟨cur, e, hc⟩ := h.blk
  have hl : g < W.heap.size := by
    rcases Nat.lt_or_ge g W.heap.size with h' | h'
    · exact h'
    · rw [Array.getElem?_eq_none h'] at e; cases e
  refine ⟨hl, fun j hj => ?_, fun j => ?_⟩
  · simp only [World.cell?, e]
    exact ⟨cur[j]'(by omega), by simp [show j < cur.size by omega]⟩
  · simp only [World.frozen?, e]; simp
theorem CpLimits.keep {w W W1 : World} {g n k : Nat} {xs : List Limits} (h : CpLimits w g n k xs W) (hb : Below W.heap.size W W1) : CpLimits w g n k xs W1 := by
  obtain ⟨cur, e, hc⟩ := h.blk
  have hl := h.cells.1
  refine ⟨⟨cur, (hb.block g hl).trans e, hc⟩, fun i hi => ?_, h.bel.trans (hb.mono h.bel.size), h.ge⟩
  obtain ⟨⟨q0, q1, q2⟩, hi2⟩ := h.done i hi
  exact ⟨⟨(hb.cell (p := ⟨g, i * 3, none⟩) hl).trans q0, (hb.cell (p := ⟨g, i * 3 + 1, none⟩) hl).trans q1, (hb.cell (p := ⟨g, i * 3 + 2, none⟩) hl).trans q2⟩, hi2.up (up_below hb)⟩
theorem blk_Limits {w : World} {g o n : Nat} {v : Value} (h : ∃ cur, w.heap[g]? = some (.cells cur 99 (0, 0)) ∧ cur.size = n) : ∃ cur, (w.setCell ⟨g, o, none⟩ v).heap[g]? = some (.cells cur 99 (0, 0)) ∧ cur.size = n := by
  obtain ⟨cur, e, hc⟩ := h
  refine ⟨cur.setIfInBounds o v, ?_, by simpa using hc⟩
  simp only [World.setCell, Array.getElem?_modify, if_true, e, Option.map_some]
  rfl
theorem CpLimits.step {w W : World} {g n k : Nat} {xs : List Limits} (H : CpLimits w g n k xs W) (hk : k < n) (x : Limits) (hx : x = xs.getD k Limits.z) (ho : Limits.Is (g + 1) W x) :
    CpLimits w g n (k + 1) xs (((W.setCell ⟨g, k * 3, none⟩ (.int .i64 x.min)).setCell ⟨g, k * 3 + 1, none⟩ (.int .i64 x.max)).setCell ⟨g, k * 3 + 2, none⟩ (.bool x.has)) := by
  obtain ⟨hl, hc, hf⟩ := H.cells
  obtain ⟨u0, e0⟩ := hc (k * 3) (by omega)
  obtain ⟨u1, e1⟩ := hc (k * 3 + 1) (by omega)
  obtain ⟨u2, e2⟩ := hc (k * 3 + 2) (by omega)
  refine ⟨blk_Limits (blk_Limits (blk_Limits (H.blk))), fun i hi => ?_, (((H.bel.setCell H.ge _).setCell H.ge _).setCell H.ge _), H.ge⟩
  by_cases hik : i = k
  · subst hik
    rw [← hx]
    exact ⟨⟨set_off (set_off (set_same (e0)) (by omega)) (by omega), set_off (set_same (set_off (e1) (by omega))) (by omega), set_same (set_off (set_off (e2) (by omega)) (by omega))⟩, (((ho.up (up_set (Nat.lt_succ_self g))).up (up_set (Nat.lt_succ_self g))).up (up_set (Nat.lt_succ_self g)))⟩
  · obtain ⟨⟨q0, q1, q2⟩, hi2⟩ := H.done i (by omega)
    exact ⟨⟨set_off (set_off (set_off (q0) (by omega)) (by omega)) (by omega), set_off (set_off (set_off (q1) (by omega)) (by omega)) (by omega), set_off (set_off (set_off (q2) (by omega)) (by omega)) (by omega)⟩, (((hi2.up (up_set (Nat.lt_succ_self g))).up (up_set (Nat.lt_succ_self g))).up (up_set (Nat.lt_succ_self g)))⟩
theorem CpLimits.ls {w W : World} {g : Nat} {xs : List Limits} (h : CpLimits w g xs.length xs.length xs W) : Limits.Ls g W (some ⟨g, 0, none⟩) xs := by
  refine .inr ⟨g, 0, rfl, Nat.le_refl _, fun i hi => ?_⟩
  obtain ⟨qs, hi2⟩ := h.done i hi
  rw [Nat.zero_add]
  exact ⟨qs, hi2.mono (Nat.le_succ g)⟩
set_option maxHeartbeats 8000000 in
theorem rtLimitss_c (a : Option Addr) (c : Nat) (xs : List Limits) (w : World) (hl : xs.length ≤ 1048576 ∧ ∀ i, i < xs.length → Limits.LB 1048576 (xs.getD i Limits.z)) (hL : Limits.Ls 0 w a xs) :
    Calls Tryz.prog 40 #[.slice a xs.length c] w fun e w' => e = .returned (.slice (some ⟨w.heap.size, 0, none⟩) xs.length xs.length) ∧ Limits.Ls w.heap.size w' (some ⟨w.heap.size, 0, none⟩) xs ∧ Below w.heap.size w w' := by
  obtain ⟨hn, hll⟩ := hl
  have hmk := makeLimits xs.length hn
  have HL := Hid.mk' hL
  have Hl := Hid.mk' hll
  clear hL hll
  have hst : CpLimits w w.heap.size xs.length 0 xs (w.alloc (.cells (madeCells #[.int .i64 0, .int .i64 0, .bool false] (xs.length * 3)) 99)) :=
    ⟨⟨_, heap_new _ _, by simp [madeCells]⟩, fun i hi => by omega, (Below.refl _ _).alloc (Nat.le_refl _) _, Nat.le_refl _⟩
  have HS := Hid.mk' hst
  clear hst
  go_enter Tryz.func40, Tryz.ntmps40
  go_wp2
  go_loopw [4] (fun i wr => ∃ k : Nat, k ≤ xs.length ∧ i = .int .i64 k ∧ CpLimits w w.heap.size xs.length k xs wr) (fun i _ => xs.length - (intOf i).toNat)
  case atStart => exact ⟨0, Nat.zero_le _, rfl, HS.out⟩
  case round =>
    obtain ⟨k, hk, rfl, hcp⟩ := hrel
    clear HS hmk
    by_cases hlt : k < xs.length
    · have hki : (k : Int) < (xs.length : Int) := by omega
      rcases HL.out.up (up_below hcp.bel) with hx | ⟨b, o, ea, _, hc⟩
      · subst hx; simp at hlt
      have hxk := hc k hlt
      have hxl := Hl.out k hlt
      subst ea
      obtain ⟨x, hx⟩ : ∃ x, x = xs.getD k Limits.z := ⟨_, rfl⟩
      rw [← hx] at hxk hxl
      obtain ⟨⟨q0, q1, q2⟩, hi⟩ := hxk
      have HT := Hid.mk' (rtLimits_c x wr hi hxl)
      have HX := Hid.mk' hx
      have HP := Hid.mk' hcp
      clear hx hc hcp hi HL
      go_wp2_with fail
      refine HT.out.mono ?_
      rintro e w1 ⟨rfl, ho, hb⟩
      have hcp1 := HP.out.keep hb
      obtain ⟨hl1, hc1, hf1⟩ := hcp1.cells
      obtain ⟨u0, e0⟩ := hc1 (k * 3) (by omega)
      obtain ⟨u1, e1⟩ := hc1 (k * 3 + 1) (by omega)
      obtain ⟨u2, e2⟩ := hc1 (k * 3 + 2) (by omega)
      have HP1 := Hid.mk' (hcp1.step hlt x HX.out (ho.mono (by have := HP.out.cells.1; omega)))
      clear ho hb hcp1 hc1 HT HP q0 q1 q2
      go_wp2
      go_roundw
      case rel => exact ⟨k + 1, by omega, by go_num, HP1.out⟩
      case measure => simp [intOf]; omega
    · have e : k = xs.length := by omega
      subst e
      go_wp2
      go_ret
      exact ⟨rfl, hcp.ls, hcp.bel⟩
theorem Tryz.infoGrp : (Tryz.prog.info? 191).map (fun i => (i.zero, i.size, i.bytes)) = some (some (.agg #[.int .i64 0, .int .i64 0]), 2, 16) := by kernel_rfl
theorem makeGrp (n : Nat) (hn : n ≤ 1048576) (w : World) : (Instr.makeSlice 72 (.int .i64 (n : Int)) (.int .i64 (n : Int))).run Tryz.prog w = .ok (.slice (some ⟨w.heap.size, 0, none⟩) n n) (w.alloc (.cells (madeCells #[.int .i64 0, .int .i64 0] (n * 2)) 191)) := by
  obtain ⟨i, hi, hzz⟩ := Option.map_eq_some_iff.1 Tryz.infoGrp
  simp only [Prod.mk.injEq] at hzz
  obtain ⟨hz, hs, hb⟩ := hzz
  have := run_make (P := Tryz.prog) w 72 191 i _ Tryz.underlying72 hi hz .i64 .i64 n n (by omega) (by omega) (by rw [hb]; omega) (by omega)
  rw [hs] at this
  simpa [Value.cells] using this
structure CpGrp (w : World) (g n k : Nat) (xs : List Grp) (W : World) : Prop where
  blk : ∃ cur, W.heap[g]? = some (.cells cur 191 (0, 0)) ∧ cur.size = n * 2
  done : ∀ i, i < k → (W.cell? ⟨g, i * 2, none⟩ = some (.int .i64 (xs.getD i Grp.z).n) ∧ W.cell? ⟨g, i * 2 + 1, none⟩ = some (.int .i64 (xs.getD i Grp.z).ty)) ∧ Grp.Is (g + 1) W (xs.getD i Grp.z)
  bel : Below w.heap.size w W
  ge : w.heap.size ≤ g
theorem CpGrp.cells {w W : World} {g n k : Nat} {xs : List Grp} (h : CpGrp w g n k xs W) : g < W.heap.size ∧ (∀ j, j < n * 2 → ∃ u, W.cell? ⟨g, j, none⟩ = some u) ∧ ∀ j, W.frozen? ⟨g, j, none⟩ = false := by
  obtain ⟨cur, e, hc⟩ := h.blk
  have hl : g < W.heap.size := by
    rcases Nat.lt_or_ge g W.heap.size with h' | h'
    · exact h'
    · rw [Array.getElem?_eq_none h'] at e; cases e
  refine ⟨hl, fun j hj => ?_, fun j => ?_⟩
  · simp only [World.cell?, e]
    exact ⟨cur[j]'(by omega), by simp [show j < cur.size by omega]⟩
  · simp only [World.frozen?, e]; simp
theorem CpGrp.keep {w W W1 : World} {g n k : Nat} {xs : List Grp} (h : CpGrp w g n k xs W) (hb : Below W.heap.size W W1) : CpGrp w g n k xs W1 := by
  obtain ⟨cur, e, hc⟩ := h.blk
  have hl := h.cells.1
  refine ⟨⟨cur, (hb.block g hl).trans e, hc⟩, fun i hi => ?_, h.bel.trans (hb.mono h.bel.size), h.ge⟩
  obtain ⟨⟨q0, q1⟩, hi2⟩ := h.done i hi
  exact ⟨⟨(hb.cell (p := ⟨g, i * 2, none⟩) hl).trans q0, (hb.cell (p := ⟨g, i * 2 + 1, none⟩) hl).trans q1⟩, hi2.up (up_below hb)⟩
theorem blk_Grp {w : World} {g o n : Nat} {v : Value} (h : ∃ cur, w.heap[g]? = some (.cells cur 191 (0, 0)) ∧ cur.size = n) : ∃ cur, (w.setCell ⟨g, o, none⟩ v).heap[g]? = some (.cells cur 191 (0, 0)) ∧ cur.size = n := by
  obtain ⟨cur, e, hc⟩ := h
  refine ⟨cur.setIfInBounds o v, ?_, by simpa using hc⟩
  simp only [World.setCell, Array.getElem?_modify, if_true, e, Option.map_some]
  rfl
theorem CpGrp.step {w W : World} {g n k : Nat} {xs : List Grp} (H : CpGrp w g n k xs W) (hk : k < n) (x : Grp) (hx : x = xs.getD k Grp.z) (ho : Grp.Is (g + 1) W x) :
    CpGrp w g n (k + 1) xs ((W.setCell ⟨g, k * 2, none⟩ (.int .i64 x.n)).setCell ⟨g, k * 2 + 1, none⟩ (.int .i64 x.ty)) := by
  obtain ⟨hl, hc, hf⟩ := H.cells
  obtain ⟨u0, e0⟩ := hc (k * 2) (by omega)
  obtain ⟨u1, e1⟩ := hc (k * 2 + 1) (by omega)
  refine ⟨blk_Grp (blk_Grp (H.blk)), fun i hi => ?_, ((H.bel.setCell H.ge _).setCell H.ge _), H.ge⟩
  by_cases hik : i = k
  · subst hik
    rw [← hx]
    exact ⟨⟨set_off (set_same (e0)) (by omega), set_same (set_off (e1) (by omega))⟩, ((ho.up (up_set (Nat.lt_succ_self g))).up (up_set (Nat.lt_succ_self g)))⟩
  · obtain ⟨⟨q0, q1⟩, hi2⟩ := H.done i (by omega)
    exact ⟨⟨set_off (set_off (q0) (by omega)) (by omega), set_off (set_off (q1) (by omega)) (by omega)⟩, ((hi2.up (up_set (Nat.lt_succ_self g))).up (up_set (Nat.lt_succ_self g)))⟩
theorem CpGrp.ls {w W : World} {g : Nat} {xs : List Grp} (h : CpGrp w g xs.length xs.length xs W) : Grp.Ls g W (some ⟨g, 0, none⟩) xs := by
  refine .inr ⟨g, 0, rfl, Nat.le_refl _, fun i hi => ?_⟩
  obtain ⟨qs, hi2⟩ := h.done i hi
  rw [Nat.zero_add]
  exact ⟨qs, hi2.mono (Nat.le_succ g)⟩
set_option maxHeartbeats 8000000 in
theorem rtGrps_c (a : Option Addr) (c : Nat) (xs : List Grp) (w : World) (hl : xs.length ≤ 1048576 ∧ ∀ i, i < xs.length → Grp.LB 1048576 (xs.getD i Grp.z)) (hL : Grp.Ls 0 w a xs) :
    Calls Tryz.prog 173 #[.slice a xs.length c] w fun e w' => e = .returned (.slice (some ⟨w.heap.size, 0, none⟩) xs.length xs.length) ∧ Grp.Ls w.heap.size w' (some ⟨w.heap.size, 0, none⟩) xs ∧ Below w.heap.size w w' := by
  obtain ⟨hn, hll⟩ := hl
  have hmk := makeGrp xs.length hn
  have HL := Hid.mk' hL
  have Hl := Hid.mk' hll
  clear hL hll
  have hst : CpGrp w w.heap.size xs.length 0 xs (w.alloc (.cells (madeCells #[.int .i64 0, .int .i64 0] (xs.length * 2)) 191)) :=
    ⟨⟨_, heap_new _ _, by simp [madeCells]⟩, fun i hi => by omega, (Below.refl _ _).alloc (Nat.le_refl _) _, Nat.le_refl _⟩
  have HS := Hid.mk' hst
  clear hst
  go_enter Tryz.func173, Tryz.ntmps173
  go_wp2
  go_loopw [4] (fun i wr => ∃ k : Nat, k ≤ xs.length ∧ i = .int .i64 k ∧ CpGrp w w.heap.size xs.length k xs wr) (fun i _ => xs.length - (intOf i).toNat)
  case atStart => exact ⟨0, Nat.zero_le _, rfl, HS.out⟩
  case round =>
    obtain ⟨k, hk, rfl, hcp⟩ := hrel
    clear HS hmk
    by_cases hlt : k < xs.length
    · have hki : (k : Int) < (xs.length : Int) := by omega
      rcases HL.out.up (up_below hcp.bel) with hx | ⟨b, o, ea, _, hc⟩
      · subst hx; simp at hlt
      have hxk := hc k hlt
      have hxl := Hl.out k hlt
      subst ea
      obtain ⟨x, hx⟩ : ∃ x, x = xs.getD k Grp.z := ⟨_, rfl⟩
      rw [← hx] at hxk hxl
      obtain ⟨⟨q0, q1⟩, hi⟩ := hxk
      have HT := Hid.mk' (rtGrp_c x wr hi hxl)
      have HX := Hid.mk' hx
      have HP := Hid.mk' hcp
      clear hx hc hcp hi HL
      go_wp2_with fail
      refine HT.out.mono ?_
      rintro e w1 ⟨rfl, ho, hb⟩
      have hcp1 := HP.out.keep hb
      obtain ⟨hl1, hc1, hf1⟩ := hcp1.cells
      obtain ⟨u0, e0⟩ := hc1 (k * 2) (by omega)
      obtain ⟨u1, e1⟩ := hc1 (k * 2 + 1) (by omega)
      have HP1 := Hid.mk' (hcp1.step hlt x HX.out (ho.mono (by have := HP.out.cells.1; omega)))
      clear ho hb hcp1 hc1 HT HP q0 q1
      go_wp2
      go_roundw
      case rel => exact ⟨k + 1, by omega, by go_num, HP1.out⟩
      case measure => simp [intOf]; omega
    · have e : k = xs.length := by omega
      subst e
      go_wp2
      go_ret
      exact ⟨rfl, hcp.ls, hcp.bel⟩
end Go.Proofs.YtdbmolambolmgaaGreat

set_option linter.unusedVariables false
namespace Go.Proofs.YtdbmolambolmgaaGreat
open Go.RowKit Go.Sort
set_option maxRecDepth 100000
set_option maxHeartbeats 8000000 in
theorem rtFType_c (x : FType) (a1 : Option Addr) (c1 : Nat) (a2 : Option Addr) (c2 : Nat) (w : World) (hI : FType.Is 0 w x a1 a2) (hl : FType.LB 1048576 x) :
    Calls Tryz.prog 115 #[.agg #[.slice a1 x.ps.length c1, .slice a2 x.rs.length c2]] w fun e w' => ∃ b1 b2, e = .returned (.agg #[.slice (some ⟨b1, 0, none⟩) x.ps.length x.ps.length, .slice (some ⟨b2, 0, none⟩) x.rs.length x.rs.length]) ∧ FType.Is w.heap.size w' x (some ⟨b1, 0, none⟩) (some ⟨b2, 0, none⟩) ∧ Below w.heap.size w w' := by
  obtain ⟨l0, l1⟩ := hl
  obtain ⟨r1, r2⟩ := hI
  have R1 := Hid.mk' r1
  have R2 := Hid.mk' r2
  clear r1 r2
  have T0 := Hid.mk' (three w [.slice a1 x.ps.length c1, .slice a2 x.rs.length c2] [.slice none 0 0, .slice none 0 0] [.slice none 0 0, .slice none 0 0] 160 95 95)
  go_enter Tryz.func115, Tryz.ntmps115
  go_upto_region 2 with fail
  refine wp_gen (fun W => Bk W w.heap.size [.slice a1 x.ps.length c1, .slice a2 x.rs.length c2] ∧ Bk W (w.heap.size + 1) [.slice none 0 0, .slice none 0 0] ∧ Bk W (w.heap.size + 2) [.slice none 0 0, .slice none 0 0] ∧ Below w.heap.size w W) T0.out ?_
  rintro W ⟨bb, br, bo, hb⟩
  clear T0
  have e1 : w.heap.size ≠ w.heap.size + 1 := by omega
  have e2 : w.heap.size ≠ w.heap.size + 2 := by omega
  have e3 : w.heap.size + 1 ≠ w.heap.size + 2 := by omega
  have e4 : w.heap.size + 2 ≠ w.heap.size + 1 := by omega
  have q0 : W.cell? ⟨w.heap.size, 0, none⟩ = some (.slice a1 x.ps.length c1) := bb.2.1 0 _ rfl
  have o0 : W.cell? ⟨w.heap.size + 2, 0, none⟩ = some (.slice none 0 0) := bo.2.1 0 _ rfl
  have s0 : W.cell? ⟨w.heap.size + 1, 0, none⟩ = some (.slice none 0 0) := br.2.1 0 _ rfl
  have q1 : W.cell? ⟨w.heap.size, 1, none⟩ = some (.slice a2 x.rs.length c2) := bb.2.1 1 _ rfl
  have o1 : W.cell? ⟨w.heap.size + 2, 1, none⟩ = some (.slice none 0 0) := bo.2.1 1 _ rfl
  have s1 : W.cell? ⟨w.heap.size + 1, 1, none⟩ = some (.slice none 0 0) := br.2.1 1 _ rfl
  have fo := bo.2.2
  have fr := br.2.2
  have hC1 : Below w.heap.size w W := hb
  have HC1 := Hid.mk' (rtInts_c a1 c1 x.ps W l0 (R1.out.up (up_below hC1)))
  obtain ⟨B1, hB1⟩ : ∃ B, B = (W).heap.size := ⟨_, rfl⟩
  rw [← hB1] at HC1
  have HQ1 := Hid.mk' hB1
  clear hB1
  have bb1 : Bk W w.heap.size [.slice a1 x.ps.length c1, .slice a2 x.rs.length c2] := bb
  have br1 : Bk W (w.heap.size + 1) [.slice none 0 0, .slice none 0 0] := br
  have bo1 : Bk W (w.heap.size + 2) [.slice none 0 0, .slice none 0 0] := bo
  go_wp2_with fail
  refine HC1.out.mono ?_
  rintro e W1 ⟨rfl, n1, hb1⟩
  have bbn := bb1.keep (hb_of hb1 HQ1.out)
  have brn := br1.keep (hb_of hb1 HQ1.out)
  have bon := bo1.keep (hb_of hb1 HQ1.out)
  have hbn : Below w.heap.size w W1 := hC1.trans ((hb_of hb1 HQ1.out).mono hC1.size)
  clear bb br bo hb fo fr q0 o0 s0 q1 o1 s1
  have bb := bbn
  have br := brn
  have bo := bon
  have hb := hbn
  clear bbn brn bon hbn
  have hBle1 : w.heap.size + 2 < B1 := by rw [HQ1.out]; exact bo1.1
  have n1 := n1.mono (show w.heap.size + 3 ≤ B1 by omega)
  clear hC1 HC1 bb1 br1 bo1 hb1
  have q0 : W1.cell? ⟨w.heap.size, 0, none⟩ = some (.slice a1 x.ps.length c1) := bb.2.1 0 _ rfl
  have o0 : W1.cell? ⟨w.heap.size + 2, 0, none⟩ = some (.slice none 0 0) := bo.2.1 0 _ rfl
  have s0 : W1.cell? ⟨w.heap.size + 1, 0, none⟩ = some (.slice none 0 0) := br.2.1 0 _ rfl
  have q1 : W1.cell? ⟨w.heap.size, 1, none⟩ = some (.slice a2 x.rs.length c2) := bb.2.1 1 _ rfl
  have o1 : W1.cell? ⟨w.heap.size + 2, 1, none⟩ = some (.slice none 0 0) := bo.2.1 1 _ rfl
  have s1 : W1.cell? ⟨w.heap.size + 1, 1, none⟩ = some (.slice none 0 0) := br.2.1 1 _ rfl
  have fo := bo.2.2
  have fr := br.2.2
  have hC2 : Below w.heap.size w (W1.setCell ⟨w.heap.size + 2, 0, none⟩ (.slice (some ⟨B1, 0, none⟩) x.ps.length x.ps.length)) := (hb.setCell (by show w.heap.size ≤ w.heap.size + 2; omega) _)
  have HC2 := Hid.mk' (rtInts_c a2 c2 x.rs (W1.setCell ⟨w.heap.size + 2, 0, none⟩ (.slice (some ⟨B1, 0, none⟩) x.ps.length x.ps.length)) l1 (R2.out.up (up_below hC2)))
  obtain ⟨B2, hB2⟩ : ∃ B, B = ((W1.setCell ⟨w.heap.size + 2, 0, none⟩ (.slice (some ⟨B1, 0, none⟩) x.ps.length x.ps.length))).heap.size := ⟨_, rfl⟩
  rw [← hB2] at HC2
  have HQ2 := Hid.mk' hB2
  clear hB2
  have bb2 : Bk (W1.setCell ⟨w.heap.size + 2, 0, none⟩ (.slice (some ⟨B1, 0, none⟩) x.ps.length x.ps.length)) w.heap.size [.slice a1 x.ps.length c1, .slice a2 x.rs.length c2] := (bb.other (by omega))
  have br2 : Bk (W1.setCell ⟨w.heap.size + 2, 0, none⟩ (.slice (some ⟨B1, 0, none⟩) x.ps.length x.ps.length)) (w.heap.size + 1) [.slice none 0 0, .slice none 0 0] := (br.other (by omega))
  have bo2 : Bk (W1.setCell ⟨w.heap.size + 2, 0, none⟩ (.slice (some ⟨B1, 0, none⟩) x.ps.length x.ps.length)) (w.heap.size + 2) [.slice (some ⟨B1, 0, none⟩) x.ps.length x.ps.length, .slice none 0 0] := bo.set
  go_wp2_with fail
  refine HC2.out.mono ?_
  rintro e W2 ⟨rfl, n2, hb2⟩
  have bbn := bb2.keep (hb_of hb2 HQ2.out)
  have brn := br2.keep (hb_of hb2 HQ2.out)
  have bon := bo2.keep (hb_of hb2 HQ2.out)
  have hbn : Below w.heap.size w W2 := hC2.trans ((hb_of hb2 HQ2.out).mono hC2.size)
  clear bb br bo hb fo fr q0 o0 s0 q1 o1 s1
  have bb := bbn
  have br := brn
  have bo := bon
  have hb := hbn
  clear bbn brn bon hbn
  have n1 := n1.up (Up.size_trans (up_sets1 (by omega)) (up_below (hb_of hb2 HQ2.out)) (by simp))
  have hBle2 : w.heap.size + 2 < B2 := by rw [HQ2.out]; exact bo2.1
  have n2 := n2.mono (show w.heap.size + 3 ≤ B2 by omega)
  clear hC2 HC2 bb2 br2 bo2 hb2
  have q0 : W2.cell? ⟨w.heap.size, 0, none⟩ = some (.slice a1 x.ps.length c1) := bb.2.1 0 _ rfl
  have o0 : W2.cell? ⟨w.heap.size + 2, 0, none⟩ = some (.slice (some ⟨B1, 0, none⟩) x.ps.length x.ps.length) := bo.2.1 0 _ rfl
  have s0 : W2.cell? ⟨w.heap.size + 1, 0, none⟩ = some (.slice none 0 0) := br.2.1 0 _ rfl
  have q1 : W2.cell? ⟨w.heap.size, 1, none⟩ = some (.slice a2 x.rs.length c2) := bb.2.1 1 _ rfl
  have o1 : W2.cell? ⟨w.heap.size + 2, 1, none⟩ = some (.slice none 0 0) := bo.2.1 1 _ rfl
  have s1 : W2.cell? ⟨w.heap.size + 1, 1, none⟩ = some (.slice none 0 0) := br.2.1 1 _ rfl
  have fo := bo.2.2
  have fr := br.2.2
  have HB := Hid.mk' hb
  have HN1 := Hid.mk' n1
  have HN2 := Hid.mk' n2
  clear hb bb br bo n1 n2
  go_wp2
  exact bodyPost_ret (v := .agg #[.slice (some ⟨B1, 0, none⟩) x.ps.length x.ps.length, .slice (some ⟨B2, 0, none⟩) x.rs.length x.rs.length]) (by simp [results, Tryz.results115, go_sem, s0, s1, e3, e4]) rfl ⟨B1, B2, rfl, ⟨((HN1.out.up (up_sets1 (by omega))).up (up_set1_2 (by omega))).mono (by omega), ((HN2.out.up (up_sets1 (by omega))).up (up_set1_2 (by omega))).mono (by omega)⟩, (((HB.out.setCell (by show w.heap.size ≤ w.heap.size + 2; omega) _).setCell (by show w.heap.size ≤ w.heap.size + 1; omega) _).setCell (by show w.heap.size ≤ w.heap.size + 1; omega) _)⟩
theorem Tryz.infoFType : (Tryz.prog.info? 95).map (fun i => (i.zero, i.size, i.bytes)) = some (some (.agg #[.slice none 0 0, .slice none 0 0]), 2, 48) := by kernel_rfl
theorem makeFType (n : Nat) (hn : n ≤ 1048576) (w : World) : (Instr.makeSlice 36 (.int .i64 (n : Int)) (.int .i64 (n : Int))).run Tryz.prog w = .ok (.slice (some ⟨w.heap.size, 0, none⟩) n n) (w.alloc (.cells (madeCells #[.slice none 0 0, .slice none 0 0] (n * 2)) 95)) := by
  obtain ⟨i, hi, hzz⟩ := Option.map_eq_some_iff.1 Tryz.infoFType
  simp only [Prod.mk.injEq] at hzz
  obtain ⟨hz, hs, hb⟩ := hzz
  have := run_make (P := Tryz.prog) w 36 95 i _ Tryz.underlying36 hi hz .i64 .i64 n n (by omega) (by omega) (by rw [hb]; omega) (by omega)
  rw [hs] at this
  simpa [Value.cells] using this
structure CpFType (w : World) (g n k : Nat) (xs : List FType) (W : World) : Prop where
  blk : ∃ cur, W.heap[g]? = some (.cells cur 95 (0, 0)) ∧ cur.size = n * 2
  done : ∀ i, i < k → ∃ a1 c1 a2 c2, (W.cell? ⟨g, i * 2, none⟩ = some (.slice a1 (xs.getD i FType.z).ps.length c1) ∧ W.cell? ⟨g, i * 2 + 1, none⟩ = some (.slice a2 (xs.getD i FType.z).rs.length c2)) ∧ FType.Is (g + 1) W (xs.getD i FType.z) a1 a2
  bel : Below w.heap.size w W
  ge : w.heap.size ≤ g
theorem CpFType.cells {w W : World} {g n k : Nat} {xs : List FType} (h : CpFType w g n k xs W) : g < W.heap.size ∧ (∀ j, j < n * 2 → ∃ u, W.cell? ⟨g, j, none⟩ = some u) ∧ ∀ j, W.frozen? ⟨g, j, none⟩ = false := by
  obtain ⟨cur, e, hc⟩ := h.blk
  have hl : g < W.heap.size := by
    rcases Nat.lt_or_ge g W.heap.size with h' | h'
    · exact h'
    · rw [Array.getElem?_eq_none h'] at e; cases e
  refine ⟨hl, fun j hj => ?_, fun j => ?_⟩
  · simp only [World.cell?, e]
    exact ⟨cur[j]'(by omega), by simp [show j < cur.size by omega]⟩
  · simp only [World.frozen?, e]; simp
theorem CpFType.keep {w W W1 : World} {g n k : Nat} {xs : List FType} (h : CpFType w g n k xs W) (hb : Below W.heap.size W W1) : CpFType w g n k xs W1 := by
  obtain ⟨cur, e, hc⟩ := h.blk
  have hl := h.cells.1
  refine ⟨⟨cur, (hb.block g hl).trans e, hc⟩, fun i hi => ?_, h.bel.trans (hb.mono h.bel.size), h.ge⟩
  obtain ⟨a1, c1, a2, c2, ⟨q0, q1⟩, hi2⟩ := h.done i hi
  exact ⟨a1, c1, a2, c2, ⟨(hb.cell (p := ⟨g, i * 2, none⟩) hl).trans q0, (hb.cell (p := ⟨g, i * 2 + 1, none⟩) hl).trans q1⟩, hi2.up (up_below hb)⟩
theorem blk_FType {w : World} {g o n : Nat} {v : Value} (h : ∃ cur, w.heap[g]? = some (.cells cur 95 (0, 0)) ∧ cur.size = n) : ∃ cur, (w.setCell ⟨g, o, none⟩ v).heap[g]? = some (.cells cur 95 (0, 0)) ∧ cur.size = n := by
  obtain ⟨cur, e, hc⟩ := h
  refine ⟨cur.setIfInBounds o v, ?_, by simpa using hc⟩
  simp only [World.setCell, Array.getElem?_modify, if_true, e, Option.map_some]
  rfl
theorem CpFType.step {w W : World} {g n k : Nat} {xs : List FType} {b1 : Nat} {b2 : Nat} (H : CpFType w g n k xs W) (hk : k < n) (x : FType) (hx : x = xs.getD k FType.z) (ho : FType.Is (g + 1) W x (some ⟨b1, 0, none⟩) (some ⟨b2, 0, none⟩)) :
    CpFType w g n (k + 1) xs ((W.setCell ⟨g, k * 2, none⟩ (.slice (some ⟨b1, 0, none⟩) x.ps.length x.ps.length)).setCell ⟨g, k * 2 + 1, none⟩ (.slice (some ⟨b2, 0, none⟩) x.rs.length x.rs.length)) := by
  obtain ⟨hl, hc, hf⟩ := H.cells
  obtain ⟨u0, e0⟩ := hc (k * 2) (by omega)
  obtain ⟨u1, e1⟩ := hc (k * 2 + 1) (by omega)
  refine ⟨blk_FType (blk_FType (H.blk)), fun i hi => ?_, ((H.bel.setCell H.ge _).setCell H.ge _), H.ge⟩
  by_cases hik : i = k
  · subst hik
    rw [← hx]
    exact ⟨_, _, _, _, ⟨set_off (set_same (e0)) (by omega), set_same (set_off (e1) (by omega))⟩, ((ho.up (up_set (Nat.lt_succ_self g))).up (up_set (Nat.lt_succ_self g)))⟩
  · obtain ⟨a1, c1, a2, c2, ⟨q0, q1⟩, hi2⟩ := H.done i (by omega)
    exact ⟨a1, c1, a2, c2, ⟨set_off (set_off (q0) (by omega)) (by omega), set_off (set_off (q1) (by omega)) (by omega)⟩, ((hi2.up (up_set (Nat.lt_succ_self g))).up (up_set (Nat.lt_succ_self g)))⟩
theorem CpFType.ls {w W : World} {g : Nat} {xs : List FType} (h : CpFType w g xs.length xs.length xs W) : FType.Ls g W (some ⟨g, 0, none⟩) xs := by
  refine .inr ⟨g, 0, rfl, Nat.le_refl _, fun i hi => ?_⟩
  obtain ⟨a1, c1, a2, c2, qs, hi2⟩ := h.done i hi
  rw [Nat.zero_add]
  exact ⟨a1, c1, a2, c2, qs, hi2.mono (Nat.le_succ g)⟩
set_option maxHeartbeats 8000000 in
theorem rtFTypes_c (a : Option Addr) (c : Nat) (xs : List FType) (w : World) (hl : xs.length ≤ 1048576 ∧ ∀ i, i < xs.length → FType.LB 1048576 (xs.getD i FType.z)) (hL : FType.Ls 0 w a xs) :
    Calls Tryz.prog 37 #[.slice a xs.length c] w fun e w' => e = .returned (.slice (some ⟨w.heap.size, 0, none⟩) xs.length xs.length) ∧ FType.Ls w.heap.size w' (some ⟨w.heap.size, 0, none⟩) xs ∧ Below w.heap.size w w' := by
  obtain ⟨hn, hll⟩ := hl
  have hmk := makeFType xs.length hn
  have HL := Hid.mk' hL
  have Hl := Hid.mk' hll
  clear hL hll
  have hst : CpFType w w.heap.size xs.length 0 xs (w.alloc (.cells (madeCells #[.slice none 0 0, .slice none 0 0] (xs.length * 2)) 95)) :=
    ⟨⟨_, heap_new _ _, by simp [madeCells]⟩, fun i hi => by omega, (Below.refl _ _).alloc (Nat.le_refl _) _, Nat.le_refl _⟩
  have HS := Hid.mk' hst
  clear hst
  go_enter Tryz.func37, Tryz.ntmps37
  go_wp2
  go_loopw [4] (fun i wr => ∃ k : Nat, k ≤ xs.length ∧ i = .int .i64 k ∧ CpFType w w.heap.size xs.length k xs wr) (fun i _ => xs.length - (intOf i).toNat)
  case atStart => exact ⟨0, Nat.zero_le _, rfl, HS.out⟩
  case round =>
    obtain ⟨k, hk, rfl, hcp⟩ := hrel
    clear HS hmk
    by_cases hlt : k < xs.length
    · have hki : (k : Int) < (xs.length : Int) := by omega
      rcases HL.out.up (up_below hcp.bel) with hx | ⟨b, o, ea, _, hc⟩
      · subst hx; simp at hlt
      have hxk := hc k hlt
      have hxl := Hl.out k hlt
      subst ea
      obtain ⟨x, hx⟩ : ∃ x, x = xs.getD k FType.z := ⟨_, rfl⟩
      rw [← hx] at hxk hxl
      obtain ⟨a1, c1, a2, c2, ⟨q0, q1⟩, hi⟩ := hxk
      have HT := Hid.mk' (rtFType_c x a1 c1 a2 c2 wr hi hxl)
      have HX := Hid.mk' hx
      have HP := Hid.mk' hcp
      clear hx hc hcp hi HL
      go_wp2_with fail
      refine HT.out.mono ?_
      rintro e w1 ⟨b1, b2, rfl, ho, hb⟩
      have hcp1 := HP.out.keep hb
      obtain ⟨hl1, hc1, hf1⟩ := hcp1.cells
      obtain ⟨u0, e0⟩ := hc1 (k * 2) (by omega)
      obtain ⟨u1, e1⟩ := hc1 (k * 2 + 1) (by omega)
      have HP1 := Hid.mk' (hcp1.step hlt x HX.out (ho.mono (by have := HP.out.cells.1; omega)))
      clear ho hb hcp1 hc1 HT HP q0 q1
      go_wp2
      go_roundw
      case rel => exact ⟨k + 1, by omega, by go_num, HP1.out⟩
      case measure => simp [intOf]; omega
    · have e : k = xs.length := by omega
      subst e
      go_wp2
      go_ret
      exact ⟨rfl, hcp.ls, hcp.bel⟩
set_option maxHeartbeats 8000000 in
theorem rtImp_c (x : Imp) (w : World) (hI : Imp.Is 0 w x) (hl : Imp.LB 1048576 x) :
    Calls Tryz.prog 116 #[.agg #[.string x.mod, .string x.nm, .int .i64 x.kind, .int .i64 x.ty, .int .i64 x.lim.min, .int .i64 x.lim.max, .bool x.lim.has, .int .i64 x.gl.ty, .bool x.gl.mu]] w fun e w' => e = .returned (.agg #[.string x.mod, .string x.nm, .int .i64 x.kind, .int .i64 x.ty, .int .i64 x.lim.min, .int .i64 x.lim.max, .bool x.lim.has, .int .i64 x.gl.ty, .bool x.gl.mu]) ∧ Imp.Is w.heap.size w' x ∧ Below w.heap.size w w' := by
  obtain ⟨l0, l1⟩ := hl
  have T0 := Hid.mk' (three w [.string x.mod, .string x.nm, .int .i64 x.kind, .int .i64 x.ty, .int .i64 x.lim.min, .int .i64 x.lim.max, .bool x.lim.has, .int .i64 x.gl.ty, .bool x.gl.mu] [.string ⟨#[]⟩, .string ⟨#[]⟩, .int .i64 0, .int .i64 0, .int .i64 0, .int .i64 0, .bool false, .int .i64 0, .bool false] [.string ⟨#[]⟩, .string ⟨#[]⟩, .int .i64 0, .int .i64 0, .int .i64 0, .int .i64 0, .bool false, .int .i64 0, .bool false] 165 103 103)
  go_enter Tryz.func116, Tryz.ntmps116
  go_upto_region 2 with fail
  refine wp_gen (fun W => Bk W w.heap.size [.string x.mod, .string x.nm, .int .i64 x.kind, .int .i64 x.ty, .int .i64 x.lim.min, .int .i64 x.lim.max, .bool x.lim.has, .int .i64 x.gl.ty, .bool x.gl.mu] ∧ Bk W (w.heap.size + 1) [.string ⟨#[]⟩, .string ⟨#[]⟩, .int .i64 0, .int .i64 0, .int .i64 0, .int .i64 0, .bool false, .int .i64 0, .bool false] ∧ Bk W (w.heap.size + 2) [.string ⟨#[]⟩, .string ⟨#[]⟩, .int .i64 0, .int .i64 0, .int .i64 0, .int .i64 0, .bool false, .int .i64 0, .bool false] ∧ Below w.heap.size w W) T0.out ?_
  rintro W ⟨bb, br, bo, hb⟩
  clear T0
  have e1 : w.heap.size ≠ w.heap.size + 1 := by omega
  have e2 : w.heap.size ≠ w.heap.size + 2 := by omega
  have e3 : w.heap.size + 1 ≠ w.heap.size + 2 := by omega
  have e4 : w.heap.size + 2 ≠ w.heap.size + 1 := by omega
  have q0 : W.cell? ⟨w.heap.size, 0, none⟩ = some (.string x.mod) := bb.2.1 0 _ rfl
  have o0 : W.cell? ⟨w.heap.size + 2, 0, none⟩ = some (.string ⟨#[]⟩) := bo.2.1 0 _ rfl
  have s0 : W.cell? ⟨w.heap.size + 1, 0, none⟩ = some (.string ⟨#[]⟩) := br.2.1 0 _ rfl
  have q1 : W.cell? ⟨w.heap.size, 1, none⟩ = some (.string x.nm) := bb.2.1 1 _ rfl
  have o1 : W.cell? ⟨w.heap.size + 2, 1, none⟩ = some (.string ⟨#[]⟩) := bo.2.1 1 _ rfl
  have s1 : W.cell? ⟨w.heap.size + 1, 1, none⟩ = some (.string ⟨#[]⟩) := br.2.1 1 _ rfl
  have q2 : W.cell? ⟨w.heap.size, 2, none⟩ = some (.int .i64 x.kind) := bb.2.1 2 _ rfl
  have o2 : W.cell? ⟨w.heap.size + 2, 2, none⟩ = some (.int .i64 0) := bo.2.1 2 _ rfl
  have s2 : W.cell? ⟨w.heap.size + 1, 2, none⟩ = some (.int .i64 0) := br.2.1 2 _ rfl
  have q3 : W.cell? ⟨w.heap.size, 3, none⟩ = some (.int .i64 x.ty) := bb.2.1 3 _ rfl
  have o3 : W.cell? ⟨w.heap.size + 2, 3, none⟩ = some (.int .i64 0) := bo.2.1 3 _ rfl
  have s3 : W.cell? ⟨w.heap.size + 1, 3, none⟩ = some (.int .i64 0) := br.2.1 3 _ rfl
  have q4 : W.cell? ⟨w.heap.size, 4, none⟩ = some (.int .i64 x.lim.min) := bb.2.1 4 _ rfl
  have o4 : W.cell? ⟨w.heap.size + 2, 4, none⟩ = some (.int .i64 0) := bo.2.1 4 _ rfl
  have s4 : W.cell? ⟨w.heap.size + 1, 4, none⟩ = some (.int .i64 0) := br.2.1 4 _ rfl
  have q5 : W.cell? ⟨w.heap.size, 5, none⟩ = some (.int .i64 x.lim.max) := bb.2.1 5 _ rfl
  have o5 : W.cell? ⟨w.heap.size + 2, 5, none⟩ = some (.int .i64 0) := bo.2.1 5 _ rfl
  have s5 : W.cell? ⟨w.heap.size + 1, 5, none⟩ = some (.int .i64 0) := br.2.1 5 _ rfl
  have q6 : W.cell? ⟨w.heap.size, 6, none⟩ = some (.bool x.lim.has) := bb.2.1 6 _ rfl
  have o6 : W.cell? ⟨w.heap.size + 2, 6, none⟩ = some (.bool false) := bo.2.1 6 _ rfl
  have s6 : W.cell? ⟨w.heap.size + 1, 6, none⟩ = some (.bool false) := br.2.1 6 _ rfl
  have q7 : W.cell? ⟨w.heap.size, 7, none⟩ = some (.int .i64 x.gl.ty) := bb.2.1 7 _ rfl
  have o7 : W.cell? ⟨w.heap.size + 2, 7, none⟩ = some (.int .i64 0) := bo.2.1 7 _ rfl
  have s7 : W.cell? ⟨w.heap.size + 1, 7, none⟩ = some (.int .i64 0) := br.2.1 7 _ rfl
  have q8 : W.cell? ⟨w.heap.size, 8, none⟩ = some (.bool x.gl.mu) := bb.2.1 8 _ rfl
  have o8 : W.cell? ⟨w.heap.size + 2, 8, none⟩ = some (.bool false) := bo.2.1 8 _ rfl
  have s8 : W.cell? ⟨w.heap.size + 1, 8, none⟩ = some (.bool false) := br.2.1 8 _ rfl
  have fo := bo.2.2
  have fr := br.2.2
  have hC1 : Below w.heap.size w ((((W.setCell ⟨w.heap.size + 2, 0, none⟩ (.string x.mod)).setCell ⟨w.heap.size + 2, 1, none⟩ (.string x.nm)).setCell ⟨w.heap.size + 2, 2, none⟩ (.int .i64 x.kind)).setCell ⟨w.heap.size + 2, 3, none⟩ (.int .i64 x.ty)) := ((((hb.setCell (by show w.heap.size ≤ w.heap.size + 2; omega) _).setCell (by show w.heap.size ≤ w.heap.size + 2; omega) _).setCell (by show w.heap.size ≤ w.heap.size + 2; omega) _).setCell (by show w.heap.size ≤ w.heap.size + 2; omega) _)
  have HC1 := Hid.mk' (rtLimits_c x.lim ((((W.setCell ⟨w.heap.size + 2, 0, none⟩ (.string x.mod)).setCell ⟨w.heap.size + 2, 1, none⟩ (.string x.nm)).setCell ⟨w.heap.size + 2, 2, none⟩ (.int .i64 x.kind)).setCell ⟨w.heap.size + 2, 3, none⟩ (.int .i64 x.ty)) trivial trivial)
  have bb1 : Bk ((((W.setCell ⟨w.heap.size + 2, 0, none⟩ (.string x.mod)).setCell ⟨w.heap.size + 2, 1, none⟩ (.string x.nm)).setCell ⟨w.heap.size + 2, 2, none⟩ (.int .i64 x.kind)).setCell ⟨w.heap.size + 2, 3, none⟩ (.int .i64 x.ty)) w.heap.size [.string x.mod, .string x.nm, .int .i64 x.kind, .int .i64 x.ty, .int .i64 x.lim.min, .int .i64 x.lim.max, .bool x.lim.has, .int .i64 x.gl.ty, .bool x.gl.mu] := ((((bb.other (by omega)).other (by omega)).other (by omega)).other (by omega))
  have br1 : Bk ((((W.setCell ⟨w.heap.size + 2, 0, none⟩ (.string x.mod)).setCell ⟨w.heap.size + 2, 1, none⟩ (.string x.nm)).setCell ⟨w.heap.size + 2, 2, none⟩ (.int .i64 x.kind)).setCell ⟨w.heap.size + 2, 3, none⟩ (.int .i64 x.ty)) (w.heap.size + 1) [.string ⟨#[]⟩, .string ⟨#[]⟩, .int .i64 0, .int .i64 0, .int .i64 0, .int .i64 0, .bool false, .int .i64 0, .bool false] := ((((br.other (by omega)).other (by omega)).other (by omega)).other (by omega))
  have bo1 : Bk ((((W.setCell ⟨w.heap.size + 2, 0, none⟩ (.string x.mod)).setCell ⟨w.heap.size + 2, 1, none⟩ (.string x.nm)).setCell ⟨w.heap.size + 2, 2, none⟩ (.int .i64 x.kind)).setCell ⟨w.heap.size + 2, 3, none⟩ (.int .i64 x.ty)) (w.heap.size + 2) [.string x.mod, .string x.nm, .int .i64 x.kind, .int .i64 x.ty, .int .i64 0, .int .i64 0, .bool false, .int .i64 0, .bool false] := bo.set.set.set.set
  go_wp2_with fail
  refine HC1.out.mono ?_
  rintro e W1 ⟨rfl, _, hb1⟩
  have bbn := bb1.keep (hb_of hb1 rfl)
  have brn := br1.keep (hb_of hb1 rfl)
  have bon := bo1.keep (hb_of hb1 rfl)
  have hbn : Below w.heap.size w W1 := hC1.trans ((hb_of hb1 rfl).mono hC1.size)
  clear bb br bo hb fo fr q0 o0 s0 q1 o1 s1 q2 o2 s2 q3 o3 s3 q4 o4 s4 q5 o5 s5 q6 o6 s6 q7 o7 s7 q8 o8 s8
  have bb := bbn
  have br := brn
  have bo := bon
  have hb := hbn
  clear bbn brn bon hbn
  clear hC1 HC1 bb1 br1 bo1 hb1
  have q0 : W1.cell? ⟨w.heap.size, 0, none⟩ = some (.string x.mod) := bb.2.1 0 _ rfl
  have o0 : W1.cell? ⟨w.heap.size + 2, 0, none⟩ = some (.string x.mod) := bo.2.1 0 _ rfl
  have s0 : W1.cell? ⟨w.heap.size + 1, 0, none⟩ = some (.string ⟨#[]⟩) := br.2.1 0 _ rfl
  have q1 : W1.cell? ⟨w.heap.size, 1, none⟩ = some (.string x.nm) := bb.2.1 1 _ rfl
  have o1 : W1.cell? ⟨w.heap.size + 2, 1, none⟩ = some (.string x.nm) := bo.2.1 1 _ rfl
  have s1 : W1.cell? ⟨w.heap.size + 1, 1, none⟩ = some (.string ⟨#[]⟩) := br.2.1 1 _ rfl
  have q2 : W1.cell? ⟨w.heap.size, 2, none⟩ = some (.int .i64 x.kind) := bb.2.1 2 _ rfl
  have o2 : W1.cell? ⟨w.heap.size + 2, 2, none⟩ = some (.int .i64 x.kind) := bo.2.1 2 _ rfl
  have s2 : W1.cell? ⟨w.heap.size + 1, 2, none⟩ = some (.int .i64 0) := br.2.1 2 _ rfl
  have q3 : W1.cell? ⟨w.heap.size, 3, none⟩ = some (.int .i64 x.ty) := bb.2.1 3 _ rfl
  have o3 : W1.cell? ⟨w.heap.size + 2, 3, none⟩ = some (.int .i64 x.ty) := bo.2.1 3 _ rfl
  have s3 : W1.cell? ⟨w.heap.size + 1, 3, none⟩ = some (.int .i64 0) := br.2.1 3 _ rfl
  have q4 : W1.cell? ⟨w.heap.size, 4, none⟩ = some (.int .i64 x.lim.min) := bb.2.1 4 _ rfl
  have o4 : W1.cell? ⟨w.heap.size + 2, 4, none⟩ = some (.int .i64 0) := bo.2.1 4 _ rfl
  have s4 : W1.cell? ⟨w.heap.size + 1, 4, none⟩ = some (.int .i64 0) := br.2.1 4 _ rfl
  have q5 : W1.cell? ⟨w.heap.size, 5, none⟩ = some (.int .i64 x.lim.max) := bb.2.1 5 _ rfl
  have o5 : W1.cell? ⟨w.heap.size + 2, 5, none⟩ = some (.int .i64 0) := bo.2.1 5 _ rfl
  have s5 : W1.cell? ⟨w.heap.size + 1, 5, none⟩ = some (.int .i64 0) := br.2.1 5 _ rfl
  have q6 : W1.cell? ⟨w.heap.size, 6, none⟩ = some (.bool x.lim.has) := bb.2.1 6 _ rfl
  have o6 : W1.cell? ⟨w.heap.size + 2, 6, none⟩ = some (.bool false) := bo.2.1 6 _ rfl
  have s6 : W1.cell? ⟨w.heap.size + 1, 6, none⟩ = some (.bool false) := br.2.1 6 _ rfl
  have q7 : W1.cell? ⟨w.heap.size, 7, none⟩ = some (.int .i64 x.gl.ty) := bb.2.1 7 _ rfl
  have o7 : W1.cell? ⟨w.heap.size + 2, 7, none⟩ = some (.int .i64 0) := bo.2.1 7 _ rfl
  have s7 : W1.cell? ⟨w.heap.size + 1, 7, none⟩ = some (.int .i64 0) := br.2.1 7 _ rfl
  have q8 : W1.cell? ⟨w.heap.size, 8, none⟩ = some (.bool x.gl.mu) := bb.2.1 8 _ rfl
  have o8 : W1.cell? ⟨w.heap.size + 2, 8, none⟩ = some (.bool false) := bo.2.1 8 _ rfl
  have s8 : W1.cell? ⟨w.heap.size + 1, 8, none⟩ = some (.bool false) := br.2.1 8 _ rfl
  have fo := bo.2.2
  have fr := br.2.2
  have hC2 : Below w.heap.size w (((W1.setCell ⟨w.heap.size + 2, 4, none⟩ (.int .i64 x.lim.min)).setCell ⟨w.heap.size + 2, 5, none⟩ (.int .i64 x.lim.max)).setCell ⟨w.heap.size + 2, 6, none⟩ (.bool x.lim.has)) := (((hb.setCell (by show w.heap.size ≤ w.heap.size + 2; omega) _).setCell (by show w.heap.size ≤ w.heap.size + 2; omega) _).setCell (by show w.heap.size ≤ w.heap.size + 2; omega) _)
  have HC2 := Hid.mk' (rtGType_c x.gl (((W1.setCell ⟨w.heap.size + 2, 4, none⟩ (.int .i64 x.lim.min)).setCell ⟨w.heap.size + 2, 5, none⟩ (.int .i64 x.lim.max)).setCell ⟨w.heap.size + 2, 6, none⟩ (.bool x.lim.has)) trivial trivial)
  have bb2 : Bk (((W1.setCell ⟨w.heap.size + 2, 4, none⟩ (.int .i64 x.lim.min)).setCell ⟨w.heap.size + 2, 5, none⟩ (.int .i64 x.lim.max)).setCell ⟨w.heap.size + 2, 6, none⟩ (.bool x.lim.has)) w.heap.size [.string x.mod, .string x.nm, .int .i64 x.kind, .int .i64 x.ty, .int .i64 x.lim.min, .int .i64 x.lim.max, .bool x.lim.has, .int .i64 x.gl.ty, .bool x.gl.mu] := (((bb.other (by omega)).other (by omega)).other (by omega))
  have br2 : Bk (((W1.setCell ⟨w.heap.size + 2, 4, none⟩ (.int .i64 x.lim.min)).setCell ⟨w.heap.size + 2, 5, none⟩ (.int .i64 x.lim.max)).setCell ⟨w.heap.size + 2, 6, none⟩ (.bool x.lim.has)) (w.heap.size + 1) [.string ⟨#[]⟩, .string ⟨#[]⟩, .int .i64 0, .int .i64 0, .int .i64 0, .int .i64 0, .bool false, .int .i64 0, .bool false] := (((br.other (by omega)).other (by omega)).other (by omega))
  have bo2 : Bk (((W1.setCell ⟨w.heap.size + 2, 4, none⟩ (.int .i64 x.lim.min)).setCell ⟨w.heap.size + 2, 5, none⟩ (.int .i64 x.lim.max)).setCell ⟨w.heap.size + 2, 6, none⟩ (.bool x.lim.has)) (w.heap.size + 2) [.string x.mod, .string x.nm, .int .i64 x.kind, .int .i64 x.ty, .int .i64 x.lim.min, .int .i64 x.lim.max, .bool x.lim.has, .int .i64 0, .bool false] := bo.set.set.set
  go_wp2_with fail
  refine HC2.out.mono ?_
  rintro e W2 ⟨rfl, _, hb2⟩
  have bbn := bb2.keep (hb_of hb2 rfl)
  have brn := br2.keep (hb_of hb2 rfl)
  have bon := bo2.keep (hb_of hb2 rfl)
  have hbn : Below w.heap.size w W2 := hC2.trans ((hb_of hb2 rfl).mono hC2.size)
  clear bb br bo hb fo fr q0 o0 s0 q1 o1 s1 q2 o2 s2 q3 o3 s3 q4 o4 s4 q5 o5 s5 q6 o6 s6 q7 o7 s7 q8 o8 s8
  have bb := bbn
  have br := brn
  have bo := bon
  have hb := hbn
  clear bbn brn bon hbn
  clear hC2 HC2 bb2 br2 bo2 hb2
  have q0 : W2.cell? ⟨w.heap.size, 0, none⟩ = some (.string x.mod) := bb.2.1 0 _ rfl
  have o0 : W2.cell? ⟨w.heap.size + 2, 0, none⟩ = some (.string x.mod) := bo.2.1 0 _ rfl
  have s0 : W2.cell? ⟨w.heap.size + 1, 0, none⟩ = some (.string ⟨#[]⟩) := br.2.1 0 _ rfl
  have q1 : W2.cell? ⟨w.heap.size, 1, none⟩ = some (.string x.nm) := bb.2.1 1 _ rfl
  have o1 : W2.cell? ⟨w.heap.size + 2, 1, none⟩ = some (.string x.nm) := bo.2.1 1 _ rfl
  have s1 : W2.cell? ⟨w.heap.size + 1, 1, none⟩ = some (.string ⟨#[]⟩) := br.2.1 1 _ rfl
  have q2 : W2.cell? ⟨w.heap.size, 2, none⟩ = some (.int .i64 x.kind) := bb.2.1 2 _ rfl
  have o2 : W2.cell? ⟨w.heap.size + 2, 2, none⟩ = some (.int .i64 x.kind) := bo.2.1 2 _ rfl
  have s2 : W2.cell? ⟨w.heap.size + 1, 2, none⟩ = some (.int .i64 0) := br.2.1 2 _ rfl
  have q3 : W2.cell? ⟨w.heap.size, 3, none⟩ = some (.int .i64 x.ty) := bb.2.1 3 _ rfl
  have o3 : W2.cell? ⟨w.heap.size + 2, 3, none⟩ = some (.int .i64 x.ty) := bo.2.1 3 _ rfl
  have s3 : W2.cell? ⟨w.heap.size + 1, 3, none⟩ = some (.int .i64 0) := br.2.1 3 _ rfl
  have q4 : W2.cell? ⟨w.heap.size, 4, none⟩ = some (.int .i64 x.lim.min) := bb.2.1 4 _ rfl
  have o4 : W2.cell? ⟨w.heap.size + 2, 4, none⟩ = some (.int .i64 x.lim.min) := bo.2.1 4 _ rfl
  have s4 : W2.cell? ⟨w.heap.size + 1, 4, none⟩ = some (.int .i64 0) := br.2.1 4 _ rfl
  have q5 : W2.cell? ⟨w.heap.size, 5, none⟩ = some (.int .i64 x.lim.max) := bb.2.1 5 _ rfl
  have o5 : W2.cell? ⟨w.heap.size + 2, 5, none⟩ = some (.int .i64 x.lim.max) := bo.2.1 5 _ rfl
  have s5 : W2.cell? ⟨w.heap.size + 1, 5, none⟩ = some (.int .i64 0) := br.2.1 5 _ rfl
  have q6 : W2.cell? ⟨w.heap.size, 6, none⟩ = some (.bool x.lim.has) := bb.2.1 6 _ rfl
  have o6 : W2.cell? ⟨w.heap.size + 2, 6, none⟩ = some (.bool x.lim.has) := bo.2.1 6 _ rfl
  have s6 : W2.cell? ⟨w.heap.size + 1, 6, none⟩ = some (.bool false) := br.2.1 6 _ rfl
  have q7 : W2.cell? ⟨w.heap.size, 7, none⟩ = some (.int .i64 x.gl.ty) := bb.2.1 7 _ rfl
  have o7 : W2.cell? ⟨w.heap.size + 2, 7, none⟩ = some (.int .i64 0) := bo.2.1 7 _ rfl
  have s7 : W2.cell? ⟨w.heap.size + 1, 7, none⟩ = some (.int .i64 0) := br.2.1 7 _ rfl
  have q8 : W2.cell? ⟨w.heap.size, 8, none⟩ = some (.bool x.gl.mu) := bb.2.1 8 _ rfl
  have o8 : W2.cell? ⟨w.heap.size + 2, 8, none⟩ = some (.bool false) := bo.2.1 8 _ rfl
  have s8 : W2.cell? ⟨w.heap.size + 1, 8, none⟩ = some (.bool false) := br.2.1 8 _ rfl
  have fo := bo.2.2
  have fr := br.2.2
  have HB := Hid.mk' hb
  clear hb bb br bo
  go_wp2
  exact bodyPost_ret (v := .agg #[.string x.mod, .string x.nm, .int .i64 x.kind, .int .i64 x.ty, .int .i64 x.lim.min, .int .i64 x.lim.max, .bool x.lim.has, .int .i64 x.gl.ty, .bool x.gl.mu]) (by simp [results, Tryz.results116, go_sem, s0, s1, s2, s3, s4, s5, s6, s7, s8, e3, e4]) rfl ⟨rfl, trivial, (((((((((((HB.out.setCell (by show w.heap.size ≤ w.heap.size + 2; omega) _).setCell (by show w.heap.size ≤ w.heap.size + 2; omega) _).setCell (by show w.heap.size ≤ w.heap.size + 1; omega) _).setCell (by show w.heap.size ≤ w.heap.size + 1; omega) _).setCell (by show w.heap.size ≤ w.heap.size + 1; omega) _).setCell (by show w.heap.size ≤ w.heap.size + 1; omega) _).setCell (by show w.heap.size ≤ w.heap.size + 1; omega) _).setCell (by show w.heap.size ≤ w.heap.size + 1; omega) _).setCell (by show w.heap.size ≤ w.heap.size + 1; omega) _).setCell (by show w.heap.size ≤ w.heap.size + 1; omega) _).setCell (by show w.heap.size ≤ w.heap.size + 1; omega) _)⟩
theorem Tryz.infoImp : (Tryz.prog.info? 103).map (fun i => (i.zero, i.size, i.bytes)) = some (some (.agg #[.string ⟨#[]⟩, .string ⟨#[]⟩, .int .i64 0, .int .i64 0, .int .i64 0, .int .i64 0, .bool false, .int .i64 0, .bool false]), 9, 88) := by kernel_rfl
theorem makeImp (n : Nat) (hn : n ≤ 1048576) (w : World) : (Instr.makeSlice 37 (.int .i64 (n : Int)) (.int .i64 (n : Int))).run Tryz.prog w = .ok (.slice (some ⟨w.heap.size, 0, none⟩) n n) (w.alloc (.cells (madeCells #[.string ⟨#[]⟩, .string ⟨#[]⟩, .int .i64 0, .int .i64 0, .int .i64 0, .int .i64 0, .bool false, .int .i64 0, .bool false] (n * 9)) 103)) := by
  obtain ⟨i, hi, hzz⟩ := Option.map_eq_some_iff.1 Tryz.infoImp
  simp only [Prod.mk.injEq] at hzz
  obtain ⟨hz, hs, hb⟩ := hzz
  have := run_make (P := Tryz.prog) w 37 103 i _ Tryz.underlying37 hi hz .i64 .i64 n n (by omega) (by omega) (by rw [hb]; omega) (by omega)
  rw [hs] at this
  simpa [Value.cells] using this
structure CpImp (w : World) (g n k : Nat) (xs : List Imp) (W : World) : Prop where
  blk : ∃ cur, W.heap[g]? = some (.cells cur 103 (0, 0)) ∧ cur.size = n * 9
  done : ∀ i, i < k → (W.cell? ⟨g, i * 9, none⟩ = some (.string (xs.getD i Imp.z).mod) ∧ W.cell? ⟨g, i * 9 + 1, none⟩ = some (.string (xs.getD i Imp.z).nm) ∧ W.cell? ⟨g, i * 9 + 2, none⟩ = some (.int .i64 (xs.getD i Imp.z).kind) ∧ W.cell? ⟨g, i * 9 + 3, none⟩ = some (.int .i64 (xs.getD i Imp.z).ty) ∧ W.cell? ⟨g, i * 9 + 4, none⟩ = some (.int .i64 (xs.getD i Imp.z).lim.min) ∧ W.cell? ⟨g, i * 9 + 5, none⟩ = some (.int .i64 (xs.getD i Imp.z).lim.max) ∧ W.cell? ⟨g, i * 9 + 6, none⟩ = some (.bool (xs.getD i Imp.z).lim.has) ∧ W.cell? ⟨g, i * 9 + 7, none⟩ = some (.int .i64 (xs.getD i Imp.z).gl.ty) ∧ W.cell? ⟨g, i * 9 + 8, none⟩ = some (.bool (xs.getD i Imp.z).gl.mu)) ∧ Imp.Is (g + 1) W (xs.getD i Imp.z)
  bel : Below w.heap.size w W
  ge : w.heap.size ≤ g
theorem CpImp.cells {w W : World} {g n k : Nat} {xs : List Imp} (h : CpImp w g n k xs W) : g < W.heap.size ∧ (∀ j, j < n * 9 → ∃ u, W.cell? ⟨g, j, none⟩ = some u) ∧ ∀ j, W.frozen? ⟨g, j, none⟩ = false := by
  obtain ⟨cur, e, hc⟩ := h.blk
  have hl : g < W.heap.size := by
    rcases Nat.lt_or_ge g W.heap.size with h' | h'
    · exact h'
    · rw [Array.getElem?_eq_none h'] at e; cases e
  refine ⟨hl, fun j hj => ?_, fun j => ?_⟩
  · simp only [World.cell?, e]
    exact ⟨cur[j]'(by omega), by simp [show j < cur.size by omega]⟩
  · simp only [World.frozen?, e]; simp
theorem CpImp.keep {w W W1 : World} {g n k : Nat} {xs : List Imp} (h : CpImp w g n k xs W) (hb : Below W.heap.size W W1) : CpImp w g n k xs W1 := by
  obtain ⟨cur, e, hc⟩ := h.blk
  have hl := h.cells.1
  refine ⟨⟨cur, (hb.block g hl).trans e, hc⟩, fun i hi => ?_, h.bel.trans (hb.mono h.bel.size), h.ge⟩
  obtain ⟨⟨q0, q1, q2, q3, q4, q5, q6, q7, q8⟩, hi2⟩ := h.done i hi
  exact ⟨⟨(hb.cell (p := ⟨g, i * 9, none⟩) hl).trans q0, (hb.cell (p := ⟨g, i * 9 + 1, none⟩) hl).trans q1, (hb.cell (p := ⟨g, i * 9 + 2, none⟩) hl).trans q2, (hb.cell (p := ⟨g, i * 9 + 3, none⟩) hl).trans q3, (hb.cell (p := ⟨g, i * 9 + 4, none⟩) hl).trans q4, (hb.cell (p := ⟨g, i * 9 + 5, none⟩) hl).trans q5, (hb.cell (p := ⟨g, i * 9 + 6, none⟩) hl).trans q6, (hb.cell (p := ⟨g, i * 9 + 7, none⟩) hl).trans q7, (hb.cell (p := ⟨g, i * 9 + 8, none⟩) hl).trans q8⟩, hi2.up (up_below hb)⟩
theorem blk_Imp {w : World} {g o n : Nat} {v : Value} (h : ∃ cur, w.heap[g]? = some (.cells cur 103 (0, 0)) ∧ cur.size = n) : ∃ cur, (w.setCell ⟨g, o, none⟩ v).heap[g]? = some (.cells cur 103 (0, 0)) ∧ cur.size = n := by
  obtain ⟨cur, e, hc⟩ := h
  refine ⟨cur.setIfInBounds o v, ?_, by simpa using hc⟩
  simp only [World.setCell, Array.getElem?_modify, if_true, e, Option.map_some]
  rfl
theorem CpImp.step {w W : World} {g n k : Nat} {xs : List Imp} (H : CpImp w g n k xs W) (hk : k < n) (x : Imp) (hx : x = xs.getD k Imp.z) (ho : Imp.Is (g + 1) W x) :
    CpImp w g n (k + 1) xs (((((((((W.setCell ⟨g, k * 9, none⟩ (.string x.mod)).setCell ⟨g, k * 9 + 1, none⟩ (.string x.nm)).setCell ⟨g, k * 9 + 2, none⟩ (.int .i64 x.kind)).setCell ⟨g, k * 9 + 3, none⟩ (.int .i64 x.ty)).setCell ⟨g, k * 9 + 4, none⟩ (.int .i64 x.lim.min)).setCell ⟨g, k * 9 + 5, none⟩ (.int .i64 x.lim.max)).setCell ⟨g, k * 9 + 6, none⟩ (.bool x.lim.has)).setCell ⟨g, k * 9 + 7, none⟩ (.int .i64 x.gl.ty)).setCell ⟨g, k * 9 + 8, none⟩ (.bool x.gl.mu)) := by
  obtain ⟨hl, hc, hf⟩ := H.cells
  obtain ⟨u0, e0⟩ := hc (k * 9) (by omega)
  obtain ⟨u1, e1⟩ := hc (k * 9 + 1) (by omega)
  obtain ⟨u2, e2⟩ := hc (k * 9 + 2) (by omega)
  obtain ⟨u3, e3⟩ := hc (k * 9 + 3) (by omega)
  obtain ⟨u4, e4⟩ := hc (k * 9 + 4) (by omega)
  obtain ⟨u5, e5⟩ := hc (k * 9 + 5) (by omega)
  obtain ⟨u6, e6⟩ := hc (k * 9 + 6) (by omega)
  obtain ⟨u7, e7⟩ := hc (k * 9 + 7) (by omega)
  obtain ⟨u8, e8⟩ := hc (k * 9 + 8) (by omega)
  refine ⟨blk_Imp (blk_Imp (blk_Imp (blk_Imp (blk_Imp (blk_Imp (blk_Imp (blk_Imp (blk_Imp (H.blk))))))))), fun i hi => ?_, (((((((((H.bel.setCell H.ge _).setCell H.ge _).setCell H.ge _).setCell H.ge _).setCell H.ge _).setCell H.ge _).setCell H.ge _).setCell H.ge _).setCell H.ge _), H.ge⟩
  by_cases hik : i = k
  · subst hik
    rw [← hx]
    exact ⟨⟨set_off (set_off (set_off (set_off (set_off (set_off (set_off (set_off (set_same (e0)) (by omega)) (by omega)) (by omega)) (by omega)) (by omega)) (by omega)) (by omega)) (by omega), set_off (set_off (set_off (set_off (set_off (set_off (set_off (set_same (set_off (e1) (by omega))) (by omega)) (by omega)) (by omega)) (by omega)) (by omega)) (by omega)) (by omega), set_off (set_off (set_off (set_off (set_off (set_off (set_same (set_off (set_off (e2) (by omega)) (by omega))) (by omega)) (by omega)) (by omega)) (by omega)) (by omega)) (by omega), set_off (set_off (set_off (set_off (set_off (set_same (set_off (set_off (set_off (e3) (by omega)) (by omega)) (by omega))) (by omega)) (by omega)) (by omega)) (by omega)) (by omega), set_off (set_off (set_off (set_off (set_same (set_off (set_off (set_off (set_off (e4) (by omega)) (by omega)) (by omega)) (by omega))) (by omega)) (by omega)) (by omega)) (by omega), set_off (set_off (set_off (set_same (set_off (set_off (set_off (set_off (set_off (e5) (by omega)) (by omega)) (by omega)) (by omega)) (by omega))) (by omega)) (by omega)) (by omega), set_off (set_off (set_same (set_off (set_off (set_off (set_off (set_off (set_off (e6) (by omega)) (by omega)) (by omega)) (by omega)) (by omega)) (by omega))) (by omega)) (by omega), set_off (set_same (set_off (set_off (set_off (set_off (set_off (set_off (set_off (e7) (by omega)) (by omega)) (by omega)) (by omega)) (by omega)) (by omega)) (by omega))) (by omega), set_same (set_off (set_off (set_off (set_off (set_off (set_off (set_off (set_off (e8) (by omega)) (by omega)) (by omega)) (by omega)) (by omega)) (by omega)) (by omega)) (by omega))⟩, (((((((((ho.up (up_set (Nat.lt_succ_self g))).up (up_set (Nat.lt_succ_self g))).up (up_set (Nat.lt_succ_self g))).up (up_set (Nat.lt_succ_self g))).up (up_set (Nat.lt_succ_self g))).up (up_set (Nat.lt_succ_self g))).up (up_set (Nat.lt_succ_self g))).up (up_set (Nat.lt_succ_self g))).up (up_set (Nat.lt_succ_self g)))⟩
  · obtain ⟨⟨q0, q1, q2, q3, q4, q5, q6, q7, q8⟩, hi2⟩ := H.done i (by omega)
    exact ⟨⟨set_off (set_off (set_off (set_off (set_off (set_off (set_off (set_off (set_off (q0) (by omega)) (by omega)) (by omega)) (by omega)) (by omega)) (by omega)) (by omega)) (by omega)) (by omega), set_off (set_off (set_off (set_off (set_off (set_off (set_off (set_off (set_off (q1) (by omega)) (by omega)) (by omega)) (by omega)) (by omega)) (by omega)) (by omega)) (by omega)) (by omega), set_off (set_off (set_off (set_off (set_off (set_off (set_off (set_off (set_off (q2) (by omega)) (by omega)) (by omega)) (by omega)) (by omega)) (by omega)) (by omega)) (by omega)) (by omega), set_off (set_off (set_off (set_off (set_off (set_off (set_off (set_off (set_off (q3) (by omega)) (by omega)) (by omega)) (by omega)) (by omega)) (by omega)) (by omega)) (by omega)) (by omega), set_off (set_off (set_off (set_off (set_off (set_off (set_off (set_off (set_off (q4) (by omega)) (by omega)) (by omega)) (by omega)) (by omega)) (by omega)) (by omega)) (by omega)) (by omega), set_off (set_off (set_off (set_off (set_off (set_off (set_off (set_off (set_off (q5) (by omega)) (by omega)) (by omega)) (by omega)) (by omega)) (by omega)) (by omega)) (by omega)) (by omega), set_off (set_off (set_off (set_off (set_off (set_off (set_off (set_off (set_off (q6) (by omega)) (by omega)) (by omega)) (by omega)) (by omega)) (by omega)) (by omega)) (by omega)) (by omega), set_off (set_off (set_off (set_off (set_off (set_off (set_off (set_off (set_off (q7) (by omega)) (by omega)) (by omega)) (by omega)) (by omega)) (by omega)) (by omega)) (by omega)) (by omega), set_off (set_off (set_off (set_off (set_off (set_off (set_off (set_off (set_off (q8) (by omega)) (by omega)) (by omega)) (by omega)) (by omega)) (by omega)) (by omega)) (by omega)) (by omega)⟩, (((((((((hi2.up (up_set (Nat.lt_succ_self g))).up (up_set (Nat.lt_succ_self g))).up (up_set (Nat.lt_succ_self g))).up (up_set (Nat.lt_succ_self g))).up (up_set (Nat.lt_succ_self g))).up (up_set (Nat.lt_succ_self g))).up (up_set (Nat.lt_succ_self g))).up (up_set (Nat.lt_succ_self g))).up (up_set (Nat.lt_succ_self g)))⟩
theorem CpImp.ls {w W : World} {g : Nat} {xs : List Imp} (h : CpImp w g xs.length xs.length xs W) : Imp.Ls g W (some ⟨g, 0, none⟩) xs := by
  refine .inr ⟨g, 0, rfl, Nat.le_refl _, fun i hi => ?_⟩
  obtain ⟨qs, hi2⟩ := h.done i hi
  rw [Nat.zero_add]
  exact ⟨qs, hi2.mono (Nat.le_succ g)⟩
set_option maxHeartbeats 8000000 in
theorem rtImps_c (a : Option Addr) (c : Nat) (xs : List Imp) (w : World) (hl : xs.length ≤ 1048576 ∧ ∀ i, i < xs.length → Imp.LB 1048576 (xs.getD i Imp.z)) (hL : Imp.Ls 0 w a xs) :
    Calls Tryz.prog 38 #[.slice a xs.length c] w fun e w' => e = .returned (.slice (some ⟨w.heap.size, 0, none⟩) xs.length xs.length) ∧ Imp.Ls w.heap.size w' (some ⟨w.heap.size, 0, none⟩) xs ∧ Below w.heap.size w w' := by
  obtain ⟨hn, hll⟩ := hl
  have hmk := makeImp xs.length hn
  have HL := Hid.mk' hL
  have Hl := Hid.mk' hll
  clear hL hll
  have hst : CpImp w w.heap.size xs.length 0 xs (w.alloc (.cells (madeCells #[.string ⟨#[]⟩, .string ⟨#[]⟩, .int .i64 0, .int .i64 0, .int .i64 0, .int .i64 0, .bool false, .int .i64 0, .bool false] (xs.length * 9)) 103)) :=
    ⟨⟨_, heap_new _ _, by simp [madeCells]⟩, fun i hi => by omega, (Below.refl _ _).alloc (Nat.le_refl _) _, Nat.le_refl _⟩
  have HS := Hid.mk' hst
  clear hst
  go_enter Tryz.func38, Tryz.ntmps38
  go_wp2
  go_loopw [4] (fun i wr => ∃ k : Nat, k ≤ xs.length ∧ i = .int .i64 k ∧ CpImp w w.heap.size xs.length k xs wr) (fun i _ => xs.length - (intOf i).toNat)
  case atStart => exact ⟨0, Nat.zero_le _, rfl, HS.out⟩
  case round =>
    obtain ⟨k, hk, rfl, hcp⟩ := hrel
    clear HS hmk
    by_cases hlt : k < xs.length
    · have hki : (k : Int) < (xs.length : Int) := by omega
      rcases HL.out.up (up_below hcp.bel) with hx | ⟨b, o, ea, _, hc⟩
      · subst hx; simp at hlt
      have hxk := hc k hlt
      have hxl := Hl.out k hlt
      subst ea
      obtain ⟨x, hx⟩ : ∃ x, x = xs.getD k Imp.z := ⟨_, rfl⟩
      rw [← hx] at hxk hxl
      obtain ⟨⟨q0, q1, q2, q3, q4, q5, q6, q7, q8⟩, hi⟩ := hxk
      have HT := Hid.mk' (rtImp_c x wr hi hxl)
      have HX := Hid.mk' hx
      have HP := Hid.mk' hcp
      clear hx hc hcp hi HL
      go_wp2_with fail
      refine HT.out.mono ?_
      rintro e w1 ⟨rfl, ho, hb⟩
      have hcp1 := HP.out.keep hb
      obtain ⟨hl1, hc1, hf1⟩ := hcp1.cells
      obtain ⟨u0, e0⟩ := hc1 (k * 9) (by omega)
      obtain ⟨u1, e1⟩ := hc1 (k * 9 + 1) (by omega)
      obtain ⟨u2, e2⟩ := hc1 (k * 9 + 2) (by omega)
      obtain ⟨u3, e3⟩ := hc1 (k * 9 + 3) (by omega)
      obtain ⟨u4, e4⟩ := hc1 (k * 9 + 4) (by omega)
      obtain ⟨u5, e5⟩ := hc1 (k * 9 + 5) (by omega)
      obtain ⟨u6, e6⟩ := hc1 (k * 9 + 6) (by omega)
      obtain ⟨u7, e7⟩ := hc1 (k * 9 + 7) (by omega)
      obtain ⟨u8, e8⟩ := hc1 (k * 9 + 8) (by omega)
      have HP1 := Hid.mk' (hcp1.step hlt x HX.out (ho.mono (by have := HP.out.cells.1; omega)))
      clear ho hb hcp1 hc1 HT HP q0 q1 q2 q3 q4 q5 q6 q7 q8
      go_wp2
      go_roundw
      case rel => exact ⟨k + 1, by omega, by go_num, HP1.out⟩
      case measure => simp [intOf]; omega
    · have e : k = xs.length := by omega
      subst e
      go_wp2
      go_ret
      exact ⟨rfl, hcp.ls, hcp.bel⟩
set_option maxHeartbeats 8000000 in
theorem rtExp_c (x : Exp) (w : World) (hI : Exp.Is 0 w x) (hl : Exp.LB 1048576 x) :
    Calls Tryz.prog 119 #[.agg #[.string x.nm, .int .i64 x.kind, .int .i64 x.ix]] w fun e w' => e = .returned (.agg #[.string x.nm, .int .i64 x.kind, .int .i64 x.ix]) ∧ Exp.Is w.heap.size w' x ∧ Below w.heap.size w w' := by
  have l0 := hl
  have T0 := Hid.mk' (three w [.string x.nm, .int .i64 x.kind, .int .i64 x.ix] [.string ⟨#[]⟩, .int .i64 0, .int .i64 0] [.string ⟨#[]⟩, .int .i64 0, .int .i64 0] 171 114 114)
  go_enter Tryz.func119, Tryz.ntmps119
  go_upto_region 2 with fail
  refine wp_gen (fun W => Bk W w.heap.size [.string x.nm, .int .i64 x.kind, .int .i64 x.ix] ∧ Bk W (w.heap.size + 1) [.string ⟨#[]⟩, .int .i64 0, .int .i64 0] ∧ Bk W (w.heap.size + 2) [.string ⟨#[]⟩, .int .i64 0, .int .i64 0] ∧ Below w.heap.size w W) T0.out ?_
  rintro W ⟨bb, br, bo, hb⟩
  clear T0
  have e1 : w.heap.size ≠ w.heap.size + 1 := by omega
  have e2 : w.heap.size ≠ w.heap.size + 2 := by omega
  have e3 : w.heap.size + 1 ≠ w.heap.size + 2 := by omega
  have e4 : w.heap.size + 2 ≠ w.heap.size + 1 := by omega
  have q0 : W.cell? ⟨w.heap.size, 0, none⟩ = some (.string x.nm) := bb.2.1 0 _ rfl
  have o0 : W.cell? ⟨w.heap.size + 2, 0, none⟩ = some (.string ⟨#[]⟩) := bo.2.1 0 _ rfl
  have s0 : W.cell? ⟨w.heap.size + 1, 0, none⟩ = some (.string ⟨#[]⟩) := br.2.1 0 _ rfl
  have q1 : W.cell? ⟨w.heap.size, 1, none⟩ = some (.int .i64 x.kind) := bb.2.1 1 _ rfl
  have o1 : W.cell? ⟨w.heap.size + 2, 1, none⟩ = some (.int .i64 0) := bo.2.1 1 _ rfl
  have s1 : W.cell? ⟨w.heap.size + 1, 1, none⟩ = some (.int .i64 0) := br.2.1 1 _ rfl
  have q2 : W.cell? ⟨w.heap.size, 2, none⟩ = some (.int .i64 x.ix) := bb.2.1 2 _ rfl
  have o2 : W.cell? ⟨w.heap.size + 2, 2, none⟩ = some (.int .i64 0) := bo.2.1 2 _ rfl
  have s2 : W.cell? ⟨w.heap.size + 1, 2, none⟩ = some (.int .i64 0) := br.2.1 2 _ rfl
  have fo := bo.2.2
  have fr := br.2.2
  have HB := Hid.mk' hb
  clear hb bb br bo
  go_wp2
  exact bodyPost_ret (v := .agg #[.string x.nm, .int .i64 x.kind, .int .i64 x.ix]) (by simp [results, Tryz.results119, go_sem, s0, s1, s2, e3, e4]) rfl ⟨rfl, trivial, ((((((HB.out.setCell (by show w.heap.size ≤ w.heap.size + 2; omega) _).setCell (by show w.heap.size ≤ w.heap.size + 2; omega) _).setCell (by show w.heap.size ≤ w.heap.size + 2; omega) _).setCell (by show w.heap.size ≤ w.heap.size + 1; omega) _).setCell (by show w.heap.size ≤ w.heap.size + 1; omega) _).setCell (by show w.heap.size ≤ w.heap.size + 1; omega) _)⟩
theorem Tryz.infoExp : (Tryz.prog.info? 114).map (fun i => (i.zero, i.size, i.bytes)) = some (some (.agg #[.string ⟨#[]⟩, .int .i64 0, .int .i64 0]), 3, 32) := by kernel_rfl
theorem makeExp (n : Nat) (hn : n ≤ 1048576) (w : World) : (Instr.makeSlice 40 (.int .i64 (n : Int)) (.int .i64 (n : Int))).run Tryz.prog w = .ok (.slice (some ⟨w.heap.size, 0, none⟩) n n) (w.alloc (.cells (madeCells #[.string ⟨#[]⟩, .int .i64 0, .int .i64 0] (n * 3)) 114)) := by
  obtain ⟨i, hi, hzz⟩ := Option.map_eq_some_iff.1 Tryz.infoExp
  simp only [Prod.mk.injEq] at hzz
  obtain ⟨hz, hs, hb⟩ := hzz
  have := run_make (P := Tryz.prog) w 40 114 i _ Tryz.underlying40 hi hz .i64 .i64 n n (by omega) (by omega) (by rw [hb]; omega) (by omega)
  rw [hs] at this
  simpa [Value.cells] using this
structure CpExp (w : World) (g n k : Nat) (xs : List Exp) (W : World) : Prop where
  blk : ∃ cur, W.heap[g]? = some (.cells cur 114 (0, 0)) ∧ cur.size = n * 3
  done : ∀ i, i < k → (W.cell? ⟨g, i * 3, none⟩ = some (.string (xs.getD i Exp.z).nm) ∧ W.cell? ⟨g, i * 3 + 1, none⟩ = some (.int .i64 (xs.getD i Exp.z).kind) ∧ W.cell? ⟨g, i * 3 + 2, none⟩ = some (.int .i64 (xs.getD i Exp.z).ix)) ∧ Exp.Is (g + 1) W (xs.getD i Exp.z)
  bel : Below w.heap.size w W
  ge : w.heap.size ≤ g
theorem CpExp.cells {w W : World} {g n k : Nat} {xs : List Exp} (h : CpExp w g n k xs W) : g < W.heap.size ∧ (∀ j, j < n * 3 → ∃ u, W.cell? ⟨g, j, none⟩ = some u) ∧ ∀ j, W.frozen? ⟨g, j, none⟩ = false := by
  obtain ⟨cur, e, hc⟩ := h.blk
  have hl : g < W.heap.size := by
    rcases Nat.lt_or_ge g W.heap.size with h' | h'
    · exact h'
    · rw [Array.getElem?_eq_none h'] at e; cases e
  refine ⟨hl, fun j hj => ?_, fun j => ?_⟩
  · simp only [World.cell?, e]
    exact ⟨cur[j]'(by omega), by simp [show j < cur.size by omega]⟩
  · simp only [World.frozen?, e]; simp
theorem CpExp.keep {w W W1 : World} {g n k : Nat} {xs : List Exp} (h : CpExp w g n k xs W) (hb : Below W.heap.size W W1) : CpExp w g n k xs W1 := by
  obtain ⟨cur, e, hc⟩ := h.blk
  have hl := h.cells.1
  refine ⟨⟨cur, (hb.block g hl).trans e, hc⟩, fun i hi => ?_, h.bel.trans (hb.mono h.bel.size), h.ge⟩
  obtain ⟨⟨q0, q1, q2⟩, hi2⟩ := h.done i hi
  exact ⟨⟨(hb.cell (p := ⟨g, i * 3, none⟩) hl).trans q0, (hb.cell (p := ⟨g, i * 3 + 1, none⟩) hl).trans q1, (hb.cell (p := ⟨g, i * 3 + 2, none⟩) hl).trans q2⟩, hi2.up (up_below hb)⟩
theorem blk_Exp {w : World} {g o n : Nat} {v : Value} (h : ∃ cur, w.heap[g]? = some (.cells cur 114 (0, 0)) ∧ cur.size = n) : ∃ cur, (w.setCell ⟨g, o, none⟩ v).heap[g]? = some (.cells cur 114 (0, 0)) ∧ cur.size = n := by
  obtain ⟨cur, e, hc⟩ := h
  refine ⟨cur.setIfInBounds o v, ?_, by simpa using hc⟩
  simp only [World.setCell, Array.getElem?_modify, if_true, e, Option.map_some]
  rfl
theorem CpExp.step {w W : World} {g n k : Nat} {xs : List Exp} (H : CpExp w g n k xs W) (hk : k < n) (x : Exp) (hx : x = xs.getD k Exp.z) (ho : Exp.Is (g + 1) W x) :
    CpExp w g n (k + 1) xs (((W.setCell ⟨g, k * 3, none⟩ (.string x.nm)).setCell ⟨g, k * 3 + 1, none⟩ (.int .i64 x.kind)).setCell ⟨g, k * 3 + 2, none⟩ (.int .i64 x.ix)) := by
  obtain ⟨hl, hc, hf⟩ := H.cells
  obtain ⟨u0, e0⟩ := hc (k * 3) (by omega)
  obtain ⟨u1, e1⟩ := hc (k * 3 + 1) (by omega)
  obtain ⟨u2, e2⟩ := hc (k * 3 + 2) (by omega)
  refine ⟨blk_Exp (blk_Exp (blk_Exp (H.blk))), fun i hi => ?_, (((H.bel.setCell H.ge _).setCell H.ge _).setCell H.ge _), H.ge⟩
  by_cases hik : i = k
  · subst hik
    rw [← hx]
    exact ⟨⟨set_off (set_off (set_same (e0)) (by omega)) (by omega), set_off (set_same (set_off (e1) (by omega))) (by omega), set_same (set_off (set_off (e2) (by omega)) (by omega))⟩, (((ho.up (up_set (Nat.lt_succ_self g))).up (up_set (Nat.lt_succ_self g))).up (up_set (Nat.lt_succ_self g)))⟩
  · obtain ⟨⟨q0, q1, q2⟩, hi2⟩ := H.done i (by omega)
    exact ⟨⟨set_off (set_off (set_off (q0) (by omega)) (by omega)) (by omega), set_off (set_off (set_off (q1) (by omega)) (by omega)) (by omega), set_off (set_off (set_off (q2) (by omega)) (by omega)) (by omega)⟩, (((hi2.up (up_set (Nat.lt_succ_self g))).up (up_set (Nat.lt_succ_self g))).up (up_set (Nat.lt_succ_self g)))⟩
theorem CpExp.ls {w W : World} {g : Nat} {xs : List Exp} (h : CpExp w g xs.length xs.length xs W) : Exp.Ls g W (some ⟨g, 0, none⟩) xs := by
  refine .inr ⟨g, 0, rfl, Nat.le_refl _, fun i hi => ?_⟩
  obtain ⟨qs, hi2⟩ := h.done i hi
  rw [Nat.zero_add]
  exact ⟨qs, hi2.mono (Nat.le_succ g)⟩
set_option maxHeartbeats 8000000 in
theorem rtExps_c (a : Option Addr) (c : Nat) (xs : List Exp) (w : World) (hl : xs.length ≤ 1048576 ∧ ∀ i, i < xs.length → Exp.LB 1048576 (xs.getD i Exp.z)) (hL : Exp.Ls 0 w a xs) :
    Calls Tryz.prog 42 #[.slice a xs.length c] w fun e w' => e = .returned (.slice (some ⟨w.heap.size, 0, none⟩) xs.length xs.length) ∧ Exp.Ls w.heap.size w' (some ⟨w.heap.size, 0, none⟩) xs ∧ Below w.heap.size w w' := by
  obtain ⟨hn, hll⟩ := hl
  have hmk := makeExp xs.length hn
  have HL := Hid.mk' hL
  have Hl := Hid.mk' hll
  clear hL hll
  have hst : CpExp w w.heap.size xs.length 0 xs (w.alloc (.cells (madeCells #[.string ⟨#[]⟩, .int .i64 0, .int .i64 0] (xs.length * 3)) 114)) :=
    ⟨⟨_, heap_new _ _, by simp [madeCells]⟩, fun i hi => by omega, (Below.refl _ _).alloc (Nat.le_refl _) _, Nat.le_refl _⟩
  have HS := Hid.mk' hst
  clear hst
  go_enter Tryz.func42, Tryz.ntmps42
  go_wp2
  go_loopw [4] (fun i wr => ∃ k : Nat, k ≤ xs.length ∧ i = .int .i64 k ∧ CpExp w w.heap.size xs.length k xs wr) (fun i _ => xs.length - (intOf i).toNat)
  case atStart => exact ⟨0, Nat.zero_le _, rfl, HS.out⟩
  case round =>
    obtain ⟨k, hk, rfl, hcp⟩ := hrel
    clear HS hmk
    by_cases hlt : k < xs.length
    · have hki : (k : Int) < (xs.length : Int) := by omega
      rcases HL.out.up (up_below hcp.bel) with hx | ⟨b, o, ea, _, hc⟩
      · subst hx; simp at hlt
      have hxk := hc k hlt
      have hxl := Hl.out k hlt
      subst ea
      obtain ⟨x, hx⟩ : ∃ x, x = xs.getD k Exp.z := ⟨_, rfl⟩
      rw [← hx] at hxk hxl
      obtain ⟨⟨q0, q1, q2⟩, hi⟩ := hxk
      have HT := Hid.mk' (rtExp_c x wr hi hxl)
      have HX := Hid.mk' hx
      have HP := Hid.mk' hcp
      clear hx hc hcp hi HL
      go_wp2_with fail
      refine HT.out.mono ?_
      rintro e w1 ⟨rfl, ho, hb⟩
      have hcp1 := HP.out.keep hb
      obtain ⟨hl1, hc1, hf1⟩ := hcp1.cells
      obtain ⟨u0, e0⟩ := hc1 (k * 3) (by omega)
      obtain ⟨u1, e1⟩ := hc1 (k * 3 + 1) (by omega)
      obtain ⟨u2, e2⟩ := hc1 (k * 3 + 2) (by omega)
      have HP1 := Hid.mk' (hcp1.step hlt x HX.out (ho.mono (by have := HP.out.cells.1; omega)))
      clear ho hb hcp1 hc1 HT HP q0 q1 q2
      go_wp2
      go_roundw
      case rel => exact ⟨k + 1, by omega, by go_num, HP1.out⟩
      case measure => simp [intOf]; omega
    · have e : k = xs.length := by omega
      subst e
      go_wp2
      go_ret
      exact ⟨rfl, hcp.ls, hcp.bel⟩
end Go.Proofs.YtdbmolambolmgaaGreat

set_option linter.unusedVariables false
namespace Go.Proofs.YtdbmolambolmgaaGreat
open Go.RowKit Go.Sort
set_option maxRecDepth 100000
set_option maxHeartbeats 8000000 in
theorem rtGlob_c (x : Glob) (a1 : Option Addr) (c1 : Nat) (w : World) (hI : Glob.Is 0 w x a1) (hl : Glob.LB 1048576 x) :
    Calls Tryz.prog 118 #[.agg #[.int .i64 x.ty.ty, .bool x.ty.mu, .slice a1 x.ini.length c1]] w fun e w' => ∃ b1, e = .returned (.agg #[.int .i64 x.ty.ty, .bool x.ty.mu, .slice (some ⟨b1, 0, none⟩) x.ini.length x.ini.length]) ∧ Glob.Is w.heap.size w' x (some ⟨b1, 0, none⟩) ∧ Below w.heap.size w w' := by
  have l2 := hl
  have r1 := hI
  clear hI
  have R1 := Hid.mk' r1
  clear r1
  have T0 := Hid.mk' (three w [.int .i64 x.ty.ty, .bool x.ty.mu, .slice a1 x.ini.length c1] [.int .i64 0, .bool false, .slice none 0 0] [.int .i64 0, .bool false, .slice none 0 0] 169 110 110)
  go_enter Tryz.func118, Tryz.ntmps118
  go_upto_region 2 with fail
  refine wp_gen (fun W => Bk W w.heap.size [.int .i64 x.ty.ty, .bool x.ty.mu, .slice a1 x.ini.length c1] ∧ Bk W (w.heap.size + 1) [.int .i64 0, .bool false, .slice none 0 0] ∧ Bk W (w.heap.size + 2) [.int .i64 0, .bool false, .slice none 0 0] ∧ Below w.heap.size w W) T0.out ?_
  rintro W ⟨bb, br, bo, hb⟩
  clear T0
  have e1 : w.heap.size ≠ w.heap.size + 1 := by omega
  have e2 : w.heap.size ≠ w.heap.size + 2 := by omega
  have e3 : w.heap.size + 1 ≠ w.heap.size + 2 := by omega
  have e4 : w.heap.size + 2 ≠ w.heap.size + 1 := by omega
  have q0 : W.cell? ⟨w.heap.size, 0, none⟩ = some (.int .i64 x.ty.ty) := bb.2.1 0 _ rfl
  have o0 : W.cell? ⟨w.heap.size + 2, 0, none⟩ = some (.int .i64 0) := bo.2.1 0 _ rfl
  have s0 : W.cell? ⟨w.heap.size + 1, 0, none⟩ = some (.int .i64 0) := br.2.1 0 _ rfl
  have q1 : W.cell? ⟨w.heap.size, 1, none⟩ = some (.bool x.ty.mu) := bb.2.1 1 _ rfl
  have o1 : W.cell? ⟨w.heap.size + 2, 1, none⟩ = some (.bool false) := bo.2.1 1 _ rfl
  have s1 : W.cell? ⟨w.heap.size + 1, 1, none⟩ = some (.bool false) := br.2.1 1 _ rfl
  have q2 : W.cell? ⟨w.heap.size, 2, none⟩ = some (.slice a1 x.ini.length c1) := bb.2.1 2 _ rfl
  have o2 : W.cell? ⟨w.heap.size + 2, 2, none⟩ = some (.slice none 0 0) := bo.2.1 2 _ rfl
  have s2 : W.cell? ⟨w.heap.size + 1, 2, none⟩ = some (.slice none 0 0) := br.2.1 2 _ rfl
  have fo := bo.2.2
  have fr := br.2.2
  have hC1 : Below w.heap.size w W := hb
  have HC1 := Hid.mk' (rtGType_c x.ty W trivial trivial)
  have bb1 : Bk W w.heap.size [.int .i64 x.ty.ty, .bool x.ty.mu, .slice a1 x.ini.length c1] := bb
  have br1 : Bk W (w.heap.size + 1) [.int .i64 0, .bool false, .slice none 0 0] := br
  have bo1 : Bk W (w.heap.size + 2) [.int .i64 0, .bool false, .slice none 0 0] := bo
  go_wp2_with fail
  refine HC1.out.mono ?_
  rintro e W1 ⟨rfl, _, hb1⟩
  have bbn := bb1.keep (hb_of hb1 rfl)
  have brn := br1.keep (hb_of hb1 rfl)
  have bon := bo1.keep (hb_of hb1 rfl)
  have hbn : Below w.heap.size w W1 := hC1.trans ((hb_of hb1 rfl).mono hC1.size)
  clear bb br bo hb fo fr q0 o0 s0 q1 o1 s1 q2 o2 s2
  have bb := bbn
  have br := brn
  have bo := bon
  have hb := hbn
  clear bbn brn bon hbn
  clear hC1 HC1 bb1 br1 bo1 hb1
  have q0 : W1.cell? ⟨w.heap.size, 0, none⟩ = some (.int .i64 x.ty.ty) := bb.2.1 0 _ rfl
  have o0 : W1.cell? ⟨w.heap.size + 2, 0, none⟩ = some (.int .i64 0) := bo.2.1 0 _ rfl
  have s0 : W1.cell? ⟨w.heap.size + 1, 0, none⟩ = some (.int .i64 0) := br.2.1 0 _ rfl
  have q1 : W1.cell? ⟨w.heap.size, 1, none⟩ = some (.bool x.ty.mu) := bb.2.1 1 _ rfl
  have o1 : W1.cell? ⟨w.heap.size + 2, 1, none⟩ = some (.bool false) := bo.2.1 1 _ rfl
  have s1 : W1.cell? ⟨w.heap.size + 1, 1, none⟩ = some (.bool false) := br.2.1 1 _ rfl
  have q2 : W1.cell? ⟨w.heap.size, 2, none⟩ = some (.slice a1 x.ini.length c1) := bb.2.1 2 _ rfl
  have o2 : W1.cell? ⟨w.heap.size + 2, 2, none⟩ = some (.slice none 0 0) := bo.2.1 2 _ rfl
  have s2 : W1.cell? ⟨w.heap.size + 1, 2, none⟩ = some (.slice none 0 0) := br.2.1 2 _ rfl
  have fo := bo.2.2
  have fr := br.2.2
  have hC2 : Below w.heap.size w ((W1.setCell ⟨w.heap.size + 2, 0, none⟩ (.int .i64 x.ty.ty)).setCell ⟨w.heap.size + 2, 1, none⟩ (.bool x.ty.mu)) := ((hb.setCell (by show w.heap.size ≤ w.heap.size + 2; omega) _).setCell (by show w.heap.size ≤ w.heap.size + 2; omega) _)
  have HC2 := Hid.mk' (rtIns_c a1 c1 x.ini ((W1.setCell ⟨w.heap.size + 2, 0, none⟩ (.int .i64 x.ty.ty)).setCell ⟨w.heap.size + 2, 1, none⟩ (.bool x.ty.mu)) l2 (R1.out.up (up_below hC2)))
  obtain ⟨B1, hB1⟩ : ∃ B, B = (((W1.setCell ⟨w.heap.size + 2, 0, none⟩ (.int .i64 x.ty.ty)).setCell ⟨w.heap.size + 2, 1, none⟩ (.bool x.ty.mu))).heap.size := ⟨_, rfl⟩
  rw [← hB1] at HC2
  have HQ1 := Hid.mk' hB1
  clear hB1
  have bb2 : Bk ((W1.setCell ⟨w.heap.size + 2, 0, none⟩ (.int .i64 x.ty.ty)).setCell ⟨w.heap.size + 2, 1, none⟩ (.bool x.ty.mu)) w.heap.size [.int .i64 x.ty.ty, .bool x.ty.mu, .slice a1 x.ini.length c1] := ((bb.other (by omega)).other (by omega))
  have br2 : Bk ((W1.setCell ⟨w.heap.size + 2, 0, none⟩ (.int .i64 x.ty.ty)).setCell ⟨w.heap.size + 2, 1, none⟩ (.bool x.ty.mu)) (w.heap.size + 1) [.int .i64 0, .bool false, .slice none 0 0] := ((br.other (by omega)).other (by omega))
  have bo2 : Bk ((W1.setCell ⟨w.heap.size + 2, 0, none⟩ (.int .i64 x.ty.ty)).setCell ⟨w.heap.size + 2, 1, none⟩ (.bool x.ty.mu)) (w.heap.size + 2) [.int .i64 x.ty.ty, .bool x.ty.mu, .slice none 0 0] := bo.set.set
  go_wp2_with fail
  refine HC2.out.mono ?_
  rintro e W2 ⟨rfl, n1, hb2⟩
  have bbn := bb2.keep (hb_of hb2 HQ1.out)
  have brn := br2.keep (hb_of hb2 HQ1.out)
  have bon := bo2.keep (hb_of hb2 HQ1.out)
  have hbn : Below w.heap.size w W2 := hC2.trans ((hb_of hb2 HQ1.out).mono hC2.size)
  clear bb br bo hb fo fr q0 o0 s0 q1 o1 s1 q2 o2 s2
  have bb := bbn
  have br := brn
  have bo := bon
  have hb := hbn
  clear bbn brn bon hbn
  have hBle1 : w.heap.size + 2 < B1 := by rw [HQ1.out]; exact bo2.1
  have n1 := n1.mono (show w.heap.size + 3 ≤ B1 by omega)
  clear hC2 HC2 bb2 br2 bo2 hb2
  have q0 : W2.cell? ⟨w.heap.size, 0, none⟩ = some (.int .i64 x.ty.ty) := bb.2.1 0 _ rfl
  have o0 : W2.cell? ⟨w.heap.size + 2, 0, none⟩ = some (.int .i64 x.ty.ty) := bo.2.1 0 _ rfl
  have s0 : W2.cell? ⟨w.heap.size + 1, 0, none⟩ = some (.int .i64 0) := br.2.1 0 _ rfl
  have q1 : W2.cell? ⟨w.heap.size, 1, none⟩ = some (.bool x.ty.mu) := bb.2.1 1 _ rfl
  have o1 : W2.cell? ⟨w.heap.size + 2, 1, none⟩ = some (.bool x.ty.mu) := bo.2.1 1 _ rfl
  have s1 : W2.cell? ⟨w.heap.size + 1, 1, none⟩ = some (.bool false) := br.2.1 1 _ rfl
  have q2 : W2.cell? ⟨w.heap.size, 2, none⟩ = some (.slice a1 x.ini.length c1) := bb.2.1 2 _ rfl
  have o2 : W2.cell? ⟨w.heap.size + 2, 2, none⟩ = some (.slice none 0 0) := bo.2.1 2 _ rfl
  have s2 : W2.cell? ⟨w.heap.size + 1, 2, none⟩ = some (.slice none 0 0) := br.2.1 2 _ rfl
  have fo := bo.2.2
  have fr := br.2.2
  have HB := Hid.mk' hb
  have HN1 := Hid.mk' n1
  clear hb bb br bo n1
  go_wp2
  exact bodyPost_ret (v := .agg #[.int .i64 x.ty.ty, .bool x.ty.mu, .slice (some ⟨B1, 0, none⟩) x.ini.length x.ini.length]) (by simp [results, Tryz.results118, go_sem, s0, s1, s2, e3, e4]) rfl ⟨B1, rfl, ((HN1.out.up (up_sets1 (by omega))).up (up_set1_3 (by omega))).mono (by omega), ((((HB.out.setCell (by show w.heap.size ≤ w.heap.size + 2; omega) _).setCell (by show w.heap.size ≤ w.heap.size + 1; omega) _).setCell (by show w.heap.size ≤ w.heap.size + 1; omega) _).setCell (by show w.heap.size ≤ w.heap.size + 1; omega) _)⟩
theorem Tryz.infoGlob : (Tryz.prog.info? 110).map (fun i => (i.zero, i.size, i.bytes)) = some (some (.agg #[.int .i64 0, .bool false, .slice none 0 0]), 3, 40) := by kernel_rfl
theorem makeGlob (n : Nat) (hn : n ≤ 1048576) (w : World) : (Instr.makeSlice 39 (.int .i64 (n : Int)) (.int .i64 (n : Int))).run Tryz.prog w = .ok (.slice (some ⟨w.heap.size, 0, none⟩) n n) (w.alloc (.cells (madeCells #[.int .i64 0, .bool false, .slice none 0 0] (n * 3)) 110)) := by
  obtain ⟨i, hi, hzz⟩ := Option.map_eq_some_iff.1 Tryz.infoGlob
  simp only [Prod.mk.injEq] at hzz
  obtain ⟨hz, hs, hb⟩ := hzz
  have := run_make (P := Tryz.prog) w 39 110 i _ Tryz.underlying39 hi hz .i64 .i64 n n (by omega) (by omega) (by rw [hb]; omega) (by omega)
  rw [hs] at this
  simpa [Value.cells] using this
structure CpGlob (w : World) (g n k : Nat) (xs : List Glob) (W : World) : Prop where
  blk : ∃ cur, W.heap[g]? = some (.cells cur 110 (0, 0)) ∧ cur.size = n * 3
  done : ∀ i, i < k → ∃ a1 c1, (W.cell? ⟨g, i * 3, none⟩ = some (.int .i64 (xs.getD i Glob.z).ty.ty) ∧ W.cell? ⟨g, i * 3 + 1, none⟩ = some (.bool (xs.getD i Glob.z).ty.mu) ∧ W.cell? ⟨g, i * 3 + 2, none⟩ = some (.slice a1 (xs.getD i Glob.z).ini.length c1)) ∧ Glob.Is (g + 1) W (xs.getD i Glob.z) a1
  bel : Below w.heap.size w W
  ge : w.heap.size ≤ g
theorem CpGlob.cells {w W : World} {g n k : Nat} {xs : List Glob} (h : CpGlob w g n k xs W) : g < W.heap.size ∧ (∀ j, j < n * 3 → ∃ u, W.cell? ⟨g, j, none⟩ = some u) ∧ ∀ j, W.frozen? ⟨g, j, none⟩ = false := by
  obtain ⟨cur, e, hc⟩ := h.blk
  have hl : g < W.heap.size := by
    rcases Nat.lt_or_ge g W.heap.size with h' | h'
    · exact h'
    · rw [Array.getElem?_eq_none h'] at e; cases e
  refine ⟨hl, fun j hj => ?_, fun j => ?_⟩
  · simp only [World.cell?, e]
    exact ⟨cur[j]'(by omega), by simp [show j < cur.size by omega]⟩
  · simp only [World.frozen?, e]; simp
theorem CpGlob.keep {w W W1 : World} {g n k : Nat} {xs : List Glob} (h : CpGlob w g n k xs W) (hb : Below W.heap.size W W1) : CpGlob w g n k xs W1 := by
  obtain ⟨cur, e, hc⟩ := h.blk
  have hl := h.cells.1
  refine ⟨⟨cur, (hb.block g hl).trans e, hc⟩, fun i hi => ?_, h.bel.trans (hb.mono h.bel.size), h.ge⟩
  obtain ⟨a1, c1, ⟨q0, q1, q2⟩, hi2⟩ := h.done i hi
  exact ⟨a1, c1, ⟨(hb.cell (p := ⟨g, i * 3, none⟩) hl).trans q0, (hb.cell (p := ⟨g, i * 3 + 1, none⟩) hl).trans q1, (hb.cell (p := ⟨g, i * 3 + 2, none⟩) hl).trans q2⟩, hi2.up (up_below hb)⟩
theorem blk_Glob {w : World} {g o n : Nat} {v : Value} (h : ∃ cur, w.heap[g]? = some (.cells cur 110 (0, 0)) ∧ cur.size = n) : ∃ cur, (w.setCell ⟨g, o, none⟩ v).heap[g]? = some (.cells cur 110 (0, 0)) ∧ cur.size = n := by
  obtain ⟨cur, e, hc⟩ := h
  refine ⟨cur.setIfInBounds o v, ?_, by simpa using hc⟩
  simp only [World.setCell, Array.getElem?_modify, if_true, e, Option.map_some]
  rfl
theorem CpGlob.step {w W : World} {g n k : Nat} {xs : List Glob} {b1 : Nat} (H : CpGlob w g n k xs W) (hk : k < n) (x : Glob) (hx : x = xs.getD k Glob.z) (ho : Glob.Is (g + 1) W x (some ⟨b1, 0, none⟩)) :
    CpGlob w g n (k + 1) xs (((W.setCell ⟨g, k * 3, none⟩ (.int .i64 x.ty.ty)).setCell ⟨g, k * 3 + 1, none⟩ (.bool x.ty.mu)).setCell ⟨g, k * 3 + 2, none⟩ (.slice (some ⟨b1, 0, none⟩) x.ini.length x.ini.length)) := by
  obtain ⟨hl, hc, hf⟩ := H.cells
  obtain ⟨u0, e0⟩ := hc (k * 3) (by omega)
  obtain ⟨u1, e1⟩ := hc (k * 3 + 1) (by omega)
  obtain ⟨u2, e2⟩ := hc (k * 3 + 2) (by omega)
  refine ⟨blk_Glob (blk_Glob (blk_Glob (H.blk))), fun i hi => ?_, (((H.bel.setCell H.ge _).setCell H.ge _).setCell H.ge _), H.ge⟩
  by_cases hik : i = k
  · subst hik
    rw [← hx]
    exact ⟨_, _, ⟨set_off (set_off (set_same (e0)) (by omega)) (by omega), set_off (set_same (set_off (e1) (by omega))) (by omega), set_same (set_off (set_off (e2) (by omega)) (by omega))⟩, (((ho.up (up_set (Nat.lt_succ_self g))).up (up_set (Nat.lt_succ_self g))).up (up_set (Nat.lt_succ_self g)))⟩
  · obtain ⟨a1, c1, ⟨q0, q1, q2⟩, hi2⟩ := H.done i (by omega)
    exact ⟨a1, c1, ⟨set_off (set_off (set_off (q0) (by omega)) (by omega)) (by omega), set_off (set_off (set_off (q1) (by omega)) (by omega)) (by omega), set_off (set_off (set_off (q2) (by omega)) (by omega)) (by omega)⟩, (((hi2.up (up_set (Nat.lt_succ_self g))).up (up_set (Nat.lt_succ_self g))).up (up_set (Nat.lt_succ_self g)))⟩
theorem CpGlob.ls {w W : World} {g : Nat} {xs : List Glob} (h : CpGlob w g xs.length xs.length xs W) : Glob.Ls g W (some ⟨g, 0, none⟩) xs := by
  refine .inr ⟨g, 0, rfl, Nat.le_refl _, fun i hi => ?_⟩
  obtain ⟨a1, c1, qs, hi2⟩ := h.done i hi
  rw [Nat.zero_add]
  exact ⟨a1, c1, qs, hi2.mono (Nat.le_succ g)⟩
set_option maxHeartbeats 8000000 in
theorem rtGlobs_c (a : Option Addr) (c : Nat) (xs : List Glob) (w : World) (hl : xs.length ≤ 1048576 ∧ ∀ i, i < xs.length → Glob.LB 1048576 (xs.getD i Glob.z)) (hL : Glob.Ls 0 w a xs) :
    Calls Tryz.prog 41 #[.slice a xs.length c] w fun e w' => e = .returned (.slice (some ⟨w.heap.size, 0, none⟩) xs.length xs.length) ∧ Glob.Ls w.heap.size w' (some ⟨w.heap.size, 0, none⟩) xs ∧ Below w.heap.size w w' := by
  obtain ⟨hn, hll⟩ := hl
  have hmk := makeGlob xs.length hn
  have HL := Hid.mk' hL
  have Hl := Hid.mk' hll
  clear hL hll
  have hst : CpGlob w w.heap.size xs.length 0 xs (w.alloc (.cells (madeCells #[.int .i64 0, .bool false, .slice none 0 0] (xs.length * 3)) 110)) :=
    ⟨⟨_, heap_new _ _, by simp [madeCells]⟩, fun i hi => by omega, (Below.refl _ _).alloc (Nat.le_refl _) _, Nat.le_refl _⟩
  have HS := Hid.mk' hst
  clear hst
  go_enter Tryz.func41, Tryz.ntmps41
  go_wp2
  go_loopw [4] (fun i wr => ∃ k : Nat, k ≤ xs.length ∧ i = .int .i64 k ∧ CpGlob w w.heap.size xs.length k xs wr) (fun i _ => xs.length - (intOf i).toNat)
  case atStart => exact ⟨0, Nat.zero_le _, rfl, HS.out⟩
  case round =>
    obtain ⟨k, hk, rfl, hcp⟩ := hrel
    clear HS hmk
    by_cases hlt : k < xs.length
    · have hki : (k : Int) < (xs.length : Int) := by omega
      rcases HL.out.up (up_below hcp.bel) with hx | ⟨b, o, ea, _, hc⟩
      · subst hx; simp at hlt
      have hxk := hc k hlt
      have hxl := Hl.out k hlt
      subst ea
      obtain ⟨x, hx⟩ : ∃ x, x = xs.getD k Glob.z := ⟨_, rfl⟩
      rw [← hx] at hxk hxl
      obtain ⟨a1, c1, ⟨q0, q1, q2⟩, hi⟩ := hxk
      have HT := Hid.mk' (rtGlob_c x a1 c1 wr hi hxl)
      have HX := Hid.mk' hx
      have HP := Hid.mk' hcp
      clear hx hc hcp hi HL
      go_wp2_with fail
      refine HT.out.mono ?_
      rintro e w1 ⟨b1, rfl, ho, hb⟩
      have hcp1 := HP.out.keep hb
      obtain ⟨hl1, hc1, hf1⟩ := hcp1.cells
      obtain ⟨u0, e0⟩ := hc1 (k * 3) (by omega)
      obtain ⟨u1, e1⟩ := hc1 (k * 3 + 1) (by omega)
      obtain ⟨u2, e2⟩ := hc1 (k * 3 + 2) (by omega)
      have HP1 := Hid.mk' (hcp1.step hlt x HX.out (ho.mono (by have := HP.out.cells.1; omega)))
      clear ho hb hcp1 hc1 HT HP q0 q1 q2
      go_wp2
      go_roundw
      case rel => exact ⟨k + 1, by omega, by go_num, HP1.out⟩
      case measure => simp [intOf]; omega
    · have e : k = xs.length := by omega
      subst e
      go_wp2
      go_ret
      exact ⟨rfl, hcp.ls, hcp.bel⟩
set_option maxHeartbeats 8000000 in
theorem rtEle_c (x : Ele) (a1 : Option Addr) (c1 : Nat) (a2 : Option Addr) (c2 : Nat) (w : World) (hI : Ele.Is 0 w x a1 a2) (hl : Ele.LB 1048576 x) :
    Calls Tryz.prog 120 #[.agg #[.slice a1 x.off.length c1, .slice a2 x.fs.length c2]] w fun e w' => ∃ b1 b2, e = .returned (.agg #[.slice (some ⟨b1, 0, none⟩) x.off.length x.off.length, .slice (some ⟨b2, 0, none⟩) x.fs.length x.fs.length]) ∧ Ele.Is w.heap.size w' x (some ⟨b1, 0, none⟩) (some ⟨b2, 0, none⟩) ∧ Below w.heap.size w w' := by
  obtain ⟨l0, l1⟩ := hl
  obtain ⟨r1, r2⟩ := hI
  have R1 := Hid.mk' r1
  have R2 := Hid.mk' r2
  clear r1 r2
  have T0 := Hid.mk' (three w [.slice a1 x.off.length c1, .slice a2 x.fs.length c2] [.slice none 0 0, .slice none 0 0] [.slice none 0 0, .slice none 0 0] 174 70 70)
  go_enter Tryz.func120, Tryz.ntmps120
  go_upto_region 2 with fail
  refine wp_gen (fun W => Bk W w.heap.size [.slice a1 x.off.length c1, .slice a2 x.fs.length c2] ∧ Bk W (w.heap.size + 1) [.slice none 0 0, .slice none 0 0] ∧ Bk W (w.heap.size + 2) [.slice none 0 0, .slice none 0 0] ∧ Below w.heap.size w W) T0.out ?_
  rintro W ⟨bb, br, bo, hb⟩
  clear T0
  have e1 : w.heap.size ≠ w.heap.size + 1 := by omega
  have e2 : w.heap.size ≠ w.heap.size + 2 := by omega
  have e3 : w.heap.size + 1 ≠ w.heap.size + 2 := by omega
  have e4 : w.heap.size + 2 ≠ w.heap.size + 1 := by omega
  have q0 : W.cell? ⟨w.heap.size, 0, none⟩ = some (.slice a1 x.off.length c1) := bb.2.1 0 _ rfl
  have o0 : W.cell? ⟨w.heap.size + 2, 0, none⟩ = some (.slice none 0 0) := bo.2.1 0 _ rfl
  have s0 : W.cell? ⟨w.heap.size + 1, 0, none⟩ = some (.slice none 0 0) := br.2.1 0 _ rfl
  have q1 : W.cell? ⟨w.heap.size, 1, none⟩ = some (.slice a2 x.fs.length c2) := bb.2.1 1 _ rfl
  have o1 : W.cell? ⟨w.heap.size + 2, 1, none⟩ = some (.slice none 0 0) := bo.2.1 1 _ rfl
  have s1 : W.cell? ⟨w.heap.size + 1, 1, none⟩ = some (.slice none 0 0) := br.2.1 1 _ rfl
  have fo := bo.2.2
  have fr := br.2.2
  have hC1 : Below w.heap.size w W := hb
  have HC1 := Hid.mk' (rtIns_c a1 c1 x.off W l0 (R1.out.up (up_below hC1)))
  obtain ⟨B1, hB1⟩ : ∃ B, B = (W).heap.size := ⟨_, rfl⟩
  rw [← hB1] at HC1
  have HQ1 := Hid.mk' hB1
  clear hB1
  have bb1 : Bk W w.heap.size [.slice a1 x.off.length c1, .slice a2 x.fs.length c2] := bb
  have br1 : Bk W (w.heap.size + 1) [.slice none 0 0, .slice none 0 0] := br
  have bo1 : Bk W (w.heap.size + 2) [.slice none 0 0, .slice none 0 0] := bo
  go_wp2_with fail
  refine HC1.out.mono ?_
  rintro e W1 ⟨rfl, n1, hb1⟩
  have bbn := bb1.keep (hb_of hb1 HQ1.out)
  have brn := br1.keep (hb_of hb1 HQ1.out)
  have bon := bo1.keep (hb_of hb1 HQ1.out)
  have hbn : Below w.heap.size w W1 := hC1.trans ((hb_of hb1 HQ1.out).mono hC1.size)
  clear bb br bo hb fo fr q0 o0 s0 q1 o1 s1
  have bb := bbn
  have br := brn
  have bo := bon
  have hb := hbn
  clear bbn brn bon hbn
  have hBle1 : w.heap.size + 2 < B1 := by rw [HQ1.out]; exact bo1.1
  have n1 := n1.mono (show w.heap.size + 3 ≤ B1 by omega)
  clear hC1 HC1 bb1 br1 bo1 hb1
  have q0 : W1.cell? ⟨w.heap.size, 0, none⟩ = some (.slice a1 x.off.length c1) := bb.2.1 0 _ rfl
  have o0 : W1.cell? ⟨w.heap.size + 2, 0, none⟩ = some (.slice none 0 0) := bo.2.1 0 _ rfl
  have s0 : W1.cell? ⟨w.heap.size + 1, 0, none⟩ = some (.slice none 0 0) := br.2.1 0 _ rfl
  have q1 : W1.cell? ⟨w.heap.size, 1, none⟩ = some (.slice a2 x.fs.length c2) := bb.2.1 1 _ rfl
  have o1 : W1.cell? ⟨w.heap.size + 2, 1, none⟩ = some (.slice none 0 0) := bo.2.1 1 _ rfl
  have s1 : W1.cell? ⟨w.heap.size + 1, 1, none⟩ = some (.slice none 0 0) := br.2.1 1 _ rfl
  have fo := bo.2.2
  have fr := br.2.2
  have hC2 : Below w.heap.size w (W1.setCell ⟨w.heap.size + 2, 0, none⟩ (.slice (some ⟨B1, 0, none⟩) x.off.length x.off.length)) := (hb.setCell (by show w.heap.size ≤ w.heap.size + 2; omega) _)
  have HC2 := Hid.mk' (rtInts_c a2 c2 x.fs (W1.setCell ⟨w.heap.size + 2, 0, none⟩ (.slice (some ⟨B1, 0, none⟩) x.off.length x.off.length)) l1 (R2.out.up (up_below hC2)))
  obtain ⟨B2, hB2⟩ : ∃ B, B = ((W1.setCell ⟨w.heap.size + 2, 0, none⟩ (.slice (some ⟨B1, 0, none⟩) x.off.length x.off.length))).heap.size := ⟨_, rfl⟩
  rw [← hB2] at HC2
  have HQ2 := Hid.mk' hB2
  clear hB2
  have bb2 : Bk (W1.setCell ⟨w.heap.size + 2, 0, none⟩ (.slice (some ⟨B1, 0, none⟩) x.off.length x.off.length)) w.heap.size [.slice a1 x.off.length c1, .slice a2 x.fs.length c2] := (bb.other (by omega))
  have br2 : Bk (W1.setCell ⟨w.heap.size + 2, 0, none⟩ (.slice (some ⟨B1, 0, none⟩) x.off.length x.off.length)) (w.heap.size + 1) [.slice none 0 0, .slice none 0 0] := (br.other (by omega))
  have bo2 : Bk (W1.setCell ⟨w.heap.size + 2, 0, none⟩ (.slice (some ⟨B1, 0, none⟩) x.off.length x.off.length)) (w.heap.size + 2) [.slice (some ⟨B1, 0, none⟩) x.off.length x.off.length, .slice none 0 0] := bo.set
  go_wp2_with fail
  refine HC2.out.mono ?_
  rintro e W2 ⟨rfl, n2, hb2⟩
  have bbn := bb2.keep (hb_of hb2 HQ2.out)
  have brn := br2.keep (hb_of hb2 HQ2.out)
  have bon := bo2.keep (hb_of hb2 HQ2.out)
  have hbn : Below w.heap.size w W2 := hC2.trans ((hb_of hb2 HQ2.out).mono hC2.size)
  clear bb br bo hb fo fr q0 o0 s0 q1 o1 s1
  have bb := bbn
  have br := brn
  have bo := bon
  have hb := hbn
  clear bbn brn bon hbn
  have n1 := n1.up (Up.size_trans (up_sets1 (by omega)) (up_below (hb_of hb2 HQ2.out)) (by simp))
  have hBle2 : w.heap.size + 2 < B2 := by rw [HQ2.out]; exact bo2.1
  have n2 := n2.mono (show w.heap.size + 3 ≤ B2 by omega)
  clear hC2 HC2 bb2 br2 bo2 hb2
  have q0 : W2.cell? ⟨w.heap.size, 0, none⟩ = some (.slice a1 x.off.length c1) := bb.2.1 0 _ rfl
  have o0 : W2.cell? ⟨w.heap.size + 2, 0, none⟩ = some (.slice (some ⟨B1, 0, none⟩) x.off.length x.off.length) := bo.2.1 0 _ rfl
  have s0 : W2.cell? ⟨w.heap.size + 1, 0, none⟩ = some (.slice none 0 0) := br.2.1 0 _ rfl
  have q1 : W2.cell? ⟨w.heap.size, 1, none⟩ = some (.slice a2 x.fs.length c2) := bb.2.1 1 _ rfl
  have o1 : W2.cell? ⟨w.heap.size + 2, 1, none⟩ = some (.slice none 0 0) := bo.2.1 1 _ rfl
  have s1 : W2.cell? ⟨w.heap.size + 1, 1, none⟩ = some (.slice none 0 0) := br.2.1 1 _ rfl
  have fo := bo.2.2
  have fr := br.2.2
  have HB := Hid.mk' hb
  have HN1 := Hid.mk' n1
  have HN2 := Hid.mk' n2
  clear hb bb br bo n1 n2
  go_wp2
  exact bodyPost_ret (v := .agg #[.slice (some ⟨B1, 0, none⟩) x.off.length x.off.length, .slice (some ⟨B2, 0, none⟩) x.fs.length x.fs.length]) (by simp [results, Tryz.results120, go_sem, s0, s1, e3, e4]) rfl ⟨B1, B2, rfl, ⟨((HN1.out.up (up_sets1 (by omega))).up (up_set1_2 (by omega))).mono (by omega), ((HN2.out.up (up_sets1 (by omega))).up (up_set1_2 (by omega))).mono (by omega)⟩, (((HB.out.setCell (by show w.heap.size ≤ w.heap.size + 2; omega) _).setCell (by show w.heap.size ≤ w.heap.size + 1; omega) _).setCell (by show w.heap.size ≤ w.heap.size + 1; omega) _)⟩
theorem Tryz.infoEle : (Tryz.prog.info? 70).map (fun i => (i.zero, i.size, i.bytes)) = some (some (.agg #[.slice none 0 0, .slice none 0 0]), 2, 48) := by kernel_rfl
theorem makeEle (n : Nat) (hn : n ≤ 1048576) (w : World) : (Instr.makeSlice 41 (.int .i64 (n : Int)) (.int .i64 (n : Int))).run Tryz.prog w = .ok (.slice (some ⟨w.heap.size, 0, none⟩) n n) (w.alloc (.cells (madeCells #[.slice none 0 0, .slice none 0 0] (n * 2)) 70)) := by
  obtain ⟨i, hi, hzz⟩ := Option.map_eq_some_iff.1 Tryz.infoEle
  simp only [Prod.mk.injEq] at hzz
  obtain ⟨hz, hs, hb⟩ := hzz
  have := run_make (P := Tryz.prog) w 41 70 i _ Tryz.underlying41 hi hz .i64 .i64 n n (by omega) (by omega) (by rw [hb]; omega) (by omega)
  rw [hs] at this
  simpa [Value.cells] using this
structure CpEle (w : World) (g n k : Nat) (xs : List Ele) (W : World) : Prop where
  blk : ∃ cur, W.heap[g]? = some (.cells cur 70 (0, 0)) ∧ cur.size = n * 2
  done : ∀ i, i < k → ∃ a1 c1 a2 c2, (W.cell? ⟨g, i * 2, none⟩ = some (.slice a1 (xs.getD i Ele.z).off.length c1) ∧ W.cell? ⟨g, i * 2 + 1, none⟩ = some (.slice a2 (xs.getD i Ele.z).fs.length c2)) ∧ Ele.Is (g + 1) W (xs.getD i Ele.z) a1 a2
  bel : Below w.heap.size w W
  ge : w.heap.size ≤ g
theorem CpEle.cells {w W : World} {g n k : Nat} {xs : List Ele} (h : CpEle w g n k xs W) : g < W.heap.size ∧ (∀ j, j < n * 2 → ∃ u, W.cell? ⟨g, j, none⟩ = some u) ∧ ∀ j, W.frozen? ⟨g, j, none⟩ = false := by
  obtain ⟨cur, e, hc⟩ := h.blk
  have hl : g < W.heap.size := by
    rcases Nat.lt_or_ge g W.heap.size with h' | h'
    · exact h'
    · rw [Array.getElem?_eq_none h'] at e; cases e
  refine ⟨hl, fun j hj => ?_, fun j => ?_⟩
  · simp only [World.cell?, e]
    exact ⟨cur[j]'(by omega), by simp [show j < cur.size by omega]⟩
  · simp only [World.frozen?, e]; simp
theorem CpEle.keep {w W W1 : World} {g n k : Nat} {xs : List Ele} (h : CpEle w g n k xs W) (hb : Below W.heap.size W W1) : CpEle w g n k xs W1 := by
  obtain ⟨cur, e, hc⟩ := h.blk
  have hl := h.cells.1
  refine ⟨⟨cur, (hb.block g hl).trans e, hc⟩, fun i hi => ?_, h.bel.trans (hb.mono h.bel.size), h.ge⟩
  obtain ⟨a1, c1, a2, c2, ⟨q0, q1⟩, hi2⟩ := h.done i hi
  exact ⟨a1, c1, a2, c2, ⟨(hb.cell (p := ⟨g, i * 2, none⟩) hl).trans q0, (hb.cell (p := ⟨g, i * 2 + 1, none⟩) hl).trans q1⟩, hi2.up (up_below hb)⟩
theorem blk_Ele {w : World} {g o n : Nat} {v : Value} (h : ∃ cur, w.heap[g]? = some (.cells cur 70 (0, 0)) ∧ cur.size = n) : ∃ cur, (w.setCell ⟨g, o, none⟩ v).heap[g]? = some (.cells cur 70 (0, 0)) ∧ cur.size = n := by
  obtain ⟨cur, e, hc⟩ := h
  refine ⟨cur.setIfInBounds o v, ?_, by simpa using hc⟩
  simp only [World.setCell, Array.getElem?_modify, if_true, e, Option.map_some]
  rfl
theorem CpEle.step {w W : World} {g n k : Nat} {xs : List Ele} {b1 : Nat} {b2 : Nat} (H : CpEle w g n k xs W) (hk : k < n) (x : Ele) (hx : x = xs.getD k Ele.z) (ho : Ele.Is (g + 1) W x (some ⟨b1, 0, none⟩) (some ⟨b2, 0, none⟩)) :
    CpEle w g n (k + 1) xs ((W.setCell ⟨g, k * 2, none⟩ (.slice (some ⟨b1, 0, none⟩) x.off.length x.off.length)).setCell ⟨g, k * 2 + 1, none⟩ (.slice (some ⟨b2, 0, none⟩) x.fs.length x.fs.length)) := by
  obtain ⟨hl, hc, hf⟩ := H.cells
  obtain ⟨u0, e0⟩ := hc (k * 2) (by omega)
  obtain ⟨u1, e1⟩ := hc (k * 2 + 1) (by omega)
  refine ⟨blk_Ele (blk_Ele (H.blk)), fun i hi => ?_, ((H.bel.setCell H.ge _).setCell H.ge _), H.ge⟩
  by_cases hik : i = k
  · subst hik
    rw [← hx]
    exact ⟨_, _, _, _, ⟨set_off (set_same (e0)) (by omega), set_same (set_off (e1) (by omega))⟩, ((ho.up (up_set (Nat.lt_succ_self g))).up (up_set (Nat.lt_succ_self g)))⟩
  · obtain ⟨a1, c1, a2, c2, ⟨q0, q1⟩, hi2⟩ := H.done i (by omega)
    exact ⟨a1, c1, a2, c2, ⟨set_off (set_off (q0) (by omega)) (by omega), set_off (set_off (q1) (by omega)) (by omega)⟩, ((hi2.up (up_set (Nat.lt_succ_self g))).up (up_set (Nat.lt_succ_self g)))⟩
theorem CpEle.ls {w W : World} {g : Nat} {xs : List Ele} (h : CpEle w g xs.length xs.length xs W) : Ele.Ls g W (some ⟨g, 0, none⟩) xs := by
  refine .inr ⟨g, 0, rfl, Nat.le_refl _, fun i hi => ?_⟩
  obtain ⟨a1, c1, a2, c2, qs, hi2⟩ := h.done i hi
  rw [Nat.zero_add]
  exact ⟨a1, c1, a2, c2, qs, hi2.mono (Nat.le_succ g)⟩
set_option maxHeartbeats 8000000 in
theorem rtEles_c (a : Option Addr) (c : Nat) (xs : List Ele) (w : World) (hl : xs.length ≤ 1048576 ∧ ∀ i, i < xs.length → Ele.LB 1048576 (xs.getD i Ele.z)) (hL : Ele.Ls 0 w a xs) :
    Calls Tryz.prog 43 #[.slice a xs.length c] w fun e w' => e = .returned (.slice (some ⟨w.heap.size, 0, none⟩) xs.length xs.length) ∧ Ele.Ls w.heap.size w' (some ⟨w.heap.size, 0, none⟩) xs ∧ Below w.heap.size w w' := by
  obtain ⟨hn, hll⟩ := hl
  have hmk := makeEle xs.length hn
  have HL := Hid.mk' hL
  have Hl := Hid.mk' hll
  clear hL hll
  have hst : CpEle w w.heap.size xs.length 0 xs (w.alloc (.cells (madeCells #[.slice none 0 0, .slice none 0 0] (xs.length * 2)) 70)) :=
    ⟨⟨_, heap_new _ _, by simp [madeCells]⟩, fun i hi => by omega, (Below.refl _ _).alloc (Nat.le_refl _) _, Nat.le_refl _⟩
  have HS := Hid.mk' hst
  clear hst
  go_enter Tryz.func43, Tryz.ntmps43
  go_wp2
  go_loopw [4] (fun i wr => ∃ k : Nat, k ≤ xs.length ∧ i = .int .i64 k ∧ CpEle w w.heap.size xs.length k xs wr) (fun i _ => xs.length - (intOf i).toNat)
  case atStart => exact ⟨0, Nat.zero_le _, rfl, HS.out⟩
  case round =>
    obtain ⟨k, hk, rfl, hcp⟩ := hrel
    clear HS hmk
    by_cases hlt : k < xs.length
    · have hki : (k : Int) < (xs.length : Int) := by omega
      rcases HL.out.up (up_below hcp.bel) with hx | ⟨b, o, ea, _, hc⟩
      · subst hx; simp at hlt
      have hxk := hc k hlt
      have hxl := Hl.out k hlt
      subst ea
      obtain ⟨x, hx⟩ : ∃ x, x = xs.getD k Ele.z := ⟨_, rfl⟩
      rw [← hx] at hxk hxl
      obtain ⟨a1, c1, a2, c2, ⟨q0, q1⟩, hi⟩ := hxk
      have HT := Hid.mk' (rtEle_c x a1 c1 a2 c2 wr hi hxl)
      have HX := Hid.mk' hx
      have HP := Hid.mk' hcp
      clear hx hc hcp hi HL
      go_wp2_with fail
      refine HT.out.mono ?_
      rintro e w1 ⟨b1, b2, rfl, ho, hb⟩
      have hcp1 := HP.out.keep hb
      obtain ⟨hl1, hc1, hf1⟩ := hcp1.cells
      obtain ⟨u0, e0⟩ := hc1 (k * 2) (by omega)
      obtain ⟨u1, e1⟩ := hc1 (k * 2 + 1) (by omega)
      have HP1 := Hid.mk' (hcp1.step hlt x HX.out (ho.mono (by have := HP.out.cells.1; omega)))
      clear ho hb hcp1 hc1 HT HP q0 q1
      go_wp2
      go_roundw
      case rel => exact ⟨k + 1, by omega, by go_num, HP1.out⟩
      case measure => simp [intOf]; omega
    · have e : k = xs.length := by omega
      subst e
      go_wp2
      go_ret
      exact ⟨rfl, hcp.ls, hcp.bel⟩
set_option maxHeartbeats 8000000 in
theorem rtCod_c (x : Cod) (a1 : Option Addr) (c1 : Nat) (a2 : Option Addr) (c2 : Nat) (w : World) (hI : Cod.Is 0 w x a1 a2) (hl : Cod.LB 1048576 x) :
    Calls Tryz.prog 121 #[.agg #[.slice a1 x.locs.length c1, .slice a2 x.body.length c2]] w fun e w' => ∃ b1 b2, e = .returned (.agg #[.slice (some ⟨b1, 0, none⟩) x.locs.length x.locs.length, .slice (some ⟨b2, 0, none⟩) x.body.length x.body.length]) ∧ Cod.Is w.heap.size w' x (some ⟨b1, 0, none⟩) (some ⟨b2, 0, none⟩) ∧ Below w.heap.size w w' := by
  obtain ⟨l0, l1⟩ := hl
  obtain ⟨r1, r2⟩ := hI
  have R1 := Hid.mk' r1
  have R2 := Hid.mk' r2
  clear r1 r2
  have T0 := Hid.mk' (three w [.slice a1 x.locs.length c1, .slice a2 x.body.length c2] [.slice none 0 0, .slice none 0 0] [.slice none 0 0, .slice none 0 0] 178 74 74)
  go_enter Tryz.func121, Tryz.ntmps121
  go_upto_region 2 with fail
  refine wp_gen (fun W => Bk W w.heap.size [.slice a1 x.locs.length c1, .slice a2 x.body.length c2] ∧ Bk W (w.heap.size + 1) [.slice none 0 0, .slice none 0 0] ∧ Bk W (w.heap.size + 2) [.slice none 0 0, .slice none 0 0] ∧ Below w.heap.size w W) T0.out ?_
  rintro W ⟨bb, br, bo, hb⟩
  clear T0
  have e1 : w.heap.size ≠ w.heap.size + 1 := by omega
  have e2 : w.heap.size ≠ w.heap.size + 2 := by omega
  have e3 : w.heap.size + 1 ≠ w.heap.size + 2 := by omega
  have e4 : w.heap.size + 2 ≠ w.heap.size + 1 := by omega
  have q0 : W.cell? ⟨w.heap.size, 0, none⟩ = some (.slice a1 x.locs.length c1) := bb.2.1 0 _ rfl
  have o0 : W.cell? ⟨w.heap.size + 2, 0, none⟩ = some (.slice none 0 0) := bo.2.1 0 _ rfl
  have s0 : W.cell? ⟨w.heap.size + 1, 0, none⟩ = some (.slice none 0 0) := br.2.1 0 _ rfl
  have q1 : W.cell? ⟨w.heap.size, 1, none⟩ = some (.slice a2 x.body.length c2) := bb.2.1 1 _ rfl
  have o1 : W.cell? ⟨w.heap.size + 2, 1, none⟩ = some (.slice none 0 0) := bo.2.1 1 _ rfl
  have s1 : W.cell? ⟨w.heap.size + 1, 1, none⟩ = some (.slice none 0 0) := br.2.1 1 _ rfl
  have fo := bo.2.2
  have fr := br.2.2
  have hC1 : Below w.heap.size w W := hb
  have HC1 := Hid.mk' (rtGrps_c a1 c1 x.locs W l0 (R1.out.up (up_below hC1)))
  obtain ⟨B1, hB1⟩ : ∃ B, B = (W).heap.size := ⟨_, rfl⟩
  rw [← hB1] at HC1
  have HQ1 := Hid.mk' hB1
  clear hB1
  have bb1 : Bk W w.heap.size [.slice a1 x.locs.length c1, .slice a2 x.body.length c2] := bb
  have br1 : Bk W (w.heap.size + 1) [.slice none 0 0, .slice none 0 0] := br
  have bo1 : Bk W (w.heap.size + 2) [.slice none 0 0, .slice none 0 0] := bo
  go_wp2_with fail
  refine HC1.out.mono ?_
  rintro e W1 ⟨rfl, n1, hb1⟩
  have bbn := bb1.keep (hb_of hb1 HQ1.out)
  have brn := br1.keep (hb_of hb1 HQ1.out)
  have bon := bo1.keep (hb_of hb1 HQ1.out)
  have hbn : Below w.heap.size w W1 := hC1.trans ((hb_of hb1 HQ1.out).mono hC1.size)
  clear bb br bo hb fo fr q0 o0 s0 q1 o1 s1
  have bb := bbn
  have br := brn
  have bo := bon
  have hb := hbn
  clear bbn brn bon hbn
  have hBle1 : w.heap.size + 2 < B1 := by rw [HQ1.out]; exact bo1.1
  have n1 := n1.mono (show w.heap.size + 3 ≤ B1 by omega)
  clear hC1 HC1 bb1 br1 bo1 hb1
  have q0 : W1.cell? ⟨w.heap.size, 0, none⟩ = some (.slice a1 x.locs.length c1) := bb.2.1 0 _ rfl
  have o0 : W1.cell? ⟨w.heap.size + 2, 0, none⟩ = some (.slice none 0 0) := bo.2.1 0 _ rfl
  have s0 : W1.cell? ⟨w.heap.size + 1, 0, none⟩ = some (.slice none 0 0) := br.2.1 0 _ rfl
  have q1 : W1.cell? ⟨w.heap.size, 1, none⟩ = some (.slice a2 x.body.length c2) := bb.2.1 1 _ rfl
  have o1 : W1.cell? ⟨w.heap.size + 2, 1, none⟩ = some (.slice none 0 0) := bo.2.1 1 _ rfl
  have s1 : W1.cell? ⟨w.heap.size + 1, 1, none⟩ = some (.slice none 0 0) := br.2.1 1 _ rfl
  have fo := bo.2.2
  have fr := br.2.2
  have hC2 : Below w.heap.size w (W1.setCell ⟨w.heap.size + 2, 0, none⟩ (.slice (some ⟨B1, 0, none⟩) x.locs.length x.locs.length)) := (hb.setCell (by show w.heap.size ≤ w.heap.size + 2; omega) _)
  have HC2 := Hid.mk' (rtIns_c a2 c2 x.body (W1.setCell ⟨w.heap.size + 2, 0, none⟩ (.slice (some ⟨B1, 0, none⟩) x.locs.length x.locs.length)) l1 (R2.out.up (up_below hC2)))
  obtain ⟨B2, hB2⟩ : ∃ B, B = ((W1.setCell ⟨w.heap.size + 2, 0, none⟩ (.slice (some ⟨B1, 0, none⟩) x.locs.length x.locs.length))).heap.size := ⟨_, rfl⟩
  rw [← hB2] at HC2
  have HQ2 := Hid.mk' hB2
  clear hB2
  have bb2 : Bk (W1.setCell ⟨w.heap.size + 2, 0, none⟩ (.slice (some ⟨B1, 0, none⟩) x.locs.length x.locs.length)) w.heap.size [.slice a1 x.locs.length c1, .slice a2 x.body.length c2] := (bb.other (by omega))
  have br2 : Bk (W1.setCell ⟨w.heap.size + 2, 0, none⟩ (.slice (some ⟨B1, 0, none⟩) x.locs.length x.locs.length)) (w.heap.size + 1) [.slice none 0 0, .slice none 0 0] := (br.other (by omega))
  have bo2 : Bk (W1.setCell ⟨w.heap.size + 2, 0, none⟩ (.slice (some ⟨B1, 0, none⟩) x.locs.length x.locs.length)) (w.heap.size + 2) [.slice (some ⟨B1, 0, none⟩) x.locs.length x.locs.length, .slice none 0 0] := bo.set
  go_wp2_with fail
  refine HC2.out.mono ?_
  rintro e W2 ⟨rfl, n2, hb2⟩
  have bbn := bb2.keep (hb_of hb2 HQ2.out)
  have brn := br2.keep (hb_of hb2 HQ2.out)
  have bon := bo2.keep (hb_of hb2 HQ2.out)
  have hbn : Below w.heap.size w W2 := hC2.trans ((hb_of hb2 HQ2.out).mono hC2.size)
  clear bb br bo hb fo fr q0 o0 s0 q1 o1 s1
  have bb := bbn
  have br := brn
  have bo := bon
  have hb := hbn
  clear bbn brn bon hbn
  have n1 := n1.up (Up.size_trans (up_sets1 (by omega)) (up_below (hb_of hb2 HQ2.out)) (by simp))
  have hBle2 : w.heap.size + 2 < B2 := by rw [HQ2.out]; exact bo2.1
  have n2 := n2.mono (show w.heap.size + 3 ≤ B2 by omega)
  clear hC2 HC2 bb2 br2 bo2 hb2
  have q0 : W2.cell? ⟨w.heap.size, 0, none⟩ = some (.slice a1 x.locs.length c1) := bb.2.1 0 _ rfl
  have o0 : W2.cell? ⟨w.heap.size + 2, 0, none⟩ = some (.slice (some ⟨B1, 0, none⟩) x.locs.length x.locs.length) := bo.2.1 0 _ rfl
  have s0 : W2.cell? ⟨w.heap.size + 1, 0, none⟩ = some (.slice none 0 0) := br.2.1 0 _ rfl
  have q1 : W2.cell? ⟨w.heap.size, 1, none⟩ = some (.slice a2 x.body.length c2) := bb.2.1 1 _ rfl
  have o1 : W2.cell? ⟨w.heap.size + 2, 1, none⟩ = some (.slice none 0 0) := bo.2.1 1 _ rfl
  have s1 : W2.cell? ⟨w.heap.size + 1, 1, none⟩ = some (.slice none 0 0) := br.2.1 1 _ rfl
  have fo := bo.2.2
  have fr := br.2.2
  have HB := Hid.mk' hb
  have HN1 := Hid.mk' n1
  have HN2 := Hid.mk' n2
  clear hb bb br bo n1 n2
  go_wp2
  exact bodyPost_ret (v := .agg #[.slice (some ⟨B1, 0, none⟩) x.locs.length x.locs.length, .slice (some ⟨B2, 0, none⟩) x.body.length x.body.length]) (by simp [results, Tryz.results121, go_sem, s0, s1, e3, e4]) rfl ⟨B1, B2, rfl, ⟨((HN1.out.up (up_sets1 (by omega))).up (up_set1_2 (by omega))).mono (by omega), ((HN2.out.up (up_sets1 (by omega))).up (up_set1_2 (by omega))).mono (by omega)⟩, (((HB.out.setCell (by show w.heap.size ≤ w.heap.size + 2; omega) _).setCell (by show w.heap.size ≤ w.heap.size + 1; omega) _).setCell (by show w.heap.size ≤ w.heap.size + 1; omega) _)⟩
theorem Tryz.infoCod : (Tryz.prog.info? 74).map (fun i => (i.zero, i.size, i.bytes)) = some (some (.agg #[.slice none 0 0, .slice none 0 0]), 2, 48) := by kernel_rfl
theorem makeCod (n : Nat) (hn : n ≤ 1048576) (w : World) : (Instr.makeSlice 42 (.int .i64 (n : Int)) (.int .i64 (n : Int))).run Tryz.prog w = .ok (.slice (some ⟨w.heap.size, 0, none⟩) n n) (w.alloc (.cells (madeCells #[.slice none 0 0, .slice none 0 0] (n * 2)) 74)) := by
  obtain ⟨i, hi, hzz⟩ := Option.map_eq_some_iff.1 Tryz.infoCod
  simp only [Prod.mk.injEq] at hzz
  obtain ⟨hz, hs, hb⟩ := hzz
  have := run_make (P := Tryz.prog) w 42 74 i _ Tryz.underlying42 hi hz .i64 .i64 n n (by omega) (by omega) (by rw [hb]; omega) (by omega)
  rw [hs] at this
  simpa [Value.cells] using this
structure CpCod (w : World) (g n k : Nat) (xs : List Cod) (W : World) : Prop where
  blk : ∃ cur, W.heap[g]? = some (.cells cur 74 (0, 0)) ∧ cur.size = n * 2
  done : ∀ i, i < k → ∃ a1 c1 a2 c2, (W.cell? ⟨g, i * 2, none⟩ = some (.slice a1 (xs.getD i Cod.z).locs.length c1) ∧ W.cell? ⟨g, i * 2 + 1, none⟩ = some (.slice a2 (xs.getD i Cod.z).body.length c2)) ∧ Cod.Is (g + 1) W (xs.getD i Cod.z) a1 a2
  bel : Below w.heap.size w W
  ge : w.heap.size ≤ g
theorem CpCod.cells {w W : World} {g n k : Nat} {xs : List Cod} (h : CpCod w g n k xs W) : g < W.heap.size ∧ (∀ j, j < n * 2 → ∃ u, W.cell? ⟨g, j, none⟩ = some u) ∧ ∀ j, W.frozen? ⟨g, j, none⟩ = false := by
  obtain ⟨cur, e, hc⟩ := h.blk
  have hl : g < W.heap.size := by
    rcases Nat.lt_or_ge g W.heap.size with h' | h'
    · exact h'
    · rw [Array.getElem?_eq_none h'] at e; cases e
  refine ⟨hl, fun j hj => ?_, fun j => ?_⟩
  · simp only [World.cell?, e]
    exact ⟨cur[j]'(by omega), by simp [show j < cur.size by omega]⟩
  · simp only [World.frozen?, e]; simp
theorem CpCod.keep {w W W1 : World} {g n k : Nat} {xs : List Cod} (h : CpCod w g n k xs W) (hb : Below W.heap.size W W1) : CpCod w g n k xs W1 := by
  obtain ⟨cur, e, hc⟩ := h.blk
  have hl := h.cells.1
  refine ⟨⟨cur, (hb.block g hl).trans e, hc⟩, fun i hi => ?_, h.bel.trans (hb.mono h.bel.size), h.ge⟩
  obtain ⟨a1, c1, a2, c2, ⟨q0, q1⟩, hi2⟩ := h.done i hi
  exact ⟨a1, c1, a2, c2, ⟨(hb.cell (p := ⟨g, i * 2, none⟩) hl).trans q0, (hb.cell (p := ⟨g, i * 2 + 1, none⟩) hl).trans q1⟩, hi2.up (up_below hb)⟩
theorem blk_Cod {w : World} {g o n : Nat} {v : Value} (h : ∃ cur, w.heap[g]? = some (.cells cur 74 (0, 0)) ∧ cur.size = n) : ∃ cur, (w.setCell ⟨g, o, none⟩ v).heap[g]? = some (.cells cur 74 (0, 0)) ∧ cur.size = n := by
  obtain ⟨cur, e, hc⟩ := h
  refine ⟨cur.setIfInBounds o v, ?_, by simpa using hc⟩
  simp only [World.setCell, Array.getElem?_modify, if_true, e, Option.map_some]
  rfl
theorem CpCod.step {w W : World} {g n k : Nat} {xs : List Cod} {b1 : Nat} {b2 : Nat} (H : CpCod w g n k xs W) (hk : k < n) (x : Cod) (hx : x = xs.getD k Cod.z) (ho : Cod.Is (g + 1) W x (some ⟨b1, 0, none⟩) (some ⟨b2, 0, none⟩)) :
    CpCod w g n (k + 1) xs ((W.setCell ⟨g, k * 2, none⟩ (.slice (some ⟨b1, 0, none⟩) x.locs.length x.locs.length)).setCell ⟨g, k * 2 + 1, none⟩ (.slice (some ⟨b2, 0, none⟩) x.body.length x.body.length)) := by
  obtain ⟨hl, hc, hf⟩ := H.cells
  obtain ⟨u0, e0⟩ := hc (k * 2) (by omega)
  obtain ⟨u1, e1⟩ := hc (k * 2 + 1) (by omega)
  refine ⟨blk_Cod (blk_Cod (H.blk)), fun i hi => ?_, ((H.bel.setCell H.ge _).setCell H.ge _), H.ge⟩
  by_cases hik : i = k
  · subst hik
    rw [← hx]
    exact ⟨_, _, _, _, ⟨set_off (set_same (e0)) (by omega), set_same (set_off (e1) (by omega))⟩, ((ho.up (up_set (Nat.lt_succ_self g))).up (up_set (Nat.lt_succ_self g)))⟩
  · obtain ⟨a1, c1, a2, c2, ⟨q0, q1⟩, hi2⟩ := H.done i (by omega)
    exact ⟨a1, c1, a2, c2, ⟨set_off (set_off (q0) (by omega)) (by omega), set_off (set_off (q1) (by omega)) (by omega)⟩, ((hi2.up (up_set (Nat.lt_succ_self g))).up (up_set (Nat.lt_succ_self g)))⟩
theorem CpCod.ls {w W : World} {g : Nat} {xs : List Cod} (h : CpCod w g xs.length xs.length xs W) : Cod.Ls g W (some ⟨g, 0, none⟩) xs := by
  refine .inr ⟨g, 0, rfl, Nat.le_refl _, fun i hi => ?_⟩
  obtain ⟨a1, c1, a2, c2, qs, hi2⟩ := h.done i hi
  rw [Nat.zero_add]
  exact ⟨a1, c1, a2, c2, qs, hi2.mono (Nat.le_succ g)⟩
set_option maxHeartbeats 8000000 in
theorem rtCods_c (a : Option Addr) (c : Nat) (xs : List Cod) (w : World) (hl : xs.length ≤ 1048576 ∧ ∀ i, i < xs.length → Cod.LB 1048576 (xs.getD i Cod.z)) (hL : Cod.Ls 0 w a xs) :
    Calls Tryz.prog 44 #[.slice a xs.length c] w fun e w' => e = .returned (.slice (some ⟨w.heap.size, 0, none⟩) xs.length xs.length) ∧ Cod.Ls w.heap.size w' (some ⟨w.heap.size, 0, none⟩) xs ∧ Below w.heap.size w w' := by
  obtain ⟨hn, hll⟩ := hl
  have hmk := makeCod xs.length hn
  have HL := Hid.mk' hL
  have Hl := Hid.mk' hll
  clear hL hll
  have hst : CpCod w w.heap.size xs.length 0 xs (w.alloc (.cells (madeCells #[.slice none 0 0, .slice none 0 0] (xs.length * 2)) 74)) :=
    ⟨⟨_, heap_new _ _, by simp [madeCells]⟩, fun i hi => by omega, (Below.refl _ _).alloc (Nat.le_refl _) _, Nat.le_refl _⟩
  have HS := Hid.mk' hst
  clear hst
  go_enter Tryz.func44, Tryz.ntmps44
  go_wp2
  go_loopw [4] (fun i wr => ∃ k : Nat, k ≤ xs.length ∧ i = .int .i64 k ∧ CpCod w w.heap.size xs.length k xs wr) (fun i _ => xs.length - (intOf i).toNat)
  case atStart => exact ⟨0, Nat.zero_le _, rfl, HS.out⟩
  case round =>
    obtain ⟨k, hk, rfl, hcp⟩ := hrel
    clear HS hmk
    by_cases hlt : k < xs.length
    · have hki : (k : Int) < (xs.length : Int) := by omega
      rcases HL.out.up (up_below hcp.bel) with hx | ⟨b, o, ea, _, hc⟩
      · subst hx; simp at hlt
      have hxk := hc k hlt
      have hxl := Hl.out k hlt
      subst ea
      obtain ⟨x, hx⟩ : ∃ x, x = xs.getD k Cod.z := ⟨_, rfl⟩
      rw [← hx] at hxk hxl
      obtain ⟨a1, c1, a2, c2, ⟨q0, q1⟩, hi⟩ := hxk
      have HT := Hid.mk' (rtCod_c x a1 c1 a2 c2 wr hi hxl)
      have HX := Hid.mk' hx
      have HP := Hid.mk' hcp
      clear hx hc hcp hi HL
      go_wp2_with fail
      refine HT.out.mono ?_
      rintro e w1 ⟨b1, b2, rfl, ho, hb⟩
      have hcp1 := HP.out.keep hb
      obtain ⟨hl1, hc1, hf1⟩ := hcp1.cells
      obtain ⟨u0, e0⟩ := hc1 (k * 2) (by omega)
      obtain ⟨u1, e1⟩ := hc1 (k * 2 + 1) (by omega)
      have HP1 := Hid.mk' (hcp1.step hlt x HX.out (ho.mono (by have := HP.out.cells.1; omega)))
      clear ho hb hcp1 hc1 HT HP q0 q1
      go_wp2
      go_roundw
      case rel => exact ⟨k + 1, by omega, by go_num, HP1.out⟩
      case measure => simp [intOf]; omega
    · have e : k = xs.length := by omega
      subst e
      go_wp2
      go_ret
      exact ⟨rfl, hcp.ls, hcp.bel⟩
end Go.Proofs.YtdbmolambolmgaaGreat

set_option linter.unusedVariables false
namespace Go.Proofs.YtdbmolambolmgaaGreat
open Go.RowKit Go.Sort
set_option maxRecDepth 100000
set_option maxHeartbeats 8000000 in
theorem rtDat_c (x : Dat) (a1 : Option Addr) (c1 : Nat) (a2 : Option Addr) (c2 : Nat) (w : World) (hI : Dat.Is 0 w x a1 a2) (hl : Dat.LB 1048576 x) :
    Calls Tryz.prog 122 #[.agg #[.slice a1 x.off.length c1, .slice a2 x.bs.length c2]] w fun e w' => ∃ b1 b2, e = .returned (.agg #[.slice (some ⟨b1, 0, none⟩) x.off.length x.off.length, .slice (some ⟨b2, 0, none⟩) x.bs.length x.bs.length]) ∧ Dat.Is w.heap.size w' x (some ⟨b1, 0, none⟩) (some ⟨b2, 0, none⟩) ∧ Below w.heap.size w w' := by
  obtain ⟨l0, l1⟩ := hl
  obtain ⟨r1, r2⟩ := hI
  have R1 := Hid.mk' r1
  have R2 := Hid.mk' r2
  clear r1 r2
  have T0 := Hid.mk' (three w [.slice a1 x.off.length c1, .slice a2 x.bs.length c2] [.slice none 0 0, .slice none 0 0] [.slice none 0 0, .slice none 0 0] 181 76 76)
  go_enter Tryz.func122, Tryz.ntmps122
  go_upto_region 2 with fail
  refine wp_gen (fun W => Bk W w.heap.size [.slice a1 x.off.length c1, .slice a2 x.bs.length c2] ∧ Bk W (w.heap.size + 1) [.slice none 0 0, .slice none 0 0] ∧ Bk W (w.heap.size + 2) [.slice none 0 0, .slice none 0 0] ∧ Below w.heap.size w W) T0.out ?_
  rintro W ⟨bb, br, bo, hb⟩
  clear T0
  have e1 : w.heap.size ≠ w.heap.size + 1 := by omega
  have e2 : w.heap.size ≠ w.heap.size + 2 := by omega
  have e3 : w.heap.size + 1 ≠ w.heap.size + 2 := by omega
  have e4 : w.heap.size + 2 ≠ w.heap.size + 1 := by omega
  have q0 : W.cell? ⟨w.heap.size, 0, none⟩ = some (.slice a1 x.off.length c1) := bb.2.1 0 _ rfl
  have o0 : W.cell? ⟨w.heap.size + 2, 0, none⟩ = some (.slice none 0 0) := bo.2.1 0 _ rfl
  have s0 : W.cell? ⟨w.heap.size + 1, 0, none⟩ = some (.slice none 0 0) := br.2.1 0 _ rfl
  have q1 : W.cell? ⟨w.heap.size, 1, none⟩ = some (.slice a2 x.bs.length c2) := bb.2.1 1 _ rfl
  have o1 : W.cell? ⟨w.heap.size + 2, 1, none⟩ = some (.slice none 0 0) := bo.2.1 1 _ rfl
  have s1 : W.cell? ⟨w.heap.size + 1, 1, none⟩ = some (.slice none 0 0) := br.2.1 1 _ rfl
  have fo := bo.2.2
  have fr := br.2.2
  have hC1 : Below w.heap.size w W := hb
  have HC1 := Hid.mk' (rtIns_c a1 c1 x.off W l0 (R1.out.up (up_below hC1)))
  obtain ⟨B1, hB1⟩ : ∃ B, B = (W).heap.size := ⟨_, rfl⟩
  rw [← hB1] at HC1
  have HQ1 := Hid.mk' hB1
  clear hB1
  have bb1 : Bk W w.heap.size [.slice a1 x.off.length c1, .slice a2 x.bs.length c2] := bb
  have br1 : Bk W (w.heap.size + 1) [.slice none 0 0, .slice none 0 0] := br
  have bo1 : Bk W (w.heap.size + 2) [.slice none 0 0, .slice none 0 0] := bo
  go_wp2_with fail
  refine HC1.out.mono ?_
  rintro e W1 ⟨rfl, n1, hb1⟩
  have bbn := bb1.keep (hb_of hb1 HQ1.out)
  have brn := br1.keep (hb_of hb1 HQ1.out)
  have bon := bo1.keep (hb_of hb1 HQ1.out)
  have hbn : Below w.heap.size w W1 := hC1.trans ((hb_of hb1 HQ1.out).mono hC1.size)
  clear bb br bo hb fo fr q0 o0 s0 q1 o1 s1
  have bb := bbn
  have br := brn
  have bo := bon
  have hb := hbn
  clear bbn brn bon hbn
  have hBle1 : w.heap.size + 2 < B1 := by rw [HQ1.out]; exact bo1.1
  have n1 := n1.mono (show w.heap.size + 3 ≤ B1 by omega)
  clear hC1 HC1 bb1 br1 bo1 hb1
  have q0 : W1.cell? ⟨w.heap.size, 0, none⟩ = some (.slice a1 x.off.length c1) := bb.2.1 0 _ rfl
  have o0 : W1.cell? ⟨w.heap.size + 2, 0, none⟩ = some (.slice none 0 0) := bo.2.1 0 _ rfl
  have s0 : W1.cell? ⟨w.heap.size + 1, 0, none⟩ = some (.slice none 0 0) := br.2.1 0 _ rfl
  have q1 : W1.cell? ⟨w.heap.size, 1, none⟩ = some (.slice a2 x.bs.length c2) := bb.2.1 1 _ rfl
  have o1 : W1.cell? ⟨w.heap.size + 2, 1, none⟩ = some (.slice none 0 0) := bo.2.1 1 _ rfl
  have s1 : W1.cell? ⟨w.heap.size + 1, 1, none⟩ = some (.slice none 0 0) := br.2.1 1 _ rfl
  have fo := bo.2.2
  have fr := br.2.2
  have hC2 : Below w.heap.size w (W1.setCell ⟨w.heap.size + 2, 0, none⟩ (.slice (some ⟨B1, 0, none⟩) x.off.length x.off.length)) := (hb.setCell (by show w.heap.size ≤ w.heap.size + 2; omega) _)
  have HC2 := Hid.mk' (rtBytes_c a2 c2 x.bs (W1.setCell ⟨w.heap.size + 2, 0, none⟩ (.slice (some ⟨B1, 0, none⟩) x.off.length x.off.length)) l1 (R2.out.up (up_below hC2)))
  obtain ⟨B2, hB2⟩ : ∃ B, B = ((W1.setCell ⟨w.heap.size + 2, 0, none⟩ (.slice (some ⟨B1, 0, none⟩) x.off.length x.off.length))).heap.size := ⟨_, rfl⟩
  rw [← hB2] at HC2
  have HQ2 := Hid.mk' hB2
  clear hB2
  have bb2 : Bk (W1.setCell ⟨w.heap.size + 2, 0, none⟩ (.slice (some ⟨B1, 0, none⟩) x.off.length x.off.length)) w.heap.size [.slice a1 x.off.length c1, .slice a2 x.bs.length c2] := (bb.other (by omega))
  have br2 : Bk (W1.setCell ⟨w.heap.size + 2, 0, none⟩ (.slice (some ⟨B1, 0, none⟩) x.off.length x.off.length)) (w.heap.size + 1) [.slice none 0 0, .slice none 0 0] := (br.other (by omega))
  have bo2 : Bk (W1.setCell ⟨w.heap.size + 2, 0, none⟩ (.slice (some ⟨B1, 0, none⟩) x.off.length x.off.length)) (w.heap.size + 2) [.slice (some ⟨B1, 0, none⟩) x.off.length x.off.length, .slice none 0 0] := bo.set
  go_wp2_with fail
  refine HC2.out.mono ?_
  rintro e W2 ⟨rfl, n2, hb2⟩
  have bbn := bb2.keep (hb_of hb2 HQ2.out)
  have brn := br2.keep (hb_of hb2 HQ2.out)
  have bon := bo2.keep (hb_of hb2 HQ2.out)
  have hbn : Below w.heap.size w W2 := hC2.trans ((hb_of hb2 HQ2.out).mono hC2.size)
  clear bb br bo hb fo fr q0 o0 s0 q1 o1 s1
  have bb := bbn
  have br := brn
  have bo := bon
  have hb := hbn
  clear bbn brn bon hbn
  have n1 := n1.up (Up.size_trans (up_sets1 (by omega)) (up_below (hb_of hb2 HQ2.out)) (by simp))
  have hBle2 : w.heap.size + 2 < B2 := by rw [HQ2.out]; exact bo2.1
  have n2 := n2.mono (show w.heap.size + 3 ≤ B2 by omega)
  clear hC2 HC2 bb2 br2 bo2 hb2
  have q0 : W2.cell? ⟨w.heap.size, 0, none⟩ = some (.slice a1 x.off.length c1) := bb.2.1 0 _ rfl
  have o0 : W2.cell? ⟨w.heap.size + 2, 0, none⟩ = some (.slice (some ⟨B1, 0, none⟩) x.off.length x.off.length) := bo.2.1 0 _ rfl
  have s0 : W2.cell? ⟨w.heap.size + 1, 0, none⟩ = some (.slice none 0 0) := br.2.1 0 _ rfl
  have q1 : W2.cell? ⟨w.heap.size, 1, none⟩ = some (.slice a2 x.bs.length c2) := bb.2.1 1 _ rfl
  have o1 : W2.cell? ⟨w.heap.size + 2, 1, none⟩ = some (.slice none 0 0) := bo.2.1 1 _ rfl
  have s1 : W2.cell? ⟨w.heap.size + 1, 1, none⟩ = some (.slice none 0 0) := br.2.1 1 _ rfl
  have fo := bo.2.2
  have fr := br.2.2
  have HB := Hid.mk' hb
  have HN1 := Hid.mk' n1
  have HN2 := Hid.mk' n2
  clear hb bb br bo n1 n2
  go_wp2
  exact bodyPost_ret (v := .agg #[.slice (some ⟨B1, 0, none⟩) x.off.length x.off.length, .slice (some ⟨B2, 0, none⟩) x.bs.length x.bs.length]) (by simp [results, Tryz.results122, go_sem, s0, s1, e3, e4]) rfl ⟨B1, B2, rfl, ⟨((HN1.out.up (up_sets1 (by omega))).up (up_set1_2 (by omega))).mono (by omega), ((HN2.out.up (up_sets1 (by omega))).up (up_set1_2 (by omega))).mono (by omega)⟩, (((HB.out.setCell (by show w.heap.size ≤ w.heap.size + 2; omega) _).setCell (by show w.heap.size ≤ w.heap.size + 1; omega) _).setCell (by show w.heap.size ≤ w.heap.size + 1; omega) _)⟩
theorem Tryz.infoDat : (Tryz.prog.info? 76).map (fun i => (i.zero, i.size, i.bytes)) = some (some (.agg #[.slice none 0 0, .slice none 0 0]), 2, 48) := by kernel_rfl
theorem makeDat (n : Nat) (hn : n ≤ 1048576) (w : World) : (Instr.makeSlice 43 (.int .i64 (n : Int)) (.int .i64 (n : Int))).run Tryz.prog w = .ok (.slice (some ⟨w.heap.size, 0, none⟩) n n) (w.alloc (.cells (madeCells #[.slice none 0 0, .slice none 0 0] (n * 2)) 76)) := by
  obtain ⟨i, hi, hzz⟩ := Option.map_eq_some_iff.1 Tryz.infoDat
  simp only [Prod.mk.injEq] at hzz
  obtain ⟨hz, hs, hb⟩ := hzz
  have := run_make (P := Tryz.prog) w 43 76 i _ Tryz.underlying43 hi hz .i64 .i64 n n (by omega) (by omega) (by rw [hb]; omega) (by omega)
  rw [hs] at this
  simpa [Value.cells] using this
structure CpDat (w : World) (g n k : Nat) (xs : List Dat) (W : World) : Prop where
  blk : ∃ cur, W.heap[g]? = some (.cells cur 76 (0, 0)) ∧ cur.size = n * 2
  done : ∀ i, i < k → ∃ a1 c1 a2 c2, (W.cell? ⟨g, i * 2, none⟩ = some (.slice a1 (xs.getD i Dat.z).off.length c1) ∧ W.cell? ⟨g, i * 2 + 1, none⟩ = some (.slice a2 (xs.getD i Dat.z).bs.length c2)) ∧ Dat.Is (g + 1) W (xs.getD i Dat.z) a1 a2
  bel : Below w.heap.size w W
  ge : w.heap.size ≤ g
theorem CpDat.cells {w W : World} {g n k : Nat} {xs : List Dat} (h : CpDat w g n k xs W) : g < W.heap.size ∧ (∀ j, j < n * 2 → ∃ u, W.cell? ⟨g, j, none⟩ = some u) ∧ ∀ j, W.frozen? ⟨g, j, none⟩ = false := by
  obtain ⟨cur, e, hc⟩ := h.blk
  have hl : g < W.heap.size := by
    rcases Nat.lt_or_ge g W.heap.size with h' | h'
    · exact h'
    · rw [Array.getElem?_eq_none h'] at e; cases e
  refine ⟨hl, fun j hj => ?_, fun j => ?_⟩
  · simp only [World.cell?, e]
    exact ⟨cur[j]'(by omega), by simp [show j < cur.size by omega]⟩
  · simp only [World.frozen?, e]; simp
theorem CpDat.keep {w W W1 : World} {g n k : Nat} {xs : List Dat} (h : CpDat w g n k xs W) (hb : Below W.heap.size W W1) : CpDat w g n k xs W1 := by
  obtain ⟨cur, e, hc⟩ := h.blk
  have hl := h.cells.1
  refine ⟨⟨cur, (hb.block g hl).trans e, hc⟩, fun i hi => ?_, h.bel.trans (hb.mono h.bel.size), h.ge⟩
  obtain ⟨a1, c1, a2, c2, ⟨q0, q1⟩, hi2⟩ := h.done i hi
  exact ⟨a1, c1, a2, c2, ⟨(hb.cell (p := ⟨g, i * 2, none⟩) hl).trans q0, (hb.cell (p := ⟨g, i * 2 + 1, none⟩) hl).trans q1⟩, hi2.up (up_below hb)⟩
theorem blk_Dat {w : World} {g o n : Nat} {v : Value} (h : ∃ cur, w.heap[g]? = some (.cells cur 76 (0, 0)) ∧ cur.size = n) : ∃ cur, (w.setCell ⟨g, o, none⟩ v).heap[g]? = some (.cells cur 76 (0, 0)) ∧ cur.size = n := by
  obtain ⟨cur, e, hc⟩ := h
  refine ⟨cur.setIfInBounds o v, ?_, by simpa using hc⟩
  simp only [World.setCell, Array.getElem?_modify, if_true, e, Option.map_some]
  rfl
theorem CpDat.step {w W : World} {g n k : Nat} {xs : List Dat} {b1 : Nat} {b2 : Nat} (H : CpDat w g n k xs W) (hk : k < n) (x : Dat) (hx : x = xs.getD k Dat.z) (ho : Dat.Is (g + 1) W x (some ⟨b1, 0, none⟩) (some ⟨b2, 0, none⟩)) :
    CpDat w g n (k + 1) xs ((W.setCell ⟨g, k * 2, none⟩ (.slice (some ⟨b1, 0, none⟩) x.off.length x.off.length)).setCell ⟨g, k * 2 + 1, none⟩ (.slice (some ⟨b2, 0, none⟩) x.bs.length x.bs.length)) := by
  obtain ⟨hl, hc, hf⟩ := H.cells
  obtain ⟨u0, e0⟩ := hc (k * 2) (by omega)
  obtain ⟨u1, e1⟩ := hc (k * 2 + 1) (by omega)
  refine ⟨blk_Dat (blk_Dat (H.blk)), fun i hi => ?_, ((H.bel.setCell H.ge _).setCell H.ge _), H.ge⟩
  by_cases hik : i = k
  · subst hik
    rw [← hx]
    exact ⟨_, _, _, _, ⟨set_off (set_same (e0)) (by omega), set_same (set_off (e1) (by omega))⟩, ((ho.up (up_set (Nat.lt_succ_self g))).up (up_set (Nat.lt_succ_self g)))⟩
  · obtain ⟨a1, c1, a2, c2, ⟨q0, q1⟩, hi2⟩ := H.done i (by omega)
    exact ⟨a1, c1, a2, c2, ⟨set_off (set_off (q0) (by omega)) (by omega), set_off (set_off (q1) (by omega)) (by omega)⟩, ((hi2.up (up_set (Nat.lt_succ_self g))).up (up_set (Nat.lt_succ_self g)))⟩
theorem CpDat.ls {w W : World} {g : Nat} {xs : List Dat} (h : CpDat w g xs.length xs.length xs W) : Dat.Ls g W (some ⟨g, 0, none⟩) xs := by
  refine .inr ⟨g, 0, rfl, Nat.le_refl _, fun i hi => ?_⟩
  obtain ⟨a1, c1, a2, c2, qs, hi2⟩ := h.done i hi
  rw [Nat.zero_add]
  exact ⟨a1, c1, a2, c2, qs, hi2.mono (Nat.le_succ g)⟩
set_option maxHeartbeats 8000000 in
theorem rtDats_c (a : Option Addr) (c : Nat) (xs : List Dat) (w : World) (hl : xs.length ≤ 1048576 ∧ ∀ i, i < xs.length → Dat.LB 1048576 (xs.getD i Dat.z)) (hL : Dat.Ls 0 w a xs) :
    Calls Tryz.prog 45 #[.slice a xs.length c] w fun e w' => e = .returned (.slice (some ⟨w.heap.size, 0, none⟩) xs.length xs.length) ∧ Dat.Ls w.heap.size w' (some ⟨w.heap.size, 0, none⟩) xs ∧ Below w.heap.size w w' := by
  obtain ⟨hn, hll⟩ := hl
  have hmk := makeDat xs.length hn
  have HL := Hid.mk' hL
  have Hl := Hid.mk' hll
  clear hL hll
  have hst : CpDat w w.heap.size xs.length 0 xs (w.alloc (.cells (madeCells #[.slice none 0 0, .slice none 0 0] (xs.length * 2)) 76)) :=
    ⟨⟨_, heap_new _ _, by simp [madeCells]⟩, fun i hi => by omega, (Below.refl _ _).alloc (Nat.le_refl _) _, Nat.le_refl _⟩
  have HS := Hid.mk' hst
  clear hst
  go_enter Tryz.func45, Tryz.ntmps45
  go_wp2
  go_loopw [4] (fun i wr => ∃ k : Nat, k ≤ xs.length ∧ i = .int .i64 k ∧ CpDat w w.heap.size xs.length k xs wr) (fun i _ => xs.length - (intOf i).toNat)
  case atStart => exact ⟨0, Nat.zero_le _, rfl, HS.out⟩
  case round =>
    obtain ⟨k, hk, rfl, hcp⟩ := hrel
    clear HS hmk
    by_cases hlt : k < xs.length
    · have hki : (k : Int) < (xs.length : Int) := by omega
      rcases HL.out.up (up_below hcp.bel) with hx | ⟨b, o, ea, _, hc⟩
      · subst hx; simp at hlt
      have hxk := hc k hlt
      have hxl := Hl.out k hlt
      subst ea
      obtain ⟨x, hx⟩ : ∃ x, x = xs.getD k Dat.z := ⟨_, rfl⟩
      rw [← hx] at hxk hxl
      obtain ⟨a1, c1, a2, c2, ⟨q0, q1⟩, hi⟩ := hxk
      have HT := Hid.mk' (rtDat_c x a1 c1 a2 c2 wr hi hxl)
      have HX := Hid.mk' hx
      have HP := Hid.mk' hcp
      clear hx hc hcp hi HL
      go_wp2_with fail
      refine HT.out.mono ?_
      rintro e w1 ⟨b1, b2, rfl, ho, hb⟩
      have hcp1 := HP.out.keep hb
      obtain ⟨hl1, hc1, hf1⟩ := hcp1.cells
      obtain ⟨u0, e0⟩ := hc1 (k * 2) (by omega)
      obtain ⟨u1, e1⟩ := hc1 (k * 2 + 1) (by omega)
      have HP1 := Hid.mk' (hcp1.step hlt x HX.out (ho.mono (by have := HP.out.cells.1; omega)))
      clear ho hb hcp1 hc1 HT HP q0 q1
      go_wp2
      go_roundw
      case rel => exact ⟨k + 1, by omega, by go_num, HP1.out⟩
      case measure => simp [intOf]; omega
    · have e : k = xs.length := by omega
      subst e
      go_wp2
      go_ret
      exact ⟨rfl, hcp.ls, hcp.bel⟩
set_option maxHeartbeats 8000000 in
theorem rtCus_c (x : Cus) (a1 : Option Addr) (c1 : Nat) (w : World) (hI : Cus.Is 0 w x a1) (hl : Cus.LB 1048576 x) :
    Calls Tryz.prog 123 #[.agg #[.int .i64 x.aft, .string x.nm, .slice a1 x.bs.length c1]] w fun e w' => ∃ b1, e = .returned (.agg #[.int .i64 x.aft, .string x.nm, .slice (some ⟨b1, 0, none⟩) x.bs.length x.bs.length]) ∧ Cus.Is w.heap.size w' x (some ⟨b1, 0, none⟩) ∧ Below w.heap.size w w' := by
  obtain ⟨l1, l2⟩ := hl
  have r1 := hI
  clear hI
  have R1 := Hid.mk' r1
  clear r1
  have T0 := Hid.mk' (three w [.int .i64 x.aft, .string x.nm, .slice a1 x.bs.length c1] [.int .i64 0, .string ⟨#[]⟩, .slice none 0 0] [.int .i64 0, .string ⟨#[]⟩, .slice none 0 0] 183 80 80)
  go_enter Tryz.func123, Tryz.ntmps123
  go_upto_region 2 with fail
  refine wp_gen (fun W => Bk W w.heap.size [.int .i64 x.aft, .string x.nm, .slice a1 x.bs.length c1] ∧ Bk W (w.heap.size + 1) [.int .i64 0, .string ⟨#[]⟩, .slice none 0 0] ∧ Bk W (w.heap.size + 2) [.int .i64 0, .string ⟨#[]⟩, .slice none 0 0] ∧ Below w.heap.size w W) T0.out ?_
  rintro W ⟨bb, br, bo, hb⟩
  clear T0
  have e1 : w.heap.size ≠ w.heap.size + 1 := by omega
  have e2 : w.heap.size ≠ w.heap.size + 2 := by omega
  have e3 : w.heap.size + 1 ≠ w.heap.size + 2 := by omega
  have e4 : w.heap.size + 2 ≠ w.heap.size + 1 := by omega
  have q0 : W.cell? ⟨w.heap.size, 0, none⟩ = some (.int .i64 x.aft) := bb.2.1 0 _ rfl
  have o0 : W.cell? ⟨w.heap.size + 2, 0, none⟩ = some (.int .i64 0) := bo.2.1 0 _ rfl
  have s0 : W.cell? ⟨w.heap.size + 1, 0, none⟩ = some (.int .i64 0) := br.2.1 0 _ rfl
  have q1 : W.cell? ⟨w.heap.size, 1, none⟩ = some (.string x.nm) := bb.2.1 1 _ rfl
  have o1 : W.cell? ⟨w.heap.size + 2, 1, none⟩ = some (.string ⟨#[]⟩) := bo.2.1 1 _ rfl
  have s1 : W.cell? ⟨w.heap.size + 1, 1, none⟩ = some (.string ⟨#[]⟩) := br.2.1 1 _ rfl
  have q2 : W.cell? ⟨w.heap.size, 2, none⟩ = some (.slice a1 x.bs.length c1) := bb.2.1 2 _ rfl
  have o2 : W.cell? ⟨w.heap.size + 2, 2, none⟩ = some (.slice none 0 0) := bo.2.1 2 _ rfl
  have s2 : W.cell? ⟨w.heap.size + 1, 2, none⟩ = some (.slice none 0 0) := br.2.1 2 _ rfl
  have fo := bo.2.2
  have fr := br.2.2
  have hC1 : Below w.heap.size w ((W.setCell ⟨w.heap.size + 2, 0, none⟩ (.int .i64 x.aft)).setCell ⟨w.heap.size + 2, 1, none⟩ (.string x.nm)) := ((hb.setCell (by show w.heap.size ≤ w.heap.size + 2; omega) _).setCell (by show w.heap.size ≤ w.heap.size + 2; omega) _)
  have HC1 := Hid.mk' (rtBytes_c a1 c1 x.bs ((W.setCell ⟨w.heap.size + 2, 0, none⟩ (.int .i64 x.aft)).setCell ⟨w.heap.size + 2, 1, none⟩ (.string x.nm)) l2 (R1.out.up (up_below hC1)))
  obtain ⟨B1, hB1⟩ : ∃ B, B = (((W.setCell ⟨w.heap.size + 2, 0, none⟩ (.int .i64 x.aft)).setCell ⟨w.heap.size + 2, 1, none⟩ (.string x.nm))).heap.size := ⟨_, rfl⟩
  rw [← hB1] at HC1
  have HQ1 := Hid.mk' hB1
  clear hB1
  have bb1 : Bk ((W.setCell ⟨w.heap.size + 2, 0, none⟩ (.int .i64 x.aft)).setCell ⟨w.heap.size + 2, 1, none⟩ (.string x.nm)) w.heap.size [.int .i64 x.aft, .string x.nm, .slice a1 x.bs.length c1] := ((bb.other (by omega)).other (by omega))
  have br1 : Bk ((W.setCell ⟨w.heap.size + 2, 0, none⟩ (.int .i64 x.aft)).setCell ⟨w.heap.size + 2, 1, none⟩ (.string x.nm)) (w.heap.size + 1) [.int .i64 0, .string ⟨#[]⟩, .slice none 0 0] := ((br.other (by omega)).other (by omega))
  have bo1 : Bk ((W.setCell ⟨w.heap.size + 2, 0, none⟩ (.int .i64 x.aft)).setCell ⟨w.heap.size + 2, 1, none⟩ (.string x.nm)) (w.heap.size + 2) [.int .i64 x.aft, .string x.nm, .slice none 0 0] := bo.set.set
  go_wp2_with fail
  refine HC1.out.mono ?_
  rintro e W1 ⟨rfl, n1, hb1⟩
  have bbn := bb1.keep (hb_of hb1 HQ1.out)
  have brn := br1.keep (hb_of hb1 HQ1.out)
  have bon := bo1.keep (hb_of hb1 HQ1.out)
  have hbn : Below w.heap.size w W1 := hC1.trans ((hb_of hb1 HQ1.out).mono hC1.size)
  clear bb br bo hb fo fr q0 o0 s0 q1 o1 s1 q2 o2 s2
  have bb := bbn
  have br := brn
  have bo := bon
  have hb := hbn
  clear bbn brn bon hbn
  have hBle1 : w.heap.size + 2 < B1 := by rw [HQ1.out]; exact bo1.1
  have n1 := n1.mono (show w.heap.size + 3 ≤ B1 by omega)
  clear hC1 HC1 bb1 br1 bo1 hb1
  have q0 : W1.cell? ⟨w.heap.size, 0, none⟩ = some (.int .i64 x.aft) := bb.2.1 0 _ rfl
  have o0 : W1.cell? ⟨w.heap.size + 2, 0, none⟩ = some (.int .i64 x.aft) := bo.2.1 0 _ rfl
  have s0 : W1.cell? ⟨w.heap.size + 1, 0, none⟩ = some (.int .i64 0) := br.2.1 0 _ rfl
  have q1 : W1.cell? ⟨w.heap.size, 1, none⟩ = some (.string x.nm) := bb.2.1 1 _ rfl
  have o1 : W1.cell? ⟨w.heap.size + 2, 1, none⟩ = some (.string x.nm) := bo.2.1 1 _ rfl
  have s1 : W1.cell? ⟨w.heap.size + 1, 1, none⟩ = some (.string ⟨#[]⟩) := br.2.1 1 _ rfl
  have q2 : W1.cell? ⟨w.heap.size, 2, none⟩ = some (.slice a1 x.bs.length c1) := bb.2.1 2 _ rfl
  have o2 : W1.cell? ⟨w.heap.size + 2, 2, none⟩ = some (.slice none 0 0) := bo.2.1 2 _ rfl
  have s2 : W1.cell? ⟨w.heap.size + 1, 2, none⟩ = some (.slice none 0 0) := br.2.1 2 _ rfl
  have fo := bo.2.2
  have fr := br.2.2
  have HB := Hid.mk' hb
  have HN1 := Hid.mk' n1
  clear hb bb br bo n1
  go_wp2
  exact bodyPost_ret (v := .agg #[.int .i64 x.aft, .string x.nm, .slice (some ⟨B1, 0, none⟩) x.bs.length x.bs.length]) (by simp [results, Tryz.results123, go_sem, s0, s1, s2, e3, e4]) rfl ⟨B1, rfl, ((HN1.out.up (up_sets1 (by omega))).up (up_set1_3 (by omega))).mono (by omega), ((((HB.out.setCell (by show w.heap.size ≤ w.heap.size + 2; omega) _).setCell (by show w.heap.size ≤ w.heap.size + 1; omega) _).setCell (by show w.heap.size ≤ w.heap.size + 1; omega) _).setCell (by show w.heap.size ≤ w.heap.size + 1; omega) _)⟩
theorem Tryz.infoCus : (Tryz.prog.info? 80).map (fun i => (i.zero, i.size, i.bytes)) = some (some (.agg #[.int .i64 0, .string ⟨#[]⟩, .slice none 0 0]), 3, 48) := by kernel_rfl
theorem makeCus (n : Nat) (hn : n ≤ 1048576) (w : World) : (Instr.makeSlice 44 (.int .i64 (n : Int)) (.int .i64 (n : Int))).run Tryz.prog w = .ok (.slice (some ⟨w.heap.size, 0, none⟩) n n) (w.alloc (.cells (madeCells #[.int .i64 0, .string ⟨#[]⟩, .slice none 0 0] (n * 3)) 80)) := by
  obtain ⟨i, hi, hzz⟩ := Option.map_eq_some_iff.1 Tryz.infoCus
  simp only [Prod.mk.injEq] at hzz
  obtain ⟨hz, hs, hb⟩ := hzz
  have := run_make (P := Tryz.prog) w 44 80 i _ Tryz.underlying44 hi hz .i64 .i64 n n (by omega) (by omega) (by rw [hb]; omega) (by omega)
  rw [hs] at this
  simpa [Value.cells] using this
structure CpCus (w : World) (g n k : Nat) (xs : List Cus) (W : World) : Prop where
  blk : ∃ cur, W.heap[g]? = some (.cells cur 80 (0, 0)) ∧ cur.size = n * 3
  done : ∀ i, i < k → ∃ a1 c1, (W.cell? ⟨g, i * 3, none⟩ = some (.int .i64 (xs.getD i Cus.z).aft) ∧ W.cell? ⟨g, i * 3 + 1, none⟩ = some (.string (xs.getD i Cus.z).nm) ∧ W.cell? ⟨g, i * 3 + 2, none⟩ = some (.slice a1 (xs.getD i Cus.z).bs.length c1)) ∧ Cus.Is (g + 1) W (xs.getD i Cus.z) a1
  bel : Below w.heap.size w W
  ge : w.heap.size ≤ g
theorem CpCus.cells {w W : World} {g n k : Nat} {xs : List Cus} (h : CpCus w g n k xs W) : g < W.heap.size ∧ (∀ j, j < n * 3 → ∃ u, W.cell? ⟨g, j, none⟩ = some u) ∧ ∀ j, W.frozen? ⟨g, j, none⟩ = false := by
  obtain ⟨cur, e, hc⟩ := h.blk
  have hl : g < W.heap.size := by
    rcases Nat.lt_or_ge g W.heap.size with h' | h'
    · exact h'
    · rw [Array.getElem?_eq_none h'] at e; cases e
  refine ⟨hl, fun j hj => ?_, fun j => ?_⟩
  · simp only [World.cell?, e]
    exact ⟨cur[j]'(by omega), by simp [show j < cur.size by omega]⟩
  · simp only [World.frozen?, e]; simp
theorem CpCus.keep {w W W1 : World} {g n k : Nat} {xs : List Cus} (h : CpCus w g n k xs W) (hb : Below W.heap.size W W1) : CpCus w g n k xs W1 := by
  obtain ⟨cur, e, hc⟩ := h.blk
  have hl := h.cells.1
  refine ⟨⟨cur, (hb.block g hl).trans e, hc⟩, fun i hi => ?_, h.bel.trans (hb.mono h.bel.size), h.ge⟩
  obtain ⟨a1, c1, ⟨q0, q1, q2⟩, hi2⟩ := h.done i hi
  exact ⟨a1, c1, ⟨(hb.cell (p := ⟨g, i * 3, none⟩) hl).trans q0, (hb.cell (p := ⟨g, i * 3 + 1, none⟩) hl).trans q1, (hb.cell (p := ⟨g, i * 3 + 2, none⟩) hl).trans q2⟩, hi2.up (up_below hb)⟩
theorem blk_Cus {w : World} {g o n : Nat} {v : Value} (h : ∃ cur, w.heap[g]? = some (.cells cur 80 (0, 0)) ∧ cur.size = n) : ∃ cur, (w.setCell ⟨g, o, none⟩ v).heap[g]? = some (.cells cur 80 (0, 0)) ∧ cur.size = n := by
  obtain ⟨cur, e, hc⟩ := h
  refine ⟨cur.setIfInBounds o v, ?_, by simpa using hc⟩
  simp only [World.setCell, Array.getElem?_modify, if_true, e, Option.map_some]
  rfl
theorem CpCus.step {w W : World} {g n k : Nat} {xs : List Cus} {b1 : Nat} (H : CpCus w g n k xs W) (hk : k < n) (x : Cus) (hx : x = xs.getD k Cus.z) (ho : Cus.Is (g + 1) W x (some ⟨b1, 0, none⟩)) :
    CpCus w g n (k + 1) xs (((W.setCell ⟨g, k * 3, none⟩ (.int .i64 x.aft)).setCell ⟨g, k * 3 + 1, none⟩ (.string x.nm)).setCell ⟨g, k * 3 + 2, none⟩ (.slice (some ⟨b1, 0, none⟩) x.bs.length x.bs.length)) := by
  obtain ⟨hl, hc, hf⟩ := H.cells
  obtain ⟨u0, e0⟩ := hc (k * 3) (by omega)
  obtain ⟨u1, e1⟩ := hc (k * 3 + 1) (by omega)
  obtain ⟨u2, e2⟩ := hc (k * 3 + 2) (by omega)
  refine ⟨blk_Cus (blk_Cus (blk_Cus (H.blk))), fun i hi => ?_, (((H.bel.setCell H.ge _).setCell H.ge _).setCell H.ge _), H.ge⟩
  by_cases hik : i = k
  · subst hik
    rw [← hx]
    exact ⟨_, _, ⟨set_off (set_off (set_same (e0)) (by omega)) (by omega), set_off (set_same (set_off (e1) (by omega))) (by omega), set_same (set_off (set_off (e2) (by omega)) (by omega))⟩, (((ho.up (up_set (Nat.lt_succ_self g))).up (up_set (Nat.lt_succ_self g))).up (up_set (Nat.lt_succ_self g)))⟩
  · obtain ⟨a1, c1, ⟨q0, q1, q2⟩, hi2⟩ := H.done i (by omega)
    exact ⟨a1, c1, ⟨set_off (set_off (set_off (q0) (by omega)) (by omega)) (by omega), set_off (set_off (set_off (q1) (by omega)) (by omega)) (by omega), set_off (set_off (set_off (q2) (by omega)) (by omega)) (by omega)⟩, (((hi2.up (up_set (Nat.lt_succ_self g))).up (up_set (Nat.lt_succ_self g))).up (up_set (Nat.lt_succ_self g)))⟩
theorem CpCus.ls {w W : World} {g : Nat} {xs : List Cus} (h : CpCus w g xs.length xs.length xs W) : Cus.Ls g W (some ⟨g, 0, none⟩) xs := by
  refine .inr ⟨g, 0, rfl, Nat.le_refl _, fun i hi => ?_⟩
  obtain ⟨a1, c1, qs, hi2⟩ := h.done i hi
  rw [Nat.zero_add]
  exact ⟨a1, c1, qs, hi2.mono (Nat.le_succ g)⟩
set_option maxHeartbeats 8000000 in
theorem rtCuss_c (a : Option Addr) (c : Nat) (xs : List Cus) (w : World) (hl : xs.length ≤ 1048576 ∧ ∀ i, i < xs.length → Cus.LB 1048576 (xs.getD i Cus.z)) (hL : Cus.Ls 0 w a xs) :
    Calls Tryz.prog 46 #[.slice a xs.length c] w fun e w' => e = .returned (.slice (some ⟨w.heap.size, 0, none⟩) xs.length xs.length) ∧ Cus.Ls w.heap.size w' (some ⟨w.heap.size, 0, none⟩) xs ∧ Below w.heap.size w w' := by
  obtain ⟨hn, hll⟩ := hl
  have hmk := makeCus xs.length hn
  have HL := Hid.mk' hL
  have Hl := Hid.mk' hll
  clear hL hll
  have hst : CpCus w w.heap.size xs.length 0 xs (w.alloc (.cells (madeCells #[.int .i64 0, .string ⟨#[]⟩, .slice none 0 0] (xs.length * 3)) 80)) :=
    ⟨⟨_, heap_new _ _, by simp [madeCells]⟩, fun i hi => by omega, (Below.refl _ _).alloc (Nat.le_refl _) _, Nat.le_refl _⟩
  have HS := Hid.mk' hst
  clear hst
  go_enter Tryz.func46, Tryz.ntmps46
  go_wp2
  go_loopw [4] (fun i wr => ∃ k : Nat, k ≤ xs.length ∧ i = .int .i64 k ∧ CpCus w w.heap.size xs.length k xs wr) (fun i _ => xs.length - (intOf i).toNat)
  case atStart => exact ⟨0, Nat.zero_le _, rfl, HS.out⟩
  case round =>
    obtain ⟨k, hk, rfl, hcp⟩ := hrel
    clear HS hmk
    by_cases hlt : k < xs.length
    · have hki : (k : Int) < (xs.length : Int) := by omega
      rcases HL.out.up (up_below hcp.bel) with hx | ⟨b, o, ea, _, hc⟩
      · subst hx; simp at hlt
      have hxk := hc k hlt
      have hxl := Hl.out k hlt
      subst ea
      obtain ⟨x, hx⟩ : ∃ x, x = xs.getD k Cus.z := ⟨_, rfl⟩
      rw [← hx] at hxk hxl
      obtain ⟨a1, c1, ⟨q0, q1, q2⟩, hi⟩ := hxk
      have HT := Hid.mk' (rtCus_c x a1 c1 wr hi hxl)
      have HX := Hid.mk' hx
      have HP := Hid.mk' hcp
      clear hx hc hcp hi HL
      go_wp2_with fail
      refine HT.out.mono ?_
      rintro e w1 ⟨b1, rfl, ho, hb⟩
      have hcp1 := HP.out.keep hb
      obtain ⟨hl1, hc1, hf1⟩ := hcp1.cells
      obtain ⟨u0, e0⟩ := hc1 (k * 3) (by omega)
      obtain ⟨u1, e1⟩ := hc1 (k * 3 + 1) (by omega)
      obtain ⟨u2, e2⟩ := hc1 (k * 3 + 2) (by omega)
      have HP1 := Hid.mk' (hcp1.step hlt x HX.out (ho.mono (by have := HP.out.cells.1; omega)))
      clear ho hb hcp1 hc1 HT HP q0 q1 q2
      go_wp2
      go_roundw
      case rel => exact ⟨k + 1, by omega, by go_num, HP1.out⟩
      case measure => simp [intOf]; omega
    · have e : k = xs.length := by omega
      subst e
      go_wp2
      go_ret
      exact ⟨rfl, hcp.ls, hcp.bel⟩
end Go.Proofs.YtdbmolambolmgaaGreat
