import Derived.Test.YteaegmlnacnofaaK11
set_option linter.all false
set_option linter.unusedVariables false
namespace Go.Proofs.Yteaegmlnacnofaa
open Go.RowKit Go.Sort
set_option maxRecDepth 100000
structure NX (w : World) (B : Nat) (kv : Value) (dn bd : Bool) (ks : List Int) (W : World) : Prop where
  b0 : W.cell? ⟨w.heap.size, 0, none⟩ = some kv
  b1 : W.cell? ⟨w.heap.size, 1, none⟩ = some (.bool dn)
  b2 : W.cell? ⟨w.heap.size, 2, none⟩ = some (.bool bd)
  bf : ∀ i, W.frozen? ⟨w.heap.size, i, none⟩ = false
  r0 : W.cell? ⟨w.heap.size + 1, 0, none⟩ = some (.slice none 0 0)
  r1 : W.cell? ⟨w.heap.size + 1, 1, none⟩ = some (.bool false)
  r2 : W.cell? ⟨w.heap.size + 1, 2, none⟩ = some (.bool false)
  rf : ∀ i, W.frozen? ⟨w.heap.size + 1, i, none⟩ = false
  own : W.ownsRow B 2 1 kv ks.length (I ks)
  n0 : kv.ownBlock ≠ some w.heap.size
  n1 : kv.ownBlock ≠ some (w.heap.size + 1)
  bel : Below B w W
  lt : w.heap.size + 1 < W.heap.size
theorem NX.start {w : World} {B : Nat} {kv : Value} {dn bd : Bool} {ks : List Int} (h : w.ownsRow B 2 1 kv ks.length (I ks)) (hB : B ≤ w.heap.size) :
    NX w B kv dn bd ks ((w.alloc (.cells #[kv, .bool dn, .bool bd] 111)).alloc (.cells #[.slice none 0 0, .bool false, .bool false] 111)) := by
  have e1 : (w.alloc (.cells #[kv, .bool dn, .bool bd] 111)).heap.size = w.heap.size + 1 := by simp
  have hlt := own_lt h
  refine ⟨?_, ?_, ?_, fun i => ?_, cell_new e1.symm rfl, cell_new e1.symm rfl, cell_new e1.symm rfl, fun i => ?_, (h.alloc _).alloc _, fun e => ?_, fun e => ?_, ?_, by simp⟩
  · rw [World.cell?_alloc_past _ _ _ (by simp)]; exact cell_new rfl rfl
  · rw [World.cell?_alloc_past _ _ _ (by simp)]; exact cell_new rfl rfl
  · rw [World.cell?_alloc_past _ _ _ (by simp)]; exact cell_new rfl rfl
  · rw [World.frozen?_alloc_old _ _ _ (by simp)]; exact World.frozen?_alloc_new _ _ _ _
  · rw [← e1]; exact World.frozen?_alloc_new _ _ _ _
  · have := hlt _ e; omega
  · have := hlt _ e; omega
  · exact ((Below.refl _ _).alloc hB _).alloc (by simp; omega) _
theorem NX.pushed {w W w1 : World} {B : Nat} {kv kv' : Value} {dn bd : Bool} {ks : List Int} {z : Int} {o : Obj} (h : NX w B kv dn bd ks W) (hB : B ≤ w.heap.size) (ho : w1.ownsRow B 2 1 kv' (ks.length + 1) (I ks ++ [.int .i64 z])) (hg : (W.alloc o).grownBy w1 kv.ownBlock) (hl : kv'.ownBlock = kv.ownBlock ∨ kv'.ownBlock = some (W.alloc o).heap.size) :
    NX w B kv' dn bd (ks ++ [z]) (w1.setCell ⟨w.heap.size, 0, none⟩ kv') ∧ (w1.cell? ⟨w.heap.size, 0, none⟩ = some kv ∧ w1.cell? ⟨w.heap.size, 1, none⟩ = some (.bool dn) ∧ w1.cell? ⟨w.heap.size, 2, none⟩ = some (.bool bd) ∧ ∀ i, w1.frozen? ⟨w.heap.size, i, none⟩ = false) ∧ w1.cell? ⟨w.heap.size + 1, 0, none⟩ = some (.slice none 0 0) ∧ w1.cell? ⟨w.heap.size + 1, 1, none⟩ = some (.bool false) ∧ w1.cell? ⟨w.heap.size + 1, 2, none⟩ = some (.bool false) ∧ ∀ i, w1.frozen? ⟨w.heap.size + 1, i, none⟩ = false := by
  have lt := h.lt
  have hs := hg.size
  simp only [World.size_alloc] at hs
  have k0 : w1.heap[w.heap.size]? = W.heap[w.heap.size]? := by
    rw [hg.block _ (by simp; omega) (fun e => h.n0 e.symm)]; exact heap_old W o _ (by omega)
  have k1 : w1.heap[w.heap.size + 1]? = W.heap[w.heap.size + 1]? := by
    rw [hg.block _ (by simp; omega) (fun e => h.n1 e.symm)]; exact heap_old W o _ lt
  have c0 : w1.cell? ⟨w.heap.size, 0, none⟩ = some kv := (World.cell?_of_block k0).trans h.b0
  have n0 : kv'.ownBlock ≠ some w.heap.size := by
    rcases hl with e | e
    · rw [e]; exact h.n0
    · rw [e]; intro e'; injection e' with e'; simp at e'; omega
  have n1 : kv'.ownBlock ≠ some (w.heap.size + 1) := by
    rcases hl with e | e
    · rw [e]; exact h.n1
    · rw [e]; intro e'; injection e' with e'; simp at e'; omega
  have hne : ∀ i, (⟨w.heap.size, 0, none⟩ : Addr) ≠ ⟨w.heap.size + 1, i, none⟩ := fun i e => by have := congrArg Addr.block e; simp at this
  refine ⟨⟨set_same c0, set_off ((World.cell?_of_block k0).trans h.b1) (by omega), set_off ((World.cell?_of_block k0).trans h.b2) (by omega), fun i => ?_, ?_, ?_, ?_, fun i => ?_, ?_, n0, n1, ?_, by simp; omega⟩, ⟨c0, (World.cell?_of_block k0).trans h.b1, (World.cell?_of_block k0).trans h.b2, fun i => (World.frozen?_of_block k0).trans (h.bf i)⟩, (World.cell?_of_block k1).trans h.r0, (World.cell?_of_block k1).trans h.r1, (World.cell?_of_block k1).trans h.r2, fun i => (World.frozen?_of_block k1).trans (h.rf i)⟩
  · rw [World.frozen?_setCell]; exact (World.frozen?_of_block k0).trans (h.bf i)
  · rw [World.cell?_setCell_other _ _ _ _ (hne 0)]; exact (World.cell?_of_block k1).trans h.r0
  · rw [World.cell?_setCell_other _ _ _ _ (hne 1)]; exact (World.cell?_of_block k1).trans h.r1
  · rw [World.cell?_setCell_other _ _ _ _ (hne 2)]; exact (World.cell?_of_block k1).trans h.r2
  · rw [World.frozen?_setCell]; exact (World.frozen?_of_block k1).trans (h.rf i)
  · have : w1.ownsRow B 2 1 kv' (ks ++ [z]).length (I (ks ++ [z])) := by simpa using ho
    exact ownE_set this n0
  · refine Below.setCell ?_ hB _
    exact (h.bel.alloc (by omega) o).grown hg (by simp; omega) (fun j hj => (h.own.lt j hj).1)
theorem NX.set {w W : World} {B r cap : Nat} {dn bd : Bool} {m : List Int} {z : Int} (h : NX w B (.slice (some ⟨r, 0, none⟩) (m.length + 1) cap) dn bd (m ++ [z]) W) (hr : B ≤ r) (z' : Int) :
    NX w B (.slice (some ⟨r, 0, none⟩) (m.length + 1) cap) dn bd (m ++ [z']) (W.setCell ⟨r, m.length, none⟩ (.int .i64 z')) := by
  have own := h.own
  rw [show (m ++ [z]).length = m.length + 1 by simp] at own
  obtain ⟨s1, _⟩ := own.stored m.length (.int .i64 z')
  have e : (I (m ++ [z])).set m.length (.int .i64 z') = I (m ++ [z']) := by
    simp only [I, List.map_append, List.map_cons, List.map_nil]
    rw [List.set_append_right _ _ (by simp)]; simp
  rw [e] at s1
  have h0 : r ≠ w.heap.size := fun e => h.n0 (by simp [Value.ownBlock, e])
  have h1 : r ≠ w.heap.size + 1 := fun e => h.n1 (by simp [Value.ownBlock, e])
  have q0 : ∀ i, (⟨r, m.length, none⟩ : Addr) ≠ ⟨w.heap.size, i, none⟩ := fun i e => h0 (congrArg Addr.block e)
  have q1 : ∀ i, (⟨r, m.length, none⟩ : Addr) ≠ ⟨w.heap.size + 1, i, none⟩ := fun i e => h1 (congrArg Addr.block e)
  refine ⟨?_, ?_, ?_, fun i => by rw [World.frozen?_setCell]; exact h.bf i, ?_, ?_, ?_, fun i => by rw [World.frozen?_setCell]; exact h.rf i, by rw [show (m ++ [z']).length = m.length + 1 by simp]; exact s1, h.n0, h.n1, h.bel.setCell hr _, by simpa using h.lt⟩
  · rw [World.cell?_setCell_other _ _ _ _ (q0 0)]; exact h.b0
  · rw [World.cell?_setCell_other _ _ _ _ (q0 1)]; exact h.b1
  · rw [World.cell?_setCell_other _ _ _ _ (q0 2)]; exact h.b2
  · rw [World.cell?_setCell_other _ _ _ _ (q1 0)]; exact h.r0
  · rw [World.cell?_setCell_other _ _ _ _ (q1 1)]; exact h.r1
  · rw [World.cell?_setCell_other _ _ _ _ (q1 2)]; exact h.r2
theorem NX.drop {w W : World} {B r cap : Nat} {dn bd : Bool} {m : List Int} {z : Int} (h : NX w B (.slice (some ⟨r, 0, none⟩) (m.length + 1) cap) dn bd (m ++ [z]) W) (hB : B ≤ w.heap.size) :
    NX w B (.slice (some ⟨r, 0, none⟩) m.length cap) dn bd m (W.setCell ⟨w.heap.size, 0, none⟩ (.slice (some ⟨r, 0, none⟩) m.length cap)) := by
  have own := h.own
  rw [show (m ++ [z]).length = m.length + 1 by simp] at own
  have o2 := ownE_take own
  have e : (I (m ++ [z])).take m.length = I m := by simp [I]
  rw [e] at o2
  have h0 : (Value.slice (some ⟨r, 0, none⟩) m.length cap).ownBlock ≠ some w.heap.size := fun e => h.n0 (by simpa [Value.ownBlock] using e)
  have h1 : (Value.slice (some ⟨r, 0, none⟩) m.length cap).ownBlock ≠ some (w.heap.size + 1) := fun e => h.n1 (by simpa [Value.ownBlock] using e)
  have hne : ∀ i, (⟨w.heap.size, 0, none⟩ : Addr) ≠ ⟨w.heap.size + 1, i, none⟩ := fun i e => by have := congrArg Addr.block e; simp at this
  refine ⟨set_same h.b0, set_off h.b1 (by omega), set_off h.b2 (by omega), fun i => by rw [World.frozen?_setCell]; exact h.bf i, ?_, ?_, ?_, fun i => by rw [World.frozen?_setCell]; exact h.rf i, ownE_set o2 h0, h0, h1, h.bel.setCell hB _, by simpa using h.lt⟩
  · rw [World.cell?_setCell_other _ _ _ _ (hne 0)]; exact h.r0
  · rw [World.cell?_setCell_other _ _ _ _ (hne 1)]; exact h.r1
  · rw [World.cell?_setCell_other _ _ _ _ (hne 2)]; exact h.r2
theorem NX.fin {w W : World} {B : Nat} {kv x y z : Value} {dn bd : Bool} {ks : List Int} (h : NX w B kv dn bd ks W) (hB : B ≤ w.heap.size) :
    (((W.setCell ⟨w.heap.size + 1, 0, none⟩ x).setCell ⟨w.heap.size + 1, 1, none⟩ y).setCell ⟨w.heap.size + 1, 2, none⟩ z).ownsRow B 2 1 kv ks.length (I ks) ∧ Below B w (((W.setCell ⟨w.heap.size + 1, 0, none⟩ x).setCell ⟨w.heap.size + 1, 1, none⟩ y).setCell ⟨w.heap.size + 1, 2, none⟩ z) :=
  ⟨ownE_set (ownE_set (ownE_set h.own h.n1) h.n1) h.n1, ((h.bel.setCell (by show B ≤ w.heap.size + 1; omega) _).setCell (by show B ≤ w.heap.size + 1; omega) _).setCell (by show B ≤ w.heap.size + 1; omega) _⟩
theorem NX.flag {w W : World} {B : Nat} {kv : Value} {dn bd : Bool} {ks : List Int} (h : NX w B kv dn bd ks W) (hB : B ≤ w.heap.size) (z : Bool) : NX w B kv z bd ks (W.setCell ⟨w.heap.size, 1, none⟩ (.bool z)) ∧ NX w B kv dn z ks (W.setCell ⟨w.heap.size, 2, none⟩ (.bool z)) := by
  have hne : ∀ j i, (⟨w.heap.size, j, none⟩ : Addr) ≠ ⟨w.heap.size + 1, i, none⟩ := fun j i e => by have := congrArg Addr.block e; simp at this
  constructor
  · refine ⟨set_off h.b0 (by omega), set_same h.b1, set_off h.b2 (by omega), fun i => by rw [World.frozen?_setCell]; exact h.bf i, ?_, ?_, ?_, fun i => by rw [World.frozen?_setCell]; exact h.rf i, ownE_set h.own h.n0, h.n0, h.n1, h.bel.setCell hB _, by simpa using h.lt⟩
    · rw [World.cell?_setCell_other _ _ _ _ (hne 1 0)]; exact h.r0
    · rw [World.cell?_setCell_other _ _ _ _ (hne 1 1)]; exact h.r1
    · rw [World.cell?_setCell_other _ _ _ _ (hne 1 2)]; exact h.r2
  · refine ⟨set_off h.b0 (by omega), set_off h.b1 (by omega), set_same h.b2, fun i => by rw [World.frozen?_setCell]; exact h.bf i, ?_, ?_, ?_, fun i => by rw [World.frozen?_setCell]; exact h.rf i, ownE_set h.own h.n0, h.n0, h.n1, h.bel.setCell hB _, by simpa using h.lt⟩
    · rw [World.cell?_setCell_other _ _ _ _ (hne 2 0)]; exact h.r0
    · rw [World.cell?_setCell_other _ _ _ _ (hne 2 1)]; exact h.r1
    · rw [World.cell?_setCell_other _ _ _ _ (hne 2 2)]; exact h.r2
end Go.Proofs.Yteaegmlnacnofaa
