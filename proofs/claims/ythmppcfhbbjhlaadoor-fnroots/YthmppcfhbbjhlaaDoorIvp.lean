import Derived.Test.YthmppcfhbbjhlaaDoorTr
import Derived.Test.YthmppcfhbbjhlaaDoorSc
set_option linter.all false
namespace Go.Proofs.YthmppcfhbbjhlaaDoor
open Go.RowKit Go.Sort

theorem c4_newA {w : World} {o o' : Obj} {a b c d : Value} {t : TypeId} : C4 (((w.alloc o).alloc (.cells #[a, b, c, d] t)).alloc o') (w.heap.size + 1) a b c d := by
  have h := (c4_new (w := w.alloc o) (a := a) (b := b) (c := c) (d := d) (t := t)).past (o := o')
  have e : (w.alloc o).heap.size = w.heap.size + 1 := by simp
  rw [e] at h
  exact h
theorem c4_newB {w : World} {o o' : Obj} {a b c d : Value} {t : TypeId} : C4 (((w.alloc o).alloc o').alloc (.cells #[a, b, c, d] t)) (w.heap.size + 2) a b c d := by
  have h := c4_new (w := (w.alloc o).alloc o') (a := a) (b := b) (c := c) (d := d) (t := t)
  have e : ((w.alloc o).alloc o').heap.size = w.heap.size + 2 := by simp
  rw [e] at h
  exact h
theorem C4.drew {w : World} {g : Nat} {a b c d : Value} (h : C4 w g a b c d) : C4 w.drew g a b c d := h
theorem R3.drew {w : World} {g : Nat} {a b c : Value} (h : R3 w g a b c) : R3 w.drew g a b c := h

end Go.Proofs.YthmppcfhbbjhlaaDoor
