import Derived.Test.YthmppcfhbbjhlaaDoorBase
set_option linter.all false
namespace Go.Proofs.YthmppcfhbbjhlaaDoor
open Go.RowKit
theorem keepB {W w' : World} {g i : Nat} {v : Value} (h : W.cell? ⟨g, i, none⟩ = some v) (hb : Below W.heap.size W w') : w'.cell? ⟨g, i, none⟩ = some v := by
  rw [hb.cell (World.block_lt_of_cell? W _ h)]; exact h
theorem keepA {W : World} {g i : Nat} {v : Value} (h : W.cell? ⟨g, i, none⟩ = some v) (o : Obj) : (W.alloc o).cell? ⟨g, i, none⟩ = some v := by
  rw [World.cell?_alloc_past _ _ _ (World.block_lt_of_cell? W _ h)]; exact h
theorem wp_gen {P : Program} {c : Code} {Q : Exit → Act → World → Prop} {a : Act} {W : World} (R : World → Prop) (hR : R W) (h : ∀ wc, R wc → c.wp P Q a wc) : c.wp P Q a W := h W hR
theorem undrew {B : Nat} {w5 w6 : World} (h : Below B w5.drew w6) : Below B w5 w6 := ⟨h.os, h.tape, h.output, h.size, h.block⟩
end Go.Proofs.YthmppcfhbbjhlaaDoor
