import Derived.Test.YthmppcfhbbjhlaaDoorNm
set_option linter.all false
namespace Go.Proofs.YthmppcfhbbjhlaaDoor
open Go.RowKit Go.Sort

/-- Two cells of a block. -/
def C2 (w : World) (g : Nat) (a b : Value) : Prop :=
  (w.cell? ⟨g, 0, none⟩ = some a ∧ w.cell? ⟨g, 1, none⟩ = some b) ∧ (w.frozen? ⟨g, 0, none⟩ = false ∧ w.frozen? ⟨g, 1, none⟩ = false)
theorem c2_new {w : World} {a b : Value} {t : TypeId} : C2 (w.alloc (.cells #[a, b] t)) w.heap.size a b :=
  ⟨⟨cell_new rfl rfl, cell_new rfl rfl⟩, ⟨World.frozen?_alloc_new w _ t _, World.frozen?_alloc_new w _ t _⟩⟩
theorem C2.keep {w w1 : World} {g : Nat} {a b : Value} (h : C2 w g a b) (hb : Below w.heap.size w w1) : C2 w1 g a b := by
  obtain ⟨⟨h0, h1⟩, f0, f1⟩ := h
  have hl := World.block_lt_of_cell? w _ h0
  exact ⟨⟨keepB h0 hb, keepB h1 hb⟩, (hb.frozen (p := ⟨g, 0, none⟩) hl).trans f0, (hb.frozen (p := ⟨g, 1, none⟩) hl).trans f1⟩
theorem C2.past {w : World} {o : Obj} {g : Nat} {a b : Value} (h : C2 w g a b) : C2 (w.alloc o) g a b :=
  h.keep ((Below.refl _ _).alloc (Nat.le_refl _) _)
theorem C5.lt {w : World} {g : Nat} {a b c d e : Value} (h : C5 w g a b c d e) : g < w.heap.size := World.block_lt_of_cell? w _ h.1.1
theorem c5_mid {w : World} {a b c d e : Value} {t : TypeId} {o : Obj} : C5 ((w.alloc o).alloc (.cells #[a, b, c, d, e] t)) (w.heap.size + 1) a b c d e := by
  have h := c5_new (w := w.alloc o) (a := a) (b := b) (c := c) (d := d) (e := e) (t := t)
  have e : (w.alloc o).heap.size = w.heap.size + 1 := by simp
  rw [e] at h
  exact h

theorem C5.far {w : World} {g g' i : Nat} {v a b c d e : Value} (h : C5 w g a b c d e) (hg : g' ≠ g) : C5 (w.setCell ⟨g', i, none⟩ v) g a b c d e := by
  obtain ⟨⟨h0, h1, h2, h3, h4⟩, f0, f1, f2, f3, f4⟩ := h
  have e : ∀ j, (⟨g', i, none⟩ : Addr) ≠ ⟨g, j, none⟩ := fun j hj => hg (congrArg Addr.block hj)
  refine ⟨⟨?_, ?_, ?_, ?_, ?_⟩, ?_, ?_, ?_, ?_, ?_⟩
  · rw [World.cell?_setCell_other _ _ _ _ (e 0)]; exact h0
  · rw [World.cell?_setCell_other _ _ _ _ (e 1)]; exact h1
  · rw [World.cell?_setCell_other _ _ _ _ (e 2)]; exact h2
  · rw [World.cell?_setCell_other _ _ _ _ (e 3)]; exact h3
  · rw [World.cell?_setCell_other _ _ _ _ (e 4)]; exact h4
  · rw [World.frozen?_setCell]; exact f0
  · rw [World.frozen?_setCell]; exact f1
  · rw [World.frozen?_setCell]; exact f2
  · rw [World.frozen?_setCell]; exact f3
  · rw [World.frozen?_setCell]; exact f4
theorem set_same {w : World} {p : Addr} {u v : Value} (h : w.cell? p = some u) : (w.setCell p v).cell? p = some v := World.cell?_setCell_same _ _ _ h
theorem set_off {w : World} {g i j : Nat} {u v : Value} (h : w.cell? ⟨g, j, none⟩ = some u) (hn : i ≠ j) : (w.setCell ⟨g, i, none⟩ v).cell? ⟨g, j, none⟩ = some u := by
  rw [World.cell?_setCell_other _ _ _ _ (fun hj => hn (congrArg Addr.off hj))]; exact h
theorem C5.set1 {w : World} {g : Nat} {v a b c d e : Value} (h : C5 w g a b c d e) : C5 (w.setCell ⟨g, 1, none⟩ v) g a v c d e := by
  obtain ⟨⟨h0, h1, h2, h3, h4⟩, f0, f1, f2, f3, f4⟩ := h
  exact ⟨⟨set_off h0 (by decide), set_same h1, set_off h2 (by decide), set_off h3 (by decide), set_off h4 (by decide)⟩, by rw [World.frozen?_setCell]; exact f0, by rw [World.frozen?_setCell]; exact f1, by rw [World.frozen?_setCell]; exact f2, by rw [World.frozen?_setCell]; exact f3, by rw [World.frozen?_setCell]; exact f4⟩
theorem C5.set2 {w : World} {g : Nat} {v a b c d e : Value} (h : C5 w g a b c d e) : C5 (w.setCell ⟨g, 2, none⟩ v) g a b v d e := by
  obtain ⟨⟨h0, h1, h2, h3, h4⟩, f0, f1, f2, f3, f4⟩ := h
  exact ⟨⟨set_off h0 (by decide), set_off h1 (by decide), set_same h2, set_off h3 (by decide), set_off h4 (by decide)⟩, by rw [World.frozen?_setCell]; exact f0, by rw [World.frozen?_setCell]; exact f1, by rw [World.frozen?_setCell]; exact f2, by rw [World.frozen?_setCell]; exact f3, by rw [World.frozen?_setCell]; exact f4⟩
theorem C5.set3 {w : World} {g : Nat} {v a b c d e : Value} (h : C5 w g a b c d e) : C5 (w.setCell ⟨g, 3, none⟩ v) g a b c v e := by
  obtain ⟨⟨h0, h1, h2, h3, h4⟩, f0, f1, f2, f3, f4⟩ := h
  exact ⟨⟨set_off h0 (by decide), set_off h1 (by decide), set_off h2 (by decide), set_same h3, set_off h4 (by decide)⟩, by rw [World.frozen?_setCell]; exact f0, by rw [World.frozen?_setCell]; exact f1, by rw [World.frozen?_setCell]; exact f2, by rw [World.frozen?_setCell]; exact f3, by rw [World.frozen?_setCell]; exact f4⟩
theorem C5.set4 {w : World} {g : Nat} {v a b c d e : Value} (h : C5 w g a b c d e) : C5 (w.setCell ⟨g, 4, none⟩ v) g a b c d v := by
  obtain ⟨⟨h0, h1, h2, h3, h4⟩, f0, f1, f2, f3, f4⟩ := h
  exact ⟨⟨set_off h0 (by decide), set_off h1 (by decide), set_off h2 (by decide), set_off h3 (by decide), set_same h4⟩, by rw [World.frozen?_setCell]; exact f0, by rw [World.frozen?_setCell]; exact f1, by rw [World.frozen?_setCell]; exact f2, by rw [World.frozen?_setCell]; exact f3, by rw [World.frozen?_setCell]; exact f4⟩
theorem C5.set0 {w : World} {g : Nat} {v a b c d e : Value} (h : C5 w g a b c d e) : C5 (w.setCell ⟨g, 0, none⟩ v) g v b c d e := by
  obtain ⟨⟨h0, h1, h2, h3, h4⟩, f0, f1, f2, f3, f4⟩ := h
  exact ⟨⟨set_same h0, set_off h1 (by decide), set_off h2 (by decide), set_off h3 (by decide), set_off h4 (by decide)⟩, by rw [World.frozen?_setCell]; exact f0, by rw [World.frozen?_setCell]; exact f1, by rw [World.frozen?_setCell]; exact f2, by rw [World.frozen?_setCell]; exact f3, by rw [World.frozen?_setCell]; exact f4⟩
theorem C5.setAll {w : World} {g : Nat} {a b c d e a' b' c' d' e' : Value} (h : C5 w g a b c d e) : C5 (((((w.setCell ⟨g, 0, none⟩ a').setCell ⟨g, 1, none⟩ b').setCell ⟨g, 2, none⟩ c').setCell ⟨g, 3, none⟩ d').setCell ⟨g, 4, none⟩ e') g a' b' c' d' e' := h.set0.set1.set2.set3.set4
/-- Four cells of a block. -/
def C4 (w : World) (g : Nat) (a b c d : Value) : Prop :=
  (w.cell? ⟨g, 0, none⟩ = some a ∧ w.cell? ⟨g, 1, none⟩ = some b ∧ w.cell? ⟨g, 2, none⟩ = some c ∧ w.cell? ⟨g, 3, none⟩ = some d)
theorem c4_new {w : World} {a b c d : Value} {t : TypeId} : C4 (w.alloc (.cells #[a, b, c, d] t)) w.heap.size a b c d :=
  ⟨cell_new rfl rfl, cell_new rfl rfl, cell_new rfl rfl, cell_new rfl rfl⟩
theorem C4.keep {w w1 : World} {g : Nat} {a b c d : Value} (h : C4 w g a b c d) (hb : Below w.heap.size w w1) : C4 w1 g a b c d := by
  obtain ⟨h0, h1, h2, h3⟩ := h
  exact ⟨keepB h0 hb, keepB h1 hb, keepB h2 hb, keepB h3 hb⟩
theorem C4.past {w : World} {o : Obj} {g : Nat} {a b c d : Value} (h : C4 w g a b c d) : C4 (w.alloc o) g a b c d :=
  h.keep ((Below.refl _ _).alloc (Nat.le_refl _) _)
theorem C4.lt {w : World} {g : Nat} {a b c d : Value} (h : C4 w g a b c d) : g < w.heap.size := World.block_lt_of_cell? w _ h.1
theorem C4.far {w : World} {g g' i : Nat} {v a b c d : Value} (h : C4 w g a b c d) (hg : g' ≠ g) : C4 (w.setCell ⟨g', i, none⟩ v) g a b c d := by
  obtain ⟨h0, h1, h2, h3⟩ := h
  have e : ∀ j, (⟨g', i, none⟩ : Addr) ≠ ⟨g, j, none⟩ := fun j hj => hg (congrArg Addr.block hj)
  refine ⟨?_, ?_, ?_, ?_⟩
  · rw [World.cell?_setCell_other _ _ _ _ (e 0)]; exact h0
  · rw [World.cell?_setCell_other _ _ _ _ (e 1)]; exact h1
  · rw [World.cell?_setCell_other _ _ _ _ (e 2)]; exact h2
  · rw [World.cell?_setCell_other _ _ _ _ (e 3)]; exact h3
theorem below2 {w w1 : World} {o o' : Obj} (hb : Below ((w.alloc o).alloc o').heap.size ((w.alloc o).alloc o') w1) : Below w.heap.size w w1 :=
  (((Below.refl _ _).alloc (Nat.le_refl _) _).alloc (by simp) _).trans (hb.mono (by simp; omega))

end Go.Proofs.YthmppcfhbbjhlaaDoor
