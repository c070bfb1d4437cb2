import Derived.Test.YteaegmlnacnofaaNf0
set_option linter.all false
set_option linter.unusedVariables false
namespace Go.Proofs.Yteaegmlnacnofaa.NF
open Go.RowKit Go.Sort
set_option maxRecDepth 100000
abbrev U8 (xs : List Int) : List Value := xs.map fun x => Value.int .u8 x
theorem Try.info5 : (Try.prog.info? 5).map (fun i => (i.zero, i.size, i.bytes)) = some (some (.int .u8 0), 1, 1) := by kernel_rfl
theorem copyB_step (k : Nat) (xs : List Int) (h : k < xs.length) : (U8 (xs.take k ++ (List.replicate xs.length 0).drop k)).set k (.int .u8 (xs.getD k 0)) = U8 (xs.take (k + 1) ++ (List.replicate xs.length 0).drop (k + 1)) := by
  have hd : (List.replicate xs.length (0 : Int)).drop k = 0 :: (List.replicate xs.length (0 : Int)).drop (k + 1) := by
    rw [List.drop_eq_getElem_cons (by simpa using h)]; simp
  have ht : xs.take (k + 1) = xs.take k ++ [xs.getD k 0] := by
    rw [List.take_succ_eq_append_getElem h]; simp [List.getD, h]
  rw [hd, ht]
  simp only [U8, List.map_append, List.map_cons, List.append_assoc, List.cons_append, List.nil_append, List.map_nil]
  rw [List.set_append_right _ _ (by simp; omega)]
  simp [Nat.min_eq_left (Nat.le_of_lt h)]
theorem rtInts_c (a : Option Addr) (c : Nat) (xs : List Int) (w : World) (hn : xs.length ≤ 1048576) (hH : HI .i64 0 w a xs) :
    Calls Try.prog 69 #[.slice a xs.length c] w fun e w' => e = .returned (.slice (some ⟨w.heap.size, 0, none⟩) xs.length xs.length) ∧ HI .i64 w.heap.size w' (some ⟨w.heap.size, 0, none⟩) xs ∧ Below w.heap.size w w' :=
  (toI_c a c xs w hn hH.has).mono fun e w' ⟨h1, h2, h3⟩ => ⟨h1, .inr ⟨_, _, rfl, Nat.le_refl _, fun i hi => by rw [Nat.zero_add, h2.cellAt i (by omega)]; simp [List.getD, hi]⟩, h3⟩
/-- The cells of a block. -/
def Bk (W : World) (g : Nat) (cs : List Value) : Prop := g < W.heap.size ∧ (∀ j v, cs[j]? = some v → W.cell? ⟨g, j, none⟩ = some v) ∧ ∀ j, W.frozen? ⟨g, j, none⟩ = false
theorem Bk.keep {W W' : World} {g : Nat} {cs : List Value} (h : Bk W g cs) (hb : Below W.heap.size W W') : Bk W' g cs :=
  ⟨Nat.lt_of_lt_of_le h.1 hb.size, fun j v hj => (hb.cell (p := ⟨g, j, none⟩) h.1).trans (h.2.1 j v hj), fun j => (hb.frozen (p := ⟨g, j, none⟩) h.1).trans (h.2.2 j)⟩
theorem Bk.new {w : World} {cs : List Value} {t : TypeId} : Bk (w.alloc (.cells cs.toArray t)) w.heap.size cs :=
  ⟨by simp, fun j v hj => cell_new rfl (by simpa using hj), fun j => World.frozen?_alloc_new _ _ _ _⟩
theorem Bk.past {w : World} {g : Nat} {cs : List Value} {o : Obj} (h : Bk w g cs) (ho : unfro o = true := by rfl) : Bk (w.alloc o) g cs := h.keep ((Below.refl _ _).alloc (Nat.le_refl _) _ ho)
theorem Bk.other {W : World} {g g' o : Nat} {v : Value} {cs : List Value} (h : Bk W g cs) (hne : g' ≠ g) : Bk (W.setCell ⟨g', o, none⟩ v) g cs :=
  ⟨by simpa using h.1, fun j u hj => by rw [World.cell?_setCell_other _ _ _ _ (fun e => hne (congrArg Addr.block e))]; exact h.2.1 j u hj, fun j => by rw [World.frozen?_setCell]; exact h.2.2 j⟩
theorem Bk.set {W : World} {g j : Nat} {v : Value} {cs : List Value} (h : Bk W g cs) : Bk (W.setCell ⟨g, j, none⟩ v) g (cs.set j v) := by
  refine ⟨by simpa using h.1, fun i u hi => ?_, fun i => by rw [World.frozen?_setCell]; exact h.2.2 i⟩
  by_cases e : j = i
  · subst e
    have hj : j < cs.length := by
      rcases Nat.lt_or_ge j cs.length with h' | h'
      · exact h'
      · rw [List.getElem?_eq_none (by simpa using h')] at hi; cases hi
    rw [List.getElem?_set_self hj] at hi
    cases hi
    exact set_same (h.2.1 j _ (List.getElem?_eq_getElem hj))
  · rw [List.getElem?_set_ne e] at hi
    exact set_off (h.2.1 i u hi) e
theorem three (w : World) (b z z' : List Value) (t t' t'' : TypeId) : Bk (((w.alloc (.cells b.toArray t)).alloc (.cells z.toArray t')).alloc (.cells z'.toArray t'')) w.heap.size b ∧ Bk (((w.alloc (.cells b.toArray t)).alloc (.cells z.toArray t')).alloc (.cells z'.toArray t'')) (w.heap.size + 1) z ∧ Bk (((w.alloc (.cells b.toArray t)).alloc (.cells z.toArray t')).alloc (.cells z'.toArray t'')) (w.heap.size + 2) z' ∧ Below w.heap.size w (((w.alloc (.cells b.toArray t)).alloc (.cells z.toArray t')).alloc (.cells z'.toArray t'')) := by
  refine ⟨Bk.new.past.past, ?_, ?_, (((Below.refl _ _).alloc (Nat.le_refl _) _).alloc (by simp) _).alloc (by simp; omega) _⟩
  · have := (Bk.new (w := w.alloc (.cells b.toArray t)) (cs := z) (t := t')).past (o := .cells z'.toArray t'')
    simpa using this
  · have := (Bk.new (w := (w.alloc (.cells b.toArray t)).alloc (.cells z.toArray t')) (cs := z') (t := t''))
    simpa using this
end Go.Proofs.Yteaegmlnacnofaa.NF
