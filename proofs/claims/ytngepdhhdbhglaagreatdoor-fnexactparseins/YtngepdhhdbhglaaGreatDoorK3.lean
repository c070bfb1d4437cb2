import Derived.Test.YtngepdhhdbhglaaGreatDoorK2
set_option linter.all false
set_option linter.unusedVariables false
namespace Go.Proofs.YtngepdhhdbhglaaGreatDoor
open Go.RowKit
theorem Has.keep {w w1 : World} {a : Option Addr} {xs : List Int} (h : Has w a xs) (hb : Below w.heap.size w w1) : Has w1 a xs := by
  rcases h with h | ⟨b', o', e, hc⟩
  · exact .inl h
  · exact .inr ⟨b', o', e, fun i hi => (hb.cell (World.block_lt_of_cell? w _ (hc i hi))).trans (hc i hi)⟩
/-- Five cells of a block, and that none is frozen. -/
def C5 (w : World) (g o : Nat) (a b c d e : Value) : Prop :=
  (w.cell? ⟨g, o, none⟩ = some a ∧ w.cell? ⟨g, o + 1, none⟩ = some b ∧ w.cell? ⟨g, o + 2, none⟩ = some c ∧ w.cell? ⟨g, o + 3, none⟩ = some d ∧ w.cell? ⟨g, o + 4, none⟩ = some e) ∧ ∀ i, w.frozen? ⟨g, i, none⟩ = false
theorem C5.keep {w w1 : World} {g o : Nat} {a b c d e : Value} (h : C5 w g o a b c d e) (hb : Below w.heap.size w w1) : C5 w1 g o a b c d e := by
  obtain ⟨⟨h0, h1, h2, h3, h4⟩, f⟩ := h
  have hl := World.block_lt_of_cell? w _ h0
  exact ⟨⟨(hb.cell (p := ⟨g, o, none⟩) hl).trans h0, (hb.cell (p := ⟨g, o + 1, none⟩) hl).trans h1, (hb.cell (p := ⟨g, o + 2, none⟩) hl).trans h2, (hb.cell (p := ⟨g, o + 3, none⟩) hl).trans h3, (hb.cell (p := ⟨g, o + 4, none⟩) hl).trans h4⟩, fun i => (hb.frozen (p := ⟨g, i, none⟩) hl).trans (f i)⟩
theorem C5.new {w : World} {a b c d e : Value} {t : TypeId} : C5 (w.alloc (.cells #[a, b, c, d, e] t)) w.heap.size 0 a b c d e :=
  ⟨⟨cell_new rfl rfl, cell_new rfl rfl, cell_new rfl rfl, cell_new rfl rfl, cell_new rfl rfl⟩, fun i => World.frozen?_alloc_new w _ t i⟩
theorem C5.past {w : World} {o : Obj} {g q : Nat} {a b c d e : Value} (h : C5 w g q a b c d e) : C5 (w.alloc o) g q a b c d e := h.keep ((Below.refl _ _).alloc (Nat.le_refl _) _)
theorem own_set {w : World} {B g cap n : Nat} {zs : List Value} {b o : Nat} {v : Value} (h : w.ownsRow B 2 1 (.slice (some ⟨g, 0, none⟩) n cap) n zs) (hb : g ≠ b) : (w.setCell ⟨b, o, none⟩ v).ownsRow B 2 1 (.slice (some ⟨g, 0, none⟩) n cap) n zs := by
  refine ⟨h.1, ?_⟩
  rcases h.2 with h0 | ⟨g', cap', cur, hv, hB, hh, r⟩
  · exact .inl h0
  · simp only [Value.slice.injEq, Option.some.injEq, Addr.mk.injEq, and_true, true_and] at hv
    obtain ⟨rfl, rfl⟩ := hv
    exact .inr ⟨g, cap, cur, rfl, hB, (Below.heap_setCell _ _ _ _ hb).trans hh, r⟩
theorem own_down {w : World} {B B' n : Nat} {v : Value} {zs : List Value} (h : w.ownsRow B 2 1 v n zs) (hB : B' ≤ B) : w.ownsRow B' 2 1 v n zs := by
  refine ⟨h.1, ?_⟩
  rcases h.2 with h0 | ⟨g, cap, cur, hv, hb, r⟩
  · exact .inl h0
  · exact .inr ⟨g, cap, cur, hv, by omega, r⟩
/-- A result of toIns: its numbers lie in a block of the call's own. -/
def Got (w' : World) (B : Nat) (x : In) (g : Nat) : Prop := w'.ownsRow B 2 1 (.slice (some ⟨g, 0, none⟩) x.l.length x.l.length) x.l.length (I x.l)
theorem Tryz.info26 : (Tryz.prog.info? 26).map (fun i => (i.zero, i.size, i.bytes)) = some (some (.agg #[.int .i64 0, .int .i64 0, .int .i64 0, .int .u64 0, .slice none 0 0]), 5, 56) := by kernel_rfl
theorem make5 (n : Nat) (hn : n ≤ 1048576) (w : World) : (Instr.makeSlice 188 (.int .i64 (n : Int)) (.int .i64 (n : Int))).run Tryz.prog w = .ok (.slice (some ⟨w.heap.size, 0, none⟩) n n) (w.alloc (.cells (madeCells #[.int .i64 0, .int .i64 0, .int .i64 0, .int .u64 0, .slice none 0 0] (n * 5)) 26)) := by
  obtain ⟨i, hi, hzz⟩ := Option.map_eq_some_iff.1 Tryz.info26
  simp only [Prod.mk.injEq] at hzz
  obtain ⟨hz, hs, hb⟩ := hzz
  have := run_make (P := Tryz.prog) w 188 26 i _ Tryz.underlying188 hi hz .i64 .i64 n n (by omega) (by omega) (by rw [hb]; omega) (by omega)
  rw [hs] at this
  simpa [Value.cells] using this
/-- The copy's block g, of which the first k are done. -/
structure Cp (w : World) (g n k : Nat) (xs : List In) (wr : World) : Prop where
  blk : ∃ cur, wr.heap[g]? = some (.cells cur 26 (0, 0)) ∧ cur.size = n * 5
  done : ∀ i, i < k → ∃ h, C5 wr g (i * 5) (.int .i64 (xs.getD i I0).op) (.int .i64 (xs.getD i I0).a) (.int .i64 (xs.getD i I0).b) (.int .u64 (xs.getD i I0).v) (.slice (some ⟨h, 0, none⟩) (xs.getD i I0).l.length (xs.getD i I0).l.length) ∧ Got wr (g + 1) (xs.getD i I0) h
  bel : Below w.heap.size w wr
  ge : w.heap.size ≤ g
theorem Cp.cells {w wr : World} {g n k : Nat} {xs : List In} (h : Cp w g n k xs wr) : g < wr.heap.size ∧ (∀ j, j < n * 5 → ∃ u, wr.cell? ⟨g, j, none⟩ = some u) ∧ ∀ j, wr.frozen? ⟨g, j, none⟩ = false := by
  obtain ⟨cur, e, hc⟩ := h.blk
  have hl : g < wr.heap.size := by
    rcases Nat.lt_or_ge g wr.heap.size with h' | h'
    · exact h'
    · rw [Array.getElem?_eq_none h'] at e; cases e
  refine ⟨hl, fun j hj => ?_, fun j => ?_⟩
  · simp only [World.cell?, e]
    exact ⟨cur[j]'(by omega), by simp [show j < cur.size by omega]⟩
  · simp only [World.frozen?, e]; simp
theorem Got.keep {w w1 : World} {B g : Nat} {x : In} (h : Got w B x g) (hb : Below w.heap.size w w1) : Got w1 B x g :=
  own_keep h hb (own_lt h)
theorem C5.lt {w : World} {g o : Nat} {a b c d e : Value} (h : C5 w g o a b c d e) : g < w.heap.size := World.block_lt_of_cell? w _ h.1.1
theorem Cp.keep {w wr w1 : World} {g n k : Nat} {xs : List In} (h : Cp w g n k xs wr) (hb : Below wr.heap.size wr w1) : Cp w g n k xs w1 := by
  obtain ⟨cur, e, hc⟩ := h.blk
  have hl := h.cells.1
  refine ⟨⟨cur, (hb.block g hl).trans e, hc⟩, fun i hi => ?_, h.bel.trans (hb.mono h.bel.size), h.ge⟩
  obtain ⟨q, c, o⟩ := h.done i hi
  exact ⟨q, c.keep hb, o.keep hb⟩
theorem set_same {w : World} {p : Addr} {u v : Value} (h : w.cell? p = some u) : (w.setCell p v).cell? p = some v := World.cell?_setCell_same _ _ _ h
theorem set_off {w : World} {g i j : Nat} {u v : Value} (h : w.cell? ⟨g, j, none⟩ = some u) (hn : i ≠ j) : (w.setCell ⟨g, i, none⟩ v).cell? ⟨g, j, none⟩ = some u := by
  rw [World.cell?_setCell_other _ _ _ _ (fun hj => hn (congrArg Addr.off hj))]; exact h
theorem blk_set {w : World} {g o n : Nat} {v : Value} (h : ∃ cur, w.heap[g]? = some (.cells cur 26 (0, 0)) ∧ cur.size = n) : ∃ cur, (w.setCell ⟨g, o, none⟩ v).heap[g]? = some (.cells cur 26 (0, 0)) ∧ cur.size = n := by
  obtain ⟨cur, e, hc⟩ := h
  refine ⟨cur.setIfInBounds o v, ?_, by simpa using hc⟩
  simp only [World.setCell, Array.getElem?_modify, if_true, e, Option.map_some]
  rfl
theorem C5.off {w : World} {g o i : Nat} {a b c d e v : Value} (h : C5 w g o a b c d e) (hi : i < o ∨ o + 4 < i) : C5 (w.setCell ⟨g, i, none⟩ v) g o a b c d e := by
  obtain ⟨⟨h0, h1, h2, h3, h4⟩, f⟩ := h
  exact ⟨⟨set_off h0 (by omega), set_off h1 (by omega), set_off h2 (by omega), set_off h3 (by omega), set_off h4 (by omega)⟩, fun i => by rw [World.frozen?_setCell]; exact f i⟩
theorem Cp.step {w wr : World} {g n k h : Nat} {xs : List In} (H : Cp w g n k xs wr) (hk : k < n) (ho : Got wr (g + 1) (xs.getD k I0) h) (x : In) (hx : x = xs.getD k I0) :
    Cp w g n (k + 1) xs (((((wr.setCell ⟨g, k * 5, none⟩ (.int .i64 x.op)).setCell ⟨g, k * 5 + 1, none⟩ (.int .i64 x.a)).setCell ⟨g, k * 5 + 2, none⟩ (.int .i64 x.b)).setCell ⟨g, k * 5 + 3, none⟩ (.int .u64 x.v)).setCell ⟨g, k * 5 + 4, none⟩ (.slice (some ⟨h, 0, none⟩) x.l.length x.l.length)) := by
  obtain ⟨hl, hc, hf⟩ := H.cells
  obtain ⟨u0, e0⟩ := hc (k * 5) (by omega)
  obtain ⟨u1, e1⟩ := hc (k * 5 + 1) (by omega)
  obtain ⟨u2, e2⟩ := hc (k * 5 + 2) (by omega)
  obtain ⟨u3, e3⟩ := hc (k * 5 + 3) (by omega)
  obtain ⟨u4, e4⟩ := hc (k * 5 + 4) (by omega)
  have own5 : ∀ {y : In} {q : Nat}, Got wr (g + 1) y q → Got (((((wr.setCell ⟨g, k * 5, none⟩ (.int .i64 x.op)).setCell ⟨g, k * 5 + 1, none⟩ (.int .i64 x.a)).setCell ⟨g, k * 5 + 2, none⟩ (.int .i64 x.b)).setCell ⟨g, k * 5 + 3, none⟩ (.int .u64 x.v)).setCell ⟨g, k * 5 + 4, none⟩ (.slice (some ⟨h, 0, none⟩) x.l.length x.l.length)) (g + 1) y q := by
    intro y q hq
    have hne : q ≠ g := by
      have := (hq.lt q rfl).1; omega
    exact own_set (own_set (own_set (own_set (own_set hq hne) hne) hne) hne) hne
  refine ⟨blk_set (blk_set (blk_set (blk_set (blk_set H.blk)))), fun i hi => ?_, ((((H.bel.setCell H.ge _).setCell H.ge _).setCell H.ge _).setCell H.ge _).setCell H.ge _, H.ge⟩
  by_cases hik : i = k
  · subst hik
    rw [← hx] at ho ⊢
    refine ⟨h, ⟨⟨?_, ?_, ?_, ?_, ?_⟩, fun j => by simp only [World.frozen?_setCell]; exact hf j⟩, own5 ho⟩
    · exact set_off (set_off (set_off (set_off (set_same e0) (by omega)) (by omega)) (by omega)) (by omega)
    · exact set_off (set_off (set_off (set_same (set_off e1 (by omega))) (by omega)) (by omega)) (by omega)
    · exact set_off (set_off (set_same (set_off (set_off e2 (by omega)) (by omega))) (by omega)) (by omega)
    · exact set_off (set_same (set_off (set_off (set_off e3 (by omega)) (by omega)) (by omega))) (by omega)
    · exact set_same (set_off (set_off (set_off (set_off e4 (by omega)) (by omega)) (by omega)) (by omega))
  · obtain ⟨q, c, o⟩ := H.done i (by omega)
    exact ⟨q, ((((c.off (by omega)).off (by omega)).off (by omega)).off (by omega)).off (by omega), own5 o⟩
end Go.Proofs.YtngepdhhdbhglaaGreatDoor
