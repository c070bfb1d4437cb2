import Derived.Test.YtbdcgifdggpnlaaTE2
set_option linter.all false
set_option linter.unusedVariables false
namespace Go.Proofs.Ytbdcgifdggpnlaa
open Go.RowKit Go.Sort
set_option maxRecDepth 100000
theorem has_set {w : World} {B g o : Nat} {v : Value} {xs : List Int} (h : Has w (some ⟨B, 0, none⟩) xs) (hne : g ≠ B) : Has (w.setCell ⟨g, o, none⟩ v) (some ⟨B, 0, none⟩) xs := by
  rcases h with h | ⟨b, o', e, hc⟩
  · exact .inl h
  · simp only [Option.some.injEq, Addr.mk.injEq, and_true] at e
    obtain ⟨rfl, rfl⟩ := e
    refine .inr ⟨B, 0, rfl, fun i hi => ?_⟩
    rw [← hc i hi]
    exact World.cell?_of_block (Below.heap_setCell _ _ _ _ (fun e => by simp at e; omega))
/-- A block of two cells that may be written. -/
structure B2 (w : World) (g : Nat) (p q : Value) : Prop where
  c0 : w.cell? ⟨g, 0, none⟩ = some p
  c1 : w.cell? ⟨g, 1, none⟩ = some q
  fz : ∀ i, w.frozen? ⟨g, i, none⟩ = false
theorem B2.new {w : World} {g : Nat} {p q : Value} {t : TypeId} (hg : g = w.heap.size) : B2 (w.alloc (.cells #[p, q] t)) g p q := by
  subst hg
  exact ⟨cell_new rfl rfl, cell_new rfl rfl, fun i => World.frozen?_alloc_new w _ t i⟩
theorem B2.past {w : World} {g : Nat} {p q : Value} {o : Obj} (h : B2 w g p q) : B2 (w.alloc o) g p q := by
  have hl := World.block_lt_of_cell? w _ h.c0
  exact ⟨by rw [World.cell?_alloc_past _ _ _ hl]; exact h.c0, by rw [World.cell?_alloc_past _ _ _ hl]; exact h.c1, fun i => by rw [World.frozen?_alloc_old _ _ _ (show g ≠ _ from Nat.ne_of_lt hl)]; exact h.fz i⟩
theorem B2.keep {w w1 : World} {g : Nat} {p q : Value} (h : B2 w g p q) (hb : Below w.heap.size w w1) : B2 w1 g p q := by
  have hl := World.block_lt_of_cell? w _ h.c0
  exact ⟨(hb.cell (p := ⟨g, 0, none⟩) hl).trans h.c0, (hb.cell (p := ⟨g, 1, none⟩) hl).trans h.c1, fun i => (hb.frozen (p := ⟨g, i, none⟩) hl).trans (h.fz i)⟩
theorem B2.other {w : World} {g k o : Nat} {p q v : Value} (h : B2 w g p q) (hne : k ≠ g) : B2 (w.setCell ⟨k, o, none⟩ v) g p q := by
  have hh := Below.heap_setCell w ⟨k, o, none⟩ v g (fun e => by simp at e; omega)
  exact ⟨(World.cell?_of_block hh).trans h.c0, (World.cell?_of_block hh).trans h.c1, fun i => (World.frozen?_of_block hh).trans (h.fz i)⟩
set_option maxHeartbeats 2000000 in
theorem toFV_c (v : Value) (xs ys : List Int) (w : World) (hx : xs.length ≤ 1048576) (hy : ys.length ≤ 1048576) (h : FV w v xs ys) :
    Calls Try.prog 11 #[v] w fun e w' => ∃ v', e = .returned v' ∧ FV w' v' xs ys ∧ Below w.heap.size w w' := by
  obtain ⟨pa, pc, ra, rc, rfl, h1, h2⟩ := h
  obtain ⟨W, hW⟩ : ∃ W, W = ((w.alloc (.cells #[.slice pa xs.length pc, .slice ra ys.length rc] 30)).alloc (.cells #[.slice none 0 0, .slice none 0 0] 33)).alloc (.cells #[.slice none 0 0, .slice none 0 0] 33) := ⟨_, rfl⟩
  have hs : W.heap.size = w.heap.size + 3 := by rw [hW]; simp
  have bW : Below w.heap.size w W := by rw [hW]; exact (((Below.refl _ _).alloc (Nat.le_refl _) _).alloc (by simp) _).alloc (by simp; omega) _
  have q0 : B2 W w.heap.size (.slice pa xs.length pc) (.slice ra ys.length rc) := by rw [hW]; exact ((B2.new rfl).past).past
  have q1 : B2 W (w.heap.size + 1) (.slice none 0 0) (.slice none 0 0) := by rw [hW]; exact (B2.new (by simp)).past
  have q2 : B2 W (w.heap.size + 2) (.slice none 0 0) (.slice none 0 0) := by rw [hW]; exact B2.new (by simp)
  have H1 := Hid.mk' (toI_c pa pc xs W hx (h1.keep bW))
  have H2 := Hid.mk' (fun (V : World) (hb : Below w.heap.size w V) => toI_c ra rc ys V hy (h2.keep hb))
  have HW := Hid.mk' hW
  have HS := Hid.mk' hs
  have Q0 := Hid.mk' q0
  have Q1 := Hid.mk' q1
  have Q2 := Hid.mk' q2
  clear h1 h2 hW hs q0 q1 q2
  go_enter Try.func11, Try.ntmps11
  go_wp2_with fail
  rw [← HW.out]
  refine H1.out.mono ?_
  rintro e w1 ⟨rfl, ho, hb⟩
  have b1 : Below w.heap.size w w1 := bW.trans (hb.mono bW.size)
  have l1 : w.heap.size + 3 ≤ w1.heap.size := by have := hb.size; have := HS.out; omega
  have o1 : Hid (Has w1 (some ⟨w.heap.size + 3, 0, none⟩) xs) := by have := own_has ho; rw [HS.out] at this; exact this
  obtain ⟨c00, c01, f0⟩ := Q0.out.keep hb
  obtain ⟨c10, c11, f1⟩ := Q1.out.keep hb
  obtain ⟨c20, c21, f2⟩ := Q2.out.keep hb
  have R1 := Hid.mk' (Q1.out.keep hb)
  rw [HS.out]
  have bS := Hid.mk' (b1.setCell (p := ⟨w.heap.size + 2, 0, none⟩) (by show w.heap.size ≤ w.heap.size + 2; omega) (.slice (some ⟨w.heap.size + 3, 0, none⟩) xs.length xs.length))
  clear ho hb H1 HW Q0 Q1 Q2 bW HS b1
  go_wp2_with fail
  refine (H2.out _ bS.out).mono ?_
  rintro e w2 ⟨rfl, ho, hb⟩
  have b2 : Below w.heap.size w w2 := bS.out.trans (hb.mono bS.out.size)
  have hs2 : (w1.setCell ⟨w.heap.size + 2, 0, none⟩ (.slice (some ⟨w.heap.size + 3, 0, none⟩) xs.length xs.length)).heap.size = w1.heap.size := by simp
  have o2 : Hid (Has w2 (some ⟨w1.heap.size, 0, none⟩) ys) := by have := own_has ho; rw [hs2] at this; exact this
  have o1' : Hid (Has w2 (some ⟨w.heap.size + 3, 0, none⟩) xs) := (has_set o1.out (by omega)).keep hb
  have S1 := (R1.out.other (k := w.heap.size + 2) (o := 0) (v := .slice (some ⟨w.heap.size + 3, 0, none⟩) xs.length xs.length) (by omega)).keep hb
  have S2 : B2 w2 (w.heap.size + 2) (.slice (some ⟨w.heap.size + 3, 0, none⟩) xs.length xs.length) (.slice none 0 0) := by
    refine B2.keep ⟨?_, ?_, ?_⟩ hb
    · exact World.cell?_setCell_same _ _ _ c20
    · rw [World.cell?_setCell_other _ _ _ _ (by simp)]; exact c21
    · intro i; rw [World.frozen?_setCell]; exact f2 i
  rw [hs2]
  obtain ⟨d10, d11, g1⟩ := S1
  obtain ⟨d20, d21, g2⟩ := S2
  have HB2 := Hid.mk' b2
  clear ho hb hs2 o1 bS H2 b2 c00 c01 c10 c11 c20 c21 f0 f1 f2 R1
  go_wp2
  exact bodyPost_ret (v := .agg #[.slice (some ⟨w.heap.size + 3, 0, none⟩) xs.length xs.length, .slice (some ⟨w1.heap.size, 0, none⟩) ys.length ys.length]) (by simp [results, Try.results11, go_sem, d10, d11, d20, d21]) rfl ⟨_, rfl, ⟨_, _, _, _, rfl, by
    exact has_set (has_set (has_set o1'.out (by omega)) (by omega)) (by omega), by
    exact has_set (has_set (has_set o2.out (by omega)) (by omega)) (by omega)⟩, by
    exact ((HB2.out.setCell (by show w.heap.size ≤ w.heap.size + 2; omega) _).setCell (by show w.heap.size ≤ w.heap.size + 1; omega) _).setCell (by show w.heap.size ≤ w.heap.size + 1; omega) _⟩
end Go.Proofs.Ytbdcgifdggpnlaa
