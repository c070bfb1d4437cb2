import Derived.Test.YtngepdhhdbhglaaGreatDoorYg
set_option linter.all false
set_option linter.unusedVariables false
namespace Go.Proofs.YtngepdhhdbhglaaGreatDoor
open Go.RowKit Go.Sort
set_option maxRecDepth 100000
theorem wp_gen {P : Program} {c : Code} {Q : Exit → Act → World → Prop} {a : Act} {w0 : World} (R : World → Prop) (hR : R w0) (h : ∀ W, R W → c.wp P Q a W) : c.wp P Q a w0 := h w0 hR
theorem body_gen {P : Program} {fn : Func} {Rr : Ending → World → Prop} {ex : Exit} {a : Act} {w0 : World} (R : World → Prop) (hR : R w0) (h : ∀ W, R W → bodyPost P fn Rr ex a W) : bodyPost P fn Rr ex a w0 := h w0 hR
theorem c5_grown {w w1 : World} {g g0 o : Nat} {a b c d e : Value} (h : C5 w g o a b c d e) (hg : w.grownBy w1 (some g0)) (hne : g ≠ g0) : C5 w1 g o a b c d e := by
  have hb : w1.heap[g]? = w.heap[g]? := hg.block g (World.block_lt_of_cell? w _ h.1.1) (by simpa using hne)
  obtain ⟨⟨h0, h1, h2, h3, h4⟩, f⟩ := h
  exact ⟨⟨(World.cell?_of_block hb).trans h0, (World.cell?_of_block hb).trans h1, (World.cell?_of_block hb).trans h2, (World.cell?_of_block hb).trans h3, (World.cell?_of_block hb).trans h4⟩, fun i => (World.frozen?_of_block hb).trans (f i)⟩
theorem c5_far {w : World} {g X o i : Nat} {a b c d e v : Value} (h : C5 w g o a b c d e) (hne : g ≠ X) : C5 (w.setCell ⟨X, i, none⟩ v) g o a b c d e := c5_grown h (grown_set' w X i v) hne
theorem c5_set1 {w : World} {g : Nat} {a b c d e v : Value} (h : C5 w g 0 a b c d e) : C5 (w.setCell ⟨g, 1, none⟩ v) g 0 a v c d e := by
  obtain ⟨⟨h0, h1, h2, h3, h4⟩, f⟩ := h
  exact ⟨⟨set_off h0 (by decide), set_same h1, set_off h2 (by decide), set_off h3 (by decide), set_off h4 (by decide)⟩, fun i => by rw [World.frozen?_setCell]; exact f i⟩
theorem c5_set2 {w : World} {g : Nat} {a b c d e v : Value} (h : C5 w g 0 a b c d e) : C5 (w.setCell ⟨g, 2, none⟩ v) g 0 a b v d e := by
  obtain ⟨⟨h0, h1, h2, h3, h4⟩, f⟩ := h
  exact ⟨⟨set_off h0 (by decide), set_off h1 (by decide), set_same h2, set_off h3 (by decide), set_off h4 (by decide)⟩, fun i => by rw [World.frozen?_setCell]; exact f i⟩
theorem c5_set3 {w : World} {g : Nat} {a b c d e v : Value} (h : C5 w g 0 a b c d e) : C5 (w.setCell ⟨g, 3, none⟩ v) g 0 a b c v e := by
  obtain ⟨⟨h0, h1, h2, h3, h4⟩, f⟩ := h
  exact ⟨⟨set_off h0 (by decide), set_off h1 (by decide), set_off h2 (by decide), set_same h3, set_off h4 (by decide)⟩, fun i => by rw [World.frozen?_setCell]; exact f i⟩
theorem c5_set4 {w : World} {g : Nat} {a b c d e v : Value} (h : C5 w g 0 a b c d e) : C5 (w.setCell ⟨g, 4, none⟩ v) g 0 a b c d v := by
  obtain ⟨⟨h0, h1, h2, h3, h4⟩, f⟩ := h
  exact ⟨⟨set_off h0 (by decide), set_off h1 (by decide), set_off h2 (by decide), set_off h3 (by decide), set_same h4⟩, fun i => by rw [World.frozen?_setCell]; exact f i⟩
theorem two_box (w : World) (op : Int) : C5 ((w.alloc (.cells #[.int .i64 0, .int .i64 0, .int .i64 0, .int .u64 0, .slice none 0 0] 26)).alloc (.cells #[.int .i64 op, .int .i64 0, .int .i64 0, .int .u64 0, .slice none 0 0] 26)) w.heap.size 0 (.int .i64 0) (.int .i64 0) (.int .i64 0) (.int .u64 0) (.slice none 0 0) ∧ C5 ((w.alloc (.cells #[.int .i64 0, .int .i64 0, .int .i64 0, .int .u64 0, .slice none 0 0] 26)).alloc (.cells #[.int .i64 op, .int .i64 0, .int .i64 0, .int .u64 0, .slice none 0 0] 26)) (w.heap.size + 1) 0 (.int .i64 op) (.int .i64 0) (.int .i64 0) (.int .u64 0) (.slice none 0 0) ∧ Below w.heap.size w ((w.alloc (.cells #[.int .i64 0, .int .i64 0, .int .i64 0, .int .u64 0, .slice none 0 0] 26)).alloc (.cells #[.int .i64 op, .int .i64 0, .int .i64 0, .int .u64 0, .slice none 0 0] 26)) := by
  refine ⟨C5.new.past, ?_, ((Below.refl _ _).alloc (Nat.le_refl _) _).alloc (by simp) _⟩
  have := C5.new (w := w.alloc (.cells #[.int .i64 0, .int .i64 0, .int .i64 0, .int .u64 0, .slice none 0 0] 26)) (a := .int .i64 op) (b := .int .i64 0) (c := .int .i64 0) (d := .int .u64 0) (e := .slice none 0 0) (t := 26)
  simpa using this
/-- A number of a range, as it must be written. -/
def Nm (lo hi : Int) (s : Wd) (v : Int) : Prop := okN lo hi s = true ∧ okP s = some v
def Nms : List Wd → List Int → Prop
  | [], [] => True
  | s :: r, v :: vs => Nm 0 4294967295 s v ∧ Nms r vs
  | _, _ => False
/-- What the words behind an instruction's name stand for. -/
def Arg (f : Int) (r : List Wd) (x : In) : Prop :=
  if f = 1 then (r = [] ∧ x = ⟨x.op, 64, 0, 0, []⟩) ∨ (∃ t, r = [t] ∧ tyN t ≠ 0 ∧ x = ⟨x.op, tyN t, 0, 0, []⟩)
  else if f = 2 ∨ f = 4 then ∃ s v, r = [s] ∧ Nm 0 4294967295 s v ∧ x = ⟨x.op, v, 0, 0, []⟩
  else if f = 3 then ∃ ss s vs v, r = ss ++ [s] ∧ Nms ss vs ∧ Nm 0 4294967295 s v ∧ x = ⟨x.op, v, 0, 0, vs⟩
  else if f = 5 then ∃ s t v u, r = [s, t] ∧ Nm 0 4294967295 s v ∧ Nm 0 4294967295 t u ∧ x = ⟨x.op, v, u, 0, []⟩
  else if f = 7 then ∃ s v, r = [s] ∧ Nm (-2147483648) 2147483647 s v ∧ x = ⟨x.op, 0, 0, v % 4294967296, []⟩
  else if f = 8 then ∃ s v, r = [s] ∧ Nm (-9223372036854775808) 9223372036854775807 s v ∧ x = ⟨x.op, 0, 0, v % 18446744073709551616, []⟩
  else if f = 9 then ∃ s, ∃ u : Nat, r = [s] ∧ okB 8 4294967295 s = true ∧ u ≤ 4294967295 ∧ bitsT 8 u = s ∧ x = ⟨x.op, 0, 0, u, []⟩
  else if f = 10 then ∃ s, ∃ u : Nat, r = [s] ∧ okB 16 18446744073709551615 s = true ∧ u ≤ 18446744073709551615 ∧ bitsT 16 u = s ∧ x = ⟨x.op, 0, 0, u, []⟩
  else r = [] ∧ x = ⟨x.op, 0, 0, 0, []⟩
theorem Tw.far {w : World} {q X o : Nat} {v : Value} {ws : List Wd} {bad : Bool} (h : Tw w q ws bad) (hX : q < X) : Tw (w.setCell ⟨X, o, none⟩ v) q ws bad := by
  have K : ∀ b p u, b < X → w.cell? ⟨b, p, none⟩ = some u → (w.setCell ⟨X, o, none⟩ v).cell? ⟨b, p, none⟩ = some u := fun b p u hb hu => by
    rw [World.cell?_setCell_other _ _ _ _ (fun e => by have e2 : X = b := congrArg Addr.block e; omega)]; exact hu
  obtain ⟨a, c, h0, h1⟩ := h.c0
  refine ⟨⟨a, c, K _ _ _ hX h0, ?_⟩, K _ _ _ hX h.c1, fun i => by rw [World.frozen?_setCell]; exact h.fz i, h.le⟩
  rcases h1 with h1 | ⟨b, p, e, hne, hc, hw⟩
  · exact .inl h1
  · exact .inr ⟨b, p, e, hne, hc, fun i hi => K _ _ _ (by omega) (hw i hi)⟩
theorem gr_far {w V : World} {q X : Nat} (g : w.grownBy V (some q)) (hX : w.heap.size ≤ X) (o : Nat) (u : Value) : w.grownBy (V.setCell ⟨X, o, none⟩ u) (some q) :=
  ⟨g.os, g.tape, g.output, by simpa [World.setCell] using g.size, fun k hk hne => (Below.heap_setCell _ _ _ _ (by show k ≠ X; omega)).trans (g.block k hk hne)⟩
/-- The two boxes of an instruction while its words are read. -/
structure Bx (w : World) (q : Nat) (ws : List Wd) (bd : Bool) (a b c d e : Value) (V : World) : Prop where
  x : C5 V (w.heap.size + 1) 0 a b c d e
  z : C5 V w.heap.size 0 (.int .i64 0) (.int .i64 0) (.int .i64 0) (.int .u64 0) (.slice none 0 0)
  t : Tw V q ws bd
  g : w.grownBy V (some q)
  v : Vs q V
  qq : q < w.heap.size
theorem Bx.call {w : World} {q : Nat} {ws ws' : List Wd} {bd bd' : Bool} {a b c d e : Value} {V V' : World} (h : Bx w q ws bd a b c d e V) (hg : V.grownBy V' (some q)) (ht : Tw V' q ws' bd') : Bx w q ws' bd' a b c d e V' :=
  have := h.qq
  ⟨c5_grown h.x hg (by omega), c5_grown h.z hg (by omega), ht, grown_trans h.g hg, h.v.keep (grown_below hg h.t.lt), h.qq⟩
theorem Bx.below {w : World} {q : Nat} {ws : List Wd} {bd : Bool} {a b c d e : Value} {V V' : World} (h : Bx w q ws bd a b c d e V) (hb : Below V.heap.size V V') : Bx w q ws bd a b c d e V' := h.call (below_gr hb) (h.t.keep hb)
theorem Bx.far {w : World} {q : Nat} {ws : List Wd} {bd : Bool} {a b c d e : Value} {V : World} (h : Bx w q ws bd a b c d e V) (o : Nat) (u : Value) : C5 (V.setCell ⟨w.heap.size + 1, o, none⟩ u) w.heap.size 0 (.int .i64 0) (.int .i64 0) (.int .i64 0) (.int .u64 0) (.slice none 0 0) ∧ Tw (V.setCell ⟨w.heap.size + 1, o, none⟩ u) q ws bd ∧ w.grownBy (V.setCell ⟨w.heap.size + 1, o, none⟩ u) (some q) ∧ Vs q (V.setCell ⟨w.heap.size + 1, o, none⟩ u) := by
  have hq := h.qq
  have hs := h.g.size
  refine ⟨c5_far h.z (by omega), h.t.far (by omega), ⟨h.g.os, h.g.tape, h.g.output, by simpa [World.setCell] using hs, fun k hk hne => (Below.heap_setCell _ _ _ _ (by show k ≠ w.heap.size + 1; omega)).trans (h.g.block k hk hne)⟩, h.v.keep ((Below.refl _ _).setCell (by show q ≤ w.heap.size + 1; omega) _)⟩
theorem Bx.set1 {w : World} {q : Nat} {ws : List Wd} {bd : Bool} {a b c d e u : Value} {V : World} (h : Bx w q ws bd a b c d e V) : Bx w q ws bd a u c d e (V.setCell ⟨w.heap.size + 1, 1, none⟩ u) :=
  ⟨c5_set1 h.x, (h.far 1 u).1, (h.far 1 u).2.1, (h.far 1 u).2.2.1, (h.far 1 u).2.2.2, h.qq⟩
theorem Bx.set2 {w : World} {q : Nat} {ws : List Wd} {bd : Bool} {a b c d e u : Value} {V : World} (h : Bx w q ws bd a b c d e V) : Bx w q ws bd a b u d e (V.setCell ⟨w.heap.size + 1, 2, none⟩ u) :=
  ⟨c5_set2 h.x, (h.far 2 u).1, (h.far 2 u).2.1, (h.far 2 u).2.2.1, (h.far 2 u).2.2.2, h.qq⟩
theorem Bx.set3 {w : World} {q : Nat} {ws : List Wd} {bd : Bool} {a b c d e u : Value} {V : World} (h : Bx w q ws bd a b c d e V) : Bx w q ws bd a b c u e (V.setCell ⟨w.heap.size + 1, 3, none⟩ u) :=
  ⟨c5_set3 h.x, (h.far 3 u).1, (h.far 3 u).2.1, (h.far 3 u).2.2.1, (h.far 3 u).2.2.2, h.qq⟩
theorem Bx.set4 {w : World} {q : Nat} {ws : List Wd} {bd : Bool} {a b c d e u : Value} {V : World} (h : Bx w q ws bd a b c d e V) : Bx w q ws bd a b c d u (V.setCell ⟨w.heap.size + 1, 4, none⟩ u) :=
  ⟨c5_set4 h.x, (h.far 4 u).1, (h.far 4 u).2.1, (h.far 4 u).2.2.1, (h.far 4 u).2.2.2, h.qq⟩
def InsP (f op : Int) (ws : List Wd) (w : World) (q : Nat) (e : Ending) (w' : World) : Prop := ∃ (x : In) (la : Option Addr) (lc : Nat) (ws' : List Wd) (bd : Bool), e = .returned (inV x la lc) ∧ x.op = op ∧ w'.ownsRow w.heap.size 2 1 (.slice la x.l.length lc) x.l.length (I x.l) ∧ Tw w' q ws' bd ∧ w.grownBy w' (some q) ∧ (bd = false → ws' = [] → Arg f ws x) ∧ ((∃ y, Arg f ws y) → bd = false ∧ ws' = [])
theorem own_nil (w : World) (B : Nat) : w.ownsRow B 2 1 (.slice none ([] : List Int).length 0) ([] : List Int).length (I []) := ⟨rfl, .inl ⟨rfl, rfl⟩⟩
/-- Behind the last copy into the result's box. -/
theorem Bx.fin {w : World} {q : Nat} {ws : List Wd} {bd : Bool} {a b c d e : Value} {V : World} (h : Bx w q ws bd a b c d e V) (u0 u1 u2 u3 u4 : Value) : C5 (((((V.setCell ⟨w.heap.size, 0, none⟩ u0).setCell ⟨w.heap.size, 1, none⟩ u1).setCell ⟨w.heap.size, 2, none⟩ u2).setCell ⟨w.heap.size, 3, none⟩ u3).setCell ⟨w.heap.size, 4, none⟩ u4) w.heap.size 0 u0 u1 u2 u3 u4 ∧ Tw (((((V.setCell ⟨w.heap.size, 0, none⟩ u0).setCell ⟨w.heap.size, 1, none⟩ u1).setCell ⟨w.heap.size, 2, none⟩ u2).setCell ⟨w.heap.size, 3, none⟩ u3).setCell ⟨w.heap.size, 4, none⟩ u4) q ws bd ∧ w.grownBy (((((V.setCell ⟨w.heap.size, 0, none⟩ u0).setCell ⟨w.heap.size, 1, none⟩ u1).setCell ⟨w.heap.size, 2, none⟩ u2).setCell ⟨w.heap.size, 3, none⟩ u3).setCell ⟨w.heap.size, 4, none⟩ u4) (some q) := by
  have hq := h.qq
  have hs := h.g.size
  obtain ⟨⟨z0, z1, z2, z3, z4⟩, zf⟩ := h.z
  simp only [Nat.zero_add] at z0 z1 z2 z3 z4
  have T0 := h.t.far (o := 0) (v := u0) hq
  have T1 := T0.far (o := 1) (v := u1) hq
  have T2 := T1.far (o := 2) (v := u2) hq
  have T3 := T2.far (o := 3) (v := u3) hq
  have T4 := T3.far (o := 4) (v := u4) hq
  have g0 := gr_far h.g (Nat.le_refl _) 0 u0
  have g1 := gr_far g0 (Nat.le_refl _) 1 u1
  have g2 := gr_far g1 (Nat.le_refl _) 2 u2
  have g3 := gr_far g2 (Nat.le_refl _) 3 u3
  have g4 := gr_far g3 (Nat.le_refl _) 4 u4
  refine ⟨⟨⟨?_, ?_, ?_, ?_, ?_⟩, fun i => by simp only [World.frozen?_setCell]; exact zf i⟩, T4, g4⟩
  · exact set_off (set_off (set_off (set_off (set_same z0) (by decide)) (by decide)) (by decide)) (by decide)
  · exact set_off (set_off (set_off (set_same (set_off z1 (by decide))) (by decide)) (by decide)) (by decide)
  · exact set_off (set_off (set_same (set_off (set_off z2 (by decide)) (by decide))) (by decide)) (by decide)
  · exact set_off (set_same (set_off (set_off (set_off z3 (by decide)) (by decide)) (by decide))) (by decide)
  · exact set_same (set_off (set_off (set_off (set_off z4 (by decide)) (by decide)) (by decide)) (by decide))
set_option maxHeartbeats 8000000 in
theorem ins_0 (q : Nat) (ws : List Wd) (op : Int) (w : World) (hf : formR (rowOf op) = 0) (h : Tw w q ws false) (hl : ∀ x ∈ ws, x.length ≤ 1099511627776) (hV : Vs q w) :
    Calls Tryz.prog 17 #[.pointer (some ⟨q, 0, none⟩), .int .i64 op] w (InsP 0 op ws w q) := by
  have HF := Hid.mk' (iform_c op)
  rw [hf] at HF
  obtain ⟨W, hW⟩ : ∃ W, W = (w.alloc (.cells #[.int .i64 0, .int .i64 0, .int .i64 0, .int .u64 0, .slice none 0 0] 26)).alloc (.cells #[.int .i64 op, .int .i64 0, .int .i64 0, .int .u64 0, .slice none 0 0] 26) := ⟨_, rfl⟩
  obtain ⟨hz, hx, hb⟩ := two_box w op
  rw [← hW] at hz hx hb
  have HW := Hid.mk' hW
  have BX := Hid.mk' (show Bx w q ws false (.int .i64 op) (.int .i64 0) (.int .i64 0) (.int .u64 0) (.slice none 0 0) W from ⟨hx, hz, h.keep hb, below_gr hb, hV.keep (hb.mono (Nat.le_of_lt h.lt)), h.lt⟩)
  have hq := h.lt
  clear hf hW hz hx hb h hV
  go_enter Tryz.func17, Tryz.ntmps17
  go_wp2_with fail
  rw [show (w.alloc (.cells #[.int .i64 0, .int .i64 0, .int .i64 0, .int .u64 0, .slice none 0 0] 26)).alloc (.cells #[.int .i64 op, .int .i64 0, .int .i64 0, .int .u64 0, .slice none 0 0] 26) = W from HW.out.symm]
  refine (HF.out _).mono ?_
  rintro e w2 ⟨rfl, hb2⟩
  have B2 := Hid.mk' (BX.out.below hb2)
  clear hb2 BX HW HF
  clear hl
  go_upto_region 25 with fail
  obtain ⟨⟨x0, x1, x2, x3, x4⟩, xf⟩ := B2.out.x
  obtain ⟨⟨z0, z1, z2, z3, z4⟩, zf⟩ := B2.out.z
  simp only [Nat.zero_add] at x0 x1 x2 x3 x4 z0 z1 z2 z3 z4
  have xf1 := xf 1
  have xf2 := xf 2
  have xf3 := xf 3
  have xf4 := xf 4
  have zf0 := zf 0
  have zf1 := zf 1
  have zf2 := zf 2
  have zf3 := zf 3
  have zf4 := zf 4
  clear xf zf
  go_wp2
  refine body_gen (fun U => C5 U w.heap.size 0 (.int .i64 op) (.int .i64 0) (.int .i64 0) (.int .u64 0) (.slice none 0 0) ∧ Tw U q ws false ∧ w.grownBy U (some q)) (B2.out.fin _ _ _ _ _) ?_
  rintro U ⟨⟨⟨t0, t1, t2, t3, t4⟩, -⟩, tU, gU⟩
  simp only [Nat.zero_add] at t0 t1 t2 t3 t4
  have HU := Hid.mk' (And.intro tU gU)
  clear tU gU x0 x1 x2 x3 x4 z0 z1 z2 z3 z4 xf1 xf2 xf3 xf4 zf0 zf1 zf2 zf3 zf4
  exact bodyPost_ret (v := inV ⟨op, 0, 0, 0, []⟩ none 0) (by simp [results, Tryz.results17, go_sem, t0, t1, t2, t3, t4]) rfl ⟨⟨op, 0, 0, 0, []⟩, none, 0, _, _, rfl, rfl, own_nil _ _, HU.out.1, HU.out.2, fun _ h => by simp [Arg]; exact h, fun ⟨y, hy⟩ => ⟨rfl, by simp [Arg] at hy; exact hy.1⟩⟩
set_option maxHeartbeats 8000000 in
theorem ins_6 (q : Nat) (ws : List Wd) (op : Int) (w : World) (hf : formR (rowOf op) = 6) (h : Tw w q ws false) (hl : ∀ x ∈ ws, x.length ≤ 1099511627776) (hV : Vs q w) :
    Calls Tryz.prog 17 #[.pointer (some ⟨q, 0, none⟩), .int .i64 op] w (InsP 6 op ws w q) := by
  have HF := Hid.mk' (iform_c op)
  rw [hf] at HF
  obtain ⟨W, hW⟩ : ∃ W, W = (w.alloc (.cells #[.int .i64 0, .int .i64 0, .int .i64 0, .int .u64 0, .slice none 0 0] 26)).alloc (.cells #[.int .i64 op, .int .i64 0, .int .i64 0, .int .u64 0, .slice none 0 0] 26) := ⟨_, rfl⟩
  obtain ⟨hz, hx, hb⟩ := two_box w op
  rw [← hW] at hz hx hb
  have HW := Hid.mk' hW
  have BX := Hid.mk' (show Bx w q ws false (.int .i64 op) (.int .i64 0) (.int .i64 0) (.int .u64 0) (.slice none 0 0) W from ⟨hx, hz, h.keep hb, below_gr hb, hV.keep (hb.mono (Nat.le_of_lt h.lt)), h.lt⟩)
  have hq := h.lt
  clear hf hW hz hx hb h hV
  go_enter Tryz.func17, Tryz.ntmps17
  go_wp2_with fail
  rw [show (w.alloc (.cells #[.int .i64 0, .int .i64 0, .int .i64 0, .int .u64 0, .slice none 0 0] 26)).alloc (.cells #[.int .i64 op, .int .i64 0, .int .i64 0, .int .u64 0, .slice none 0 0] 26) = W from HW.out.symm]
  refine (HF.out _).mono ?_
  rintro e w2 ⟨rfl, hb2⟩
  have B2 := Hid.mk' (BX.out.below hb2)
  clear hb2 BX HW HF
  clear hl
  go_upto_region 25 with fail
  obtain ⟨⟨x0, x1, x2, x3, x4⟩, xf⟩ := B2.out.x
  obtain ⟨⟨z0, z1, z2, z3, z4⟩, zf⟩ := B2.out.z
  simp only [Nat.zero_add] at x0 x1 x2 x3 x4 z0 z1 z2 z3 z4
  have xf1 := xf 1
  have xf2 := xf 2
  have xf3 := xf 3
  have xf4 := xf 4
  have zf0 := zf 0
  have zf1 := zf 1
  have zf2 := zf 2
  have zf3 := zf 3
  have zf4 := zf 4
  clear xf zf
  go_wp2
  refine body_gen (fun U => C5 U w.heap.size 0 (.int .i64 op) (.int .i64 0) (.int .i64 0) (.int .u64 0) (.slice none 0 0) ∧ Tw U q ws false ∧ w.grownBy U (some q)) (B2.out.fin _ _ _ _ _) ?_
  rintro U ⟨⟨⟨t0, t1, t2, t3, t4⟩, -⟩, tU, gU⟩
  simp only [Nat.zero_add] at t0 t1 t2 t3 t4
  have HU := Hid.mk' (And.intro tU gU)
  clear tU gU x0 x1 x2 x3 x4 z0 z1 z2 z3 z4 xf1 xf2 xf3 xf4 zf0 zf1 zf2 zf3 zf4
  exact bodyPost_ret (v := inV ⟨op, 0, 0, 0, []⟩ none 0) (by simp [results, Tryz.results17, go_sem, t0, t1, t2, t3, t4]) rfl ⟨⟨op, 0, 0, 0, []⟩, none, 0, _, _, rfl, rfl, own_nil _ _, HU.out.1, HU.out.2, fun _ h => by simp [Arg]; exact h, fun ⟨y, hy⟩ => ⟨rfl, by simp [Arg] at hy; exact hy.1⟩⟩
set_option maxHeartbeats 8000000 in
theorem ins_m1 (q : Nat) (ws : List Wd) (op : Int) (w : World) (hf : formR (rowOf op) = -1) (h : Tw w q ws false) (hl : ∀ x ∈ ws, x.length ≤ 1099511627776) (hV : Vs q w) :
    Calls Tryz.prog 17 #[.pointer (some ⟨q, 0, none⟩), .int .i64 op] w (InsP (-1) op ws w q) := by
  have HF := Hid.mk' (iform_c op)
  rw [hf] at HF
  obtain ⟨W, hW⟩ : ∃ W, W = (w.alloc (.cells #[.int .i64 0, .int .i64 0, .int .i64 0, .int .u64 0, .slice none 0 0] 26)).alloc (.cells #[.int .i64 op, .int .i64 0, .int .i64 0, .int .u64 0, .slice none 0 0] 26) := ⟨_, rfl⟩
  obtain ⟨hz, hx, hb⟩ := two_box w op
  rw [← hW] at hz hx hb
  have HW := Hid.mk' hW
  have BX := Hid.mk' (show Bx w q ws false (.int .i64 op) (.int .i64 0) (.int .i64 0) (.int .u64 0) (.slice none 0 0) W from ⟨hx, hz, h.keep hb, below_gr hb, hV.keep (hb.mono (Nat.le_of_lt h.lt)), h.lt⟩)
  have hq := h.lt
  clear hf hW hz hx hb h hV
  go_enter Tryz.func17, Tryz.ntmps17
  go_wp2_with fail
  rw [show (w.alloc (.cells #[.int .i64 0, .int .i64 0, .int .i64 0, .int .u64 0, .slice none 0 0] 26)).alloc (.cells #[.int .i64 op, .int .i64 0, .int .i64 0, .int .u64 0, .slice none 0 0] 26) = W from HW.out.symm]
  refine (HF.out _).mono ?_
  rintro e w2 ⟨rfl, hb2⟩
  have B2 := Hid.mk' (BX.out.below hb2)
  clear hb2 BX HW HF
  clear hl
  go_upto_region 25 with fail
  obtain ⟨⟨x0, x1, x2, x3, x4⟩, xf⟩ := B2.out.x
  obtain ⟨⟨z0, z1, z2, z3, z4⟩, zf⟩ := B2.out.z
  simp only [Nat.zero_add] at x0 x1 x2 x3 x4 z0 z1 z2 z3 z4
  have xf1 := xf 1
  have xf2 := xf 2
  have xf3 := xf 3
  have xf4 := xf 4
  have zf0 := zf 0
  have zf1 := zf 1
  have zf2 := zf 2
  have zf3 := zf 3
  have zf4 := zf 4
  clear xf zf
  go_wp2
  refine body_gen (fun U => C5 U w.heap.size 0 (.int .i64 op) (.int .i64 0) (.int .i64 0) (.int .u64 0) (.slice none 0 0) ∧ Tw U q ws false ∧ w.grownBy U (some q)) (B2.out.fin _ _ _ _ _) ?_
  rintro U ⟨⟨⟨t0, t1, t2, t3, t4⟩, -⟩, tU, gU⟩
  simp only [Nat.zero_add] at t0 t1 t2 t3 t4
  have HU := Hid.mk' (And.intro tU gU)
  clear tU gU x0 x1 x2 x3 x4 z0 z1 z2 z3 z4 xf1 xf2 xf3 xf4 zf0 zf1 zf2 zf3 zf4
  exact bodyPost_ret (v := inV ⟨op, 0, 0, 0, []⟩ none 0) (by simp [results, Tryz.results17, go_sem, t0, t1, t2, t3, t4]) rfl ⟨⟨op, 0, 0, 0, []⟩, none, 0, _, _, rfl, rfl, own_nil _ _, HU.out.1, HU.out.2, fun _ h => by simp [Arg]; exact h, fun ⟨y, hy⟩ => ⟨rfl, by simp [Arg] at hy; exact hy.1⟩⟩
end Go.Proofs.YtngepdhhdbhglaaGreatDoor
