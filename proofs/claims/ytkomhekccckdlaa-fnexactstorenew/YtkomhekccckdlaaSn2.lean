import Derived.Test.YtkomhekccckdlaaSn1
set_option linter.all false
set_option linter.unusedVariables false
namespace Go.Proofs.Ytkomhekccckdlaa
open Go.RowKit Go.Sort
set_option maxRecDepth 100000
theorem set_same {w : World} {p : Addr} {u v : Value} (h : w.cell? p = some u) : (w.setCell p v).cell? p = some v := World.cell?_setCell_same _ _ _ h
theorem set_off {w : World} {g i j : Nat} {u v : Value} (h : w.cell? ⟨g, j, none⟩ = some u) (hn : i ≠ j) : (w.setCell ⟨g, i, none⟩ v).cell? ⟨g, j, none⟩ = some u := by
  rw [World.cell?_setCell_other _ _ _ _ (fun hj => hn (congrArg Addr.off hj))]; exact h
/-- The cells of a block. -/
def Bk (W : World) (g : Nat) (cs : List Value) : Prop := g < W.heap.size ∧ (∀ j v, cs[j]? = some v → W.cell? ⟨g, j, none⟩ = some v) ∧ ∀ j, W.frozen? ⟨g, j, none⟩ = false
theorem Bk.keep {W W' : World} {g : Nat} {cs : List Value} (h : Bk W g cs) (hb : Below W.heap.size W W') : Bk W' g cs :=
  ⟨Nat.lt_of_lt_of_le h.1 hb.size, fun j v hj => (hb.cell (p := ⟨g, j, none⟩) h.1).trans (h.2.1 j v hj), fun j => (hb.frozen (p := ⟨g, j, none⟩) h.1).trans (h.2.2 j)⟩
theorem Bk.new {w : World} {cs : List Value} {t : TypeId} : Bk (w.alloc (.cells cs.toArray t)) w.heap.size cs :=
  ⟨by simp, fun j v hj => cell_new rfl (by simpa using hj), fun j => World.frozen?_alloc_new _ _ _ _⟩
theorem Bk.past {w : World} {g : Nat} {cs : List Value} {o : Obj} (h : Bk w g cs) : Bk (w.alloc o) g cs := h.keep ((Below.refl _ _).alloc (Nat.le_refl _) _)
theorem Bk.other {W : World} {g g' o : Nat} {v : Value} {cs : List Value} (h : Bk W g cs) (hne : g' ≠ g) : Bk (W.setCell ⟨g', o, none⟩ v) g cs :=
  ⟨by simpa using h.1, fun j u hj => by rw [World.cell?_setCell_other _ _ _ _ (fun e => hne (congrArg Addr.block e))]; exact h.2.1 j u hj, fun j => by rw [World.frozen?_setCell]; exact h.2.2 j⟩
theorem Bk.set {W : World} {g j : Nat} {v : Value} {cs : List Value} (h : Bk W g cs) : Bk (W.setCell ⟨g, j, none⟩ v) g (cs.set j v) := by
  refine ⟨by simpa using h.1, fun i u hi => ?_, fun i => by rw [World.frozen?_setCell]; exact h.2.2 i⟩
  by_cases e : j = i
  · subst e
    have hj : j < cs.length := by
      rcases Nat.lt_or_ge j cs.length with h' | h'
      · exact h'
      · rw [List.getElem?_eq_none (by simpa using h')] at hi; cases hi
    rw [List.getElem?_set_self hj] at hi
    cases hi
    exact set_same (h.2.1 j _ (List.getElem?_eq_getElem hj))
  · rw [List.getElem?_set_ne e] at hi
    exact set_off (h.2.1 i u hi) e
theorem two (w : World) (b z : List Value) (t t' : TypeId) : Bk ((w.alloc (.cells b.toArray t)).alloc (.cells z.toArray t')) w.heap.size b ∧ Bk ((w.alloc (.cells b.toArray t)).alloc (.cells z.toArray t')) (w.heap.size + 1) z ∧ Below w.heap.size w ((w.alloc (.cells b.toArray t)).alloc (.cells z.toArray t')) := by
  refine ⟨Bk.new.past, ?_, ((Below.refl _ _).alloc (Nat.le_refl _) _).alloc (by simp) _⟩
  have := (Bk.new (w := w.alloc (.cells b.toArray t)) (cs := z) (t := t'))
  simpa using this
theorem wp_gen {P : Program} {c : Code} {Q : Exit → Act → World → Prop} {a : Act} {w0 : World} (R : World → Prop) (hR : R w0) (h : ∀ W, R W → c.wp P Q a W) : c.wp P Q a w0 := h w0 hR
set_option maxHeartbeats 4000000 in
theorem eqFT_c (a1 a2 a1' a2' : Option Addr) (n1 n2 c1 c2 c1' c2' : Nat) (w : World)
    (h1 : ∀ W, Below w.heap.size w W → Calls Try.prog 48 #[.slice a1 n1 c1, .slice a1' n1 c1'] W fun e w' => e = .returned (.bool true) ∧ Below W.heap.size W w')
    (h2 : ∀ W, Below w.heap.size w W → Calls Try.prog 48 #[.slice a2 n2 c2, .slice a2' n2 c2'] W fun e w' => e = .returned (.bool true) ∧ Below W.heap.size W w') :
    Calls Try.prog 47 #[.agg #[.slice a1 n1 c1, .slice a2 n2 c2], .agg #[.slice a1' n1 c1', .slice a2' n2 c2']] w fun e w' => e = .returned (.bool true) ∧ Below w.heap.size w w' := by
  have T0 : Hid (Bk ((w.alloc (.cells #[.slice a1 n1 c1, .slice a2 n2 c2] 37)).alloc (.cells #[.slice a1' n1 c1', .slice a2' n2 c2'] 37)) w.heap.size [.slice a1 n1 c1, .slice a2 n2 c2] ∧ Bk ((w.alloc (.cells #[.slice a1 n1 c1, .slice a2 n2 c2] 37)).alloc (.cells #[.slice a1' n1 c1', .slice a2' n2 c2'] 37)) (w.heap.size + 1) [.slice a1' n1 c1', .slice a2' n2 c2'] ∧ Below w.heap.size w ((w.alloc (.cells #[.slice a1 n1 c1, .slice a2 n2 c2] 37)).alloc (.cells #[.slice a1' n1 c1', .slice a2' n2 c2'] 37))) := two w [.slice a1 n1 c1, .slice a2 n2 c2] [.slice a1' n1 c1', .slice a2' n2 c2'] 37 37
  have Kh1 := Hid.mk' h1
  clear h1
  have Kh2 := Hid.mk' h2
  clear h2
  go_enter Try.func47, Try.ntmps47
  go_upto_region 1 with fail
  refine wp_gen (fun W => Bk W w.heap.size [.slice a1 n1 c1, .slice a2 n2 c2] ∧ Bk W (w.heap.size + 1) [.slice a1' n1 c1', .slice a2' n2 c2'] ∧ Below w.heap.size w W) T0.out ?_
  rintro W ⟨bb, bp, hb⟩
  clear T0
  have q0 : W.cell? ⟨w.heap.size, 0, none⟩ = some (.slice a1 n1 c1) := bb.2.1 0 _ rfl
  have p0 : W.cell? ⟨w.heap.size + 1, 0, none⟩ = some (.slice a1' n1 c1') := bp.2.1 0 _ rfl
  have q1 : W.cell? ⟨w.heap.size, 1, none⟩ = some (.slice a2 n2 c2) := bb.2.1 1 _ rfl
  have p1 : W.cell? ⟨w.heap.size + 1, 1, none⟩ = some (.slice a2' n2 c2') := bp.2.1 1 _ rfl
  have HC := Hid.mk' (Kh1.out W hb)
  go_wp2_with fail
  refine HC.out.mono ?_
  rintro e W1 ⟨rfl, hb1⟩
  have bb := bb.keep hb1
  have bp := bp.keep hb1
  have hb := hb.trans (hb1.mono hb.size)
  clear HC hb1
  have q0 : W1.cell? ⟨w.heap.size, 0, none⟩ = some (.slice a1 n1 c1) := bb.2.1 0 _ rfl
  have p0 : W1.cell? ⟨w.heap.size + 1, 0, none⟩ = some (.slice a1' n1 c1') := bp.2.1 0 _ rfl
  have q1 : W1.cell? ⟨w.heap.size, 1, none⟩ = some (.slice a2 n2 c2) := bb.2.1 1 _ rfl
  have p1 : W1.cell? ⟨w.heap.size + 1, 1, none⟩ = some (.slice a2' n2 c2') := bp.2.1 1 _ rfl
  have HC := Hid.mk' (Kh2.out W1 hb)
  go_wp2_with fail
  refine HC.out.mono ?_
  rintro e W2 ⟨rfl, hb1⟩
  have bb := bb.keep hb1
  have bp := bp.keep hb1
  have hb := hb.trans (hb1.mono hb.size)
  clear HC hb1
  have q0 : W2.cell? ⟨w.heap.size, 0, none⟩ = some (.slice a1 n1 c1) := bb.2.1 0 _ rfl
  have p0 : W2.cell? ⟨w.heap.size + 1, 0, none⟩ = some (.slice a1' n1 c1') := bp.2.1 0 _ rfl
  have q1 : W2.cell? ⟨w.heap.size, 1, none⟩ = some (.slice a2 n2 c2) := bb.2.1 1 _ rfl
  have p1 : W2.cell? ⟨w.heap.size + 1, 1, none⟩ = some (.slice a2' n2 c2') := bp.2.1 1 _ rfl
  have HB := Hid.mk' hb
  clear hb bb bp
  go_wp2
  go_ret
  exact ⟨rfl, HB.out⟩
set_option maxHeartbeats 4000000 in
theorem eqFI_c (h i : Int) (a1 a2 a1' a2' : Option Addr) (n1 n2 c1 c2 c1' c2' : Nat) (w : World)
    (h1 : ∀ W, Below w.heap.size w W → Calls Try.prog 47 #[.agg #[.slice a1 n1 c1, .slice a2 n2 c2], .agg #[.slice a1' n1 c1', .slice a2' n2 c2']] W fun e w' => e = .returned (.bool true) ∧ Below W.heap.size W w')
    (h2 : ∀ W, Below w.heap.size w W → Calls Try.prog 48 #[nilS, nilS] W fun e w' => e = .returned (.bool true) ∧ Below W.heap.size W w')
    (h3 : ∀ W, Below w.heap.size w W → Calls Try.prog 49 #[nilS, nilS] W fun e w' => e = .returned (.bool true) ∧ Below W.heap.size W w') :
    Calls Try.prog 31 #[.agg #[.int .i64 h, .slice a1 n1 c1, .slice a2 n2 c2, .int .i64 i, .slice none 0 0, .slice none 0 0], .agg #[.int .i64 h, .slice a1' n1 c1', .slice a2' n2 c2', .int .i64 i, .slice none 0 0, .slice none 0 0]] w fun e w' => e = .returned (.bool true) ∧ Below w.heap.size w w' := by
  have T0 : Hid (Bk ((w.alloc (.cells #[.int .i64 h, .slice a1 n1 c1, .slice a2 n2 c2, .int .i64 i, .slice none 0 0, .slice none 0 0] 40)).alloc (.cells #[.int .i64 h, .slice a1' n1 c1', .slice a2' n2 c2', .int .i64 i, .slice none 0 0, .slice none 0 0] 40)) w.heap.size [.int .i64 h, .slice a1 n1 c1, .slice a2 n2 c2, .int .i64 i, .slice none 0 0, .slice none 0 0] ∧ Bk ((w.alloc (.cells #[.int .i64 h, .slice a1 n1 c1, .slice a2 n2 c2, .int .i64 i, .slice none 0 0, .slice none 0 0] 40)).alloc (.cells #[.int .i64 h, .slice a1' n1 c1', .slice a2' n2 c2', .int .i64 i, .slice none 0 0, .slice none 0 0] 40)) (w.heap.size + 1) [.int .i64 h, .slice a1' n1 c1', .slice a2' n2 c2', .int .i64 i, .slice none 0 0, .slice none 0 0] ∧ Below w.heap.size w ((w.alloc (.cells #[.int .i64 h, .slice a1 n1 c1, .slice a2 n2 c2, .int .i64 i, .slice none 0 0, .slice none 0 0] 40)).alloc (.cells #[.int .i64 h, .slice a1' n1 c1', .slice a2' n2 c2', .int .i64 i, .slice none 0 0, .slice none 0 0] 40))) := two w [.int .i64 h, .slice a1 n1 c1, .slice a2 n2 c2, .int .i64 i, .slice none 0 0, .slice none 0 0] [.int .i64 h, .slice a1' n1 c1', .slice a2' n2 c2', .int .i64 i, .slice none 0 0, .slice none 0 0] 40 40
  have Kh1 := Hid.mk' h1
  clear h1
  have Kh2 := Hid.mk' h2
  clear h2
  have Kh3 := Hid.mk' h3
  clear h3
  go_enter Try.func31, Try.ntmps31
  go_upto_region 1 with fail
  refine wp_gen (fun W => Bk W w.heap.size [.int .i64 h, .slice a1 n1 c1, .slice a2 n2 c2, .int .i64 i, .slice none 0 0, .slice none 0 0] ∧ Bk W (w.heap.size + 1) [.int .i64 h, .slice a1' n1 c1', .slice a2' n2 c2', .int .i64 i, .slice none 0 0, .slice none 0 0] ∧ Below w.heap.size w W) T0.out ?_
  rintro W ⟨bb, bp, hb⟩
  clear T0
  have q0 : W.cell? ⟨w.heap.size, 0, none⟩ = some (.int .i64 h) := bb.2.1 0 _ rfl
  have p0 : W.cell? ⟨w.heap.size + 1, 0, none⟩ = some (.int .i64 h) := bp.2.1 0 _ rfl
  have q1 : W.cell? ⟨w.heap.size, 1, none⟩ = some (.slice a1 n1 c1) := bb.2.1 1 _ rfl
  have p1 : W.cell? ⟨w.heap.size + 1, 1, none⟩ = some (.slice a1' n1 c1') := bp.2.1 1 _ rfl
  have q2 : W.cell? ⟨w.heap.size, 2, none⟩ = some (.slice a2 n2 c2) := bb.2.1 2 _ rfl
  have p2 : W.cell? ⟨w.heap.size + 1, 2, none⟩ = some (.slice a2' n2 c2') := bp.2.1 2 _ rfl
  have q3 : W.cell? ⟨w.heap.size, 3, none⟩ = some (.int .i64 i) := bb.2.1 3 _ rfl
  have p3 : W.cell? ⟨w.heap.size + 1, 3, none⟩ = some (.int .i64 i) := bp.2.1 3 _ rfl
  have q4 : W.cell? ⟨w.heap.size, 4, none⟩ = some (.slice none 0 0) := bb.2.1 4 _ rfl
  have p4 : W.cell? ⟨w.heap.size + 1, 4, none⟩ = some (.slice none 0 0) := bp.2.1 4 _ rfl
  have q5 : W.cell? ⟨w.heap.size, 5, none⟩ = some (.slice none 0 0) := bb.2.1 5 _ rfl
  have p5 : W.cell? ⟨w.heap.size + 1, 5, none⟩ = some (.slice none 0 0) := bp.2.1 5 _ rfl
  have HC := Hid.mk' (Kh1.out W hb)
  go_wp2_with fail
  refine HC.out.mono ?_
  rintro e W1 ⟨rfl, hb1⟩
  have bb := bb.keep hb1
  have bp := bp.keep hb1
  have hb := hb.trans (hb1.mono hb.size)
  clear HC hb1
  have q0 : W1.cell? ⟨w.heap.size, 0, none⟩ = some (.int .i64 h) := bb.2.1 0 _ rfl
  have p0 : W1.cell? ⟨w.heap.size + 1, 0, none⟩ = some (.int .i64 h) := bp.2.1 0 _ rfl
  have q1 : W1.cell? ⟨w.heap.size, 1, none⟩ = some (.slice a1 n1 c1) := bb.2.1 1 _ rfl
  have p1 : W1.cell? ⟨w.heap.size + 1, 1, none⟩ = some (.slice a1' n1 c1') := bp.2.1 1 _ rfl
  have q2 : W1.cell? ⟨w.heap.size, 2, none⟩ = some (.slice a2 n2 c2) := bb.2.1 2 _ rfl
  have p2 : W1.cell? ⟨w.heap.size + 1, 2, none⟩ = some (.slice a2' n2 c2') := bp.2.1 2 _ rfl
  have q3 : W1.cell? ⟨w.heap.size, 3, none⟩ = some (.int .i64 i) := bb.2.1 3 _ rfl
  have p3 : W1.cell? ⟨w.heap.size + 1, 3, none⟩ = some (.int .i64 i) := bp.2.1 3 _ rfl
  have q4 : W1.cell? ⟨w.heap.size, 4, none⟩ = some (.slice none 0 0) := bb.2.1 4 _ rfl
  have p4 : W1.cell? ⟨w.heap.size + 1, 4, none⟩ = some (.slice none 0 0) := bp.2.1 4 _ rfl
  have q5 : W1.cell? ⟨w.heap.size, 5, none⟩ = some (.slice none 0 0) := bb.2.1 5 _ rfl
  have p5 : W1.cell? ⟨w.heap.size + 1, 5, none⟩ = some (.slice none 0 0) := bp.2.1 5 _ rfl
  have HC := Hid.mk' (Kh2.out W1 hb)
  go_wp2_with fail
  refine HC.out.mono ?_
  rintro e W2 ⟨rfl, hb1⟩
  have bb := bb.keep hb1
  have bp := bp.keep hb1
  have hb := hb.trans (hb1.mono hb.size)
  clear HC hb1
  have q0 : W2.cell? ⟨w.heap.size, 0, none⟩ = some (.int .i64 h) := bb.2.1 0 _ rfl
  have p0 : W2.cell? ⟨w.heap.size + 1, 0, none⟩ = some (.int .i64 h) := bp.2.1 0 _ rfl
  have q1 : W2.cell? ⟨w.heap.size, 1, none⟩ = some (.slice a1 n1 c1) := bb.2.1 1 _ rfl
  have p1 : W2.cell? ⟨w.heap.size + 1, 1, none⟩ = some (.slice a1' n1 c1') := bp.2.1 1 _ rfl
  have q2 : W2.cell? ⟨w.heap.size, 2, none⟩ = some (.slice a2 n2 c2) := bb.2.1 2 _ rfl
  have p2 : W2.cell? ⟨w.heap.size + 1, 2, none⟩ = some (.slice a2' n2 c2') := bp.2.1 2 _ rfl
  have q3 : W2.cell? ⟨w.heap.size, 3, none⟩ = some (.int .i64 i) := bb.2.1 3 _ rfl
  have p3 : W2.cell? ⟨w.heap.size + 1, 3, none⟩ = some (.int .i64 i) := bp.2.1 3 _ rfl
  have q4 : W2.cell? ⟨w.heap.size, 4, none⟩ = some (.slice none 0 0) := bb.2.1 4 _ rfl
  have p4 : W2.cell? ⟨w.heap.size + 1, 4, none⟩ = some (.slice none 0 0) := bp.2.1 4 _ rfl
  have q5 : W2.cell? ⟨w.heap.size, 5, none⟩ = some (.slice none 0 0) := bb.2.1 5 _ rfl
  have p5 : W2.cell? ⟨w.heap.size + 1, 5, none⟩ = some (.slice none 0 0) := bp.2.1 5 _ rfl
  have HC := Hid.mk' (Kh3.out W2 hb)
  go_wp2_with fail
  refine HC.out.mono ?_
  rintro e W3 ⟨rfl, hb1⟩
  have bb := bb.keep hb1
  have bp := bp.keep hb1
  have hb := hb.trans (hb1.mono hb.size)
  clear HC hb1
  have q0 : W3.cell? ⟨w.heap.size, 0, none⟩ = some (.int .i64 h) := bb.2.1 0 _ rfl
  have p0 : W3.cell? ⟨w.heap.size + 1, 0, none⟩ = some (.int .i64 h) := bp.2.1 0 _ rfl
  have q1 : W3.cell? ⟨w.heap.size, 1, none⟩ = some (.slice a1 n1 c1) := bb.2.1 1 _ rfl
  have p1 : W3.cell? ⟨w.heap.size + 1, 1, none⟩ = some (.slice a1' n1 c1') := bp.2.1 1 _ rfl
  have q2 : W3.cell? ⟨w.heap.size, 2, none⟩ = some (.slice a2 n2 c2) := bb.2.1 2 _ rfl
  have p2 : W3.cell? ⟨w.heap.size + 1, 2, none⟩ = some (.slice a2' n2 c2') := bp.2.1 2 _ rfl
  have q3 : W3.cell? ⟨w.heap.size, 3, none⟩ = some (.int .i64 i) := bb.2.1 3 _ rfl
  have p3 : W3.cell? ⟨w.heap.size + 1, 3, none⟩ = some (.int .i64 i) := bp.2.1 3 _ rfl
  have q4 : W3.cell? ⟨w.heap.size, 4, none⟩ = some (.slice none 0 0) := bb.2.1 4 _ rfl
  have p4 : W3.cell? ⟨w.heap.size + 1, 4, none⟩ = some (.slice none 0 0) := bp.2.1 4 _ rfl
  have q5 : W3.cell? ⟨w.heap.size, 5, none⟩ = some (.slice none 0 0) := bb.2.1 5 _ rfl
  have p5 : W3.cell? ⟨w.heap.size + 1, 5, none⟩ = some (.slice none 0 0) := bp.2.1 5 _ rfl
  have HB := Hid.mk' hb
  clear hb bb bp
  go_wp2
  go_ret
  exact ⟨rfl, HB.out⟩
/-- Four functions of a store in a block: the numbers and the slices of each. -/
structure F4 where
  h : Nat → Int
  i : Nat → Int
  pa : Nat → Option Addr
  pn : Nat → Nat
  ra : Nat → Option Addr
  rn : Nat → Nat
def F4.At (x : F4) (w : World) (b k : Nat) : Prop := w.cell? ⟨b, k * 6, none⟩ = some (.int .i64 (x.h k)) ∧ w.cell? ⟨b, k * 6 + 1, none⟩ = some (.slice (x.pa k) (x.pn k) (x.pn k)) ∧ w.cell? ⟨b, k * 6 + 2, none⟩ = some (.slice (x.ra k) (x.rn k) (x.rn k)) ∧ w.cell? ⟨b, k * 6 + 3, none⟩ = some (.int .i64 (x.i k)) ∧ w.cell? ⟨b, k * 6 + 4, none⟩ = some (.slice none 0 0) ∧ w.cell? ⟨b, k * 6 + 5, none⟩ = some (.slice none 0 0)
theorem F4.At.keep {x : F4} {w w' : World} {b k : Nat} (h : x.At w b k) (hb : Below w.heap.size w w') : x.At w' b k := by
  have hl := World.block_lt_of_cell? w _ h.1
  have K : ∀ o v, w.cell? ⟨b, o, none⟩ = some v → w'.cell? ⟨b, o, none⟩ = some v := fun o v hv => (hb.cell (p := ⟨b, o, none⟩) hl).trans hv
  obtain ⟨a0, a1, a2, a3, a4, a5⟩ := h
  exact ⟨K _ _ a0, K _ _ a1, K _ _ a2, K _ _ a3, K _ _ a4, K _ _ a5⟩
set_option maxHeartbeats 2000000 in
theorem eqFIs_c (x x' : F4) (b b' : Nat) (w : World) (hA : ∀ k, k < 4 → x.At w b k) (hA' : ∀ k, k < 4 → x'.At w b' k)
    (hh : ∀ k, k < 4 → x'.h k = x.h k ∧ x'.i k = x.i k ∧ x'.pn k = x.pn k ∧ x'.rn k = x.rn k)
    (h1 : ∀ k, k < 4 → ∀ W, Below w.heap.size w W → Calls Try.prog 48 #[.slice (x.pa k) (x.pn k) (x.pn k), .slice (x'.pa k) (x'.pn k) (x'.pn k)] W fun e w' => e = .returned (.bool true) ∧ Below W.heap.size W w')
    (h2 : ∀ k, k < 4 → ∀ W, Below w.heap.size w W → Calls Try.prog 48 #[.slice (x.ra k) (x.rn k) (x.rn k), .slice (x'.ra k) (x'.rn k) (x'.rn k)] W fun e w' => e = .returned (.bool true) ∧ Below W.heap.size W w') :
    Calls Try.prog 10 #[.slice (some ⟨b, 0, none⟩) 4 4, .slice (some ⟨b', 0, none⟩) 4 4] w fun e w' => e = .returned (.bool true) ∧ Below w.heap.size w w' := by
  have G1 := Hid.mk' hA
  have G2 := Hid.mk' hA'
  have G3 := Hid.mk' hh
  have G4 := Hid.mk' h1
  have G5 := Hid.mk' h2
  clear hA hA' hh h1 h2
  go_enter Try.func10, Try.ntmps10
  go_wp2
  go_loopw [5] (fun i wr => ∃ k : Nat, k ≤ 4 ∧ i = .int .i64 k ∧ Below w.heap.size w wr) (fun i _ => 4 - (intOf i).toNat)
  case atStart => exact ⟨0, Nat.zero_le _, rfl, Below.refl _ _⟩
  case round =>
    obtain ⟨k, hk, rfl, hb⟩ := hrel
    by_cases hlt : k < 4
    · have hki : (k : Int) < 4 := by omega
      obtain ⟨c0, c1, c2, c3, c4, c5⟩ := (G1.out k hlt).keep hb
      obtain ⟨d0, d1, d2, d3, d4, d5⟩ := (G2.out k hlt).keep hb
      obtain ⟨e0, e1, e2, e3⟩ := G3.out k hlt
      have f1 := G4.out k hlt
      have f2 := G5.out k hlt
      rw [e2] at d1 f1
      rw [e3] at d2 f2
      rw [e0] at d0
      rw [e1] at d3
      clear e0 e1 e2 e3
      have cE : ∀ d os, Calls Try.prog 31 #[.agg #[.int .i64 (x.h k), .slice (x.pa k) (x.pn k) (x.pn k), .slice (x.ra k) (x.rn k) (x.rn k), .int .i64 (x.i k), .slice none 0 0, .slice none 0 0], .agg #[.int .i64 (x.h k), .slice (x'.pa k) (x.pn k) (x.pn k), .slice (x'.ra k) (x.rn k) (x.rn k), .int .i64 (x.i k), .slice none 0 0, .slice none 0 0]] (grow (redrawn wr d) os) fun e w'' => e = .returned (.bool true) ∧ ∃ p : Regrown, w'' = grow (redrawn wr p.d) p.os := fun d os => Calls.regrown_of (eqFI_c _ _ _ _ _ _ _ _ _ _ _ _ _ (fun W hW => eqFT_c _ _ _ _ _ _ _ _ _ _ W (fun W' hW' => f1 W' (hb.trans (((below_regrown wr d os).mono hb.size).trans ((hW.mono (Nat.le_trans hb.size (below_regrown wr d os).size)).trans (hW'.mono (Nat.le_trans hb.size (Nat.le_trans (below_regrown wr d os).size hW.size))))))) (fun W' hW' => f2 W' (hb.trans (((below_regrown wr d os).mono hb.size).trans ((hW.mono (Nat.le_trans hb.size (below_regrown wr d os).size)).trans (hW'.mono (Nat.le_trans hb.size (Nat.le_trans (below_regrown wr d os).size hW.size)))))))) (fun W _ => eqI_nil W) (fun W _ => eqIns_nil W))
      generalize x.h k = xh at *
      generalize x.i k = xi at *
      generalize x.pa k = xpa at *
      generalize x'.pa k = xpa' at *
      generalize x.pn k = xpn at *
      generalize x.ra k = xra at *
      generalize x'.ra k = xra' at *
      generalize x.rn k = xrn at *
      have k0 := cell_regrown c0
      have k1 := cell_regrown c1
      have k2 := cell_regrown c2
      have k3 := cell_regrown c3
      have k4 := cell_regrown c4
      have k5 := cell_regrown c5
      have m0 := cell_regrown d0
      have m1 := cell_regrown d1
      have m2 := cell_regrown d2
      have m3 := cell_regrown d3
      have m4 := cell_regrown d4
      have m5 := cell_regrown d5
      have HB := Hid.mk' hb
      have HE := Hid.mk' cE
      clear hb cE f1 f2 G1 G2 G3 G4 G5 c0 c1 c2 c3 c4 c5 d0 d1 d2 d3 d4 d5
      go_wp2
      refine wp_region_quiet_below (by kernel_rfl) (by kernel_rfl) ?_
      repeat (quiet_step (exact HE.out _ _))
      refine wpQuiet_nil ?_
      intro _ hw'
      obtain ⟨⟨dq, osq⟩, hw''⟩ := hw'
      subst hw''
      have hw5 := HB.out.trans ((below_regrown wr dq osq).mono HB.out.size)
      clear k0 k1 k2 k3 k4 k5 m0 m1 m2 m3 m4 m5
      generalize grow (redrawn wr dq) osq = w5 at *
      show Exit.then _ _ Exit.normal _ w5
      go_wp2
      go_roundw
      case rel => exact ⟨k + 1, by omega, by go_num, hw5⟩
      case measure => simp [intOf]; omega
    · have e : k = 4 := by omega
      subst e
      go_wp2
      go_ret
      exact ⟨rfl, hb⟩
end Go.Proofs.Ytkomhekccckdlaa
