import Derived.Test.YthicgblefhgbeaaE8
import Derived.Test.YthicgblefhgbeaaK14
set_option linter.all false
set_option linter.unusedVariables false
namespace Go.Proofs.Ythicgblefhgbeaa
open Go.RowKit Go.Sort
set_option maxRecDepth 100000
theorem C5.below {w w1 : World} {B g o : Nat} {a b c d e : Value} (h : C5 w g o a b c d e) (hb : Below B w w1) (hg : g < B) : C5 w1 g o a b c d e := by
  obtain ⟨⟨h0, h1, h2, h3, h4⟩, f⟩ := h
  exact ⟨⟨(hb.cell (p := ⟨g, o, none⟩) hg).trans h0, (hb.cell (p := ⟨g, o + 1, none⟩) hg).trans h1, (hb.cell (p := ⟨g, o + 2, none⟩) hg).trans h2, (hb.cell (p := ⟨g, o + 3, none⟩) hg).trans h3, (hb.cell (p := ⟨g, o + 4, none⟩) hg).trans h4⟩, fun i => (hb.frozen (p := ⟨g, i, none⟩) hg).trans (f i)⟩
/-- The box and the first byte. -/
theorem two_new (w : World) (a b c d e : Value) (y : Int) (t : TypeId) : C5 ((w.alloc (.cells #[a, b, c, d, e] t)).alloc (.cells #[.int .u8 y] 5)) w.heap.size 0 a b c d e ∧ ((w.alloc (.cells #[a, b, c, d, e] t)).alloc (.cells #[.int .u8 y] 5)).ownsRow (w.heap.size + 1) 5 1 (.slice (some ⟨w.heap.size + 1, 0, none⟩) 1 1) 1 (U [y]) ∧ Below w.heap.size w ((w.alloc (.cells #[a, b, c, d, e] t)).alloc (.cells #[.int .u8 y] 5)) := by
  refine ⟨C5.new.past, ?_, ((Below.refl _ _).alloc (Nat.le_refl _) _).alloc (by simp) _⟩
  have := World.ownsRow_lit (base := w.heap.size + 1) (e := 5) (size := 1) (w.alloc (.cells #[a, b, c, d, e] t)) #[.int .u8 y] 1 (by simp) (by unfold maxLen; omega) rfl
  simpa using this
theorem below_grown {w w1 : World} (hb : Below w.heap.size w w1) (r : Option Nat) : w.grownBy w1 r := ⟨hb.os, hb.tape, hb.output, hb.size, fun k hk _ => hb.block k hk⟩
theorem grown_c5 {w w1 : World} {g g0 o : Nat} {a b c d e : Value} (h : C5 w g o a b c d e) (hg : w.grownBy w1 (some g0)) (hne : g ≠ g0) : C5 w1 g o a b c d e := by
  have hb : w1.heap[g]? = w.heap[g]? := hg.block g (World.block_lt_of_cell? w _ h.1.1) (by simpa using hne)
  obtain ⟨⟨h0, h1, h2, h3, h4⟩, f⟩ := h
  exact ⟨⟨(World.cell?_of_block hb).trans h0, (World.cell?_of_block hb).trans h1, (World.cell?_of_block hb).trans h2, (World.cell?_of_block hb).trans h3, (World.cell?_of_block hb).trans h4⟩, fun i => (World.frozen?_of_block hb).trans (f i)⟩
theorem grown_below {w w1 : World} {B g0 : Nat} (h : w.grownBy w1 (some g0)) (hB : B ≤ g0) (hs : B ≤ w.heap.size) : Below B w w1 := ⟨h.os, h.tape, h.output, h.size, fun k hk => h.block k (by omega) (by simp; omega)⟩
theorem grown_has {w w1 : World} {g0 : Nat} {la : Option Addr} {l : List Int} (h : Has w la l) (hg : w.grownBy w1 (some g0)) (hne : ∀ b o s, la = some ⟨b, o, s⟩ → b < g0) : Has w1 la l := by
  rcases h with h | ⟨b, o, e, hc⟩
  · exact .inl h
  · refine .inr ⟨b, o, e, fun i hi => ?_⟩
    have hl := World.block_lt_of_cell? w _ (hc i hi)
    have := hne b o none e
    rw [World.cell?_of_block (w := w) (w' := w1) (a := ⟨b, o + i, none⟩) (hg.block b hl (by simp; omega))]
    exact hc i hi
theorem has_on {w W W' : World} {la : Option Addr} {l : List Int} (h : Has w la l) (hb : Below w.heap.size w W) (hg : W.grownBy W' (some (w.heap.size + 1))) : Has W' la l := by
  rcases h with h | ⟨b, o, e, hc⟩
  · exact .inl h
  · refine .inr ⟨b, o, e, fun i hi => ?_⟩
    have hl := World.block_lt_of_cell? w _ (hc i hi)
    have hs := hb.size
    simp only at hl
    have h1 : W'.heap[b]? = w.heap[b]? := (hg.block b (by omega) (by simp; omega)).trans (hb.block b hl)
    rw [World.cell?_of_block (w := w) (w' := W') (a := ⟨b, o + i, none⟩) h1]
    exact hc i hi
theorem own_grownE {w w' : World} {B e g g1 cap n : Nat} {xs : List Value} (h : w.ownsRow B e 1 (.slice (some ⟨g, 0, none⟩) n cap) n xs) (hg : w.grownBy w' (some g1)) (hne : g ≠ g1) : w'.ownsRow B e 1 (.slice (some ⟨g, 0, none⟩) n cap) n xs :=
  h.kept hg (.inr (by simp [Value.ownBlock, hne]))
/-- What a spec writer leaves: a row of its own. -/
def Out (w w' : World) (v : Value) (L : List Int) : Prop := w'.ownsRow w.heap.size 5 1 v L.length (U L) ∧ Below w.heap.size w w'
theorem out_fin {w W W0 : World} {v : Value} {n : Nat} {zs : List Value} {L : List Int} (h : W.ownsRow (w.heap.size + 1) 5 1 v n zs) (hb : Below w.heap.size w W) (hn : n = L.length) (hz : zs = U L) : Out w W v L := by
  subst hn hz
  exact ⟨ownE_down h (by omega), hb⟩
end Go.Proofs.Ythicgblefhgbeaa
