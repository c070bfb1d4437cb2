import Derived.Test.YtngepdhhdbhglaaGreatDoorT3
set_option linter.all false
set_option linter.unusedVariables false
namespace Go.Proofs.YtngepdhhdbhglaaGreatDoor
open Go.RowKit
structure In where
  op : Int
  a : Int
  b : Int
  v : Int
  l : List Int
abbrev inV (x : In) (la : Option Addr) (lc : Nat) : Value := .agg #[.int .i64 x.op, .int .i64 x.a, .int .i64 x.b, .int .u64 x.v, .slice la x.l.length lc]
def InAt (w : World) (b o : Nat) (x : In) : Prop := ∃ la lc, w.cell? ⟨b, o, none⟩ = some (.int .i64 x.op) ∧ w.cell? ⟨b, o + 1, none⟩ = some (.int .i64 x.a) ∧ w.cell? ⟨b, o + 2, none⟩ = some (.int .i64 x.b) ∧ w.cell? ⟨b, o + 3, none⟩ = some (.int .u64 x.v) ∧ w.cell? ⟨b, o + 4, none⟩ = some (.slice la x.l.length lc) ∧ Has w la x.l
def I0 : In := ⟨0, 0, 0, 0, []⟩
def Lst (w : World) (a : Option Addr) (xs : List In) : Prop := xs = [] ∨ ∃ b off, a = some ⟨b, off, none⟩ ∧ ∀ i, i < xs.length → InAt w b (off + i * 5) (xs.getD i I0)
theorem InAt.keep {w w1 : World} {b o : Nat} {x : In} (h : InAt w b o x) (hb : Below w.heap.size w w1) : InAt w1 b o x := by
  obtain ⟨la, lc, h0, h1, h2, h3, h4, h5⟩ := h
  have hl := World.block_lt_of_cell? w _ h0
  refine ⟨la, lc, (hb.cell (p := ⟨b, o, none⟩) hl).trans h0, (hb.cell (p := ⟨b, o + 1, none⟩) hl).trans h1, (hb.cell (p := ⟨b, o + 2, none⟩) hl).trans h2, (hb.cell (p := ⟨b, o + 3, none⟩) hl).trans h3, (hb.cell (p := ⟨b, o + 4, none⟩) hl).trans h4, ?_⟩
  rcases h5 with h | ⟨b', o', e, hc⟩
  · exact .inl h
  · exact .inr ⟨b', o', e, fun i hi => (hb.cell (World.block_lt_of_cell? w _ (hc i hi))).trans (hc i hi)⟩
theorem Lst.keep {w w1 : World} {a : Option Addr} {xs : List In} (h : Lst w a xs) (hb : Below w.heap.size w w1) : Lst w1 a xs := by
  rcases h with h | ⟨b, o, e, hc⟩
  · exact .inl h
  · exact .inr ⟨b, o, e, fun i hi => (hc i hi).keep hb⟩
end Go.Proofs.YtngepdhhdbhglaaGreatDoor
