import Derived.Test.YtfaajmhmcdoibaaTb
set_option linter.all false
set_option linter.unusedVariables false
namespace Go.Proofs.Ytfaajmhmcdoibaa
open Go.RowKit Go.Sort
set_option maxRecDepth 100000
def Up (B : Nat) (w w' : World) : Prop := ∀ k, B ≤ k → k < w.heap.size → w'.heap[k]? = w.heap[k]?
theorem Up.cell {B b o : Nat} {w w' : World} {v : Value} (u : Up B w w') (hb : B ≤ b) (h : w.cell? ⟨b, o, none⟩ = some v) : w'.cell? ⟨b, o, none⟩ = some v :=
  (World.cell?_of_block (u b hb (World.block_lt_of_cell? w _ h))).trans h
theorem up_below {B : Nat} {w w' : World} (h : Below w.heap.size w w') : Up B w w' := fun k _ hk => h.block k hk
theorem up_set {B g o : Nat} {w : World} {v : Value} (h : g < B) : Up B w (w.setCell ⟨g, o, none⟩ v) := fun k hk _ => Below.heap_setCell _ _ _ _ (fun e => by simp at e; omega)
theorem Up.size_trans {B : Nat} {w w' w'' : World} (h : Up B w w') (k : Up B w' w'') (hs : w.heap.size ≤ w'.heap.size) : Up B w w'' := fun j hj hl => (k j hj (by omega)).trans (h j hj hl)
def HI (k : IntKind) (B : Nat) (w : World) (a : Option Addr) (xs : List Int) : Prop :=
  xs = [] ∨ ∃ b off, a = some ⟨b, off, none⟩ ∧ B ≤ b ∧ ∀ i, i < xs.length → w.cell? ⟨b, off + i, none⟩ = some (.int k (xs.getD i 0))
theorem HI.up {k : IntKind} {B : Nat} {w w' : World} {a : Option Addr} {xs : List Int} (h : HI k B w a xs) (u : Up B w w') : HI k B w' a xs := by
  rcases h with h | ⟨b, o, e, hb, hc⟩
  · exact .inl h
  · exact .inr ⟨b, o, e, hb, fun i hi => u.cell hb (hc i hi)⟩
theorem HI.mono {k : IntKind} {B B' : Nat} {w : World} {a : Option Addr} {xs : List Int} (h : HI k B w a xs) (hB : B' ≤ B) : HI k B' w a xs := by
  rcases h with h | ⟨b, o, e, hb, hc⟩
  · exact .inl h
  · exact .inr ⟨b, o, e, by omega, hc⟩
structure Lab where
  pc : Int
  ar : Int
  ht : Int
  lp : Bool
def Lab.z : Lab := ⟨0, 0, 0, false⟩
def Lab.Is (B : Nat) (w : World) (x : Lab) : Prop := True
def Lab.At (B : Nat) (w : World) (b o : Nat) (x : Lab) : Prop := (w.cell? ⟨b, o, none⟩ = some (.int .i64 x.pc) ∧ w.cell? ⟨b, o + 1, none⟩ = some (.int .i64 x.ar) ∧ w.cell? ⟨b, o + 2, none⟩ = some (.int .i64 x.ht) ∧ w.cell? ⟨b, o + 3, none⟩ = some (.bool x.lp)) ∧ Lab.Is B w x
def Lab.Ls (B : Nat) (w : World) (a : Option Addr) (xs : List Lab) : Prop := xs = [] ∨ ∃ b off, a = some ⟨b, off, none⟩ ∧ B ≤ b ∧ ∀ i, i < xs.length → Lab.At B w b (off + i * 4) (xs.getD i Lab.z)
theorem Lab.Is.up {B : Nat} {w w' : World} {x : Lab} (h : Lab.Is B w x) (u : Up B w w') : Lab.Is B w' x := h
theorem Lab.Is.mono {B B' : Nat} {w : World} {x : Lab} (h : Lab.Is B w x) (hB : B' ≤ B) : Lab.Is B' w x := h
theorem Lab.At.up {B b o : Nat} {w w' : World} {x : Lab} (h : Lab.At B w b o x) (u : Up B w w') (hb : B ≤ b) : Lab.At B w' b o x := by
  obtain ⟨⟨q0, q1, q2, q3⟩, hi⟩ := h
  exact ⟨⟨u.cell hb q0, u.cell hb q1, u.cell hb q2, u.cell hb q3⟩, hi.up u⟩
theorem Lab.At.mono {B B' b o : Nat} {w : World} {x : Lab} (h : Lab.At B w b o x) (hB : B' ≤ B) : Lab.At B' w b o x := by
  obtain ⟨qs, hi⟩ := h
  exact ⟨qs, hi.mono hB⟩
theorem Lab.Ls.up {B : Nat} {w w' : World} {a : Option Addr} {xs : List Lab} (h : Lab.Ls B w a xs) (u : Up B w w') : Lab.Ls B w' a xs := by
  rcases h with h | ⟨b, o, e, hb, hc⟩
  · exact .inl h
  · exact .inr ⟨b, o, e, hb, fun i hi => (hc i hi).up u hb⟩
theorem Lab.Ls.mono {B B' : Nat} {w : World} {a : Option Addr} {xs : List Lab} (h : Lab.Ls B w a xs) (hB : B' ≤ B) : Lab.Ls B' w a xs := by
  rcases h with h | ⟨b, o, e, hb, hc⟩
  · exact .inl h
  · exact .inr ⟨b, o, e, by omega, fun i hi => (hc i hi).mono hB⟩
def Lab.LB (N : Nat) (x : Lab) : Prop := True
structure Frm where
  fn : Int
  pc : Int
  loc : List Int
  ht : Int
  labs : List Lab
def Frm.z : Frm := ⟨0, 0, [], 0, []⟩
def Frm.Is (B : Nat) (w : World) (x : Frm) (a1 : Option Addr) (a2 : Option Addr) : Prop := HI .u64 B w a1 x.loc ∧ Lab.Ls B w a2 x.labs
def Frm.At (B : Nat) (w : World) (b o : Nat) (x : Frm) : Prop := ∃ a1 c1 a2 c2, (w.cell? ⟨b, o, none⟩ = some (.int .i64 x.fn) ∧ w.cell? ⟨b, o + 1, none⟩ = some (.int .i64 x.pc) ∧ w.cell? ⟨b, o + 2, none⟩ = some (.slice a1 x.loc.length c1) ∧ w.cell? ⟨b, o + 3, none⟩ = some (.int .i64 x.ht) ∧ w.cell? ⟨b, o + 4, none⟩ = some (.slice a2 x.labs.length c2)) ∧ Frm.Is B w x a1 a2
def Frm.Ls (B : Nat) (w : World) (a : Option Addr) (xs : List Frm) : Prop := xs = [] ∨ ∃ b off, a = some ⟨b, off, none⟩ ∧ B ≤ b ∧ ∀ i, i < xs.length → Frm.At B w b (off + i * 5) (xs.getD i Frm.z)
theorem Frm.Is.up {B : Nat} {w w' : World} {x : Frm} {a1 : Option Addr} {a2 : Option Addr} (h : Frm.Is B w x a1 a2) (u : Up B w w') : Frm.Is B w' x a1 a2 := by
  obtain ⟨h1, h2⟩ := h
  exact ⟨h1.up u, h2.up u⟩
theorem Frm.Is.mono {B B' : Nat} {w : World} {x : Frm} {a1 : Option Addr} {a2 : Option Addr} (h : Frm.Is B w x a1 a2) (hB : B' ≤ B) : Frm.Is B' w x a1 a2 := by
  obtain ⟨h1, h2⟩ := h
  exact ⟨h1.mono hB, h2.mono hB⟩
theorem Frm.At.up {B b o : Nat} {w w' : World} {x : Frm} (h : Frm.At B w b o x) (u : Up B w w') (hb : B ≤ b) : Frm.At B w' b o x := by
  obtain ⟨a1, c1, a2, c2, ⟨q0, q1, q2, q3, q4⟩, hi⟩ := h
  exact ⟨a1, c1, a2, c2, ⟨u.cell hb q0, u.cell hb q1, u.cell hb q2, u.cell hb q3, u.cell hb q4⟩, hi.up u⟩
theorem Frm.At.mono {B B' b o : Nat} {w : World} {x : Frm} (h : Frm.At B w b o x) (hB : B' ≤ B) : Frm.At B' w b o x := by
  obtain ⟨a1, c1, a2, c2, qs, hi⟩ := h
  exact ⟨a1, c1, a2, c2, qs, hi.mono hB⟩
theorem Frm.Ls.up {B : Nat} {w w' : World} {a : Option Addr} {xs : List Frm} (h : Frm.Ls B w a xs) (u : Up B w w') : Frm.Ls B w' a xs := by
  rcases h with h | ⟨b, o, e, hb, hc⟩
  · exact .inl h
  · exact .inr ⟨b, o, e, hb, fun i hi => (hc i hi).up u hb⟩
theorem Frm.Ls.mono {B B' : Nat} {w : World} {a : Option Addr} {xs : List Frm} (h : Frm.Ls B w a xs) (hB : B' ≤ B) : Frm.Ls B' w a xs := by
  rcases h with h | ⟨b, o, e, hb, hc⟩
  · exact .inl h
  · exact .inr ⟨b, o, e, by omega, fun i hi => (hc i hi).mono hB⟩
def Frm.LB (N : Nat) (x : Frm) : Prop := x.loc.length ≤ N ∧ (x.labs.length ≤ N ∧ ∀ i, i < x.labs.length → Lab.LB N (x.labs.getD i Lab.z))
structure Sta where
  st : Int
  tr : Int
  stk : List Int
  frs : List Frm
def Sta.z : Sta := ⟨0, 0, [], []⟩
def Sta.Is (B : Nat) (w : World) (x : Sta) (a1 : Option Addr) (a2 : Option Addr) : Prop := HI .u64 B w a1 x.stk ∧ Frm.Ls B w a2 x.frs
def Sta.At (B : Nat) (w : World) (b o : Nat) (x : Sta) : Prop := ∃ a1 c1 a2 c2, (w.cell? ⟨b, o, none⟩ = some (.int .i64 x.st) ∧ w.cell? ⟨b, o + 1, none⟩ = some (.int .i64 x.tr) ∧ w.cell? ⟨b, o + 2, none⟩ = some (.slice a1 x.stk.length c1) ∧ w.cell? ⟨b, o + 3, none⟩ = some (.slice a2 x.frs.length c2)) ∧ Sta.Is B w x a1 a2
def Sta.Ls (B : Nat) (w : World) (a : Option Addr) (xs : List Sta) : Prop := xs = [] ∨ ∃ b off, a = some ⟨b, off, none⟩ ∧ B ≤ b ∧ ∀ i, i < xs.length → Sta.At B w b (off + i * 4) (xs.getD i Sta.z)
theorem Sta.Is.up {B : Nat} {w w' : World} {x : Sta} {a1 : Option Addr} {a2 : Option Addr} (h : Sta.Is B w x a1 a2) (u : Up B w w') : Sta.Is B w' x a1 a2 := by
  obtain ⟨h1, h2⟩ := h
  exact ⟨h1.up u, h2.up u⟩
theorem Sta.Is.mono {B B' : Nat} {w : World} {x : Sta} {a1 : Option Addr} {a2 : Option Addr} (h : Sta.Is B w x a1 a2) (hB : B' ≤ B) : Sta.Is B' w x a1 a2 := by
  obtain ⟨h1, h2⟩ := h
  exact ⟨h1.mono hB, h2.mono hB⟩
theorem Sta.At.up {B b o : Nat} {w w' : World} {x : Sta} (h : Sta.At B w b o x) (u : Up B w w') (hb : B ≤ b) : Sta.At B w' b o x := by
  obtain ⟨a1, c1, a2, c2, ⟨q0, q1, q2, q3⟩, hi⟩ := h
  exact ⟨a1, c1, a2, c2, ⟨u.cell hb q0, u.cell hb q1, u.cell hb q2, u.cell hb q3⟩, hi.up u⟩
theorem Sta.At.mono {B B' b o : Nat} {w : World} {x : Sta} (h : Sta.At B w b o x) (hB : B' ≤ B) : Sta.At B' w b o x := by
  obtain ⟨a1, c1, a2, c2, qs, hi⟩ := h
  exact ⟨a1, c1, a2, c2, qs, hi.mono hB⟩
theorem Sta.Ls.up {B : Nat} {w w' : World} {a : Option Addr} {xs : List Sta} (h : Sta.Ls B w a xs) (u : Up B w w') : Sta.Ls B w' a xs := by
  rcases h with h | ⟨b, o, e, hb, hc⟩
  · exact .inl h
  · exact .inr ⟨b, o, e, hb, fun i hi => (hc i hi).up u hb⟩
theorem Sta.Ls.mono {B B' : Nat} {w : World} {a : Option Addr} {xs : List Sta} (h : Sta.Ls B w a xs) (hB : B' ≤ B) : Sta.Ls B' w a xs := by
  rcases h with h | ⟨b, o, e, hb, hc⟩
  · exact .inl h
  · exact .inr ⟨b, o, e, by omega, fun i hi => (hc i hi).mono hB⟩
def Sta.LB (N : Nat) (x : Sta) : Prop := x.stk.length ≤ N ∧ (x.frs.length ≤ N ∧ ∀ i, i < x.frs.length → Frm.LB N (x.frs.getD i Frm.z))
end Go.Proofs.Ytfaajmhmcdoibaa
