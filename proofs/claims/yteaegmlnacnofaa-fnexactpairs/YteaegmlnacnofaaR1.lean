import Derived.Test.YteaegmlnacnofaaK14
set_option linter.all false
set_option linter.unusedVariables false
namespace Go.Proofs.Yteaegmlnacnofaa
open Go.RowKit Go.Sort
set_option maxRecDepth 100000
def Up (B : Nat) (w w' : World) : Prop := ∀ k, B ≤ k → k < w.heap.size → w'.heap[k]? = w.heap[k]?
theorem Up.cell {B b o : Nat} {w w' : World} {v : Value} (u : Up B w w') (hb : B ≤ b) (h : w.cell? ⟨b, o, none⟩ = some v) : w'.cell? ⟨b, o, none⟩ = some v :=
  (World.cell?_of_block (u b hb (World.block_lt_of_cell? w _ h))).trans h
theorem up_below {B : Nat} {w w' : World} (h : Below w.heap.size w w') : Up B w w' := fun k _ hk => h.block k hk
theorem up_set {B g o : Nat} {w : World} {v : Value} (h : g < B) : Up B w (w.setCell ⟨g, o, none⟩ v) := fun k hk _ => Below.heap_setCell _ _ _ _ (fun e => by simp at e; omega)
theorem Up.size_trans {B : Nat} {w w' w'' : World} (h : Up B w w') (k : Up B w' w'') (hs : w.heap.size ≤ w'.heap.size) : Up B w w'' := fun j hj hl => (k j hj (by omega)).trans (h j hj hl)
def HI (k : IntKind) (B : Nat) (w : World) (a : Option Addr) (xs : List Int) : Prop :=
  xs = [] ∨ ∃ b off, a = some ⟨b, off, none⟩ ∧ B ≤ b ∧ ∀ i, i < xs.length → w.cell? ⟨b, off + i, none⟩ = some (.int k (xs.getD i 0))
theorem HI.up {k : IntKind} {B : Nat} {w w' : World} {a : Option Addr} {xs : List Int} (h : HI k B w a xs) (u : Up B w w') : HI k B w' a xs := by
  rcases h with h | ⟨b, o, e, hb, hc⟩
  · exact .inl h
  · exact .inr ⟨b, o, e, hb, fun i hi => u.cell hb (hc i hi)⟩
theorem HI.mono {k : IntKind} {B B' : Nat} {w : World} {a : Option Addr} {xs : List Int} (h : HI k B w a xs) (hB : B' ≤ B) : HI k B' w a xs := by
  rcases h with h | ⟨b, o, e, hb, hc⟩
  · exact .inl h
  · exact .inr ⟨b, o, e, by omega, hc⟩
theorem HI.has {B : Nat} {w : World} {a : Option Addr} {xs : List Int} (h : HI .i64 B w a xs) : Has w a xs := by
  rcases h with h | ⟨b, o, e, hb, hc⟩
  · exact .inl h
  · exact .inr ⟨b, o, e, hc⟩
structure Limits where
  min : Int
  max : Int
  has : Bool
def Limits.z : Limits := ⟨0, 0, false⟩
def Limits.Is (B : Nat) (w : World) (x : Limits) : Prop := True
def Limits.At (B : Nat) (w : World) (b o : Nat) (x : Limits) : Prop := (w.cell? ⟨b, o, none⟩ = some (.int .i64 x.min) ∧ w.cell? ⟨b, o + 1, none⟩ = some (.int .i64 x.max) ∧ w.cell? ⟨b, o + 2, none⟩ = some (.bool x.has)) ∧ Limits.Is B w x
def Limits.Ls (B : Nat) (w : World) (a : Option Addr) (xs : List Limits) : Prop := xs = [] ∨ ∃ b off, a = some ⟨b, off, none⟩ ∧ B ≤ b ∧ ∀ i, i < xs.length → Limits.At B w b (off + i * 3) (xs.getD i Limits.z)
theorem Limits.Is.up {B : Nat} {w w' : World} {x : Limits} (h : Limits.Is B w x) (u : Up B w w') : Limits.Is B w' x := h
theorem Limits.Is.mono {B B' : Nat} {w : World} {x : Limits} (h : Limits.Is B w x) (hB : B' ≤ B) : Limits.Is B' w x := h
theorem Limits.At.up {B b o : Nat} {w w' : World} {x : Limits} (h : Limits.At B w b o x) (u : Up B w w') (hb : B ≤ b) : Limits.At B w' b o x := by
  obtain ⟨⟨q0, q1, q2⟩, hi⟩ := h
  exact ⟨⟨u.cell hb q0, u.cell hb q1, u.cell hb q2⟩, hi.up u⟩
theorem Limits.At.mono {B B' b o : Nat} {w : World} {x : Limits} (h : Limits.At B w b o x) (hB : B' ≤ B) : Limits.At B' w b o x := by
  obtain ⟨qs, hi⟩ := h
  exact ⟨qs, hi.mono hB⟩
theorem Limits.Ls.up {B : Nat} {w w' : World} {a : Option Addr} {xs : List Limits} (h : Limits.Ls B w a xs) (u : Up B w w') : Limits.Ls B w' a xs := by
  rcases h with h | ⟨b, o, e, hb, hc⟩
  · exact .inl h
  · exact .inr ⟨b, o, e, hb, fun i hi => (hc i hi).up u hb⟩
theorem Limits.Ls.mono {B B' : Nat} {w : World} {a : Option Addr} {xs : List Limits} (h : Limits.Ls B w a xs) (hB : B' ≤ B) : Limits.Ls B' w a xs := by
  rcases h with h | ⟨b, o, e, hb, hc⟩
  · exact .inl h
  · exact .inr ⟨b, o, e, by omega, fun i hi => (hc i hi).mono hB⟩
def Limits.LB (N : Nat) (x : Limits) : Prop := True
structure GType where
  ty : Int
  mu : Bool
def GType.z : GType := ⟨0, false⟩
def GType.Is (B : Nat) (w : World) (x : GType) : Prop := True
def GType.At (B : Nat) (w : World) (b o : Nat) (x : GType) : Prop := (w.cell? ⟨b, o, none⟩ = some (.int .i64 x.ty) ∧ w.cell? ⟨b, o + 1, none⟩ = some (.bool x.mu)) ∧ GType.Is B w x
def GType.Ls (B : Nat) (w : World) (a : Option Addr) (xs : List GType) : Prop := xs = [] ∨ ∃ b off, a = some ⟨b, off, none⟩ ∧ B ≤ b ∧ ∀ i, i < xs.length → GType.At B w b (off + i * 2) (xs.getD i GType.z)
theorem GType.Is.up {B : Nat} {w w' : World} {x : GType} (h : GType.Is B w x) (u : Up B w w') : GType.Is B w' x := h
theorem GType.Is.mono {B B' : Nat} {w : World} {x : GType} (h : GType.Is B w x) (hB : B' ≤ B) : GType.Is B' w x := h
theorem GType.At.up {B b o : Nat} {w w' : World} {x : GType} (h : GType.At B w b o x) (u : Up B w w') (hb : B ≤ b) : GType.At B w' b o x := by
  obtain ⟨⟨q0, q1⟩, hi⟩ := h
  exact ⟨⟨u.cell hb q0, u.cell hb q1⟩, hi.up u⟩
theorem GType.At.mono {B B' b o : Nat} {w : World} {x : GType} (h : GType.At B w b o x) (hB : B' ≤ B) : GType.At B' w b o x := by
  obtain ⟨qs, hi⟩ := h
  exact ⟨qs, hi.mono hB⟩
theorem GType.Ls.up {B : Nat} {w w' : World} {a : Option Addr} {xs : List GType} (h : GType.Ls B w a xs) (u : Up B w w') : GType.Ls B w' a xs := by
  rcases h with h | ⟨b, o, e, hb, hc⟩
  · exact .inl h
  · exact .inr ⟨b, o, e, hb, fun i hi => (hc i hi).up u hb⟩
theorem GType.Ls.mono {B B' : Nat} {w : World} {a : Option Addr} {xs : List GType} (h : GType.Ls B w a xs) (hB : B' ≤ B) : GType.Ls B' w a xs := by
  rcases h with h | ⟨b, o, e, hb, hc⟩
  · exact .inl h
  · exact .inr ⟨b, o, e, by omega, fun i hi => (hc i hi).mono hB⟩
def GType.LB (N : Nat) (x : GType) : Prop := True
structure FType where
  ps : List Int
  rs : List Int
def FType.z : FType := ⟨[], []⟩
def FType.Is (B : Nat) (w : World) (x : FType) (a1 : Option Addr) (a2 : Option Addr) : Prop := HI .i64 B w a1 x.ps ∧ HI .i64 B w a2 x.rs
def FType.At (B : Nat) (w : World) (b o : Nat) (x : FType) : Prop := ∃ a1 c1 a2 c2, (w.cell? ⟨b, o, none⟩ = some (.slice a1 x.ps.length c1) ∧ w.cell? ⟨b, o + 1, none⟩ = some (.slice a2 x.rs.length c2)) ∧ FType.Is B w x a1 a2
def FType.Ls (B : Nat) (w : World) (a : Option Addr) (xs : List FType) : Prop := xs = [] ∨ ∃ b off, a = some ⟨b, off, none⟩ ∧ B ≤ b ∧ ∀ i, i < xs.length → FType.At B w b (off + i * 2) (xs.getD i FType.z)
theorem FType.Is.up {B : Nat} {w w' : World} {x : FType} {a1 : Option Addr} {a2 : Option Addr} (h : FType.Is B w x a1 a2) (u : Up B w w') : FType.Is B w' x a1 a2 := by
  obtain ⟨h1, h2⟩ := h
  exact ⟨h1.up u, h2.up u⟩
theorem FType.Is.mono {B B' : Nat} {w : World} {x : FType} {a1 : Option Addr} {a2 : Option Addr} (h : FType.Is B w x a1 a2) (hB : B' ≤ B) : FType.Is B' w x a1 a2 := by
  obtain ⟨h1, h2⟩ := h
  exact ⟨h1.mono hB, h2.mono hB⟩
theorem FType.At.up {B b o : Nat} {w w' : World} {x : FType} (h : FType.At B w b o x) (u : Up B w w') (hb : B ≤ b) : FType.At B w' b o x := by
  obtain ⟨a1, c1, a2, c2, ⟨q0, q1⟩, hi⟩ := h
  exact ⟨a1, c1, a2, c2, ⟨u.cell hb q0, u.cell hb q1⟩, hi.up u⟩
theorem FType.At.mono {B B' b o : Nat} {w : World} {x : FType} (h : FType.At B w b o x) (hB : B' ≤ B) : FType.At B' w b o x := by
  obtain ⟨a1, c1, a2, c2, qs, hi⟩ := h
  exact ⟨a1, c1, a2, c2, qs, hi.mono hB⟩
theorem FType.Ls.up {B : Nat} {w w' : World} {a : Option Addr} {xs : List FType} (h : FType.Ls B w a xs) (u : Up B w w') : FType.Ls B w' a xs := by
  rcases h with h | ⟨b, o, e, hb, hc⟩
  · exact .inl h
  · exact .inr ⟨b, o, e, hb, fun i hi => (hc i hi).up u hb⟩
theorem FType.Ls.mono {B B' : Nat} {w : World} {a : Option Addr} {xs : List FType} (h : FType.Ls B w a xs) (hB : B' ≤ B) : FType.Ls B' w a xs := by
  rcases h with h | ⟨b, o, e, hb, hc⟩
  · exact .inl h
  · exact .inr ⟨b, o, e, by omega, fun i hi => (hc i hi).mono hB⟩
def FType.LB (N : Nat) (x : FType) : Prop := x.ps.length ≤ N ∧ x.rs.length ≤ N
def In.Is (B : Nat) (w : World) (x : In) (a1 : Option Addr) : Prop := HI .i64 B w a1 x.l
def In.At (B : Nat) (w : World) (b o : Nat) (x : In) : Prop := ∃ a1 c1, (w.cell? ⟨b, o, none⟩ = some (.int .i64 x.op) ∧ w.cell? ⟨b, o + 1, none⟩ = some (.int .i64 x.a) ∧ w.cell? ⟨b, o + 2, none⟩ = some (.int .i64 x.b) ∧ w.cell? ⟨b, o + 3, none⟩ = some (.int .u64 x.v) ∧ w.cell? ⟨b, o + 4, none⟩ = some (.slice a1 x.l.length c1)) ∧ In.Is B w x a1
def In.Ls (B : Nat) (w : World) (a : Option Addr) (xs : List In) : Prop := xs = [] ∨ ∃ b off, a = some ⟨b, off, none⟩ ∧ B ≤ b ∧ ∀ i, i < xs.length → In.At B w b (off + i * 5) (xs.getD i I0)
theorem In.Is.up {B : Nat} {w w' : World} {x : In} {a1 : Option Addr} (h : In.Is B w x a1) (u : Up B w w') : In.Is B w' x a1 := by
  have h1 := h
  exact HI.up h1 u
theorem In.Is.mono {B B' : Nat} {w : World} {x : In} {a1 : Option Addr} (h : In.Is B w x a1) (hB : B' ≤ B) : In.Is B' w x a1 := by
  have h1 := h
  exact HI.mono h1 hB
theorem In.At.up {B b o : Nat} {w w' : World} {x : In} (h : In.At B w b o x) (u : Up B w w') (hb : B ≤ b) : In.At B w' b o x := by
  obtain ⟨a1, c1, ⟨q0, q1, q2, q3, q4⟩, hi⟩ := h
  exact ⟨a1, c1, ⟨u.cell hb q0, u.cell hb q1, u.cell hb q2, u.cell hb q3, u.cell hb q4⟩, hi.up u⟩
theorem In.At.mono {B B' b o : Nat} {w : World} {x : In} (h : In.At B w b o x) (hB : B' ≤ B) : In.At B' w b o x := by
  obtain ⟨a1, c1, qs, hi⟩ := h
  exact ⟨a1, c1, qs, hi.mono hB⟩
theorem In.Ls.up {B : Nat} {w w' : World} {a : Option Addr} {xs : List In} (h : In.Ls B w a xs) (u : Up B w w') : In.Ls B w' a xs := by
  rcases h with h | ⟨b, o, e, hb, hc⟩
  · exact .inl h
  · exact .inr ⟨b, o, e, hb, fun i hi => (hc i hi).up u hb⟩
theorem In.Ls.mono {B B' : Nat} {w : World} {a : Option Addr} {xs : List In} (h : In.Ls B w a xs) (hB : B' ≤ B) : In.Ls B' w a xs := by
  rcases h with h | ⟨b, o, e, hb, hc⟩
  · exact .inl h
  · exact .inr ⟨b, o, e, by omega, fun i hi => (hc i hi).mono hB⟩
def In.LB (N : Nat) (x : In) : Prop := x.l.length ≤ N
structure Imp where
  mod : ByteArray
  nm : ByteArray
  kind : Int
  ty : Int
  lim : Limits
  gl : GType
def Imp.z : Imp := ⟨⟨#[]⟩, ⟨#[]⟩, 0, 0, Limits.z, GType.z⟩
def Imp.Is (B : Nat) (w : World) (x : Imp) : Prop := True
def Imp.At (B : Nat) (w : World) (b o : Nat) (x : Imp) : Prop := (w.cell? ⟨b, o, none⟩ = some (.string x.mod) ∧ w.cell? ⟨b, o + 1, none⟩ = some (.string x.nm) ∧ w.cell? ⟨b, o + 2, none⟩ = some (.int .i64 x.kind) ∧ w.cell? ⟨b, o + 3, none⟩ = some (.int .i64 x.ty) ∧ w.cell? ⟨b, o + 4, none⟩ = some (.int .i64 x.lim.min) ∧ w.cell? ⟨b, o + 5, none⟩ = some (.int .i64 x.lim.max) ∧ w.cell? ⟨b, o + 6, none⟩ = some (.bool x.lim.has) ∧ w.cell? ⟨b, o + 7, none⟩ = some (.int .i64 x.gl.ty) ∧ w.cell? ⟨b, o + 8, none⟩ = some (.bool x.gl.mu)) ∧ Imp.Is B w x
def Imp.Ls (B : Nat) (w : World) (a : Option Addr) (xs : List Imp) : Prop := xs = [] ∨ ∃ b off, a = some ⟨b, off, none⟩ ∧ B ≤ b ∧ ∀ i, i < xs.length → Imp.At B w b (off + i * 9) (xs.getD i Imp.z)
theorem Imp.Is.up {B : Nat} {w w' : World} {x : Imp} (h : Imp.Is B w x) (u : Up B w w') : Imp.Is B w' x := h
theorem Imp.Is.mono {B B' : Nat} {w : World} {x : Imp} (h : Imp.Is B w x) (hB : B' ≤ B) : Imp.Is B' w x := h
theorem Imp.At.up {B b o : Nat} {w w' : World} {x : Imp} (h : Imp.At B w b o x) (u : Up B w w') (hb : B ≤ b) : Imp.At B w' b o x := by
  obtain ⟨⟨q0, q1, q2, q3, q4, q5, q6, q7, q8⟩, hi⟩ := h
  exact ⟨⟨u.cell hb q0, u.cell hb q1, u.cell hb q2, u.cell hb q3, u.cell hb q4, u.cell hb q5, u.cell hb q6, u.cell hb q7, u.cell hb q8⟩, hi.up u⟩
theorem Imp.At.mono {B B' b o : Nat} {w : World} {x : Imp} (h : Imp.At B w b o x) (hB : B' ≤ B) : Imp.At B' w b o x := by
  obtain ⟨qs, hi⟩ := h
  exact ⟨qs, hi.mono hB⟩
theorem Imp.Ls.up {B : Nat} {w w' : World} {a : Option Addr} {xs : List Imp} (h : Imp.Ls B w a xs) (u : Up B w w') : Imp.Ls B w' a xs := by
  rcases h with h | ⟨b, o, e, hb, hc⟩
  · exact .inl h
  · exact .inr ⟨b, o, e, hb, fun i hi => (hc i hi).up u hb⟩
theorem Imp.Ls.mono {B B' : Nat} {w : World} {a : Option Addr} {xs : List Imp} (h : Imp.Ls B w a xs) (hB : B' ≤ B) : Imp.Ls B' w a xs := by
  rcases h with h | ⟨b, o, e, hb, hc⟩
  · exact .inl h
  · exact .inr ⟨b, o, e, by omega, fun i hi => (hc i hi).mono hB⟩
def Imp.LB (N : Nat) (x : Imp) : Prop := x.mod.size ≤ N ∧ x.nm.size ≤ N
structure Glob where
  ty : GType
  ini : List In
def Glob.z : Glob := ⟨GType.z, []⟩
def Glob.Is (B : Nat) (w : World) (x : Glob) (a1 : Option Addr) : Prop := In.Ls B w a1 x.ini
def Glob.At (B : Nat) (w : World) (b o : Nat) (x : Glob) : Prop := ∃ a1 c1, (w.cell? ⟨b, o, none⟩ = some (.int .i64 x.ty.ty) ∧ w.cell? ⟨b, o + 1, none⟩ = some (.bool x.ty.mu) ∧ w.cell? ⟨b, o + 2, none⟩ = some (.slice a1 x.ini.length c1)) ∧ Glob.Is B w x a1
def Glob.Ls (B : Nat) (w : World) (a : Option Addr) (xs : List Glob) : Prop := xs = [] ∨ ∃ b off, a = some ⟨b, off, none⟩ ∧ B ≤ b ∧ ∀ i, i < xs.length → Glob.At B w b (off + i * 3) (xs.getD i Glob.z)
theorem Glob.Is.up {B : Nat} {w w' : World} {x : Glob} {a1 : Option Addr} (h : Glob.Is B w x a1) (u : Up B w w') : Glob.Is B w' x a1 := by
  have h1 := h
  exact In.Ls.up h1 u
theorem Glob.Is.mono {B B' : Nat} {w : World} {x : Glob} {a1 : Option Addr} (h : Glob.Is B w x a1) (hB : B' ≤ B) : Glob.Is B' w x a1 := by
  have h1 := h
  exact In.Ls.mono h1 hB
theorem Glob.At.up {B b o : Nat} {w w' : World} {x : Glob} (h : Glob.At B w b o x) (u : Up B w w') (hb : B ≤ b) : Glob.At B w' b o x := by
  obtain ⟨a1, c1, ⟨q0, q1, q2⟩, hi⟩ := h
  exact ⟨a1, c1, ⟨u.cell hb q0, u.cell hb q1, u.cell hb q2⟩, hi.up u⟩
theorem Glob.At.mono {B B' b o : Nat} {w : World} {x : Glob} (h : Glob.At B w b o x) (hB : B' ≤ B) : Glob.At B' w b o x := by
  obtain ⟨a1, c1, qs, hi⟩ := h
  exact ⟨a1, c1, qs, hi.mono hB⟩
theorem Glob.Ls.up {B : Nat} {w w' : World} {a : Option Addr} {xs : List Glob} (h : Glob.Ls B w a xs) (u : Up B w w') : Glob.Ls B w' a xs := by
  rcases h with h | ⟨b, o, e, hb, hc⟩
  · exact .inl h
  · exact .inr ⟨b, o, e, hb, fun i hi => (hc i hi).up u hb⟩
theorem Glob.Ls.mono {B B' : Nat} {w : World} {a : Option Addr} {xs : List Glob} (h : Glob.Ls B w a xs) (hB : B' ≤ B) : Glob.Ls B' w a xs := by
  rcases h with h | ⟨b, o, e, hb, hc⟩
  · exact .inl h
  · exact .inr ⟨b, o, e, by omega, fun i hi => (hc i hi).mono hB⟩
def Glob.LB (N : Nat) (x : Glob) : Prop := (x.ini.length ≤ N ∧ ∀ i, i < x.ini.length → In.LB N (x.ini.getD i I0))
structure Exp where
  nm : ByteArray
  kind : Int
  ix : Int
def Exp.z : Exp := ⟨⟨#[]⟩, 0, 0⟩
def Exp.Is (B : Nat) (w : World) (x : Exp) : Prop := True
def Exp.At (B : Nat) (w : World) (b o : Nat) (x : Exp) : Prop := (w.cell? ⟨b, o, none⟩ = some (.string x.nm) ∧ w.cell? ⟨b, o + 1, none⟩ = some (.int .i64 x.kind) ∧ w.cell? ⟨b, o + 2, none⟩ = some (.int .i64 x.ix)) ∧ Exp.Is B w x
def Exp.Ls (B : Nat) (w : World) (a : Option Addr) (xs : List Exp) : Prop := xs = [] ∨ ∃ b off, a = some ⟨b, off, none⟩ ∧ B ≤ b ∧ ∀ i, i < xs.length → Exp.At B w b (off + i * 3) (xs.getD i Exp.z)
theorem Exp.Is.up {B : Nat} {w w' : World} {x : Exp} (h : Exp.Is B w x) (u : Up B w w') : Exp.Is B w' x := h
theorem Exp.Is.mono {B B' : Nat} {w : World} {x : Exp} (h : Exp.Is B w x) (hB : B' ≤ B) : Exp.Is B' w x := h
theorem Exp.At.up {B b o : Nat} {w w' : World} {x : Exp} (h : Exp.At B w b o x) (u : Up B w w') (hb : B ≤ b) : Exp.At B w' b o x := by
  obtain ⟨⟨q0, q1, q2⟩, hi⟩ := h
  exact ⟨⟨u.cell hb q0, u.cell hb q1, u.cell hb q2⟩, hi.up u⟩
theorem Exp.At.mono {B B' b o : Nat} {w : World} {x : Exp} (h : Exp.At B w b o x) (hB : B' ≤ B) : Exp.At B' w b o x := by
  obtain ⟨qs, hi⟩ := h
  exact ⟨qs, hi.mono hB⟩
theorem Exp.Ls.up {B : Nat} {w w' : World} {a : Option Addr} {xs : List Exp} (h : Exp.Ls B w a xs) (u : Up B w w') : Exp.Ls B w' a xs := by
  rcases h with h | ⟨b, o, e, hb, hc⟩
  · exact .inl h
  · exact .inr ⟨b, o, e, hb, fun i hi => (hc i hi).up u hb⟩
theorem Exp.Ls.mono {B B' : Nat} {w : World} {a : Option Addr} {xs : List Exp} (h : Exp.Ls B w a xs) (hB : B' ≤ B) : Exp.Ls B' w a xs := by
  rcases h with h | ⟨b, o, e, hb, hc⟩
  · exact .inl h
  · exact .inr ⟨b, o, e, by omega, fun i hi => (hc i hi).mono hB⟩
def Exp.LB (N : Nat) (x : Exp) : Prop := x.nm.size ≤ N
structure Ele where
  off : List In
  fs : List Int
def Ele.z : Ele := ⟨[], []⟩
def Ele.Is (B : Nat) (w : World) (x : Ele) (a1 : Option Addr) (a2 : Option Addr) : Prop := In.Ls B w a1 x.off ∧ HI .i64 B w a2 x.fs
def Ele.At (B : Nat) (w : World) (b o : Nat) (x : Ele) : Prop := ∃ a1 c1 a2 c2, (w.cell? ⟨b, o, none⟩ = some (.slice a1 x.off.length c1) ∧ w.cell? ⟨b, o + 1, none⟩ = some (.slice a2 x.fs.length c2)) ∧ Ele.Is B w x a1 a2
def Ele.Ls (B : Nat) (w : World) (a : Option Addr) (xs : List Ele) : Prop := xs = [] ∨ ∃ b off, a = some ⟨b, off, none⟩ ∧ B ≤ b ∧ ∀ i, i < xs.length → Ele.At B w b (off + i * 2) (xs.getD i Ele.z)
theorem Ele.Is.up {B : Nat} {w w' : World} {x : Ele} {a1 : Option Addr} {a2 : Option Addr} (h : Ele.Is B w x a1 a2) (u : Up B w w') : Ele.Is B w' x a1 a2 := by
  obtain ⟨h1, h2⟩ := h
  exact ⟨h1.up u, h2.up u⟩
theorem Ele.Is.mono {B B' : Nat} {w : World} {x : Ele} {a1 : Option Addr} {a2 : Option Addr} (h : Ele.Is B w x a1 a2) (hB : B' ≤ B) : Ele.Is B' w x a1 a2 := by
  obtain ⟨h1, h2⟩ := h
  exact ⟨h1.mono hB, h2.mono hB⟩
theorem Ele.At.up {B b o : Nat} {w w' : World} {x : Ele} (h : Ele.At B w b o x) (u : Up B w w') (hb : B ≤ b) : Ele.At B w' b o x := by
  obtain ⟨a1, c1, a2, c2, ⟨q0, q1⟩, hi⟩ := h
  exact ⟨a1, c1, a2, c2, ⟨u.cell hb q0, u.cell hb q1⟩, hi.up u⟩
theorem Ele.At.mono {B B' b o : Nat} {w : World} {x : Ele} (h : Ele.At B w b o x) (hB : B' ≤ B) : Ele.At B' w b o x := by
  obtain ⟨a1, c1, a2, c2, qs, hi⟩ := h
  exact ⟨a1, c1, a2, c2, qs, hi.mono hB⟩
theorem Ele.Ls.up {B : Nat} {w w' : World} {a : Option Addr} {xs : List Ele} (h : Ele.Ls B w a xs) (u : Up B w w') : Ele.Ls B w' a xs := by
  rcases h with h | ⟨b, o, e, hb, hc⟩
  · exact .inl h
  · exact .inr ⟨b, o, e, hb, fun i hi => (hc i hi).up u hb⟩
theorem Ele.Ls.mono {B B' : Nat} {w : World} {a : Option Addr} {xs : List Ele} (h : Ele.Ls B w a xs) (hB : B' ≤ B) : Ele.Ls B' w a xs := by
  rcases h with h | ⟨b, o, e, hb, hc⟩
  · exact .inl h
  · exact .inr ⟨b, o, e, by omega, fun i hi => (hc i hi).mono hB⟩
def Ele.LB (N : Nat) (x : Ele) : Prop := (x.off.length ≤ N ∧ ∀ i, i < x.off.length → In.LB N (x.off.getD i I0)) ∧ x.fs.length ≤ N
structure Grp where
  n : Int
  ty : Int
def Grp.z : Grp := ⟨0, 0⟩
def Grp.Is (B : Nat) (w : World) (x : Grp) : Prop := True
def Grp.At (B : Nat) (w : World) (b o : Nat) (x : Grp) : Prop := (w.cell? ⟨b, o, none⟩ = some (.int .i64 x.n) ∧ w.cell? ⟨b, o + 1, none⟩ = some (.int .i64 x.ty)) ∧ Grp.Is B w x
def Grp.Ls (B : Nat) (w : World) (a : Option Addr) (xs : List Grp) : Prop := xs = [] ∨ ∃ b off, a = some ⟨b, off, none⟩ ∧ B ≤ b ∧ ∀ i, i < xs.length → Grp.At B w b (off + i * 2) (xs.getD i Grp.z)
theorem Grp.Is.up {B : Nat} {w w' : World} {x : Grp} (h : Grp.Is B w x) (u : Up B w w') : Grp.Is B w' x := h
theorem Grp.Is.mono {B B' : Nat} {w : World} {x : Grp} (h : Grp.Is B w x) (hB : B' ≤ B) : Grp.Is B' w x := h
theorem Grp.At.up {B b o : Nat} {w w' : World} {x : Grp} (h : Grp.At B w b o x) (u : Up B w w') (hb : B ≤ b) : Grp.At B w' b o x := by
  obtain ⟨⟨q0, q1⟩, hi⟩ := h
  exact ⟨⟨u.cell hb q0, u.cell hb q1⟩, hi.up u⟩
theorem Grp.At.mono {B B' b o : Nat} {w : World} {x : Grp} (h : Grp.At B w b o x) (hB : B' ≤ B) : Grp.At B' w b o x := by
  obtain ⟨qs, hi⟩ := h
  exact ⟨qs, hi.mono hB⟩
theorem Grp.Ls.up {B : Nat} {w w' : World} {a : Option Addr} {xs : List Grp} (h : Grp.Ls B w a xs) (u : Up B w w') : Grp.Ls B w' a xs := by
  rcases h with h | ⟨b, o, e, hb, hc⟩
  · exact .inl h
  · exact .inr ⟨b, o, e, hb, fun i hi => (hc i hi).up u hb⟩
theorem Grp.Ls.mono {B B' : Nat} {w : World} {a : Option Addr} {xs : List Grp} (h : Grp.Ls B w a xs) (hB : B' ≤ B) : Grp.Ls B' w a xs := by
  rcases h with h | ⟨b, o, e, hb, hc⟩
  · exact .inl h
  · exact .inr ⟨b, o, e, by omega, fun i hi => (hc i hi).mono hB⟩
def Grp.LB (N : Nat) (x : Grp) : Prop := True
structure Cod where
  locs : List Grp
  body : List In
def Cod.z : Cod := ⟨[], []⟩
def Cod.Is (B : Nat) (w : World) (x : Cod) (a1 : Option Addr) (a2 : Option Addr) : Prop := Grp.Ls B w a1 x.locs ∧ In.Ls B w a2 x.body
def Cod.At (B : Nat) (w : World) (b o : Nat) (x : Cod) : Prop := ∃ a1 c1 a2 c2, (w.cell? ⟨b, o, none⟩ = some (.slice a1 x.locs.length c1) ∧ w.cell? ⟨b, o + 1, none⟩ = some (.slice a2 x.body.length c2)) ∧ Cod.Is B w x a1 a2
def Cod.Ls (B : Nat) (w : World) (a : Option Addr) (xs : List Cod) : Prop := xs = [] ∨ ∃ b off, a = some ⟨b, off, none⟩ ∧ B ≤ b ∧ ∀ i, i < xs.length → Cod.At B w b (off + i * 2) (xs.getD i Cod.z)
theorem Cod.Is.up {B : Nat} {w w' : World} {x : Cod} {a1 : Option Addr} {a2 : Option Addr} (h : Cod.Is B w x a1 a2) (u : Up B w w') : Cod.Is B w' x a1 a2 := by
  obtain ⟨h1, h2⟩ := h
  exact ⟨h1.up u, h2.up u⟩
theorem Cod.Is.mono {B B' : Nat} {w : World} {x : Cod} {a1 : Option Addr} {a2 : Option Addr} (h : Cod.Is B w x a1 a2) (hB : B' ≤ B) : Cod.Is B' w x a1 a2 := by
  obtain ⟨h1, h2⟩ := h
  exact ⟨h1.mono hB, h2.mono hB⟩
theorem Cod.At.up {B b o : Nat} {w w' : World} {x : Cod} (h : Cod.At B w b o x) (u : Up B w w') (hb : B ≤ b) : Cod.At B w' b o x := by
  obtain ⟨a1, c1, a2, c2, ⟨q0, q1⟩, hi⟩ := h
  exact ⟨a1, c1, a2, c2, ⟨u.cell hb q0, u.cell hb q1⟩, hi.up u⟩
theorem Cod.At.mono {B B' b o : Nat} {w : World} {x : Cod} (h : Cod.At B w b o x) (hB : B' ≤ B) : Cod.At B' w b o x := by
  obtain ⟨a1, c1, a2, c2, qs, hi⟩ := h
  exact ⟨a1, c1, a2, c2, qs, hi.mono hB⟩
theorem Cod.Ls.up {B : Nat} {w w' : World} {a : Option Addr} {xs : List Cod} (h : Cod.Ls B w a xs) (u : Up B w w') : Cod.Ls B w' a xs := by
  rcases h with h | ⟨b, o, e, hb, hc⟩
  · exact .inl h
  · exact .inr ⟨b, o, e, hb, fun i hi => (hc i hi).up u hb⟩
theorem Cod.Ls.mono {B B' : Nat} {w : World} {a : Option Addr} {xs : List Cod} (h : Cod.Ls B w a xs) (hB : B' ≤ B) : Cod.Ls B' w a xs := by
  rcases h with h | ⟨b, o, e, hb, hc⟩
  · exact .inl h
  · exact .inr ⟨b, o, e, by omega, fun i hi => (hc i hi).mono hB⟩
def Cod.LB (N : Nat) (x : Cod) : Prop := (x.locs.length ≤ N ∧ ∀ i, i < x.locs.length → Grp.LB N (x.locs.getD i Grp.z)) ∧ (x.body.length ≤ N ∧ ∀ i, i < x.body.length → In.LB N (x.body.getD i I0))
structure Dat where
  off : List In
  bs : List Int
def Dat.z : Dat := ⟨[], []⟩
def Dat.Is (B : Nat) (w : World) (x : Dat) (a1 : Option Addr) (a2 : Option Addr) : Prop := In.Ls B w a1 x.off ∧ HI .u8 B w a2 x.bs
def Dat.At (B : Nat) (w : World) (b o : Nat) (x : Dat) : Prop := ∃ a1 c1 a2 c2, (w.cell? ⟨b, o, none⟩ = some (.slice a1 x.off.length c1) ∧ w.cell? ⟨b, o + 1, none⟩ = some (.slice a2 x.bs.length c2)) ∧ Dat.Is B w x a1 a2
def Dat.Ls (B : Nat) (w : World) (a : Option Addr) (xs : List Dat) : Prop := xs = [] ∨ ∃ b off, a = some ⟨b, off, none⟩ ∧ B ≤ b ∧ ∀ i, i < xs.length → Dat.At B w b (off + i * 2) (xs.getD i Dat.z)
theorem Dat.Is.up {B : Nat} {w w' : World} {x : Dat} {a1 : Option Addr} {a2 : Option Addr} (h : Dat.Is B w x a1 a2) (u : Up B w w') : Dat.Is B w' x a1 a2 := by
  obtain ⟨h1, h2⟩ := h
  exact ⟨h1.up u, h2.up u⟩
theorem Dat.Is.mono {B B' : Nat} {w : World} {x : Dat} {a1 : Option Addr} {a2 : Option Addr} (h : Dat.Is B w x a1 a2) (hB : B' ≤ B) : Dat.Is B' w x a1 a2 := by
  obtain ⟨h1, h2⟩ := h
  exact ⟨h1.mono hB, h2.mono hB⟩
theorem Dat.At.up {B b o : Nat} {w w' : World} {x : Dat} (h : Dat.At B w b o x) (u : Up B w w') (hb : B ≤ b) : Dat.At B w' b o x := by
  obtain ⟨a1, c1, a2, c2, ⟨q0, q1⟩, hi⟩ := h
  exact ⟨a1, c1, a2, c2, ⟨u.cell hb q0, u.cell hb q1⟩, hi.up u⟩
theorem Dat.At.mono {B B' b o : Nat} {w : World} {x : Dat} (h : Dat.At B w b o x) (hB : B' ≤ B) : Dat.At B' w b o x := by
  obtain ⟨a1, c1, a2, c2, qs, hi⟩ := h
  exact ⟨a1, c1, a2, c2, qs, hi.mono hB⟩
theorem Dat.Ls.up {B : Nat} {w w' : World} {a : Option Addr} {xs : List Dat} (h : Dat.Ls B w a xs) (u : Up B w w') : Dat.Ls B w' a xs := by
  rcases h with h | ⟨b, o, e, hb, hc⟩
  · exact .inl h
  · exact .inr ⟨b, o, e, hb, fun i hi => (hc i hi).up u hb⟩
theorem Dat.Ls.mono {B B' : Nat} {w : World} {a : Option Addr} {xs : List Dat} (h : Dat.Ls B w a xs) (hB : B' ≤ B) : Dat.Ls B' w a xs := by
  rcases h with h | ⟨b, o, e, hb, hc⟩
  · exact .inl h
  · exact .inr ⟨b, o, e, by omega, fun i hi => (hc i hi).mono hB⟩
def Dat.LB (N : Nat) (x : Dat) : Prop := (x.off.length ≤ N ∧ ∀ i, i < x.off.length → In.LB N (x.off.getD i I0)) ∧ x.bs.length ≤ N
structure Cus where
  aft : Int
  nm : ByteArray
  bs : List Int
def Cus.z : Cus := ⟨0, ⟨#[]⟩, []⟩
def Cus.Is (B : Nat) (w : World) (x : Cus) (a1 : Option Addr) : Prop := HI .u8 B w a1 x.bs
def Cus.At (B : Nat) (w : World) (b o : Nat) (x : Cus) : Prop := ∃ a1 c1, (w.cell? ⟨b, o, none⟩ = some (.int .i64 x.aft) ∧ w.cell? ⟨b, o + 1, none⟩ = some (.string x.nm) ∧ w.cell? ⟨b, o + 2, none⟩ = some (.slice a1 x.bs.length c1)) ∧ Cus.Is B w x a1
def Cus.Ls (B : Nat) (w : World) (a : Option Addr) (xs : List Cus) : Prop := xs = [] ∨ ∃ b off, a = some ⟨b, off, none⟩ ∧ B ≤ b ∧ ∀ i, i < xs.length → Cus.At B w b (off + i * 3) (xs.getD i Cus.z)
theorem Cus.Is.up {B : Nat} {w w' : World} {x : Cus} {a1 : Option Addr} (h : Cus.Is B w x a1) (u : Up B w w') : Cus.Is B w' x a1 := by
  have h1 := h
  exact HI.up h1 u
theorem Cus.Is.mono {B B' : Nat} {w : World} {x : Cus} {a1 : Option Addr} (h : Cus.Is B w x a1) (hB : B' ≤ B) : Cus.Is B' w x a1 := by
  have h1 := h
  exact HI.mono h1 hB
theorem Cus.At.up {B b o : Nat} {w w' : World} {x : Cus} (h : Cus.At B w b o x) (u : Up B w w') (hb : B ≤ b) : Cus.At B w' b o x := by
  obtain ⟨a1, c1, ⟨q0, q1, q2⟩, hi⟩ := h
  exact ⟨a1, c1, ⟨u.cell hb q0, u.cell hb q1, u.cell hb q2⟩, hi.up u⟩
theorem Cus.At.mono {B B' b o : Nat} {w : World} {x : Cus} (h : Cus.At B w b o x) (hB : B' ≤ B) : Cus.At B' w b o x := by
  obtain ⟨a1, c1, qs, hi⟩ := h
  exact ⟨a1, c1, qs, hi.mono hB⟩
theorem Cus.Ls.up {B : Nat} {w w' : World} {a : Option Addr} {xs : List Cus} (h : Cus.Ls B w a xs) (u : Up B w w') : Cus.Ls B w' a xs := by
  rcases h with h | ⟨b, o, e, hb, hc⟩
  · exact .inl h
  · exact .inr ⟨b, o, e, hb, fun i hi => (hc i hi).up u hb⟩
theorem Cus.Ls.mono {B B' : Nat} {w : World} {a : Option Addr} {xs : List Cus} (h : Cus.Ls B w a xs) (hB : B' ≤ B) : Cus.Ls B' w a xs := by
  rcases h with h | ⟨b, o, e, hb, hc⟩
  · exact .inl h
  · exact .inr ⟨b, o, e, by omega, fun i hi => (hc i hi).mono hB⟩
def Cus.LB (N : Nat) (x : Cus) : Prop := x.nm.size ≤ N ∧ x.bs.length ≤ N
structure Mod where
  types : List FType
  imps : List Imp
  funcs : List Int
  tabs : List Limits
  mems : List Limits
  globs : List Glob
  exps : List Exp
  hasS : Bool
  start : Int
  elems : List Ele
  codes : List Cod
  datas : List Dat
  customs : List Cus
def Mod.z : Mod := ⟨[], [], [], [], [], [], [], false, 0, [], [], [], []⟩
def Mod.Is (B : Nat) (w : World) (x : Mod) (a1 : Option Addr) (a2 : Option Addr) (a3 : Option Addr) (a4 : Option Addr) (a5 : Option Addr) (a6 : Option Addr) (a7 : Option Addr) (a8 : Option Addr) (a9 : Option Addr) (a10 : Option Addr) (a11 : Option Addr) : Prop := FType.Ls B w a1 x.types ∧ Imp.Ls B w a2 x.imps ∧ HI .i64 B w a3 x.funcs ∧ Limits.Ls B w a4 x.tabs ∧ Limits.Ls B w a5 x.mems ∧ Glob.Ls B w a6 x.globs ∧ Exp.Ls B w a7 x.exps ∧ Ele.Ls B w a8 x.elems ∧ Cod.Ls B w a9 x.codes ∧ Dat.Ls B w a10 x.datas ∧ Cus.Ls B w a11 x.customs
def Mod.At (B : Nat) (w : World) (b o : Nat) (x : Mod) : Prop := ∃ a1 c1 a2 c2 a3 c3 a4 c4 a5 c5 a6 c6 a7 c7 a8 c8 a9 c9 a10 c10 a11 c11, (w.cell? ⟨b, o, none⟩ = some (.slice a1 x.types.length c1) ∧ w.cell? ⟨b, o + 1, none⟩ = some (.slice a2 x.imps.length c2) ∧ w.cell? ⟨b, o + 2, none⟩ = some (.slice a3 x.funcs.length c3) ∧ w.cell? ⟨b, o + 3, none⟩ = some (.slice a4 x.tabs.length c4) ∧ w.cell? ⟨b, o + 4, none⟩ = some (.slice a5 x.mems.length c5) ∧ w.cell? ⟨b, o + 5, none⟩ = some (.slice a6 x.globs.length c6) ∧ w.cell? ⟨b, o + 6, none⟩ = some (.slice a7 x.exps.length c7) ∧ w.cell? ⟨b, o + 7, none⟩ = some (.bool x.hasS) ∧ w.cell? ⟨b, o + 8, none⟩ = some (.int .i64 x.start) ∧ w.cell? ⟨b, o + 9, none⟩ = some (.slice a8 x.elems.length c8) ∧ w.cell? ⟨b, o + 10, none⟩ = some (.slice a9 x.codes.length c9) ∧ w.cell? ⟨b, o + 11, none⟩ = some (.slice a10 x.datas.length c10) ∧ w.cell? ⟨b, o + 12, none⟩ = some (.slice a11 x.customs.length c11)) ∧ Mod.Is B w x a1 a2 a3 a4 a5 a6 a7 a8 a9 a10 a11
def Mod.Ls (B : Nat) (w : World) (a : Option Addr) (xs : List Mod) : Prop := xs = [] ∨ ∃ b off, a = some ⟨b, off, none⟩ ∧ B ≤ b ∧ ∀ i, i < xs.length → Mod.At B w b (off + i * 13) (xs.getD i Mod.z)
theorem Mod.Is.up {B : Nat} {w w' : World} {x : Mod} {a1 : Option Addr} {a2 : Option Addr} {a3 : Option Addr} {a4 : Option Addr} {a5 : Option Addr} {a6 : Option Addr} {a7 : Option Addr} {a8 : Option Addr} {a9 : Option Addr} {a10 : Option Addr} {a11 : Option Addr} (h : Mod.Is B w x a1 a2 a3 a4 a5 a6 a7 a8 a9 a10 a11) (u : Up B w w') : Mod.Is B w' x a1 a2 a3 a4 a5 a6 a7 a8 a9 a10 a11 := by
  obtain ⟨h1, h2, h3, h4, h5, h6, h7, h8, h9, h10, h11⟩ := h
  exact ⟨h1.up u, h2.up u, h3.up u, h4.up u, h5.up u, h6.up u, h7.up u, h8.up u, h9.up u, h10.up u, h11.up u⟩
theorem Mod.Is.mono {B B' : Nat} {w : World} {x : Mod} {a1 : Option Addr} {a2 : Option Addr} {a3 : Option Addr} {a4 : Option Addr} {a5 : Option Addr} {a6 : Option Addr} {a7 : Option Addr} {a8 : Option Addr} {a9 : Option Addr} {a10 : Option Addr} {a11 : Option Addr} (h : Mod.Is B w x a1 a2 a3 a4 a5 a6 a7 a8 a9 a10 a11) (hB : B' ≤ B) : Mod.Is B' w x a1 a2 a3 a4 a5 a6 a7 a8 a9 a10 a11 := by
  obtain ⟨h1, h2, h3, h4, h5, h6, h7, h8, h9, h10, h11⟩ := h
  exact ⟨h1.mono hB, h2.mono hB, h3.mono hB, h4.mono hB, h5.mono hB, h6.mono hB, h7.mono hB, h8.mono hB, h9.mono hB, h10.mono hB, h11.mono hB⟩
theorem Mod.At.up {B b o : Nat} {w w' : World} {x : Mod} (h : Mod.At B w b o x) (u : Up B w w') (hb : B ≤ b) : Mod.At B w' b o x := by
  obtain ⟨a1, c1, a2, c2, a3, c3, a4, c4, a5, c5, a6, c6, a7, c7, a8, c8, a9, c9, a10, c10, a11, c11, ⟨q0, q1, q2, q3, q4, q5, q6, q7, q8, q9, q10, q11, q12⟩, hi⟩ := h
  exact ⟨a1, c1, a2, c2, a3, c3, a4, c4, a5, c5, a6, c6, a7, c7, a8, c8, a9, c9, a10, c10, a11, c11, ⟨u.cell hb q0, u.cell hb q1, u.cell hb q2, u.cell hb q3, u.cell hb q4, u.cell hb q5, u.cell hb q6, u.cell hb q7, u.cell hb q8, u.cell hb q9, u.cell hb q10, u.cell hb q11, u.cell hb q12⟩, hi.up u⟩
theorem Mod.At.mono {B B' b o : Nat} {w : World} {x : Mod} (h : Mod.At B w b o x) (hB : B' ≤ B) : Mod.At B' w b o x := by
  obtain ⟨a1, c1, a2, c2, a3, c3, a4, c4, a5, c5, a6, c6, a7, c7, a8, c8, a9, c9, a10, c10, a11, c11, qs, hi⟩ := h
  exact ⟨a1, c1, a2, c2, a3, c3, a4, c4, a5, c5, a6, c6, a7, c7, a8, c8, a9, c9, a10, c10, a11, c11, qs, hi.mono hB⟩
theorem Mod.Ls.up {B : Nat} {w w' : World} {a : Option Addr} {xs : List Mod} (h : Mod.Ls B w a xs) (u : Up B w w') : Mod.Ls B w' a xs := by
  rcases h with h | ⟨b, o, e, hb, hc⟩
  · exact .inl h
  · exact .inr ⟨b, o, e, hb, fun i hi => (hc i hi).up u hb⟩
theorem Mod.Ls.mono {B B' : Nat} {w : World} {a : Option Addr} {xs : List Mod} (h : Mod.Ls B w a xs) (hB : B' ≤ B) : Mod.Ls B' w a xs := by
  rcases h with h | ⟨b, o, e, hb, hc⟩
  · exact .inl h
  · exact .inr ⟨b, o, e, by omega, fun i hi => (hc i hi).mono hB⟩
def Mod.LB (N : Nat) (x : Mod) : Prop := (x.types.length ≤ N ∧ ∀ i, i < x.types.length → FType.LB N (x.types.getD i FType.z)) ∧ (x.imps.length ≤ N ∧ ∀ i, i < x.imps.length → Imp.LB N (x.imps.getD i Imp.z)) ∧ x.funcs.length ≤ N ∧ (x.tabs.length ≤ N ∧ ∀ i, i < x.tabs.length → Limits.LB N (x.tabs.getD i Limits.z)) ∧ (x.mems.length ≤ N ∧ ∀ i, i < x.mems.length → Limits.LB N (x.mems.getD i Limits.z)) ∧ (x.globs.length ≤ N ∧ ∀ i, i < x.globs.length → Glob.LB N (x.globs.getD i Glob.z)) ∧ (x.exps.length ≤ N ∧ ∀ i, i < x.exps.length → Exp.LB N (x.exps.getD i Exp.z)) ∧ (x.elems.length ≤ N ∧ ∀ i, i < x.elems.length → Ele.LB N (x.elems.getD i Ele.z)) ∧ (x.codes.length ≤ N ∧ ∀ i, i < x.codes.length → Cod.LB N (x.codes.getD i Cod.z)) ∧ (x.datas.length ≤ N ∧ ∀ i, i < x.datas.length → Dat.LB N (x.datas.getD i Dat.z)) ∧ (x.customs.length ≤ N ∧ ∀ i, i < x.customs.length → Cus.LB N (x.customs.getD i Cus.z))
theorem In.Ls.lst {B : Nat} {w : World} {a : Option Addr} {xs : List In} (h : In.Ls B w a xs) : Lst w a xs := by
  rcases h with h | ⟨b, o, e, hb, hc⟩
  · exact .inl h
  · refine .inr ⟨b, o, e, fun i hi => ?_⟩
    obtain ⟨a1, c1, ⟨q0, q1, q2, q3, q4⟩, hi⟩ := hc i hi
    exact ⟨a1, c1, q0, q1, q2, q3, q4, HI.has hi⟩
end Go.Proofs.Yteaegmlnacnofaa
