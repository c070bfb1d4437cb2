import Derived.Test.YteaegmlnacnofaaPr2
set_option linter.all false
set_option linter.unusedVariables false
namespace Go.Proofs.Yteaegmlnacnofaa
open Go.RowKit Go.Sort
set_option maxRecDepth 100000
def zo (o : List Nat) : List Int := o.map fun (j : Nat) => (j : Int)
theorem zo_len (o : List Nat) : (zo o).length = o.length := by simp [zo]
theorem zo_app (o : List Nat) (k : Nat) : zo (o ++ [k]) = zo o ++ [(k : Int)] := by simp [zo]
def fE (P : List (Int × Int)) (m : Nat) : List Int := (P.take m).map (·.1)
def fS (P : List (Int × Int)) (m : Nat) : List Int := (P.take m).map (·.2)
theorem fE_len {P : List (Int × Int)} {m : Nat} (h : m ≤ P.length) : (fE P m).length = m := by simp [fE]; omega
theorem fS_len {P : List (Int × Int)} {m : Nat} (h : m ≤ P.length) : (fS P m).length = m := by simp [fS]; omega
theorem take_push {α : Type} (P : List α) (k : Nat) (z : α) (h : P[k]? = some z) : P.take (k + 1) = P.take k ++ [z] := by
  rw [List.take_add_one, h]; rfl
theorem fE_push {P : List (Int × Int)} {k : Nat} (h : P[k]? = some (-1, -1)) : fE P (k + 1) = fE P k ++ [-1] := by simp [fE, take_push P k _ h]
theorem fS_push {P : List (Int × Int)} {k : Nat} (h : P[k]? = some (-1, -1)) : fS P (k + 1) = fS P k ++ [-1] := by simp [fS, take_push P k _ h]
theorem fE_set (P : List (Int × Int)) (m j : Nat) (q : Int × Int) : fE (P.set j q) m = (fE P m).set j q.1 := by simp [fE, List.take_set, List.map_set]
theorem fS_set (P : List (Int × Int)) (m j : Nat) (q : Int × Int) : fS (P.set j q) m = (fS P m).set j q.2 := by simp [fS, List.take_set, List.map_set]
theorem fE_same (P : List (Int × Int)) (m j : Nat) (z : Int) : fE (P.set j ((P.getD j (-1, -1)).1, z)) m = fE P m := by
  rw [fE_set]
  apply List.ext_getElem?
  intro i
  by_cases e : j = i
  · subst e
    by_cases hj : j < (fE P m).length
    · rw [List.getElem?_set_self hj]
      have h1 : j < P.length := by simp [fE] at hj; omega
      have h2 : j < m := by simp [fE] at hj; omega
      simp [fE, h1, h2, List.getD]
    · rw [List.getElem?_eq_none (by simpa using hj), List.getElem?_eq_none (by simpa using hj)]
  · rw [List.getElem?_set_ne e]
theorem fS_same (P : List (Int × Int)) (m j : Nat) (z : Int) : fS (P.set j (z, (P.getD j (-1, -1)).2)) m = fS P m := by
  rw [fS_set]
  apply List.ext_getElem?
  intro i
  by_cases e : j = i
  · subst e
    by_cases hj : j < (fS P m).length
    · rw [List.getElem?_set_self hj]
      have h1 : j < P.length := by simp [fS] at hj; omega
      have h2 : j < m := by simp [fS] at hj; omega
      simp [fS, h1, h2, List.getD]
    · rw [List.getElem?_eq_none (by simpa using hj), List.getElem?_eq_none (by simpa using hj)]
  · rw [List.getElem?_set_ne e]
/-- A row of numbers of the call's own. -/
abbrev RI (V : World) (B : Nat) (v : Value) (E : List Int) : Prop := V.ownsRow B 2 1 v E.length (I E)
def Dj (u v : Value) : Prop := ∀ k, u.ownBlock = some k → v.ownBlock ≠ some k
theorem Dj.symm {u v : Value} (h : Dj u v) : Dj v u := fun k hk hu => h k hu hk
theorem RI.grown {V V1 : World} {B : Nat} {v u : Value} {E : List Int} {ob : Obj} (h : RI V B v E) (hg : (V.alloc ob).grownBy V1 u.ownBlock) (d : Dj v u) : RI V1 B v E :=
  (h.alloc ob).kept hg (by
    cases hv : v.ownBlock with
    | none => exact .inl rfl
    | some k => exact .inr (fun e => d k hv e.symm))
theorem Dj.new {V : World} {B : Nat} {v u u' : Value} {E : List Int} {ob : Obj} (d : Dj v u) (h : RI V B v E) (hl : u'.ownBlock = u.ownBlock ∨ u'.ownBlock = some (V.alloc ob).heap.size) : Dj v u' := by
  intro k hk
  rcases hl with e | e
  · rw [e]; exact d k hk
  · rw [e]; intro e'
    injection e' with e'
    have := (h.lt k hk).2
    simp at e'; omega
/-- The specification's state: its struct g, the rows of ends and elses, the row of those that are open. -/
structure Sp (w : World) (g : Nat) (ve vs vo : Value) (E S O : List Int) (V : World) : Prop where
  c0 : V.cell? ⟨g, 0, none⟩ = some ve
  c1 : V.cell? ⟨g, 1, none⟩ = some vs
  c2 : V.cell? ⟨g, 2, none⟩ = some (.bool true)
  fz : ∀ j, V.frozen? ⟨g, j, none⟩ = false
  re : RI V (g + 1) ve E
  rs : RI V (g + 1) vs S
  ro : RI V (g + 1) vo O
  d1 : Dj ve vs
  d2 : Dj ve vo
  d3 : Dj vs vo
  bel : Below w.heap.size w V
  ge : w.heap.size ≤ g
  lt : g < V.heap.size
theorem RI.ne {V : World} {g : Nat} {v : Value} {E : List Int} (h : RI V (g + 1) v E) : v.ownBlock ≠ some g := fun k => by
  have := (h.lt g k).1; omega
theorem ri_push {V1 : World} {B : Nat} {v : Value} {E : List Int} {z : Int} (h : V1.ownsRow B 2 1 v (E.length + 1) (I E ++ [.int .i64 z])) : RI V1 B v (E ++ [z]) := by
  show V1.ownsRow B 2 1 v (E ++ [z]).length (I (E ++ [z]))
  rw [show (E ++ [z]).length = E.length + 1 by simp, show I (E ++ [z]) = I E ++ [.int .i64 z] by simp [I]]
  exact h
theorem Sp.blk {w : World} {g : Nat} {ve vs vo : Value} {E S O : List Int} {V V1 : World} {ob : Obj} {u : Value} (h : Sp w g ve vs vo E S O V) (hg : (V.alloc ob).grownBy V1 u.ownBlock) (hu : u.ownBlock ≠ some g) (hB : ∀ j, u.ownBlock = some j → g + 1 ≤ j) : V1.cell? ⟨g, 0, none⟩ = some ve ∧ V1.cell? ⟨g, 1, none⟩ = some vs ∧ V1.cell? ⟨g, 2, none⟩ = some (.bool true) ∧ (∀ j, V1.frozen? ⟨g, j, none⟩ = false) ∧ Below w.heap.size w V1 ∧ g < V1.heap.size := by
  have hs := hg.size
  have lt := h.lt
  simp only [World.size_alloc] at hs
  have hb : V1.heap[g]? = V.heap[g]? := (hg.block g (by simp; omega) (fun e => hu e.symm)).trans (heap_old V ob g lt)
  refine ⟨(World.cell?_of_block hb).trans h.c0, (World.cell?_of_block hb).trans h.c1, (World.cell?_of_block hb).trans h.c2, fun j => (World.frozen?_of_block hb).trans (h.fz j), ?_, by omega⟩
  exact (Below.alloc h.bel h.bel.size ob).grown hg (by have := h.bel.size; simp; omega) (fun j hj => by have := hB j hj; have := h.ge; omega)
theorem Sp.pushE {w : World} {g : Nat} {ve vs vo v' : Value} {E S O : List Int} {V V1 : World} {ob : Obj} {z : Int} (h : Sp w g ve vs vo E S O V) (ho : V1.ownsRow (g + 1) 2 1 v' (E.length + 1) (I E ++ [.int .i64 z])) (hg : (V.alloc ob).grownBy V1 ve.ownBlock) (hl : v'.ownBlock = ve.ownBlock ∨ v'.ownBlock = some (V.alloc ob).heap.size) :
    Sp w g v' vs vo (E ++ [z]) S O (V1.setCell ⟨g, 0, none⟩ v') ∧ V1.cell? ⟨g, 0, none⟩ = some ve ∧ V1.frozen? ⟨g, 0, none⟩ = false := by
  obtain ⟨q0, q1, q2, qf, qb, ql⟩ := h.blk hg h.re.ne (fun j hj => (h.re.lt j hj).1)
  have r1 := ri_push ho
  have rs := h.rs.grown hg h.d1.symm
  have ro := h.ro.grown hg h.d2.symm
  refine ⟨⟨set_same q0, set_off q1 (by decide), set_off q2 (by decide), fun j => by rw [World.frozen?_setCell]; exact qf j, ownE_set r1 r1.ne, ownE_set rs rs.ne, ownE_set ro ro.ne, (Dj.new h.d1.symm h.rs hl).symm, (Dj.new h.d2.symm h.ro hl).symm, h.d3, qb.setCell h.ge _, h.ge, by simpa using ql⟩, q0, qf 0⟩
theorem Sp.pushS {w : World} {g : Nat} {ve vs vo v' : Value} {E S O : List Int} {V V1 : World} {ob : Obj} {z : Int} (h : Sp w g ve vs vo E S O V) (ho : V1.ownsRow (g + 1) 2 1 v' (S.length + 1) (I S ++ [.int .i64 z])) (hg : (V.alloc ob).grownBy V1 vs.ownBlock) (hl : v'.ownBlock = vs.ownBlock ∨ v'.ownBlock = some (V.alloc ob).heap.size) :
    Sp w g ve v' vo E (S ++ [z]) O (V1.setCell ⟨g, 1, none⟩ v') ∧ V1.cell? ⟨g, 1, none⟩ = some vs ∧ V1.frozen? ⟨g, 1, none⟩ = false := by
  obtain ⟨q0, q1, q2, qf, qb, ql⟩ := h.blk hg h.rs.ne (fun j hj => (h.rs.lt j hj).1)
  have r1 := ri_push ho
  have re := h.re.grown hg h.d1
  have ro := h.ro.grown hg h.d3.symm
  refine ⟨⟨set_off q0 (by decide), set_same q1, set_off q2 (by decide), fun j => by rw [World.frozen?_setCell]; exact qf j, ownE_set re re.ne, ownE_set r1 r1.ne, ownE_set ro ro.ne, Dj.new h.d1 h.re hl, h.d2, (Dj.new h.d3.symm h.ro hl).symm, qb.setCell h.ge _, h.ge, by simpa using ql⟩, q1, qf 1⟩
theorem Sp.pushO {w : World} {g : Nat} {ve vs vo v' : Value} {E S O : List Int} {V V1 : World} {ob : Obj} {z : Int} (h : Sp w g ve vs vo E S O V) (ho : V1.ownsRow (g + 1) 2 1 v' (O.length + 1) (I O ++ [.int .i64 z])) (hg : (V.alloc ob).grownBy V1 vo.ownBlock) (hl : v'.ownBlock = vo.ownBlock ∨ v'.ownBlock = some (V.alloc ob).heap.size) :
    Sp w g ve vs v' E S (O ++ [z]) V1 := by
  obtain ⟨q0, q1, q2, qf, qb, ql⟩ := h.blk hg h.ro.ne (fun j hj => (h.ro.lt j hj).1)
  exact ⟨q0, q1, q2, qf, h.re.grown hg h.d2, h.rs.grown hg h.d3, ri_push ho, h.d1, Dj.new h.d2 h.re hl, Dj.new h.d3 h.rs hl, qb, h.ge, ql⟩
theorem ri_split {V : World} {B : Nat} {v : Value} {E : List Int} (h : RI V B v E) (h0 : 0 < E.length) : ∃ r cap, v = .slice (some ⟨r, 0, none⟩) E.length cap ∧ B ≤ r ∧ r < V.heap.size ∧ E.length ≤ cap := ownE_split h h0
theorem ri_at {V : World} {B r cap j : Nat} {E : List Int} (h : RI V B (.slice (some ⟨r, 0, none⟩) E.length cap) E) (hj : j < E.length) : V.cell? ⟨r, j, none⟩ = some (.int .i64 (E.getD j 0)) ∧ V.frozen? ⟨r, j, none⟩ = false := by
  refine ⟨?_, h.frozenAt j⟩
  rw [h.cellAt j (by omega)]
  simp [List.getD, hj]
theorem dj_of {v : Value} {r n c : Nat} (d : Dj v (.slice (some ⟨r, 0, none⟩) n c)) : v.ownBlock ≠ some r := fun e => d r e rfl
theorem Sp.setE {w : World} {g r cap j : Nat} {vs vo : Value} {E S O : List Int} {V : World} {z : Int} (h : Sp w g (.slice (some ⟨r, 0, none⟩) E.length cap) vs vo E S O V) : Sp w g (.slice (some ⟨r, 0, none⟩) E.length cap) vs vo (E.set j z) S O (V.setCell ⟨r, j, none⟩ (.int .i64 z)) := by
  have hB : g + 1 ≤ r := (h.re.lt r rfl).1
  have hlt : r < V.heap.size := (h.re.lt r rfl).2
  have s1 := (h.re.stored j (.int .i64 z)).1
  have e : (I E).set j (.int .i64 z) = I (E.set j z) := by simp [I, List.map_set]
  rw [e] at s1
  have cc : ∀ q x, V.cell? ⟨g, q, none⟩ = some x → (V.setCell ⟨r, j, none⟩ (.int .i64 z)).cell? ⟨g, q, none⟩ = some x := fun q x hx => by
    rw [World.cell?_setCell_other _ _ _ _ (fun e' => by injection e' with e1 e2; omega)]; exact hx
  refine ⟨cc _ _ h.c0, cc _ _ h.c1, cc _ _ h.c2, fun q => by rw [World.frozen?_setCell]; exact h.fz q, ?_, ownE_set h.rs (dj_of h.d1.symm), ownE_set h.ro (dj_of h.d2.symm), h.d1, h.d2, h.d3, h.bel.setCell (by have := h.ge; show w.heap.size ≤ r; omega) _, h.ge, by simpa using h.lt⟩
  show World.ownsRow _ _ _ _ _ (E.set j z).length _
  rw [List.length_set]; exact s1
theorem Sp.setS {w : World} {g r cap j : Nat} {ve vo : Value} {E S O : List Int} {V : World} {z : Int} (h : Sp w g ve (.slice (some ⟨r, 0, none⟩) S.length cap) vo E S O V) : Sp w g ve (.slice (some ⟨r, 0, none⟩) S.length cap) vo E (S.set j z) O (V.setCell ⟨r, j, none⟩ (.int .i64 z)) := by
  have hB : g + 1 ≤ r := (h.rs.lt r rfl).1
  have hlt : r < V.heap.size := (h.rs.lt r rfl).2
  have s1 := (h.rs.stored j (.int .i64 z)).1
  have e : (I S).set j (.int .i64 z) = I (S.set j z) := by simp [I, List.map_set]
  rw [e] at s1
  have cc : ∀ q x, V.cell? ⟨g, q, none⟩ = some x → (V.setCell ⟨r, j, none⟩ (.int .i64 z)).cell? ⟨g, q, none⟩ = some x := fun q x hx => by
    rw [World.cell?_setCell_other _ _ _ _ (fun e' => by injection e' with e1 e2; omega)]; exact hx
  refine ⟨cc _ _ h.c0, cc _ _ h.c1, cc _ _ h.c2, fun q => by rw [World.frozen?_setCell]; exact h.fz q, ownE_set h.re (dj_of h.d1), ?_, ownE_set h.ro (dj_of h.d3.symm), h.d1, h.d2, h.d3, h.bel.setCell (by have := h.ge; show w.heap.size ≤ r; omega) _, h.ge, by simpa using h.lt⟩
  show World.ownsRow _ _ _ _ _ (S.set j z).length _
  rw [List.length_set]; exact s1
theorem Sp.dropO {w : World} {g r cap : Nat} {ve vs : Value} {E S O : List Int} {z : Int} {V : World} (h : Sp w g ve vs (.slice (some ⟨r, 0, none⟩) (O.length + 1) cap) E S (O ++ [z]) V) : Sp w g ve vs (.slice (some ⟨r, 0, none⟩) O.length cap) E S O V := by
  refine ⟨h.c0, h.c1, h.c2, h.fz, h.re, h.rs, ?_, h.d1, h.d2, h.d3, h.bel, h.ge, h.lt⟩
  have this : V.ownsRow (g + 1) 2 1 (.slice (some ⟨r, 0, none⟩) (O.length + 1) cap) (O ++ [z]).length (I (O ++ [z])) := h.ro
  rw [show (O ++ [z]).length = O.length + 1 by simp] at this
  have t := ownE_take this
  rw [show (I (O ++ [z])).take O.length = I O by simp [I]] at t
  exact t
theorem Sp.drew {w : World} {g : Nat} {ve vs vo : Value} {E S O : List Int} {V : World} (h : Sp w g ve vs vo E S O V) : Sp w g ve vs vo E S O V.drew :=
  ⟨h.c0, h.c1, h.c2, h.fz, h.re, h.rs, h.ro, h.d1, h.d2, h.d3, h.bel.drew, h.ge, h.lt⟩
end Go.Proofs.Yteaegmlnacnofaa
