import Derived.Test.YteaegmlnacnofaaBy
import Derived.Test.YteaegmlnacnofaaK11
import Derived.Laws.AppendOwn
import Derived.Laws.OwnMore
import Derived.OwnWalk
import Derived.Deep.RegionLaw
set_option linter.all false
set_option linter.unusedVariables false
namespace Go.Proofs.Yteaegmlnacnofaa
open Go.RowKit Go.Sort
set_option maxRecDepth 100000
theorem ownE_keep {w w' : World} {B C e n : Nat} {v : Value} {xs : List Value} (h : w.ownsRow B e 1 v n xs) (hb : Below C w w') (hg : w.heap.size ≤ C) : w'.ownsRow B e 1 v n xs := by
  refine ⟨h.1, ?_⟩
  rcases h.2 with h0 | ⟨g, cap, cur, hv, hB, hh, r⟩
  · exact .inl h0
  · subst hv
    exact .inr ⟨g, cap, cur, rfl, hB, (hb.block g (by have := (h.lt g rfl).2; omega)).trans hh, r⟩
theorem ownE_down {w : World} {B B' e n : Nat} {v : Value} {zs : List Value} (h : w.ownsRow B e 1 v n zs) (hB : B' ≤ B) : w.ownsRow B' e 1 v n zs := by
  refine ⟨h.1, ?_⟩
  rcases h.2 with h0 | ⟨g, cap, cur, hv, hB', r⟩
  · exact .inl h0
  · exact .inr ⟨g, cap, cur, hv, by omega, r⟩
theorem oneU (L : List Int) : ∀ u ∈ U L, u.oneCell' = true := by
  intro u hu
  simp only [U, List.mem_map] at hu
  obtain ⟨y, _, rfl⟩ := hu
  rfl
/-- The cells of a row of bytes, as a source of append. -/
theorem own_src {w : World} {B g cap : Nat} {L : List Int} (h : w.ownsRow B 5 1 (.slice (some ⟨g, 0, none⟩) L.length cap) L.length (U L)) : ∀ j u, (U L)[j]? = some u → w.cell? ((⟨g, 0, none⟩ : Addr).add j) = some u := by
  intro j u hu
  have hj : j < L.length := by
    rcases Nat.lt_or_ge j L.length with h | h
    · exact h
    · simp [U, List.getElem?_eq_none h] at hu
  have hadd : (⟨g, 0, none⟩ : Addr).add j = ⟨g, j, none⟩ := by unfold Addr.add; split <;> simp_all
  rw [hadd, h.cellAt j (by omega)]
  exact hu
/-- These blocks are as they were. -/
structure Kept (S : Nat → Prop) (w w' : World) : Prop where
  os : w'.os = w.os
  tape : w'.tape = w.tape
  output : w'.output = w.output
  size : w.heap.size ≤ w'.heap.size
  block : ∀ k, S k → w'.heap[k]? = w.heap[k]?
theorem Kept.refl (S : Nat → Prop) (w : World) : Kept S w w := ⟨rfl, rfl, rfl, Nat.le_refl _, fun _ _ => rfl⟩
theorem Kept.trans {S : Nat → Prop} {a b c : World} (h : Kept S a b) (k : Kept S b c) : Kept S a c :=
  ⟨k.os.trans h.os, k.tape.trans h.tape, k.output.trans h.output, Nat.le_trans h.size k.size, fun i hi => (k.block i hi).trans (h.block i hi)⟩
theorem Kept.weak {S T : Nat → Prop} {a b : World} (h : Kept S a b) (hT : ∀ k, T k → S k) : Kept T a b := ⟨h.os, h.tape, h.output, h.size, fun k hk => h.block k (hT k hk)⟩
theorem Kept.of_below {S : Nat → Prop} {B : Nat} {a b : World} (h : Below B a b) (hS : ∀ k, S k → k < B) : Kept S a b := ⟨h.os, h.tape, h.output, h.size, fun k hk => h.block k (hS k hk)⟩
theorem Kept.below {B : Nat} {a b : World} (h : Kept (fun k => k < B) a b) : Below B a b := ⟨h.os, h.tape, h.output, h.size, h.block⟩
theorem Kept.cell {S : Nat → Prop} {a b : World} (h : Kept S a b) {g o : Nat} (hg : S g) : b.cell? ⟨g, o, none⟩ = a.cell? ⟨g, o, none⟩ := World.cell?_of_block (h.block g hg)
theorem Kept.frozen {S : Nat → Prop} {a b : World} (h : Kept S a b) {g o : Nat} (hg : S g) : b.frozen? ⟨g, o, none⟩ = a.frozen? ⟨g, o, none⟩ := World.frozen?_of_block (h.block g hg)
theorem Kept.c5 {S : Nat → Prop} {x y : World} (h : Kept S x y) {g o : Nat} {a b c d e : Value} (hc : C5 x g o a b c d e) (hg : S g) : C5 y g o a b c d e := by
  obtain ⟨⟨h0, h1, h2, h3, h4⟩, f⟩ := hc
  exact ⟨⟨(h.cell hg).trans h0, (h.cell hg).trans h1, (h.cell hg).trans h2, (h.cell hg).trans h3, (h.cell hg).trans h4⟩, fun i => (h.frozen hg).trans (f i)⟩
/-- A writer at block p that holds these bytes; S: blocks that it does not touch. -/
def Wr (w : World) (p : Nat) (S : Nat → Prop) (xs : List Int) : Prop := ∃ v, w.cell? ⟨p, 0, none⟩ = some v ∧ w.frozen? ⟨p, 0, none⟩ = false ∧ w.ownsRow (p - 1) 5 1 v xs.length (U xs) ∧ ¬ S p ∧ (∀ k, v.ownBlock = some k → ¬ S k ∧ k ≠ p) ∧ ∀ k, S k → k < w.heap.size
theorem Wr.weak {w : World} {p : Nat} {S T : Nat → Prop} {xs : List Int} (h : Wr w p S xs) (hT : ∀ k, T k → S k) : Wr w p T xs := by
  obtain ⟨v, c0, f0, ho, hp, hr, hS⟩ := h
  exact ⟨v, c0, f0, ho, fun h => hp (hT p h), fun k hk => ⟨fun h => (hr k hk).1 (hT k h), (hr k hk).2⟩, fun k hk => hS k (hT k hk)⟩
/-- Behind what only makes new blocks. -/
theorem Wr.on {w w1 : World} {p : Nat} {S : Nat → Prop} {xs : List Int} (h : Wr w p S xs) (hb : Below w.heap.size w w1) : Wr w1 p (fun k => S k ∨ (w.heap.size ≤ k ∧ k < w1.heap.size)) xs := by
  obtain ⟨v, c0, f0, ho, hp, hr, hS⟩ := h
  have lt : p < w.heap.size := World.block_lt_of_cell? w _ c0
  have := hb.size
  refine ⟨v, (hb.cell (p := ⟨p, 0, none⟩) lt).trans c0, (hb.frozen (p := ⟨p, 0, none⟩) lt).trans f0, ownE_keep ho hb (Nat.le_refl _), ?_, ?_, ?_⟩
  · rintro (h | h)
    · exact hp h
    · omega
  · intro k hk
    have := (ho.lt k hk).2
    refine ⟨?_, (hr k hk).2⟩
    rintro (h | h)
    · exact (hr k hk).1 h
    · omega
  · rintro k (h | h)
    · have := hS k h; omega
    · omega
theorem wr_pushed {w W w1 : World} {p : Nat} {S : Nat → Prop} {v v' : Value} {xs ys : List Int} (c0 : w.cell? ⟨p, 0, none⟩ = some v) (f0 : w.frozen? ⟨p, 0, none⟩ = false) (ho : w.ownsRow (p - 1) 5 1 v xs.length (U xs)) (hp : ¬ S p) (hr : ∀ k, v.ownBlock = some k → ¬ S k ∧ k ≠ p) (hS : ∀ k, S k → k < w.heap.size) (hb : Below w.heap.size w W) (ho1 : w1.ownsRow (p - 1) 5 1 v' (xs.length + ys.length) (U xs ++ U ys)) (hg : W.grownBy w1 v.ownBlock) (hl : v'.ownBlock = v.ownBlock ∨ v'.ownBlock = some W.heap.size) :
    Wr (w1.setCell ⟨p, 0, none⟩ v') p S (xs ++ ys) ∧ Kept S w (w1.setCell ⟨p, 0, none⟩ v') ∧ w1.cell? ⟨p, 0, none⟩ = some v ∧ w1.frozen? ⟨p, 0, none⟩ = false := by
  have lt : p < w.heap.size := World.block_lt_of_cell? w _ c0
  have hs := hb.size
  have hs1 := hg.size
  have hne : some p ≠ v.ownBlock := fun e => (hr p e.symm).2 rfl
  have hk : w1.heap[p]? = w.heap[p]? := (hg.block p (by omega) hne).trans (hb.block p lt)
  have c1 : w1.cell? ⟨p, 0, none⟩ = some v := (World.cell?_of_block hk).trans c0
  have f1 : w1.frozen? ⟨p, 0, none⟩ = false := (World.frozen?_of_block hk).trans f0
  have hne' : v'.ownBlock ≠ some p := fun e => by
    rcases hl with h | h
    · exact (hr p (h ▸ e)).2 rfl
    · rw [h] at e; injection e with e; omega
  refine ⟨⟨v', set_same c1, by rw [World.frozen?_setCell]; exact f1, ?_, hp, ?_, ?_⟩, ?_, c1, f1⟩
  · have : w1.ownsRow (p - 1) 5 1 v' (xs ++ ys).length (U (xs ++ ys)) := by simpa [U] using ho1
    exact ownE_set this hne'
  · intro k hk
    rcases hl with e | e
    · exact hr k (e ▸ hk)
    · rw [e] at hk
      injection hk with hk
      refine ⟨fun hS' => ?_, by omega⟩
      have := hS k hS'
      omega
  · intro k hk
    have := hS k hk
    simp [World.setCell]
    omega
  · refine ⟨hg.os.trans hb.os, hg.tape.trans hb.tape, hg.output.trans hb.output, by simp [World.setCell]; omega, fun k hk => ?_⟩
    have := hS k hk
    have hkp : k ≠ p := fun e => hp (by rw [← e]; exact hk)
    rw [Below.heap_setCell w1 ⟨p, 0, none⟩ v' k hkp, hg.block k (by omega) (fun e => (hr k e.symm).1 hk), hb.block k this]
/-- append onto a row of the call's own, at a step of a region that draws. -/
theorem step_append_src {P : Program} {w : World} {ops : Array Oper} {o : Oper} {a : Act} {K : Act → World → Prop} {Q : Exit → Act → World → Prop} {E : Prop} (hgd : o.guard = none) (s x : Operand) (t : TypeId)
    (ho : o.op = .call { callee := .builtin .append, args := #[s, x], argTypes := #[t, t] })
    (base : Nat) (e : TypeId) (i : TypeInfo) (z : Value) (size bytes : Nat) (ht : P.underlying t = some (.slice e)) (hi : P.info? e = some i) (hz : i.zero = some z)
    (hsize : i.size = size) (hby : i.bytes = bytes) (hzs : z.cells.size = size) (hsz : 0 < size)
    (v : Value) (n : Nat) (xs : List Value) (hs : a.eval s = v) (hown : w.ownsRow base e size v n xs)
    (ad : Addr) (m c : Nat) (news : List Value) (hx : a.eval x = .slice (some ad) m c) (hl : news.length = m * size) (hn : ∀ j u, news[j]? = some u → w.cell? (ad.add j) = some u) (h1 : ∀ u ∈ news, u.oneCell' = true)
    (h63 : n + m ≤ maxLen) (hbytes : (n + m) * bytes ≤ 140737488355328) (hbase : base ≤ w.heap.size)
    (h : ∀ v' w', w'.ownsRow base e size v' (n + m) (xs ++ news) → w.grownBy w' v.ownBlock → (v'.ownBlock = v.ownBlock ∨ v'.ownBlock = some w.heap.size) → K (a.put o.dst v') w') :
    if Region.wanted o (yielded ops a.tmps) = true then Oper.wp P o a w K Q else E := by
  have hw : Region.wanted o (yielded ops a.tmps) = true := by simp [Region.wanted, hgd]
  rw [if_pos hw]
  obtain ⟨v', w', hr, h2, h3, h4, h5⟩ := run_append_own_at (P := P) w base t o.type e i z size bytes ht hi hz hsize hby hzs hsz v n xs hown ad m c news hl hn h1 h63 hbytes hbase
  unfold Oper.wp execOp
  simp only [ho, resolve, invoke, builtin, Sem.run_bind, Sem.run_pure, Result.andThen_ok, List.map_toArray, List.map_cons, List.map_nil, hs, hx, hr]
  exact h v' w' h2 h3 h5
end Go.Proofs.Yteaegmlnacnofaa
