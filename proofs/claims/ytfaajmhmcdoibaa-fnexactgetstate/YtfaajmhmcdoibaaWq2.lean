import Derived.Test.YtfaajmhmcdoibaaWq1
import Derived.Test.YtfaajmhmcdoibaaBy
import Derived.ArgAppend
import Derived.Maps.AppendAt
import Derived.Test.YtfaajmhmcdoibaaEq12
set_option linter.all false
set_option linter.unusedVariables false
namespace Go.Proofs.Ytfaajmhmcdoibaa
open Go.RowKit Go.Sort
set_option maxRecDepth 100000
theorem ownE_keep {w w' : World} {B C e n : Nat} {v : Value} {xs : List Value} (h : w.ownsRow B e 1 v n xs) (hb : Below C w w') (hg : w.heap.size ≤ C) : w'.ownsRow B e 1 v n xs := by
  refine ⟨h.1, ?_⟩
  rcases h.2 with h0 | ⟨g, cap, cur, hv, hB, hh, r⟩
  · exact .inl h0
  · subst hv
    exact .inr ⟨g, cap, cur, rfl, hB, (hb.block g (by have := (h.lt g rfl).2; omega)).trans hh, r⟩
theorem ownE_down {w : World} {B B' e n : Nat} {v : Value} {zs : List Value} (h : w.ownsRow B e 1 v n zs) (hB : B' ≤ B) : w.ownsRow B' e 1 v n zs := by
  refine ⟨h.1, ?_⟩
  rcases h.2 with h0 | ⟨g, cap, cur, hv, hB', r⟩
  · exact .inl h0
  · exact .inr ⟨g, cap, cur, hv, by omega, r⟩
theorem oneU (L : List Int) : ∀ u ∈ U L, u.oneCell' = true := by
  intro u hu
  simp only [U, List.mem_map] at hu
  obtain ⟨y, _, rfl⟩ := hu
  rfl
/-- The cells of a row of bytes, as a source of append. -/
theorem own_src {w : World} {B g cap : Nat} {L : List Int} (h : w.ownsRow B 5 1 (.slice (some ⟨g, 0, none⟩) L.length cap) L.length (U L)) : ∀ j u, (U L)[j]? = some u → w.cell? ((⟨g, 0, none⟩ : Addr).add j) = some u := by
  intro j u hu
  have hj : j < L.length := by
    rcases Nat.lt_or_ge j L.length with h | h
    · exact h
    · simp [U, List.getElem?_eq_none h] at hu
  have hadd : (⟨g, 0, none⟩ : Addr).add j = ⟨g, j, none⟩ := by unfold Addr.add; split <;> simp_all
  rw [hadd, h.cellAt j (by omega)]
  exact hu
/-- These blocks are as they were. -/
structure Kept (S : Nat → Prop) (w w' : World) : Prop where
  os : w'.os = w.os
  tape : w'.tape = w.tape
  output : w'.output = w.output
  size : w.heap.size ≤ w'.heap.size
  block : ∀ k, S k → w'.heap[k]? = w.heap[k]?
theorem Kept.refl (S : Nat → Prop) (w : World) : Kept S w w := ⟨rfl, rfl, rfl, Nat.le_refl _, fun _ _ => rfl⟩
theorem Kept.trans {S : Nat → Prop} {a b c : World} (h : Kept S a b) (k : Kept S b c) : Kept S a c :=
  ⟨k.os.trans h.os, k.tape.trans h.tape, k.output.trans h.output, Nat.le_trans h.size k.size, fun i hi => (k.block i hi).trans (h.block i hi)⟩
theorem Kept.weak {S T : Nat → Prop} {a b : World} (h : Kept S a b) (hT : ∀ k, T k → S k) : Kept T a b := ⟨h.os, h.tape, h.output, h.size, fun k hk => h.block k (hT k hk)⟩
theorem Kept.of_below {S : Nat → Prop} {B : Nat} {a b : World} (h : Below B a b) (hS : ∀ k, S k → k < B) : Kept S a b := ⟨h.os, h.tape, h.output, h.size, fun k hk => h.block k (hS k hk)⟩
theorem Kept.below {B : Nat} {a b : World} (h : Kept (fun k => k < B) a b) : Below B a b := ⟨h.os, h.tape, h.output, h.size, h.block⟩
theorem Kept.cell {S : Nat → Prop} {a b : World} (h : Kept S a b) {g o : Nat} (hg : S g) : b.cell? ⟨g, o, none⟩ = a.cell? ⟨g, o, none⟩ := World.cell?_of_block (h.block g hg)
theorem Kept.frozen {S : Nat → Prop} {a b : World} (h : Kept S a b) {g o : Nat} (hg : S g) : b.frozen? ⟨g, o, none⟩ = a.frozen? ⟨g, o, none⟩ := World.frozen?_of_block (h.block g hg)

/-- What the writer's slice is: a row of its own, or the head as it was laid. -/
def Bf (w : World) (p : Nat) (v : Value) (xs : List Int) : Prop :=
  w.ownsRow (p - 1) 5 1 v xs.length (U xs) ∨ (xs = [83, 1] ∧ v = .slice (some ⟨p - 1, 0, none⟩) 2 2 ∧ w.heap[p - 1]? = some (.cells #[.int .u8 83, .int .u8 1] 5 (2, 3)))
theorem Bf.slice {w : World} {p : Nat} {v : Value} {xs : List Int} (h : Bf w p v xs) : ∃ a c, v = .slice a xs.length c := by
  rcases h with h | ⟨rfl, rfl, _⟩
  · exact ownE_slice h
  · exact ⟨_, _, rfl⟩
theorem Bf.lt {w : World} {p : Nat} {v : Value} {xs : List Int} (h : Bf w p v xs) : ∀ k, v.ownBlock = some k → k < w.heap.size := by
  rcases h with h | ⟨rfl, rfl, h3⟩
  · exact fun k hk => (h.lt k hk).2
  · intro k hk
    have e : p - 1 = k := by simpa [Value.ownBlock] using hk
    subst e
    rcases Nat.lt_or_ge (p - 1) w.heap.size with h | h
    · exact h
    · rw [Array.getElem?_eq_none h] at h3; cases h3
theorem Bf.of_block {w w1 : World} {p : Nat} {v : Value} {xs : List Int} (h : Bf w p v xs) (hb : ∀ k, v.ownBlock = some k → w1.heap[k]? = w.heap[k]?) : Bf w1 p v xs := by
  rcases h with h | ⟨rfl, rfl, h3⟩
  · refine .inl ⟨h.1, ?_⟩
    rcases h.2 with h0 | ⟨g, cap, cur, hv, hB, hh, r⟩
    · exact .inl h0
    · subst hv
      exact .inr ⟨g, cap, cur, rfl, hB, (hb g rfl).trans hh, r⟩
  · exact .inr ⟨rfl, rfl, (hb (p - 1) rfl).trans h3⟩
theorem head_cells {w : World} {g : Nat} (h : w.heap[g]? = some (.cells #[.int .u8 83, .int .u8 1] 5 (2, 3))) : ∀ j u, (U [83, 1])[j]? = some u → w.cell? ((⟨g, 0, none⟩ : Addr).add j) = some u := by
  intro j u hu
  rw [show (⟨g, 0, none⟩ : Addr).add j = ⟨g, j, none⟩ by unfold Addr.add; split <;> simp_all]
  simp only [World.cell?, h]
  have hj : j < 2 := by
    rcases Nat.lt_or_ge j 2 with h | h
    · exact h
    · rw [List.getElem?_eq_none (by simp [U]; omega)] at hu; cases hu
  rcases (by omega : j = 0 ∨ j = 1) with rfl | rfl <;> simpa [U] using hu
theorem run_buf {w : World} {p : Nat} {v : Value} {xs : List Int} (ty : TypeId) (hb : Bf w p v xs) (ad : Addr) (c : Nat) (news : List Int) (hn : ∀ j u, (U news)[j]? = some u → w.cell? (ad.add j) = some u) (hm : 1 ≤ news.length) (h63 : xs.length + news.length ≤ 4398046511104) (hbase : p - 1 ≤ w.heap.size) :
    ∃ v' w', (Builtin.append_ #[27, 27] ty #[v, .slice (some ad) news.length c]).run Try.prog w = .ok v' w' ∧ w'.ownsRow (p - 1) 5 1 v' (xs.length + news.length) (U xs ++ U news) ∧ w.grownBy w' v.ownBlock ∧ (v'.ownBlock = v.ownBlock ∨ ∀ k, v'.ownBlock = some k → w.heap.size ≤ k) := by
  obtain ⟨i0, hi, hz0, hz1, hz2⟩ := info_parts Try.info5
  rcases hb with h | ⟨rfl, rfl, h3⟩
  · obtain ⟨v', w', h1, h2, h3, _, h5⟩ := run_append_own_at (P := Try.prog) w (p - 1) 27 ty 5 i0 (.int .u8 0) 1 1 Try.underlying27 hi hz0 hz1 hz2 rfl (by decide) v xs.length (U xs) h ad news.length c (U news) (by simp) hn (oneU _) (by unfold maxLen; omega) (by omega) hbase
    exact ⟨v', w', h1, h2, h3, h5.imp id (fun e k hk => by rw [e] at hk; injection hk with hk; omega)⟩
  · obtain ⟨v', w', h1, h2, h4⟩ := run_append_arg_grows (P := Try.prog) w 27 ty 5 i0 (.int .u8 0) 1 1 Try.underlying27 hi hz0 hz1 hz2 rfl (by decide) ⟨p - 1, 0, none⟩ 2 2 (U [83, 1]) rfl (head_cells h3) ad news.length c (U news) (by simp) hn (by omega) (by unfold maxLen; omega) (by omega)
    exact ⟨v', w', h1, ownE_down h2 hbase, ⟨h4.os, h4.tape, h4.output, h4.size, fun k hk _ => h4.block k hk (by simp)⟩, .inr fun k hk => (h2.lt k hk).1⟩
theorem step_buf {w : World} {ops : Array Oper} {o : Oper} {a : Act} {K : Act → World → Prop} {Q : Exit → Act → World → Prop} {E : Prop} (hgd : o.guard = none) (s x : Operand)
    (ho : o.op = .call { callee := .builtin .append, args := #[s, x], argTypes := #[27, 27] })
    (p : Nat) (v : Value) (xs : List Int) (hs : a.eval s = v) (hb : Bf w p v xs) (ad : Addr) (c : Nat) (news : List Int) (hx : a.eval x = .slice (some ad) news.length c) (hn : ∀ j u, (U news)[j]? = some u → w.cell? (ad.add j) = some u) (hm : 1 ≤ news.length) (h63 : xs.length + news.length ≤ 4398046511104) (hbase : p - 1 ≤ w.heap.size)
    (h : ∀ v' w', w'.ownsRow (p - 1) 5 1 v' (xs.length + news.length) (U xs ++ U news) → w.grownBy w' v.ownBlock → (v'.ownBlock = v.ownBlock ∨ ∀ k, v'.ownBlock = some k → w.heap.size ≤ k) → K (a.put o.dst v') w') :
    if Region.wanted o (yielded ops a.tmps) = true then Oper.wp Try.prog o a w K Q else E := by
  have hw : Region.wanted o (yielded ops a.tmps) = true := by simp [Region.wanted, hgd]
  rw [if_pos hw]
  obtain ⟨v', w', hr, h2, h3, h5⟩ := run_buf o.type hb ad c news hn hm h63 hbase
  unfold Oper.wp execOp
  simp only [ho, resolve, invoke, builtin, Sem.run_bind, Sem.run_pure, Result.andThen_ok, List.map_toArray, List.map_cons, List.map_nil, hs, hx, hr]
  exact h v' w' h2 h3 h5
theorem wpList_buf {w : World} {ops : Array Oper} {rest : List Oper} {o : Oper} {a : Act} {Q : Exit → Act → World → Prop} (hgd : o.guard = none) (s x : Operand)
    (hop : o.op = .call { callee := .builtin .append, args := #[s, x], argTypes := #[27, 27] })
    (p : Nat) (v : Value) (xs : List Int) (hs : a.eval s = v) (hb : Bf w p v xs) (ad : Addr) (c : Nat) (news : List Int) (hx : a.eval x = .slice (some ad) news.length c) (hn : ∀ j u, (U news)[j]? = some u → w.cell? (ad.add j) = some u) (hm : 1 ≤ news.length) (h63 : xs.length + news.length ≤ 4398046511104) (hbase : p - 1 ≤ w.heap.size)
    (h : ∀ v' w', w'.ownsRow (p - 1) 5 1 v' (xs.length + news.length) (U xs ++ U news) → w.grownBy w' v.ownBlock → (v'.ownBlock = v.ownBlock ∨ ∀ k, v'.ownBlock = some k → w.heap.size ≤ k) → wpList Try.prog ops Q rest (a.put o.dst v') w') :
    wpList Try.prog ops Q (o :: rest) a w := by
  refine wpList_plain hgd fun K hK' => ?_
  obtain ⟨v', w', hr, h2, h3, h5⟩ := run_buf o.type hb ad c news hn hm h63 hbase
  unfold Oper.wp
  simp [execOp, hop, resolve, invoke, builtin, hs, hx, hr, Result.andThen]
  exact hK' _ _ (h v' w' h2 h3 h5)
/-- A writer at block p: these bytes, and whether a number had no place; S: blocks that it does not touch. -/
def Wb (w : World) (p : Nat) (S : Nat → Prop) (xs : List Int) (b : Bool) : Prop := ∃ v, w.cell? ⟨p, 0, none⟩ = some v ∧ w.cell? ⟨p, 1, none⟩ = some (.bool b) ∧ (∀ j, w.frozen? ⟨p, j, none⟩ = false) ∧ Bf w p v xs ∧ ¬ S p ∧ (∀ k, v.ownBlock = some k → ¬ S k ∧ k ≠ p) ∧ ∀ k, S k → k < w.heap.size
theorem Wb.weak {w : World} {p : Nat} {S T : Nat → Prop} {xs : List Int} {b : Bool} (h : Wb w p S xs b) (hT : ∀ k, T k → S k) : Wb w p T xs b := by
  obtain ⟨v, c0, c1, f0, ho, hp, hr, hS⟩ := h
  exact ⟨v, c0, c1, f0, ho, fun h => hp (hT p h), fun k hk => ⟨fun h => (hr k hk).1 (hT k h), (hr k hk).2⟩, fun k hk => hS k (hT k hk)⟩
theorem Wb.lt {w : World} {p : Nat} {S : Nat → Prop} {xs : List Int} {b : Bool} (h : Wb w p S xs b) : ∀ k, S k → k < w.heap.size := h.choose_spec.2.2.2.2.2.2
theorem Wb.pos {w : World} {p : Nat} {S : Nat → Prop} {xs : List Int} {b : Bool} (h : Wb w p S xs b) : p < w.heap.size := World.block_lt_of_cell? w _ h.choose_spec.1
theorem Wb.not {w : World} {p : Nat} {S : Nat → Prop} {xs : List Int} {b : Bool} (h : Wb w p S xs b) : ¬ S p := h.choose_spec.2.2.2.2.1
/-- Behind what only makes new blocks. -/
theorem Wb.on {w w1 : World} {p : Nat} {S : Nat → Prop} {xs : List Int} {b : Bool} (h : Wb w p S xs b) (hb : Below w.heap.size w w1) : Wb w1 p (fun k => S k ∨ (w.heap.size ≤ k ∧ k < w1.heap.size)) xs b := by
  obtain ⟨v, c0, c1, f0, ho, hp, hr, hS⟩ := h
  have lt : p < w.heap.size := World.block_lt_of_cell? w _ c0
  have := hb.size
  refine ⟨v, (hb.cell (p := ⟨p, 0, none⟩) lt).trans c0, (hb.cell (p := ⟨p, 1, none⟩) lt).trans c1, fun j => (hb.frozen (p := ⟨p, j, none⟩) lt).trans (f0 j), ho.of_block (fun k hk => hb.block k (ho.lt k hk)), ?_, ?_, ?_⟩
  · rintro (h | h)
    · exact hp h
    · omega
  · intro k hk
    have := ho.lt k hk
    refine ⟨?_, (hr k hk).2⟩
    rintro (h | h)
    · exact (hr k hk).1 h
    · omega
  · rintro k (h | h)
    · have := hS k h; omega
    · omega
theorem Wb.keep {w w1 : World} {p : Nat} {S : Nat → Prop} {xs : List Int} {b : Bool} (h : Wb w p S xs b) (hb : Below w.heap.size w w1) : Wb w1 p S xs b := (h.on hb).weak fun _ => .inl
/-- The flag is set. -/
theorem Wb.flag {w : World} {p : Nat} {S : Nat → Prop} {xs : List Int} {b : Bool} (h : Wb w p S xs b) (b' : Bool) : Wb (w.setCell ⟨p, 1, none⟩ (.bool b')) p S xs b' ∧ Kept S w (w.setCell ⟨p, 1, none⟩ (.bool b')) := by
  obtain ⟨v, c0, c1, f0, ho, hp, hr, hS⟩ := h
  refine ⟨⟨v, set_off c0 (by omega), set_same c1, fun j => by rw [World.frozen?_setCell]; exact f0 j, ho.of_block (fun k hk => Below.heap_setCell _ _ _ _ (fun e => (hr k hk).2 e)), hp, hr, fun k hk => by simpa using hS k hk⟩, ⟨rfl, rfl, rfl, by simp, fun k hk => Below.heap_setCell _ _ _ _ (fun e => hp (by rw [← show k = p from e]; exact hk))⟩⟩
theorem wb_pushed {w W w1 : World} {p : Nat} {S : Nat → Prop} {v v' : Value} {xs ys : List Int} {b : Bool} (c0 : w.cell? ⟨p, 0, none⟩ = some v) (cb : w.cell? ⟨p, 1, none⟩ = some (.bool b)) (f0 : ∀ j, w.frozen? ⟨p, j, none⟩ = false) (ho : Bf w p v xs) (hp : ¬ S p) (hr : ∀ k, v.ownBlock = some k → ¬ S k ∧ k ≠ p) (hS : ∀ k, S k → k < w.heap.size) (hb : Below w.heap.size w W) (ho1 : w1.ownsRow (p - 1) 5 1 v' (xs.length + ys.length) (U xs ++ U ys)) (hg : W.grownBy w1 v.ownBlock) (hl : v'.ownBlock = v.ownBlock ∨ ∀ k, v'.ownBlock = some k → W.heap.size ≤ k) :
    Wb (w1.setCell ⟨p, 0, none⟩ v') p S (xs ++ ys) b ∧ Kept S w (w1.setCell ⟨p, 0, none⟩ v') ∧ w1.cell? ⟨p, 0, none⟩ = some v ∧ w1.frozen? ⟨p, 0, none⟩ = false := by
  have lt : p < w.heap.size := World.block_lt_of_cell? w _ c0
  have hs := hb.size
  have hs1 := hg.size
  have hne : some p ≠ v.ownBlock := fun e => (hr p e.symm).2 rfl
  have hk : w1.heap[p]? = w.heap[p]? := (hg.block p (by omega) hne).trans (hb.block p lt)
  have c1 : w1.cell? ⟨p, 0, none⟩ = some v := (World.cell?_of_block hk).trans c0
  have c2 : w1.cell? ⟨p, 1, none⟩ = some (.bool b) := (World.cell?_of_block hk).trans cb
  have f1 : ∀ j, w1.frozen? ⟨p, j, none⟩ = false := fun j => (World.frozen?_of_block hk).trans (f0 j)
  have hne' : v'.ownBlock ≠ some p := fun e => by
    rcases hl with h | h
    · exact (hr p (h ▸ e)).2 rfl
    · have := h p e; omega
  refine ⟨⟨v', set_same c1, set_off c2 (by omega), fun j => by rw [World.frozen?_setCell]; exact f1 j, .inl ?_, hp, ?_, ?_⟩, ?_, c1, f1 0⟩
  · have : w1.ownsRow (p - 1) 5 1 v' (xs ++ ys).length (U (xs ++ ys)) := by simpa [U] using ho1
    exact ownE_set this hne'
  · intro k hk
    rcases hl with e | e
    · exact hr k (e ▸ hk)
    · have hk2 := e k hk
      refine ⟨fun hS' => ?_, by omega⟩
      have := hS k hS'
      omega
  · intro k hk
    have := hS k hk
    simp [World.setCell]
    omega
  · refine ⟨hg.os.trans hb.os, hg.tape.trans hb.tape, hg.output.trans hb.output, by simp [World.setCell]; omega, fun k hk => ?_⟩
    have := hS k hk
    have hkp : k ≠ p := fun e => hp (by rw [← e]; exact hk)
    rw [Below.heap_setCell w1 ⟨p, 0, none⟩ v' k hkp, hg.block k (by omega) (fun e => (hr k e.symm).1 hk), hb.block k this]
set_option maxHeartbeats 1000000 in
theorem wone_c (p : Nat) (S : Nat → Prop) (xs : List Int) (b : Bool) (x : Int) (w : World) (hl : xs.length ≤ 1099511627776) (hW : Wb w p S xs b) :
    Calls Try.prog 83 #[.pointer (some ⟨p, 0, none⟩), .int .i64 x] w fun e w' => e = .returned (.tuple #[]) ∧ Wb w' p S (xs ++ [x % 256]) b ∧ Kept S w w' := by
  obtain ⟨v, c0, cb, f0, own, hp, hr, hS⟩ := hW
  have lt : p < w.heap.size := World.block_lt_of_cell? w _ c0
  obtain ⟨a, c, rfl⟩ := own.slice
  have HP := Hid.mk' (fun (W w1 : World) (v' : Value) (h1 : Below w.heap.size w W) (h2 : w1.ownsRow (p - 1) 5 1 v' (xs.length + [x % 256].length) (U xs ++ U [x % 256])) (h3 : W.grownBy w1 (Value.slice a xs.length c).ownBlock) (h4 : v'.ownBlock = (Value.slice a xs.length c).ownBlock ∨ ∀ k, v'.ownBlock = some k → W.heap.size ≤ k) => wb_pushed (ys := [x % 256]) c0 cb f0 own hp hr hS h1 h2 h3 h4)
  have OW := Hid.mk' (fun o => own.of_block (w1 := w.alloc o) (fun k hk => heap_old w o k (own.lt k hk)))
  clear hp hr hS f0 cb own
  go_enter Try.func83, Try.ntmps83
  go_wp2_with (at_builtin; refine wpList_buf rfl _ _ rfl p _ xs rfl (OW.out _) ⟨w.heap.size, 0, none⟩ 1 [x % 256] rfl (cell_one_new _ _ _) (by simp) (by simp; omega) (by simp; omega) ?_; intro v' w2 hown' hgrow hloc; have HQ := Hid.mk' (HP.out _ _ _ ((Below.refl _ _).alloc (Nat.le_refl _) _) hown' hgrow hloc); have d0 := HQ.out.2.2.1; have df := HQ.out.2.2.2; obtain ⟨va, vc, rfl⟩ := ownE_slice hown'; clear hown' hgrow hloc c0 HP OW)
  go_end0
  exact ⟨rfl, HQ.out.1, HQ.out.2.1⟩
end Go.Proofs.Ytfaajmhmcdoibaa
