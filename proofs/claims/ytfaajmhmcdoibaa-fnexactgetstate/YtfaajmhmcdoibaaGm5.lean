import Derived.Test.YtfaajmhmcdoibaaGm4
import Derived.Laws.AppendOwn
set_option linter.all false
set_option linter.unusedVariables false
namespace Go.Proofs.Ytfaajmhmcdoibaa
open Go.RowKit Go.Sort
set_option maxRecDepth 100000
/-- append onto a row of the call's own, at a step of a region that draws. -/
theorem step_append_src {P : Program} {w : World} {ops : Array Oper} {o : Oper} {a : Act} {K : Act → World → Prop} {Q : Exit → Act → World → Prop} {E : Prop} (hgd : o.guard = none) (s x : Operand) (t : TypeId)
    (ho : o.op = .call { callee := .builtin .append, args := #[s, x], argTypes := #[t, t] })
    (base : Nat) (e : TypeId) (i : TypeInfo) (z : Value) (size bytes : Nat) (ht : P.underlying t = some (.slice e)) (hi : P.info? e = some i) (hz : i.zero = some z)
    (hsize : i.size = size) (hby : i.bytes = bytes) (hzs : z.cells.size = size) (hsz : 0 < size)
    (v : Value) (n : Nat) (xs : List Value) (hs : a.eval s = v) (hown : w.ownsRow base e size v n xs)
    (ad : Addr) (m c : Nat) (news : List Value) (hx : a.eval x = .slice (some ad) m c) (hl : news.length = m * size) (hn : ∀ j u, news[j]? = some u → w.cell? (ad.add j) = some u) (h1 : ∀ u ∈ news, u.oneCell' = true)
    (h63 : n + m ≤ maxLen) (hbytes : (n + m) * bytes ≤ 140737488355328) (hbase : base ≤ w.heap.size)
    (h : ∀ v' w', w'.ownsRow base e size v' (n + m) (xs ++ news) → w.grownBy w' v.ownBlock → (v'.ownBlock = v.ownBlock ∨ v'.ownBlock = some w.heap.size) → K (a.put o.dst v') w') :
    if Region.wanted o (yielded ops a.tmps) = true then Oper.wp P o a w K Q else E := by
  have hw : Region.wanted o (yielded ops a.tmps) = true := by simp [Region.wanted, hgd]
  rw [if_pos hw]
  obtain ⟨v', w', hr, h2, h3, h4, h5⟩ := run_append_own_at (P := P) w base t o.type e i z size bytes ht hi hz hsize hby hzs hsz v n xs hown ad m c news hl hn h1 h63 hbytes hbase
  unfold Oper.wp execOp
  simp only [ho, resolve, invoke, builtin, Sem.run_bind, Sem.run_pure, Result.andThen_ok, List.map_toArray, List.map_cons, List.map_nil, hs, hx, hr]
  exact h v' w' h2 h3 h5
theorem ownS_split {w : World} {B e sz : Nat} {v : Value} {n : Nat} {L : List Value} (h : w.ownsRow B e sz v n L) (hn : 1 ≤ n) : ∃ g cap, v = .slice (some ⟨g, 0, none⟩) n cap ∧ B ≤ g ∧ g < w.heap.size ∧ Ro w g (n * sz) := by
  rcases h.2 with ⟨_, h0⟩ | ⟨g, cap, cur, hv, hB, hg, hc, _, hs, _⟩
  · omega
  · exact ⟨g, cap, hv, hB, (Array.getElem?_eq_some_iff.1 hg).1, cur, e, hg, by rw [hs]; exact Nat.mul_le_mul_right _ hc⟩
theorem ownS_slice {w : World} {B e sz : Nat} {v : Value} {n : Nat} {L : List Value} (h : w.ownsRow B e sz v n L) : ∃ a c, v = .slice a n c := by
  rcases h.2 with ⟨e, h0⟩ | ⟨g, cap, cur, hv, _⟩
  · rw [h0]; exact ⟨_, _, e⟩
  · exact ⟨_, _, hv⟩
theorem ownS_of {w w' : World} {B e sz : Nat} {v : Value} {n : Nat} {L : List Value} (h : w.ownsRow B e sz v n L) (hb : ∀ k, v.ownBlock = some k → w'.heap[k]? = w.heap[k]?) : w'.ownsRow B e sz v n L := by
  refine ⟨h.1, ?_⟩
  rcases h.2 with h0 | ⟨g, cap, cur, hv, hB, hh, r⟩
  · exact .inl h0
  · subst hv
    exact .inr ⟨g, cap, cur, rfl, hB, (hb g rfl).trans hh, r⟩
theorem ownS_down {w : World} {B B' e sz n : Nat} {v : Value} {zs : List Value} (h : w.ownsRow B e sz v n zs) (hB : B' ≤ B) : w.ownsRow B' e sz v n zs := by
  refine ⟨h.1, ?_⟩
  rcases h.2 with h0 | ⟨g, cap, cur, hv, hB', r⟩
  · exact .inl h0
  · exact .inr ⟨g, cap, cur, hv, by omega, r⟩
/-- The last entry of a row is written. -/
theorem own_visit {V w' : World} {B e sz R g cap k : Nat} {L Z Y : List Value} (h : V.ownsRow B e sz (.slice (some ⟨g, 0, none⟩) (k + 1) cap) (k + 1) (L ++ Z)) (hL : L.length = k * sz) (hY : Y.length = sz) (hC : Ch R g (k * sz) (k * sz + sz) V w') (hc : ∀ j, j < sz → w'.cell? ⟨g, k * sz + j, none⟩ = Y[j]?) : w'.ownsRow B e sz (.slice (some ⟨g, 0, none⟩) (k + 1) cap) (k + 1) (L ++ Y) := by
  have hlen := h.1
  refine ⟨by rw [List.length_append, hL, hY, Nat.add_mul, Nat.one_mul], ?_⟩
  rcases h.2 with ⟨h0, _⟩ | ⟨g', cap', cur, hv, hB, hh, h1, h2, h3, h4⟩
  · cases h0
  · injection hv with hv1 hv2 hv3
    injection hv1 with hv1
    injection hv1 with hv1
    subst hv1 hv3
    obtain ⟨cur', e1, e2, e3⟩ := hC.row cur e hh
    refine .inr ⟨g, cap, cur', rfl, hB, e1, h1, h2, by rw [e2]; exact h3, ?_⟩
    have hcs : (k + 1) * sz ≤ cur.size := by rw [h3]; exact Nat.mul_le_mul_right _ h1
    have e5 : (k + 1) * sz = k * sz + sz := by rw [Nat.add_mul, Nat.one_mul]
    apply List.ext_getElem?
    intro j
    by_cases hj : j < (k + 1) * sz
    · rw [List.getElem?_take, if_pos hj, Array.getElem?_toList]
      by_cases hj2 : j < k * sz
      · rw [e3 j (.inl hj2), List.getElem?_append_left (by omega)]
        have := congrArg (fun q => q[j]?) h4
        simp only [List.getElem?_take, hj, if_true, Array.getElem?_toList] at this
        rw [this, List.getElem?_append_left (by omega)]
      · have hc2 := hc (j - k * sz) (by omega)
        rw [show k * sz + (j - k * sz) = j by omega] at hc2
        have hc3 : cur'[j]? = Y[j - k * sz]? := by simpa [World.cell?, e1] using hc2
        rw [List.getElem?_append_right (by omega), hL, ← hc3]
    · rw [List.getElem?_eq_none (by simp; omega), List.getElem?_eq_none (by rw [List.length_append, hL, hY]; omega)]
theorem Ch.over {R fb lo hi g a b : Nat} {w W w' : World} (h : Ch R fb lo hi w W) (k : Ch R g a b W w') (hg : w.heap.size ≤ g) (hf : fb < w.heap.size) (hR : R ≠ fb) : Ch R fb lo hi w w' := by
  refine ⟨k.os.trans h.os, k.tape.trans h.tape, k.output.trans h.output, Nat.le_trans h.size k.size, fun i hi h1 h2 => (k.block i (Nat.lt_of_lt_of_le hi h.size) h1 (by omega)).trans (h.block i hi h1 h2), fun cur t hc => ?_⟩
  obtain ⟨c1, h3, h4, h5⟩ := h.row cur t hc
  exact ⟨c1, (k.block fb (Nat.lt_of_lt_of_le hf h.size) hR.symm (by omega)).trans h3, h4, h5⟩
theorem Rb.grown {w0 w w' : World} {R : Nat} {l : List Int} {b : Bool} {o : Option Nat} (h : Rb w0 w R l b) (hg : w.grownBy w' o) (ho : ∀ k, o = some k → k ≠ R ∧ w0.heap.size ≤ k) : Rb w0 w' R l b := by
  have hp := h.pos
  obtain ⟨ab, ao, c, h1, h2, h3, h4, h5, h6, h7, h8, h9⟩ := h
  have hk : w'.heap[R]? = w.heap[R]? := hg.block R hp (fun e => (ho R e.symm).1 rfl)
  exact ⟨ab, ao, c, (World.cell?_of_block (a := ⟨R, 0, none⟩) hk).trans h1, (World.cell?_of_block (a := ⟨R, 1, none⟩) hk).trans h2, fun j => (World.frozen?_of_block (a := ⟨R, j, none⟩) hk).trans (h3 j), h4, h5, h6, h7, ⟨hg.os.trans h8.os, hg.tape.trans h8.tape, hg.output.trans h8.output, Nat.le_trans h8.size hg.size, fun k hk => (hg.block k (Nat.lt_of_lt_of_le hk h8.size) (fun e => by have := (ho k e.symm).2; omega)).trans (h8.block k hk)⟩, h9⟩
theorem Ch.old {R fb lo hi : Nat} {w W w3 : World} (h : Ch R fb lo hi w W) (ho : w3.os = W.os) (ht : w3.tape = W.tape) (hp : w3.output = W.output) (hs : W.heap.size ≤ w3.heap.size) (hk : ∀ k, k < w.heap.size → w3.heap[k]? = W.heap[k]?) (hf : fb < w.heap.size) : Ch R fb lo hi w w3 :=
  ⟨ho.trans h.os, ht.trans h.tape, hp.trans h.output, Nat.le_trans h.size hs, fun k hk' h1 h2 => (hk k hk').trans (h.block k hk' h1 h2), fun cur t hc => by
    obtain ⟨c1, h3, h4, h5⟩ := h.row cur t hc
    exact ⟨c1, (hk fb hf).trans h3, h4, h5⟩⟩
theorem ownS_set {w : World} {B e sz : Nat} {v u : Value} {n b o : Nat} {zs : List Value} (h : w.ownsRow B e sz v n zs) (hb : v.ownBlock ≠ some b) : (w.setCell ⟨b, o, none⟩ u).ownsRow B e sz v n zs :=
  ownS_of h (fun k hk => Below.heap_setCell _ _ _ _ (fun e => hb (by rw [hk]; exact congrArg some e)))
/-- Behind an append onto the list and its store. -/
theorem after_app {w0 w wr w3 W4 : World} {R fb fo m : Nat} {l1 : List Int} {b1 : Bool} {N : Int} {v v2 : Value} {e sz k : Nat} {L Z : List Value} (hR : Rb w0 wr R l1 b1) (hct : wr.cell? ⟨w.heap.size, 0, none⟩ = some (.int .i64 N)) (hC : Ch R fb fo (fo + 1) w wr) (hr : Ro w fb m) (hm : fo + 1 ≤ m) (hne : R ≠ fb) (hge : w0.heap.size ≤ fb) (hRl : R < w.heap.size) (hw0 : w0.heap.size ≤ w.heap.size) (hW4 : Below wr.heap.size wr W4) (hg : W4.grownBy w3 v.ownBlock) (hbk : ∀ q, v.ownBlock = some q → w.heap.size + 1 ≤ q) (hown : w3.ownsRow (w.heap.size + 1) e sz v2 (k + 1) (L ++ Z)) :
    Rb w0 (w3.setCell ⟨fb, fo, none⟩ v2) R l1 b1 ∧ (w3.setCell ⟨fb, fo, none⟩ v2).cell? ⟨w.heap.size, 0, none⟩ = some (.int .i64 N) ∧ Ch R fb fo (fo + 1) w (w3.setCell ⟨fb, fo, none⟩ v2) ∧ (w3.setCell ⟨fb, fo, none⟩ v2).cell? ⟨fb, fo, none⟩ = some v2 ∧ (w3.setCell ⟨fb, fo, none⟩ v2).ownsRow (w.heap.size + 1) e sz v2 (k + 1) (L ++ Z) := by
  have hfl := hr.lt
  have hcl := World.block_lt_of_cell? wr _ hct
  simp only at hcl
  have hs4 := hW4.size
  have hold : ∀ q, q < w.heap.size + 1 → q < wr.heap.size → w3.heap[q]? = wr.heap[q]? := fun q hq hq2 => (hg.block q (by omega) (fun e => by have := hbk q e.symm; omega)).trans (hW4.block q hq2)
  have hro := hr.ch hC
  obtain ⟨u, hu⟩ := hro.cell (show fo < m by omega)
  have hC3 : Ch R fb fo (fo + 1) w w3 := hC.old (hg.os.trans hW4.os) (hg.tape.trans hW4.tape) (hg.output.trans hW4.output) (Nat.le_trans hs4 hg.size) (fun q hq => hold q (by omega) (by have := hC.size; omega)) hfl
  have hR3 : Rb w0 w3 R l1 b1 := (hR.below hW4).grown hg (fun q hq => by have := hbk q hq; omega)
  have hn2 : v2.ownBlock ≠ some fb := fun e => by have := (hown.lt fb e).1; omega
  refine ⟨hR3.set hne.symm hge _, ?_, hC3.trans (Ch.set _ _ (Nat.le_refl _) (by omega)), set_same ((World.cell?_of_block (a := ⟨fb, fo, none⟩) (hold fb (by omega) hro.lt)).trans hu), ownS_set hown hn2⟩
  rw [World.cell?_setCell_other _ _ _ _ (fun e => by have := congrArg Addr.block e; simp only at this; omega)]
  exact (World.cell?_of_block (a := ⟨w.heap.size, 0, none⟩) (hold w.heap.size (by omega) hcl)).trans hct
theorem two_old (w : World) (o1 o2 : Obj) (k : Nat) (h : k < w.heap.size) : ((w.alloc o1).alloc o2).heap[k]? = w.heap[k]? := by
  rw [heap_old _ _ _ (by simp; omega), heap_old _ _ _ h]
theorem lit_cell (w : World) (o1 : Obj) (cs : List Value) (t : TypeId) : ∀ j u, cs[j]? = some u → ((w.alloc o1).alloc (.cells cs.toArray t)).cell? ((⟨w.heap.size + 1, 0, none⟩ : Addr).add j) = some u := by
  intro j u hu
  rw [show (⟨w.heap.size + 1, 0, none⟩ : Addr).add j = ⟨w.heap.size + 1, j, none⟩ by unfold Addr.add; split <;> simp_all]
  exact cell_new (by simp) (by simpa using hu)
def ceW (x : Int) : List Value := [.int .u64 x]
theorem ceW_len (xs : List Int) : (xs.flatMap ceW).length = xs.length * 1 := by
  induction xs with
  | nil => rfl
  | cons x xs ih => simp only [List.flatMap_cons, List.length_append, ih, List.length_cons, ceW]; simp; omega
theorem infoW : (Try.prog.info? 85).map (fun i => (i.zero, i.size, i.bytes)) = some (some (.int .u64 0), 1, 8) := by kernel_rfl
/-- While a list is read. -/
def LsW (w0 w : World) (R : Nat) (l : List Int) (b : Bool) (fb fo : Nat) (N : Int) (xs : List Int) (W : World) : Prop := ∃ v l1 b1, Rb w0 W R l1 b1 ∧ W.cell? ⟨w.heap.size, 0, none⟩ = some (.int .i64 N) ∧ Ch R fb fo (fo + 1) w W ∧ W.cell? ⟨fb, fo, none⟩ = some v ∧ W.ownsRow (w.heap.size + 1) 85 1 v xs.length (xs.flatMap ceW) ∧ LI (fx 8) okW (fun _ => 0) 0 l b N xs l1 b1 ∧ (∀ x ∈ xs, 0 ≤ x ∧ x ≤ 18446744073709551615)
/-- What the reading of a list leaves. -/
def RsW (w0 w : World) (R : Nat) (l : List Int) (b : Bool) (fb fo : Nat) (w' : World) : Prop := ∃ xs v l' b', Rb w0 w' R l' b' ∧ Ch R fb fo (fo + 1) w w' ∧ w'.cell? ⟨fb, fo, none⟩ = some v ∧ w'.ownsRow (w.heap.size + 1) 85 1 v xs.length (xs.flatMap ceW) ∧ RP (listE (fx 8)) (listO okW) [] wSz 1 l b xs l' b' ∧ (∀ x ∈ xs, 0 ≤ x ∧ x ≤ 18446744073709551615)
set_option maxHeartbeats 8000000 in
theorem rlistW_c (w0 : World) (R : Nat) (l : List Int) (b : Bool) (fb fo m : Nat) (w : World) (hR : Rb w0 w R l b) (hr : Ro w fb m) (hm : fo + 1 ≤ m) (hne : R ≠ fb) (hge : w0.heap.size ≤ fb) (hc : w.cell? ⟨fb, fo, none⟩ = some (.slice none 0 0)) (hl : l.length ≤ 1048576) :
    Calls Try.prog 42 #[.iface 76 (.pointer (some ⟨R, 0, none⟩)), .pointer (some ⟨fb, fo, none⟩), .func (.methodOf 89 "loop.example/s00119/impl.value") #[] #[]] w fun e w' => e = .returned (.tuple #[]) ∧ RsW w0 w R l b fb fo w' := by
  obtain ⟨i0, hi, hz0, hz1, hz2⟩ := info_parts infoW
  have n2 := rmetN ⟨R, 0, none⟩
  have n4 := rmetS ⟨R, 0, none⟩
  have n6 := rmetV ⟨R, 0, none⟩
  have hRl := hR.pos
  have hfl := hr.lt
  have hw0 : w0.heap.size ≤ w.heap.size := hR.bel.size
  obtain ⟨cb, hcb⟩ : ∃ cb, cb = w.heap.size := ⟨_, rfl⟩
  have KN := Hid.mk' (fun (W1 : World) (hb1 : Below w.heap.size w W1) (hro1 : Ro W1 w.heap.size 1) => rlit_c w0 R l b w.heap.size 0 1 1 W1 (W1.alloc (.cells #[.pointer (some ⟨w.heap.size, 0, none⟩)] 91)) (by omega) (hR.below hb1) hro1 (by omega) (by omega) hw0 ((Below.refl _ _).alloc (Nat.le_refl _) _) (by simp) (one1 (cell_new rfl rfl)))
  have HRo := Hid.mk' hr
  have HR0 := Hid.mk' hR
  have HCF := Hid.mk' hc
  clear hR hr
  go_enter Try.func42, Try.ntmps42
  go_upto_region 1 with fail
  refine wp_gen (fun W => Ro W w.heap.size 1 ∧ Below w.heap.size w W ∧ w.heap.size < W.heap.size) ?_ ?_
  · refine ⟨?_, ?_, ?_⟩
    · exact ⟨_, _, heap_new _ _, by simp⟩
    · exact (Below.refl _ _).alloc (Nat.le_refl _) _
    · simp
  rintro W1 ⟨hro1, hb1, hlt1⟩
  have KM := Hid.mk' (KN.out W1 hb1 hro1)
  have HB1 := Hid.mk' hb1
  have HRO1 := Hid.mk' hro1
  clear hb1 hro1 hc KN
  go_wp2_with fail
  refine KM.out.mono ?_
  rintro e w2 ⟨rfl, hw2⟩
  have HST : Hid (LsW w0 w R l b fb fo (rnV l) [] w2) := by
    obtain ⟨h1, h2, h3⟩ := hw2
    have hC : Ch R fb fo (fo + 1) w w2 := (Ch.of_below HB1.out hfl).over h2 (Nat.le_refl _) hfl hne
    exact ⟨.slice none 0 0, _, _, h1, h3 0 (by omega), hC, ((World.cell?_of_block (a := ⟨fb, fo, none⟩) (h2.block fb (by omega) hne.symm (by omega))).trans ((HB1.out.cell (p := ⟨fb, fo, none⟩) hfl).trans HCF.out)), ⟨rfl, .inl ⟨rfl, rfl⟩⟩, LI.start _ _ _ _ (rn_rp l b), fun x hx => by cases hx⟩
  clear hw2 KM
  go_wp2
  go_loopw [7] (fun i wr => ∃ xs : List Int, i = .int .i64 (xs.length : Int) ∧ LsW w0 w R l b fb fo (rnV l) xs wr) (fun i wr => (rnV l).toNat - (intOf i).toNat)
  case atStart => exact ⟨[], rfl, HST.out⟩
  case round =>
    obtain ⟨xs, rfl, v, l1, b1, hRb, hct, hC, hcv, hown, hLI, hrg⟩ := hrel
    clear HST
    obtain ⟨va, vc, rfl⟩ := ownS_slice hown
    have hxl : xs.length ≤ 1048577 := by have := hLI.szb; omega
    generalize hN : rnV l = N at *
    by_cases hlt : (xs.length : Int) < N
    · have KS := Hid.mk' (rstk_c w0 R l1 b1 wr hRb)
      cases b1 with
      | true =>
        have HF : Hid (RsW w0 w R l b fb fo wr) := ⟨xs, _, l1, true, hRb, hC, hcv, hown, hLI.done (.inl rfl), hrg⟩
        clear hRb hC hown hLI hrg
        go_wp2_with fail
        refine KS.out.mono ?_
        rintro e W5 ⟨rfl, rfl⟩
        go_wp2
        go_end0
        exact ⟨rfl, HF.out⟩
      | false =>
        have hroF := HRo.out.ch hC
        have fz := hroF.frozen fo
        have hfw : fb < wr.heap.size := hroF.lt
        have hRw : R < wr.heap.size := hRb.pos
        have hbk : ∀ q, (Value.slice va xs.length vc).ownBlock = some q → w.heap.size + 1 ≤ q := fun q hq => (hown.lt q hq).1
        have HBK := Hid.mk' hbk
        have OW := Hid.mk' hown
        have HH := Hid.mk' (And.intro hRb (And.intro hct (And.intro hC (And.intro hLI hrg))))
        have hbase : w.heap.size + 1 ≤ wr.heap.size := by have := HB1.out.size; have := hC.size; have := World.block_lt_of_cell? wr _ hct; simp only at this; omega
        clear hbk hown hRb hC hLI hrg hroF
        go_wp2_with fail
        refine KS.out.mono ?_
        rintro e W5 ⟨rfl, rfl⟩
        go_wp2_with fail
        go_region_law (refine step_append_src rfl (.tmp 34) (.tmp 38) 22 rfl (w.heap.size + 1) 85 i0 (.int .u64 0) 1 8 Try.underlying22 hi hz0 hz1 hz2 rfl (by decide) (.slice va xs.length vc) xs.length (xs.flatMap ceW) (by simp [Act.eval, Act.put]) (show World.ownsRow _ _ _ _ _ _ _ from (OW.out.alloc _).alloc _) ⟨wr.heap.size + 1, 0, none⟩ 1 1 [.int .u64 0] (by simp [Act.eval, Act.put]) rfl ?hcl (by simp [Value.oneCell']) (by simp [maxLen]; omega) (by omega) (by simp; omega) ?_; (case hcl => intro j u hu; exact lit_cell _ _ _ _ j u hu); intro v2 w3 own2 gr2 hloc; have G2 := Hid.mk' gr2; have O2 := Hid.mk' own2; have LO := Hid.mk' hloc; have e2 : w3.heap[fb]? = wr.heap[fb]? := (gr2.block fb (by simp; omega) (fun e => by have := HBK.out fb e.symm; omega)).trans (two_old wr _ _ fb hfw); have d0 : w3.cell? ⟨fb, fo, none⟩ = some (.slice va xs.length vc) := (World.cell?_of_block (a := ⟨fb, fo, none⟩) e2).trans hcv; have df : w3.frozen? ⟨fb, fo, none⟩ = false := (World.frozen?_of_block (a := ⟨fb, fo, none⟩) e2).trans fz; obtain ⟨v2a, v2c, rfl⟩ := ownS_slice own2; clear own2 gr2 hloc e2)
        all_goals
          have HV := Hid.mk' (after_app (fb := fb) (fo := fo) HH.out.1 HH.out.2.1 HH.out.2.2.1 HRo.out hm hne hge hRl hw0 (((Below.refl _ _).alloc (Nat.le_refl _) _).alloc (by simp) _).drew G2.out HBK.out O2.out)
          clear G2 O2 LO d0 df hcv fz
          go_simp
          go_upto_region 7 with fail
          refine wp_gen (fun V => Rb w0 V R l1 false ∧ V.cell? ⟨w.heap.size, 0, none⟩ = some (.int .i64 N) ∧ Ch R fb fo (fo + 1) w V ∧ V.cell? ⟨fb, fo, none⟩ = some (.slice v2a (xs.length + 1) v2c) ∧ V.ownsRow (w.heap.size + 1) 85 1 (.slice v2a (xs.length + 1) v2c) (xs.length + 1) (xs.flatMap ceW ++ [.int .u64 0])) HV.out ?_
          rintro V ⟨hRV, hcV, hCV, hvV, hoV⟩
          obtain ⟨g, cap, hsl, hgB, hgl, hroV⟩ := ownS_split hoV (by omega)
          injection hsl with hs1 _ hs3
          subst hs1 hs3
          have KE := Hid.mk' (rval_c w0 R l1 false g xs.length ((xs.length + 1) * 1) V hRV hroV (by omega) (by omega) (by omega))
          have HNX : Hid (∀ w5, FP w0 V R g xs.length (.int .u64 (rwV l1 8)) (rwL l1 8) (rwB l1 8 false) w5 → ∃ x, LsW w0 w R l b fb fo N (xs ++ [x]) w5) := by
            rintro w5 ⟨h1, h2, h3⟩
            refine ⟨rwV l1 8, .slice (some ⟨g, 0, none⟩) (xs.length + 1) v2c, _, _, h1, ?_, hCV.over h2 (by omega) hfl hne, ?_, ?_, HH.out.2.2.2.1.next (rw_rp l1 false) hlt, ?_⟩
            · exact (World.cell?_of_block (a := ⟨w.heap.size, 0, none⟩) (h2.block w.heap.size (by have := World.block_lt_of_cell? V _ hcV; simpa using this) (by omega) (by omega))).trans hcV
            · exact (World.cell?_of_block (a := ⟨fb, fo, none⟩) (h2.block fb (by have := World.block_lt_of_cell? V _ hvV; simpa using this) hne.symm (by omega))).trans hvV
            · have hq := own_visit (R := R) (Y := ceW (rwV l1 8)) hoV (ceW_len xs) rfl (by simpa using h2) (fun j hj => by
                obtain rfl : j = 0 := by omega
                simpa [ceW] using h3)
              simpa [ceW] using hq
            · intro x hx
              rcases List.mem_append.1 hx with hx | hx
              · exact HH.out.2.2.2.2 x hx
              · have e : x = rwV l1 8 := by simpa using hx
                rw [e]
                unfold rwV
                split
                · have := unx_bd l1 hRV.allB 8
                  have e8 : (2 : Int) ^ (8 * 8) = 18446744073709551616 := by decide
                  rw [e8] at this
                  omega
                · omega
          have hkk : (xs.length : Int) < (xs.length : Int) + 1 := by omega
          clear hRV hcV hCV hoV hroV HV HH OW HBK
          go_wp2_with fail
          refine KE.out.mono ?_
          rintro e w5 ⟨rfl, hw5⟩
          obtain ⟨x, hx5⟩ := HNX.out w5 hw5
          have HX := Hid.mk' hx5
          clear hx5 hw5 KE HNX
          go_wp2
          go_roundw
          case rel => exact ⟨xs ++ [x], by simp, HX.out⟩
          case measure => simp [intOf]; omega
    · have HF : Hid (RsW w0 w R l b fb fo wr) := ⟨xs, _, l1, b1, hRb, hC, hcv, hown, hLI.done (.inr (by omega)), hrg⟩
      clear hRb hC hown hLI hrg
      go_wp2
      go_end0
      exact ⟨rfl, HF.out⟩
end Go.Proofs.Ytfaajmhmcdoibaa
