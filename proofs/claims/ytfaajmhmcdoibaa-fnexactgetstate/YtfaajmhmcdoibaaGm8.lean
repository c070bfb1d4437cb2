import Derived.Test.YtfaajmhmcdoibaaGm7
set_option linter.all false
set_option linter.unusedVariables false
namespace Go.Proofs.Ytfaajmhmcdoibaa
open Go.RowKit Go.Sort
set_option maxRecDepth 100000
def ceF (p : Frm × Value × Value) : List Value := [.int .i64 p.1.fn, .int .i64 p.1.pc, p.2.1, .int .i64 p.1.ht, p.2.2]
theorem ceF_len (xs : List (Frm × Value × Value)) : (xs.flatMap ceF).length = xs.length * 5 := by
  induction xs with
  | nil => rfl
  | cons x xs ih => simp only [List.flatMap_cons, List.length_append, ih, List.length_cons, ceF]; simp; omega
theorem infoF : (Try.prog.info? 54).map (fun i => (i.zero, i.size, i.bytes)) = some (some (.agg #[.int .i64 0, .int .i64 0, .slice none 0 0, .int .i64 0, .slice none 0 0]), 5, 72) := by kernel_rfl
def zF : Frm × Value × Value := (Frm.z, .slice none 0 0, .slice none 0 0)
/-- What hangs on frames that were read: each has blocks of its own, and none is the row's. -/
def FsI (W : World) (B : Nat) (vb : Option Nat) (xs : List (Frm × Value × Value)) : Prop := ∃ bd : Nat → Nat, B ≤ bd 0 ∧ bd xs.length ≤ W.heap.size ∧ ∀ i, i < xs.length → ∃ M, FrH W (bd i) M (bd (i + 1)) (xs.getD i zF).1 (xs.getD i zF).2.1 (xs.getD i zF).2.2 ∧ (∀ q, ((xs.getD i zF).2.1.ownBlock = some q ∨ (xs.getD i zF).2.2.ownBlock = some q) → B ≤ q ∧ vb ≠ some q) ∧ ∀ y ∈ (xs.getD i zF).1.loc, 0 ≤ y ∧ y ≤ 18446744073709551615
theorem FrH.keep {W W' : World} {A M C : Nat} {x : Frm} {v1 v2 : Value} (h : FrH W A M C x v1 v2) (hs : W.heap.size ≤ W'.heap.size) (hk : ∀ q, (v1.ownBlock = some q ∨ v2.ownBlock = some q) → q < C → W'.heap[q]? = W.heap[q]?) : FrH W' A M C x v1 v2 := by
  obtain ⟨h1, h2, h3, h4, h5, h6, h7⟩ := h
  exact ⟨ownS_of h1 (fun q hq => hk q (.inl hq) (by have := h3 q hq; omega)), ownS_of h2 (fun q hq => hk q (.inr hq) (h4 q hq)), h3, h4, h5, h6, by omega⟩
theorem FrH.down {W : World} {A A' M C : Nat} {x : Frm} {v1 v2 : Value} (h : FrH W A M C x v1 v2) (hA : A' ≤ A) : FrH W A' M C x v1 v2 := by
  obtain ⟨h1, h2, h3, h4, h5, h6, h7⟩ := h
  exact ⟨ownS_down h1 hA, h2, h3, h4, by omega, h6, h7⟩
/-- .. while one more is read. -/
def FsV (w wr : World) (R : Nat) (V : World) (v : Value) (xs : List (Frm × Value × Value)) : Prop := FsI V (w.heap.size + 1) v.ownBlock xs ∧ wr.heap.size ≤ V.heap.size
theorem fs_next {w wr w3 W4 : World} {R fb fo : Nat} {xs : List (Frm × Value × Value)} {v v2 : Value} {e sz n : Nat} {L : List Value} (h : FsI wr (w.heap.size + 1) v.ownBlock xs) (hbase : w.heap.size + 1 ≤ wr.heap.size) (hRl : R < w.heap.size) (hfl : fb < w.heap.size) (hg : W4.grownBy w3 v.ownBlock) (hs4 : wr.heap.size ≤ W4.heap.size) (h4 : ∀ q, q < wr.heap.size → W4.heap[q]? = wr.heap[q]?) (hloc : v2.ownBlock = v.ownBlock ∨ v2.ownBlock = some W4.heap.size) (ho : w3.ownsRow (w.heap.size + 1) e sz v2 n L) (V : World) (hV : V = w3.setCell ⟨fb, fo, none⟩ v2) : FsV w wr R V v2 xs := by
  subst hV
  have hs3 := hg.size
  obtain ⟨bd, b1, b2, b3⟩ := h
  have hsz : wr.heap.size ≤ (w3.setCell ⟨fb, fo, none⟩ v2).heap.size := by simp; omega
  refine ⟨⟨bd, b1, Nat.le_trans b2 hsz, fun i hi => ?_⟩, hsz⟩
  obtain ⟨M, h1, h2, h3⟩ := b3 i hi
  have hC : bd (i + 1) ≤ wr.heap.size := h1.2.2.2.2.2.2
  refine ⟨M, h1.keep hsz (fun q hq hqC => ?_), fun q hq => ⟨(h2 q hq).1, ?_⟩, h3⟩
  · have hq2 := h2 q hq
    rw [Below.heap_setCell _ _ _ _ (fun e => by have e' : q = fb := e; omega)]
    exact (hg.block q (by omega) (fun e => hq2.2 e.symm)).trans (h4 q (by omega))
  · rcases hloc with e | e
    · rw [e]; exact (h2 q hq).2
    · rw [e]
      intro h
      injection h with h
      have hqC : q < bd (i + 1) := by
        rcases hq with hq | hq
        · have := h1.2.2.1 q hq; have := h1.2.2.2.2.2.1; omega
        · exact h1.2.2.2.1 q hq
      omega
theorem FsV.done {w wr V w5 : World} {R g a b n cap : Nat} {xs : List (Frm × Value × Value)} {v : Value} {x : Frm} {v1 v2 : Value} {M : Nat} (h : FsV w wr R V v xs) (hv : v = .slice (some ⟨g, 0, none⟩) n cap) (hC : Ch R g a b V w5) (hgl : g < V.heap.size) (hgB : w.heap.size + 1 ≤ g) (hRl : R < w.heap.size) (hfh : FrH w5 V.heap.size M w5.heap.size x v1 v2) (hrg : ∀ y ∈ x.loc, 0 ≤ y ∧ y ≤ 18446744073709551615) : FsI w5 (w.heap.size + 1) (Value.slice (some ⟨g, 0, none⟩) n cap).ownBlock (xs ++ [(x, v1, v2)]) := by
  subst hv
  obtain ⟨⟨bd, b1, b2, b3⟩, hs⟩ := h
  have hs5 := hC.size
  have hvb : (Value.slice (some ⟨g, 0, none⟩) n cap).ownBlock = some g := rfl
  rw [hvb] at b3 ⊢
  have hlen : (xs ++ [(x, v1, v2)]).length = xs.length + 1 := by simp
  refine ⟨fun i => if i ≤ xs.length then bd i else w5.heap.size, by simpa using b1, by rw [hlen]; show (if xs.length + 1 ≤ xs.length then _ else _) ≤ _; rw [if_neg (by omega)]; exact Nat.le_refl _, fun i hi => ?_⟩
  rw [hlen] at hi
  by_cases hik : i < xs.length
  · have e : (xs ++ [(x, v1, v2)]).getD i zF = xs.getD i zF := by simp [List.getD, List.getElem?_append, hik]
    rw [e]
    obtain ⟨M', h1, h2, h3⟩ := b3 i hik
    refine ⟨M', ?_, h2, h3⟩
    show FrH w5 (if i ≤ xs.length then bd i else w5.heap.size) M' (if i + 1 ≤ xs.length then bd (i + 1) else w5.heap.size) _ _ _
    rw [if_pos (by omega), if_pos (by omega)]
    refine h1.keep hs5 (fun q hq hqC => ?_)
    have hq2 := h2 q hq
    have := h1.2.2.2.2.2.2
    exact hC.block q (by omega) (by omega) (fun e => hq2.2 (by rw [e]))
  · have ei : i = xs.length := by omega
    subst ei
    have e : (xs ++ [(x, v1, v2)]).getD xs.length zF = (x, v1, v2) := by simp [List.getD]
    rw [e]
    refine ⟨M, ?_, fun q hq => ?_, hrg⟩
    · show FrH w5 (if xs.length ≤ xs.length then bd xs.length else w5.heap.size) M (if xs.length + 1 ≤ xs.length then bd (xs.length + 1) else w5.heap.size) x v1 v2
      rw [if_pos (Nat.le_refl _), if_neg (by omega)]
      exact hfh.down b2
    · have : V.heap.size ≤ q := by
        rcases hq with hq | hq
        · exact (hfh.1.lt q hq).1
        · have := (hfh.2.1.lt q hq).1; have := hfh.2.2.2.2.1; omega
      refine ⟨by omega, fun h => ?_⟩
      injection h with h
      omega
/-- While a list is read. -/
def LsF (w0 w : World) (R : Nat) (l : List Int) (b : Bool) (fb fo : Nat) (N : Int) (xs : List (Frm × Value × Value)) (W : World) : Prop := ∃ v l1 b1, Rb w0 W R l1 b1 ∧ W.cell? ⟨w.heap.size, 0, none⟩ = some (.int .i64 N) ∧ Ch R fb fo (fo + 1) w W ∧ W.cell? ⟨fb, fo, none⟩ = some v ∧ W.ownsRow (w.heap.size + 1) 54 5 v xs.length (xs.flatMap ceF) ∧ LI frmE frmO' fSz 1 l b N (xs.map (·.1)) l1 b1 ∧ FsI W (w.heap.size + 1) v.ownBlock xs
/-- What the reading of a list leaves. -/
def RsF (w0 w : World) (R : Nat) (l : List Int) (b : Bool) (fb fo : Nat) (w' : World) : Prop := ∃ xs v l' b', Rb w0 w' R l' b' ∧ Ch R fb fo (fo + 1) w w' ∧ w'.cell? ⟨fb, fo, none⟩ = some v ∧ w'.ownsRow (w.heap.size + 1) 54 5 v xs.length (xs.flatMap ceF) ∧ RP (listE frmE) (listO frmO') [] (fun l => l.length + (l.map fSz).sum) 2 l b (xs.map (·.1)) l' b' ∧ FsI w' (w.heap.size + 1) v.ownBlock xs
set_option maxHeartbeats 8000000 in
theorem rlistF_c (w0 : World) (R : Nat) (l : List Int) (b : Bool) (fb fo m : Nat) (w : World) (hR : Rb w0 w R l b) (hr : Ro w fb m) (hm : fo + 1 ≤ m) (hne : R ≠ fb) (hge : w0.heap.size ≤ fb) (hc : w.cell? ⟨fb, fo, none⟩ = some (.slice none 0 0)) (hl : l.length ≤ 1048576) :
    Calls Try.prog 43 #[.iface 76 (.pointer (some ⟨R, 0, none⟩)), .pointer (some ⟨fb, fo, none⟩), .func (.func 44) #[] #[]] w fun e w' => e = .returned (.tuple #[]) ∧ RsF w0 w R l b fb fo w' := by
  obtain ⟨i0, hi, hz0, hz1, hz2⟩ := info_parts infoF
  have n2 := rmetN ⟨R, 0, none⟩
  have n4 := rmetS ⟨R, 0, none⟩
  have hRl := hR.pos
  have hfl := hr.lt
  have hw0 : w0.heap.size ≤ w.heap.size := hR.bel.size
  obtain ⟨cb, hcb⟩ : ∃ cb, cb = w.heap.size := ⟨_, rfl⟩
  have KN := Hid.mk' (fun (W1 : World) (hb1 : Below w.heap.size w W1) (hro1 : Ro W1 w.heap.size 1) => rlit_c w0 R l b w.heap.size 0 1 1 W1 (W1.alloc (.cells #[.pointer (some ⟨w.heap.size, 0, none⟩)] 91)) (by omega) (hR.below hb1) hro1 (by omega) (by omega) hw0 ((Below.refl _ _).alloc (Nat.le_refl _) _) (by simp) (one1 (cell_new rfl rfl)))
  have HRo := Hid.mk' hr
  have HR0 := Hid.mk' hR
  have HCF := Hid.mk' hc
  clear hR hr
  go_enter Try.func43, Try.ntmps43
  go_upto_region 1 with fail
  refine wp_gen (fun W => Ro W w.heap.size 1 ∧ Below w.heap.size w W ∧ w.heap.size < W.heap.size) ?_ ?_
  · refine ⟨?_, ?_, ?_⟩
    · exact ⟨_, _, heap_new _ _, by simp⟩
    · exact (Below.refl _ _).alloc (Nat.le_refl _) _
    · simp
  rintro W1 ⟨hro1, hb1, hlt1⟩
  have KM := Hid.mk' (KN.out W1 hb1 hro1)
  have HB1 := Hid.mk' hb1
  have HRO1 := Hid.mk' hro1
  clear hb1 hro1 hc KN
  go_wp2_with fail
  refine KM.out.mono ?_
  rintro e w2 ⟨rfl, hw2⟩
  have HST : Hid (LsF w0 w R l b fb fo (rnV l) [] w2) := by
    obtain ⟨h1, h2, h3⟩ := hw2
    have hC : Ch R fb fo (fo + 1) w w2 := (Ch.of_below HB1.out hfl).over h2 (Nat.le_refl _) hfl hne
    exact ⟨.slice none 0 0, _, _, h1, h3 0 (by omega), hC, ((World.cell?_of_block (a := ⟨fb, fo, none⟩) (h2.block fb (by omega) hne.symm (by omega))).trans ((HB1.out.cell (p := ⟨fb, fo, none⟩) hfl).trans HCF.out)), ⟨rfl, .inl ⟨rfl, rfl⟩⟩, LI.start _ _ _ _ (rn_rp l b), ⟨fun _ => w.heap.size + 1, Nat.le_refl _, by have := h2.size; show w.heap.size + 1 ≤ w2.heap.size; omega, fun i hi => by simp at hi⟩⟩
  clear hw2 KM
  go_wp2
  go_loopw [7] (fun i wr => ∃ xs : List (Frm × Value × Value), i = .int .i64 (xs.length : Int) ∧ LsF w0 w R l b fb fo (rnV l) xs wr) (fun i wr => (rnV l).toNat - (intOf i).toNat)
  case atStart => exact ⟨[], rfl, HST.out⟩
  case round =>
    obtain ⟨xs, rfl, v, l1, b1, hRb, hct, hC, hcv, hown, hLI, hrg⟩ := hrel
    clear HST
    obtain ⟨va, vc, rfl⟩ := ownS_slice hown
    have hxl : xs.length ≤ 1048578 := by have := hLI.szb; simp only [List.length_map] at this; omega
    generalize hN : rnV l = N at *
    by_cases hlt : (xs.length : Int) < N
    · have KS := Hid.mk' (rstk_c w0 R l1 b1 wr hRb)
      cases b1 with
      | true =>
        have HF : Hid (RsF w0 w R l b fb fo wr) := ⟨xs, _, l1, true, hRb, hC, hcv, hown, hLI.done (.inl rfl), hrg⟩
        clear hRb hC hown hLI hrg
        go_wp2_with fail
        refine KS.out.mono ?_
        rintro e W5 ⟨rfl, rfl⟩
        go_wp2
        go_end0
        exact ⟨rfl, HF.out⟩
      | false =>
        have hroF := HRo.out.ch hC
        have fz := hroF.frozen fo
        have hfw : fb < wr.heap.size := hroF.lt
        have hRw : R < wr.heap.size := hRb.pos
        have hbk : ∀ q, (Value.slice va xs.length vc).ownBlock = some q → w.heap.size + 1 ≤ q := fun q hq => (hown.lt q hq).1
        have HBK := Hid.mk' hbk
        have OW := Hid.mk' hown
        have HH := Hid.mk' (And.intro hRb (And.intro hct (And.intro hC (And.intro hLI hrg))))
        have hbase : w.heap.size + 1 ≤ wr.heap.size := by have := HB1.out.size; have := hC.size; have := World.block_lt_of_cell? wr _ hct; simp only at this; omega
        clear hbk hown hRb hC hLI hrg hroF
        go_wp2_with fail
        refine KS.out.mono ?_
        rintro e W5 ⟨rfl, rfl⟩
        go_wp2_with fail
        go_region_law (refine step_append_src rfl (.tmp 34) (.tmp 38) 29 rfl (w.heap.size + 1) 54 i0 (.agg #[.int .i64 0, .int .i64 0, .slice none 0 0, .int .i64 0, .slice none 0 0]) 5 72 Try.underlying29 hi hz0 hz1 hz2 rfl (by decide) (.slice va xs.length vc) xs.length (xs.flatMap ceF) (by simp [Act.eval, Act.put]) (show World.ownsRow _ _ _ _ _ _ _ from (OW.out.alloc _).alloc _) ⟨wr.heap.size + 1, 0, none⟩ 1 1 [.int .i64 0, .int .i64 0, .slice none 0 0, .int .i64 0, .slice none 0 0] (by simp [Act.eval, Act.put]) rfl ?hcl (by simp [Value.oneCell']) (by simp [maxLen]; omega) (by omega) (by simp; omega) ?_; (case hcl => intro j u hu; exact lit_cell _ _ _ _ j u hu); intro v2 w3 own2 gr2 hloc; have G2 := Hid.mk' gr2; have O2 := Hid.mk' own2; have LO := Hid.mk' hloc; have e2 : w3.heap[fb]? = wr.heap[fb]? := (gr2.block fb (by simp; omega) (fun e => by have := HBK.out fb e.symm; omega)).trans (two_old wr _ _ fb hfw); have d0 : w3.cell? ⟨fb, fo, none⟩ = some (.slice va xs.length vc) := (World.cell?_of_block (a := ⟨fb, fo, none⟩) e2).trans hcv; have df : w3.frozen? ⟨fb, fo, none⟩ = false := (World.frozen?_of_block (a := ⟨fb, fo, none⟩) e2).trans fz; obtain ⟨v2a, v2c, rfl⟩ := ownS_slice own2; clear own2 gr2 hloc e2)
        all_goals
          have HFS := Hid.mk' (fun V1 (hV1 : V1 = w3.setCell ⟨fb, fo, none⟩ (.slice v2a (xs.length + 1) v2c)) => fs_next (w := w) (wr := wr) (R := R) (fb := fb) (fo := fo) (xs := xs) HH.out.2.2.2.2 hbase hRl hfl G2.out (by simp <;> omega) (fun q hq => two_old wr _ _ q hq) LO.out O2.out V1 hV1)
          have HV := Hid.mk' (after_app (fb := fb) (fo := fo) HH.out.1 HH.out.2.1 HH.out.2.2.1 HRo.out hm hne hge hRl hw0 (((Below.refl _ _).alloc (Nat.le_refl _) _).alloc (by simp) _).drew G2.out HBK.out O2.out)
          clear G2 O2 LO d0 df hcv fz
          go_simp
          go_upto_region 7 with fail
          refine wp_gen (fun V => Rb w0 V R l1 false ∧ V.cell? ⟨w.heap.size, 0, none⟩ = some (.int .i64 N) ∧ Ch R fb fo (fo + 1) w V ∧ V.cell? ⟨fb, fo, none⟩ = some (.slice v2a (xs.length + 1) v2c) ∧ V.ownsRow (w.heap.size + 1) 54 5 (.slice v2a (xs.length + 1) v2c) (xs.length + 1) (xs.flatMap ceF ++ [.int .i64 0, .int .i64 0, .slice none 0 0, .int .i64 0, .slice none 0 0]) ∧ FsV w wr R V (.slice v2a (xs.length + 1) v2c) xs) ⟨HV.out.1, HV.out.2.1, HV.out.2.2.1, HV.out.2.2.2.1, HV.out.2.2.2.2, HFS.out _ rfl⟩ ?_
          rintro V ⟨hRV, hcV, hCV, hvV, hoV, hfs⟩
          obtain ⟨g, cap, hsl, hgB, hgl, hroV⟩ := ownS_split hoV (by omega)
          injection hsl with hs1 _ hs3
          subst hs1 hs3
          have hz2 : V.cell? ⟨g, xs.length * 5 + 2, none⟩ = some (.slice none 0 0) := by
            rw [hoV.cellAt (xs.length * 5 + 2) (by omega), List.getElem?_append_right (by rw [ceF_len]; omega), ceF_len]
            simp [show xs.length * 5 + 2 - xs.length * 5 = 2 by omega]
          have hz4 : V.cell? ⟨g, xs.length * 5 + 4, none⟩ = some (.slice none 0 0) := by
            rw [hoV.cellAt (xs.length * 5 + 4) (by omega), List.getElem?_append_right (by rw [ceF_len]; omega), ceF_len]
            simp [show xs.length * 5 + 4 - xs.length * 5 = 4 by omega]
          have hl1 : l1.length ≤ 1048576 := by have := HH.out.2.2.2.1.le; omega
          have KE := Hid.mk' (rfrm_c w0 R l1 false g (xs.length * 5) ((xs.length + 1) * 5) V hRV hroV (by omega) (by omega) (by omega) hz2 hz4 hl1)
          have HNX : Hid (∀ w5, FrP w0 V R l1 false g (xs.length * 5) w5 → ∃ x, LsF w0 w R l b fb fo N (xs ++ [x]) w5) := by
            rintro w5 ⟨x, v1, v2, M, l5, b5, h1, h2, ⟨c0, c1, c2, c3, c4⟩, hfh, hrp, hrg⟩
            refine ⟨(x, v1, v2), .slice (some ⟨g, 0, none⟩) (xs.length + 1) v2c, _, _, h1, ?_, hCV.over h2 (by omega) hfl hne, ?_, ?_, ?_, ?_⟩
            · exact (World.cell?_of_block (a := ⟨w.heap.size, 0, none⟩) (h2.block w.heap.size (by have := World.block_lt_of_cell? V _ hcV; simpa using this) (by omega) (by omega))).trans hcV
            · have hq := (World.cell?_of_block (a := ⟨fb, fo, none⟩) (h2.block fb (by have := World.block_lt_of_cell? V _ hvV; simpa using this) hne.symm (by omega))).trans hvV
              exact hq
            · have hq := own_visit (R := R) (Y := ceF (x, v1, v2)) hoV (ceF_len xs) rfl h2 (fun j hj => by
                rcases (by omega : j = 0 ∨ j = 1 ∨ j = 2 ∨ j = 3 ∨ j = 4) with rfl | rfl | rfl | rfl | rfl
                · simpa [ceF] using c0
                · simpa [ceF] using c1
                · simpa [ceF] using c2
                · simpa [ceF] using c3
                · simpa [ceF] using c4)
              simpa [ceF] using hq
            · have hq := HH.out.2.2.2.1.next hrp (by simp only [List.length_map]; omega)
              simpa using hq
            · exact hfs.done rfl h2 hgl hgB hRl hfh hrg
          have hkk : (xs.length : Int) < (xs.length : Int) + 1 := by omega
          clear hRV hcV hCV hoV hroV HV HH OW HBK hz2 hz4 hfs HFS
          go_wp2_with fail
          refine KE.out.mono ?_
          rintro e w5 ⟨rfl, hw5⟩
          obtain ⟨x, hx5⟩ := HNX.out w5 hw5
          have HX := Hid.mk' hx5
          clear hx5 hw5 KE HNX
          go_wp2
          go_roundw
          case rel => exact ⟨xs ++ [x], by simp, HX.out⟩
          case measure => simp [intOf]; omega
    · have HF : Hid (RsF w0 w R l b fb fo wr) := ⟨xs, _, l1, b1, hRb, hC, hcv, hown, hLI.done (.inr (by simp only [List.length_map]; omega)), hrg⟩
      clear hRb hC hown hLI hrg
      go_wp2
      go_end0
      exact ⟨rfl, HF.out⟩
end Go.Proofs.Ytfaajmhmcdoibaa
