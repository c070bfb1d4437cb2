import Derived.Test.YtfaajmhmcdoibaaGm5
set_option linter.all false
set_option linter.unusedVariables false
namespace Go.Proofs.Ytfaajmhmcdoibaa
open Go.RowKit Go.Sort
set_option maxRecDepth 100000
def ceL (x : Lab) : List Value := [.int .i64 x.pc, .int .i64 x.ar, .int .i64 x.ht, .bool x.lp]
theorem ceL_len (xs : List Lab) : (xs.flatMap ceL).length = xs.length * 4 := by
  induction xs with
  | nil => rfl
  | cons x xs ih => simp only [List.flatMap_cons, List.length_append, ih, List.length_cons, ceL]; simp; omega
theorem infoL : (Try.prog.info? 56).map (fun i => (i.zero, i.size, i.bytes)) = some (some (.agg #[.int .i64 0, .int .i64 0, .int .i64 0, .bool false]), 4, 32) := by kernel_rfl
/-- While a list is read. -/
def LsL (w0 w : World) (R : Nat) (l : List Int) (b : Bool) (fb fo : Nat) (N : Int) (xs : List Lab) (W : World) : Prop := ∃ v l1 b1, Rb w0 W R l1 b1 ∧ W.cell? ⟨w.heap.size, 0, none⟩ = some (.int .i64 N) ∧ Ch R fb fo (fo + 1) w W ∧ W.cell? ⟨fb, fo, none⟩ = some v ∧ W.ownsRow (w.heap.size + 1) 56 4 v xs.length (xs.flatMap ceL) ∧ LI labE labO (fun _ => 0) 0 l b N xs l1 b1 ∧ True
/-- What the reading of a list leaves. -/
def RsL (w0 w : World) (R : Nat) (l : List Int) (b : Bool) (fb fo : Nat) (w' : World) : Prop := ∃ xs v l' b', Rb w0 w' R l' b' ∧ Ch R fb fo (fo + 1) w w' ∧ w'.cell? ⟨fb, fo, none⟩ = some v ∧ w'.ownsRow (w.heap.size + 1) 56 4 v xs.length (xs.flatMap ceL) ∧ RP (listE labE) (listO labO) [] lSz 1 l b xs l' b' ∧ True
set_option maxHeartbeats 8000000 in
theorem rlistL_c (w0 : World) (R : Nat) (l : List Int) (b : Bool) (fb fo m : Nat) (w : World) (hR : Rb w0 w R l b) (hr : Ro w fb m) (hm : fo + 1 ≤ m) (hne : R ≠ fb) (hge : w0.heap.size ≤ fb) (hc : w.cell? ⟨fb, fo, none⟩ = some (.slice none 0 0)) (hl : l.length ≤ 1048576) :
    Calls Try.prog 53 #[.iface 76 (.pointer (some ⟨R, 0, none⟩)), .pointer (some ⟨fb, fo, none⟩), .func (.func 54) #[] #[]] w fun e w' => e = .returned (.tuple #[]) ∧ RsL w0 w R l b fb fo w' := by
  obtain ⟨i0, hi, hz0, hz1, hz2⟩ := info_parts infoL
  have n2 := rmetN ⟨R, 0, none⟩
  have n4 := rmetS ⟨R, 0, none⟩
  have hRl := hR.pos
  have hfl := hr.lt
  have hw0 : w0.heap.size ≤ w.heap.size := hR.bel.size
  obtain ⟨cb, hcb⟩ : ∃ cb, cb = w.heap.size := ⟨_, rfl⟩
  have KN := Hid.mk' (fun (W1 : World) (hb1 : Below w.heap.size w W1) (hro1 : Ro W1 w.heap.size 1) => rlit_c w0 R l b w.heap.size 0 1 1 W1 (W1.alloc (.cells #[.pointer (some ⟨w.heap.size, 0, none⟩)] 91)) (by omega) (hR.below hb1) hro1 (by omega) (by omega) hw0 ((Below.refl _ _).alloc (Nat.le_refl _) _) (by simp) (one1 (cell_new rfl rfl)))
  have HRo := Hid.mk' hr
  have HR0 := Hid.mk' hR
  have HCF := Hid.mk' hc
  clear hR hr
  go_enter Try.func53, Try.ntmps53
  go_upto_region 1 with fail
  refine wp_gen (fun W => Ro W w.heap.size 1 ∧ Below w.heap.size w W ∧ w.heap.size < W.heap.size) ?_ ?_
  · refine ⟨?_, ?_, ?_⟩
    · exact ⟨_, _, heap_new _ _, by simp⟩
    · exact (Below.refl _ _).alloc (Nat.le_refl _) _
    · simp
  rintro W1 ⟨hro1, hb1, hlt1⟩
  have KM := Hid.mk' (KN.out W1 hb1 hro1)
  have HB1 := Hid.mk' hb1
  have HRO1 := Hid.mk' hro1
  clear hb1 hro1 hc KN
  go_wp2_with fail
  refine KM.out.mono ?_
  rintro e w2 ⟨rfl, hw2⟩
  have HST : Hid (LsL w0 w R l b fb fo (rnV l) [] w2) := by
    obtain ⟨h1, h2, h3⟩ := hw2
    have hC : Ch R fb fo (fo + 1) w w2 := (Ch.of_below HB1.out hfl).over h2 (Nat.le_refl _) hfl hne
    exact ⟨.slice none 0 0, _, _, h1, h3 0 (by omega), hC, ((World.cell?_of_block (a := ⟨fb, fo, none⟩) (h2.block fb (by omega) hne.symm (by omega))).trans ((HB1.out.cell (p := ⟨fb, fo, none⟩) hfl).trans HCF.out)), ⟨rfl, .inl ⟨rfl, rfl⟩⟩, LI.start _ _ _ _ (rn_rp l b), trivial⟩
  clear hw2 KM
  go_wp2
  go_loopw [7] (fun i wr => ∃ xs : List Lab, i = .int .i64 (xs.length : Int) ∧ LsL w0 w R l b fb fo (rnV l) xs wr) (fun i wr => (rnV l).toNat - (intOf i).toNat)
  case atStart => exact ⟨[], rfl, HST.out⟩
  case round =>
    obtain ⟨xs, rfl, v, l1, b1, hRb, hct, hC, hcv, hown, hLI, hrg⟩ := hrel
    clear HST
    obtain ⟨va, vc, rfl⟩ := ownS_slice hown
    have hxl : xs.length ≤ 1048577 := by have := hLI.szb; omega
    generalize hN : rnV l = N at *
    by_cases hlt : (xs.length : Int) < N
    · have KS := Hid.mk' (rstk_c w0 R l1 b1 wr hRb)
      cases b1 with
      | true =>
        have HF : Hid (RsL w0 w R l b fb fo wr) := ⟨xs, _, l1, true, hRb, hC, hcv, hown, hLI.done (.inl rfl), hrg⟩
        clear hRb hC hown hLI hrg
        go_wp2_with fail
        refine KS.out.mono ?_
        rintro e W5 ⟨rfl, rfl⟩
        go_wp2
        go_end0
        exact ⟨rfl, HF.out⟩
      | false =>
        have hroF := HRo.out.ch hC
        have fz := hroF.frozen fo
        have hfw : fb < wr.heap.size := hroF.lt
        have hRw : R < wr.heap.size := hRb.pos
        have hbk : ∀ q, (Value.slice va xs.length vc).ownBlock = some q → w.heap.size + 1 ≤ q := fun q hq => (hown.lt q hq).1
        have HBK := Hid.mk' hbk
        have OW := Hid.mk' hown
        have HH := Hid.mk' (And.intro hRb (And.intro hct (And.intro hC (And.intro hLI hrg))))
        have hbase : w.heap.size + 1 ≤ wr.heap.size := by have := HB1.out.size; have := hC.size; have := World.block_lt_of_cell? wr _ hct; simp only at this; omega
        clear hbk hown hRb hC hLI hrg hroF
        go_wp2_with fail
        refine KS.out.mono ?_
        rintro e W5 ⟨rfl, rfl⟩
        go_wp2_with fail
        go_region_law (refine step_append_src rfl (.tmp 34) (.tmp 38) 52 rfl (w.heap.size + 1) 56 i0 (.agg #[.int .i64 0, .int .i64 0, .int .i64 0, .bool false]) 4 32 Try.underlying52 hi hz0 hz1 hz2 rfl (by decide) (.slice va xs.length vc) xs.length (xs.flatMap ceL) (by simp [Act.eval, Act.put]) (show World.ownsRow _ _ _ _ _ _ _ from (OW.out.alloc _).alloc _) ⟨wr.heap.size + 1, 0, none⟩ 1 1 [.int .i64 0, .int .i64 0, .int .i64 0, .bool false] (by simp [Act.eval, Act.put]) rfl ?hcl (by simp [Value.oneCell']) (by simp [maxLen]; omega) (by omega) (by simp; omega) ?_; (case hcl => intro j u hu; exact lit_cell _ _ _ _ j u hu); intro v2 w3 own2 gr2 hloc; have G2 := Hid.mk' gr2; have O2 := Hid.mk' own2; have LO := Hid.mk' hloc; have e2 : w3.heap[fb]? = wr.heap[fb]? := (gr2.block fb (by simp; omega) (fun e => by have := HBK.out fb e.symm; omega)).trans (two_old wr _ _ fb hfw); have d0 : w3.cell? ⟨fb, fo, none⟩ = some (.slice va xs.length vc) := (World.cell?_of_block (a := ⟨fb, fo, none⟩) e2).trans hcv; have df : w3.frozen? ⟨fb, fo, none⟩ = false := (World.frozen?_of_block (a := ⟨fb, fo, none⟩) e2).trans fz; obtain ⟨v2a, v2c, rfl⟩ := ownS_slice own2; clear own2 gr2 hloc e2)
        all_goals
          have HV := Hid.mk' (after_app (fb := fb) (fo := fo) HH.out.1 HH.out.2.1 HH.out.2.2.1 HRo.out hm hne hge hRl hw0 (((Below.refl _ _).alloc (Nat.le_refl _) _).alloc (by simp) _).drew G2.out HBK.out O2.out)
          clear G2 O2 LO d0 df hcv fz
          go_simp
          go_upto_region 7 with fail
          refine wp_gen (fun V => Rb w0 V R l1 false ∧ V.cell? ⟨w.heap.size, 0, none⟩ = some (.int .i64 N) ∧ Ch R fb fo (fo + 1) w V ∧ V.cell? ⟨fb, fo, none⟩ = some (.slice v2a (xs.length + 1) v2c) ∧ V.ownsRow (w.heap.size + 1) 56 4 (.slice v2a (xs.length + 1) v2c) (xs.length + 1) (xs.flatMap ceL ++ [.int .i64 0, .int .i64 0, .int .i64 0, .bool false])) HV.out ?_
          rintro V ⟨hRV, hcV, hCV, hvV, hoV⟩
          obtain ⟨g, cap, hsl, hgB, hgl, hroV⟩ := ownS_split hoV (by omega)
          injection hsl with hs1 _ hs3
          subst hs1 hs3
          have KE := Hid.mk' (rlab_c w0 R l1 false g (xs.length * 4) ((xs.length + 1) * 4) V hRV hroV (by omega) (by omega) (by omega))
          have HNX : Hid (∀ w5, LbP w0 V R l1 false g (xs.length * 4) w5 → ∃ x, LsL w0 w R l b fb fo N (xs ++ [x]) w5) := by
            rintro w5 ⟨x, l5, b5, h1, h2, ⟨c0, c1, c2, c3⟩, hrp⟩
            refine ⟨x, .slice (some ⟨g, 0, none⟩) (xs.length + 1) v2c, _, _, h1, ?_, hCV.over h2 (by omega) hfl hne, ?_, ?_, HH.out.2.2.2.1.next hrp hlt, trivial⟩
            · exact (World.cell?_of_block (a := ⟨w.heap.size, 0, none⟩) (h2.block w.heap.size (by have := World.block_lt_of_cell? V _ hcV; simpa using this) (by omega) (by omega))).trans hcV
            · exact (World.cell?_of_block (a := ⟨fb, fo, none⟩) (h2.block fb (by have := World.block_lt_of_cell? V _ hvV; simpa using this) hne.symm (by omega))).trans hvV
            · have hq := own_visit (R := R) (Y := ceL x) hoV (ceL_len xs) rfl h2 (fun j hj => by
                rcases (by omega : j = 0 ∨ j = 1 ∨ j = 2 ∨ j = 3) with rfl | rfl | rfl | rfl
                · simpa [ceL] using c0
                · simpa [ceL] using c1
                · simpa [ceL] using c2
                · simpa [ceL] using c3)
              simpa [ceL] using hq
          have hkk : (xs.length : Int) < (xs.length : Int) + 1 := by omega
          clear hRV hcV hCV hoV hroV HV HH OW HBK
          go_wp2_with fail
          refine KE.out.mono ?_
          rintro e w5 ⟨rfl, hw5⟩
          obtain ⟨x, hx5⟩ := HNX.out w5 hw5
          have HX := Hid.mk' hx5
          clear hx5 hw5 KE HNX
          go_wp2
          go_roundw
          case rel => exact ⟨xs ++ [x], by simp, HX.out⟩
          case measure => simp [intOf]; omega
    · have HF : Hid (RsL w0 w R l b fb fo wr) := ⟨xs, _, l1, b1, hRb, hC, hcv, hown, hLI.done (.inr (by omega)), hrg⟩
      clear hRb hC hown hLI hrg
      go_wp2
      go_end0
      exact ⟨rfl, HF.out⟩
end Go.Proofs.Ytfaajmhmcdoibaa
