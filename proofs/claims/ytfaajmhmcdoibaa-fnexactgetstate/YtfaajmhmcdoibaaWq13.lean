import Derived.Test.YtfaajmhmcdoibaaWq12
set_option linter.all false
set_option linter.unusedVariables false
namespace Go.Proofs.Ytfaajmhmcdoibaa
open Go.RowKit Go.Sort
set_option maxRecDepth 100000
theorem wb_new' (w1 : World) (t : TypeId) : Wb ((w1.alloc (.cells #[.int .u8 83, .int .u8 1] 5)).alloc (.cells #[.slice (some ⟨w1.heap.size, 0, none⟩) 2 2, .bool false] t)) (w1.heap.size + 1) (fun k => k < w1.heap.size) [83, 1] false := by
  have e : (w1.alloc (.cells #[.int .u8 83, .int .u8 1] 5)).heap.size = w1.heap.size + 1 := by simp
  refine ⟨.slice (some ⟨w1.heap.size, 0, none⟩) 2 2, ?_, ?_, ?_, .inl ?_, by omega, ?_, fun k hk => by simp; omega⟩
  · rw [← e]; exact cell_new rfl rfl
  · rw [← e]; exact cell_new rfl rfl
  · intro j; rw [← e]; exact World.frozen?_alloc_new _ _ _ _
  · exact (World.ownsRow_lit (base := w1.heap.size) (e := 5) (size := 1) w1 #[.int .u8 83, .int .u8 1] 2 (Nat.le_refl _) (by decide) rfl).alloc _
  · intro k hk
    have e2 : w1.heap.size = k := by simpa [Value.ownBlock] using hk
    omega
set_option maxHeartbeats 16000000 in
theorem sput_c (x : Sta) (a1 : Option Addr) (c1 : Nat) (a2 : Option Addr) (c2 : Nat) (w : World) (hI : Sta.Is 0 w x a1 a2) (hlb : Sta.LB 1048576 x) (hl : x.sz ≤ 10000000) (hv : x.Vs) :
    Calls Try.prog 6 #[.agg #[.int .i64 x.st, .int .i64 x.tr, .slice a1 x.stk.length c1, .slice a2 x.frs.length c2]] w fun e w' => ∃ v, e = .returned v ∧ w'.ownsRow w.heap.size 5 1 v (imgM x).length (U (imgM x)) ∧ Below w.heap.size w w' := by
  obtain ⟨W0, hW0⟩ : ∃ W0, W0 = w.alloc (.cells #[.int .i64 x.st, .int .i64 x.tr, .slice a1 x.stk.length c1, .slice a2 x.frs.length c2] 31) := ⟨_, rfl⟩
  have b0 : Below w.heap.size w W0 := by rw [hW0]; exact (Below.refl _ _).alloc (Nat.le_refl _) _
  have s0 : W0.heap.size = w.heap.size + 1 := by rw [hW0]; simp
  have hBk : Bk W0 w.heap.size [.int .i64 x.st, .int .i64 x.tr, .slice a1 x.stk.length c1, .slice a2 x.frs.length c2] := by rw [hW0]; exact Bk.new
  have hI0 : Sta.Is 0 W0 x a1 a2 := hI.up (up_below b0)
  have hC := staC_le x
  simp only [staC] at hC
  obtain ⟨hlb1, hlb2, hlb3⟩ := hlb
  have HW0 := Hid.mk' hW0
  have HB0 := Hid.mk' b0
  have HS0 := Hid.mk' s0
  have HBK := Hid.mk' hBk
  have HL1 := Hid.mk' hI0.1
  have HL2 := Hid.mk' hI0.2
  have HV := Hid.mk' hv
  have HLB := Hid.mk' hlb3
  clear hW0 b0 s0 hBk hI0 hI hv hlb3
  go_enter Try.func6, Try.ntmps6
  go_upto_region 1 with fail
  rw [← HW0.out]
  go_upto_region 2 with fail
  refine wp_gen (fun W => Wb W (W0.heap.size + 1) (fun k => k < W0.heap.size) [83, 1] false ∧ Below W0.heap.size W0 W) ⟨wb_new' W0 _, ((Below.refl _ _).alloc (Nat.le_refl _) _).alloc (by simp) _⟩ ?_
  rintro W2 ⟨hw, hbW⟩
  have HBC := Hid.mk' (fun (U : World) (hk : Kept (fun k => k < W0.heap.size) W2 U) => hbW.trans (Kept.below hk))
  have HQ := Hid.mk' (fun (U : World) (hk : Kept (fun k => k < W0.heap.size) W2 U) (j : Nat) (v : Value) (hv : [.int .i64 x.st, .int .i64 x.tr, .slice a1 x.stk.length c1, .slice a2 x.frs.length c2][j]? = some v) => ((hbW.trans (Kept.below hk)).cell (p := ⟨w.heap.size, j, none⟩) HBK.out.1).trans (HBK.out.2.1 j v hv))
  clear hbW HW0
  have HT : Hid (Kept (fun k => k < W0.heap.size) W2 W2 ∧ Wp [83, 1] false [83, 1] false true [] 0) := ⟨Kept.refl _ _, Wp.refl _ _⟩
  have hx : [83, (1 : Int)].length ≤ 2 := Nat.le_refl _
  have q0 := HQ.out W2 HT.out.1 0 (.int .i64 x.st) rfl
  have K1 := Hid.mk' (snum_c (W0.heap.size + 1) (fun k => k < W0.heap.size) [83, 1] false x.st W2 (by simp) hw)
  clear hw
  go_wp2_with fail
  refine K1.out.mono ?_
  rintro e V1 ⟨rfl, hn⟩
  obtain ⟨xs1, b1, hw, hk, hp⟩ := hn
  have hx1 : xs1.length ≤ 12 := by have := hp.le; (try simp only [listC] at this); omega
  have HT' := Hid.mk' (And.intro (HT.out.1.trans hk) (HT.out.2.trans hp))
  clear HT hk hp K1 q0
  have HT := HT'
  clear HT'
  have q1 := HQ.out V1 HT.out.1 1 (.int .i64 x.tr) rfl
  have K2 := Hid.mk' (snum_c (W0.heap.size + 1) (fun k => k < W0.heap.size) xs1 b1 x.tr V1 (by omega) hw)
  clear hw
  go_wp2_with fail
  refine K2.out.mono ?_
  rintro e V2 ⟨rfl, hn⟩
  obtain ⟨xs2, b2, hw, hk, hp⟩ := hn
  have hx2 : xs2.length ≤ 22 := by have := hp.le; (try simp only [listC] at this); omega
  have HT' := Hid.mk' (And.intro (HT.out.1.trans hk) (HT.out.2.trans hp))
  clear HT hk hp K2 q1
  have HT := HT'
  clear HT'
  have hc1 : 22 + listC (fun _ => 8) x.stk ≤ 549755812000 := by omega
  have q2 := HQ.out V2 HT.out.1 2 (.slice a1 x.stk.length c1) rfl
  have K3 := Hid.mk' (svals_c (W0.heap.size + 1) (fun k => k < W0.heap.size) xs2 b2 W0 V2 a1 c1 x.stk (HBC.out V2 HT.out.1) (fun k hk => hk) hlb1 (by omega) HL1.out HV.out.1 hw)
  clear hw
  go_wp2_with fail
  refine K3.out.mono ?_
  rintro e V3 ⟨rfl, hn⟩
  obtain ⟨xs3, b3, hw, hk, hp⟩ := hn
  have hx3 : xs3.length ≤ 22 + listC (fun _ => 8) x.stk := by have := hp.le; omega
  have HT' := Hid.mk' (And.intro (HT.out.1.trans hk) (HT.out.2.trans hp))
  clear HT hk hp K3 q2
  have HT := HT'
  clear HT'
  have q3 := HQ.out V3 HT.out.1 3 (.slice a2 x.frs.length c2) rfl
  have K4 := Hid.mk' (snum_c (W0.heap.size + 1) (fun k => k < W0.heap.size) xs3 b3 (x.frs.length : Int) V3 (by omega) hw)
  have HK3 := Hid.mk' HT.out.1
  clear hw
  go_wp2_with fail
  refine K4.out.mono ?_
  rintro e V4 ⟨rfl, hn⟩
  have HR := Hid.mk' hn
  clear hn K4 q3
  go_wp2
  go_loopw [4] (fun i wr => ∃ k : Nat, k ≤ x.frs.length ∧ i = .int .i64 k ∧ NP V3 (W0.heap.size + 1) (fun k => k < W0.heap.size) xs3 b3 (numsO [(x.frs.length : Int)] && (x.frs.take k).all frmO) (numsE [(x.frs.length : Int)] ++ (x.frs.take k).flatMap frmE) (10 + ((x.frs.take k).map frmC).sum) wr) (fun i _ => x.frs.length - (intOf i).toNat)
  case atStart => exact ⟨0, Nat.zero_le _, rfl, by simpa using HR.out⟩
  case round =>
    obtain ⟨k, hk, rfl, ys1, d1, hw, hkp, hwp⟩ := hrel
    clear HR
    have q3 := HQ.out wr (HK3.out.trans hkp) 3 (.slice a2 x.frs.length c2) rfl
    have hle := hwp.le
    have hle2 := sum_split frmC x.frs k
    have HKW := Hid.mk' (HK3.out.trans hkp)
    by_cases hlt : k < x.frs.length
    · have hki : (k : Int) < (x.frs.length : Int) := by omega
      cases d1 with
      | true =>
        have HFN : Hid (NP V3 (W0.heap.size + 1) (fun k => k < W0.heap.size) xs3 b3 (listO frmO x.frs) (listE frmE x.frs) (listC frmC x.frs) wr) := ⟨ys1, true, hw, hkp, Wp.left hwp rfl⟩
        obtain ⟨vo, -, cbo, -, -, -, -, -⟩ := hw
        clear hkp hwp hle hle2
        obtain ⟨xs', b', hw, hk, hp⟩ := HFN.out
        have HIM := Hid.mk' (stk_img (x := x) (by
          have := HT.out.2.trans hp
          simpa [staO, staE, numsO, numsE, Bool.and_assoc, List.append_assoc] using this))
        have HBL : Hid (Below w.heap.size w wr) := HB0.out.trans ((HBC.out wr HKW.out).mono (by have := HS0.out; omega))
        have hle := hp.le
        have hxl : xs'.length ≤ 549755813000 := by omega
        obtain ⟨v, c0, cb, f0, own, hnp, hr, hSS⟩ := hw
        obtain ⟨va, vc, rfl⟩ := own.slice
        have HOW := Hid.mk' own
        clear HFN hk hp hle own f0 hr hSS hnp HT HL1 HL2 HQ HBC
        have hb : stk xs' b' = (b' || decide (1000000 < xs'.length)) := rfl
        have HHB := Hid.mk' hb
        clear hb
        have hb2 : b' = true := by
          rw [cbo] at cb
          injection cb with cb
          injection cb with cb
          exact cb.symm
        clear cbo
        cases b' with
        | true =>
          have H2 : Hid (imgM x = []) := by
            rcases HIM.out with ⟨h1, h2⟩ | ⟨h1, h2, h3⟩
            · exact h2
            · cases h1
          clear HIM HOW HHB hb2
          go_wp2
          go_ret
          rw [H2.out]
          exact ⟨_, rfl, World.ownsRow_lit wr #[] 0 (HBL.out.size) (Nat.zero_le _) rfl, HBL.out.alloc HBL.out.size _⟩
        | false => cases hb2
      | false =>
        rcases HL2.out with hx0 | ⟨eb, eo, ea, _, hce⟩
        · rw [hx0] at hlt; simp at hlt
        have hBw := HBC.out wr HKW.out
        have hlbk := HLB.out k hlt
        have hvk := HV.out.2 k hlt
        have hss := sum_step' Frm.z frmC x.frs k hlt
        have hle3 := sum_split frmC x.frs (k + 1)
        have HN := Hid.mk' (fun w3 (h : NP wr (W0.heap.size + 1) (fun k => k < W0.heap.size) ys1 false (frmO (x.frs.getD k Frm.z)) (frmE (x.frs.getD k Frm.z)) (frmC (x.frs.getD k Frm.z)) w3) => NP.next Frm.z hlt hkp hwp h)
        have hq := hce k hlt
        generalize x.frs.getD k Frm.z = f at hq hlbk hvk hss HN
        obtain ⟨f1, g1, f2, g2, ⟨r0, r1, r2, r3, r4⟩, hI1, hI2⟩ := hq
        have leb : eb < W0.heap.size := World.block_lt_of_cell? W0 _ r0
        have t0 := (hBw.cell (p := ⟨eb, eo + k * 5, none⟩) leb).trans r0
        have t1 := (hBw.cell (p := ⟨eb, eo + k * 5 + 1, none⟩) leb).trans r1
        have t2 := (hBw.cell (p := ⟨eb, eo + k * 5 + 2, none⟩) leb).trans r2
        have t3 := (hBw.cell (p := ⟨eb, eo + k * 5 + 3, none⟩) leb).trans r3
        have t4 := (hBw.cell (p := ⟨eb, eo + k * 5 + 4, none⟩) leb).trans r4
        obtain ⟨hlf1, hlf2, -⟩ := hlbk
        have hfc : ys1.length + frmC f ≤ 549755800000 := by simp only [listC] at hC; have := hC; simp only [listC] at hx3; omega
        simp only [frmC] at hfc
        have H1 := Hid.mk' hI1
        have H2 := Hid.mk' hI2
        have HVK := Hid.mk' hvk
        have HBW := Hid.mk' hBw
        have HWW := Hid.mk' hw
        have HWO := Hid.mk' (fun (W5 : World) (hb5 : Below wr.heap.size wr W5) => hw.on hb5)
        subst ea
        have hcb : wr.cell? ⟨(W0.heap.size + 1), 1, none⟩ = some (.bool false) := hw.choose_spec.2.1
        clear hw hkp hwp hle hle2 hss hle3 hce r0 r1 r2 r3 r4 hI1 hI2 hBw hvk
        go_upto_region 10 with fail
        refine wp_gen (fun W => Bk W wr.heap.size [.int .i64 f.fn, .int .i64 f.pc, .slice f1 f.loc.length g1, .int .i64 f.ht, .slice f2 f.labs.length g2] ∧ Below wr.heap.size wr W ∧ wr.heap.size < W.heap.size) ?_ ?_
        · first
            | exact ⟨Bk.new, (Below.refl _ _).alloc (Nat.le_refl _) _, by simp⟩
            | exact ⟨Bk.new.set.set.set.set.set, ((((((Below.refl _ _).alloc (Nat.le_refl _) _).setCell (Nat.le_refl _) _).setCell (Nat.le_refl _) _).setCell (Nat.le_refl _) _).setCell (Nat.le_refl _) _).setCell (Nat.le_refl _) _, by simp⟩
        rintro W5 ⟨bk, hb5, hl5⟩
        have hw := HWO.out W5 hb5
        clear hcb t0 t1 t2 t3 t4 HWO
        obtain ⟨T, hT⟩ : ∃ T, T = fun k => k < W0.heap.size ∨ (wr.heap.size ≤ k ∧ k < W5.heap.size) := ⟨_, rfl⟩
        have hTn : T wr.heap.size := by rw [hT]; exact .inr ⟨Nat.le_refl _, hl5⟩
        have HT0 : Hid (∀ k, k < W0.heap.size → T k) := by rw [hT]; exact fun k hk => .inl hk
        rw [← hT] at hw
        have HBE := Hid.mk' (fun w3 ok ys c (h : NP W5 (W0.heap.size + 1) T ys1 false ok ys c w3) => NP.back HWW.out.lt hb5 (hT ▸ h))
        have HBU := Hid.mk' (fun (U : World) (hk : Kept T W5 U) => (HBW.out.trans (hb5.mono (by have := HBW.out.size; omega))).trans (Kept.below (hk.weak HT0.out)))
        have HC := Hid.mk' (fun (U : World) (hk : Kept T W5 U) (j : Nat) (v : Value) (hv : [.int .i64 f.fn, .int .i64 f.pc, .slice f1 f.loc.length g1, .int .i64 f.ht, .slice f2 f.labs.length g2][j]? = some v) => (hk.cell (o := j) hTn).trans (bk.2.1 j v hv))
        have HU : Hid (Kept T W5 W5 ∧ Wp ys1 false ys1 false true [] 0) := ⟨Kept.refl _ _, Wp.refl _ _⟩
        clear hT bk hb5 HWW
        have q0 := HC.out W5 HU.out.1 0 (.int .i64 f.fn) rfl
        have K5 := Hid.mk' (snum_c (W0.heap.size + 1) T ys1 false f.fn W5 (by omega) hw)
        clear hw
        go_wp2_with fail
        refine K5.out.mono ?_
        rintro e V5 ⟨rfl, hn⟩
        obtain ⟨ys5, d5, hw, hk, hp⟩ := hn
        have hy5 : ys5.length ≤ ys1.length + 10 := by have := hp.le; omega
        have HU' := Hid.mk' (And.intro (HU.out.1.trans hk) (HU.out.2.trans hp))
        clear HU hk hp K5 q0
        have HU := HU'
        clear HU'
        have q1 := HC.out V5 HU.out.1 1 (.int .i64 f.pc) rfl
        have K6 := Hid.mk' (snum_c (W0.heap.size + 1) T ys5 d5 f.pc V5 (by omega) hw)
        clear hw
        go_wp2_with fail
        refine K6.out.mono ?_
        rintro e V6 ⟨rfl, hn⟩
        obtain ⟨ys6, d6, hw, hk, hp⟩ := hn
        have hy6 : ys6.length ≤ ys1.length + 20 := by have := hp.le; omega
        have HU' := Hid.mk' (And.intro (HU.out.1.trans hk) (HU.out.2.trans hp))
        clear HU hk hp K6 q1
        have HU := HU'
        clear HU'
        have q2 := HC.out V6 HU.out.1 2 (.slice f1 f.loc.length g1) rfl
        have K7 := Hid.mk' (svals_c (W0.heap.size + 1) T ys6 d6 W0 V6 f1 g1 f.loc (HBU.out V6 HU.out.1) HT0.out hlf1 (by omega) H1.out HVK.out hw)
        clear hw
        go_wp2_with fail
        refine K7.out.mono ?_
        rintro e V7 ⟨rfl, hn⟩
        obtain ⟨ys7, d7, hw, hk, hp⟩ := hn
        have hy7 : ys7.length ≤ ys1.length + 20 + listC (fun _ => 8) f.loc := by have := hp.le; omega
        have HU' := Hid.mk' (And.intro (HU.out.1.trans hk) (HU.out.2.trans hp))
        clear HU hk hp K7 q2
        have HU := HU'
        clear HU'
        have q3 := HC.out V7 HU.out.1 3 (.int .i64 f.ht) rfl
        have K8 := Hid.mk' (snum_c (W0.heap.size + 1) T ys7 d7 f.ht V7 (by omega) hw)
        clear hw
        go_wp2_with fail
        refine K8.out.mono ?_
        rintro e V8 ⟨rfl, hn⟩
        obtain ⟨ys8, d8, hw, hk, hp⟩ := hn
        have hy8 : ys8.length ≤ ys1.length + 30 + listC (fun _ => 8) f.loc := by have := hp.le; omega
        have HU' := Hid.mk' (And.intro (HU.out.1.trans hk) (HU.out.2.trans hp))
        clear HU hk hp K8 q3
        have HU := HU'
        clear HU'
        have q4 := HC.out V8 HU.out.1 4 (.slice f2 f.labs.length g2) rfl
        have K9 := Hid.mk' (snum_c (W0.heap.size + 1) T ys8 d8 (f.labs.length : Int) V8 (by omega) hw)
        have HK8 := Hid.mk' HU.out.1
        clear hw
        go_wp2_with fail
        refine K9.out.mono ?_
        rintro e V9 ⟨rfl, hn⟩
        have HR := Hid.mk' hn
        clear hn K9 q4 q3
        go_wp2
        go_loopw [6] (fun i wr => ∃ m : Nat, m ≤ f.labs.length ∧ i = .int .i64 m ∧ NP V8 (W0.heap.size + 1) T ys8 d8 (numsO [(f.labs.length : Int)] && (f.labs.take m).all labO) (numsE [(f.labs.length : Int)] ++ (f.labs.take m).flatMap labE) (10 + ((f.labs.take m).map labC).sum) wr) (fun i _ => f.labs.length - (intOf i).toNat)
        case atStart => exact ⟨0, Nat.zero_le _, rfl, by simpa using HR.out⟩
        case round =>
          obtain ⟨m, hm, rfl, zs1, e1, hw, hkp, hwp⟩ := hrel
          clear HR
          have q4 := HC.out wr (HK8.out.trans hkp) 4 (.slice f2 f.labs.length g2) rfl
          have hle := hwp.le
          have hle2 := sum_split labC f.labs m
          have HKW2 := Hid.mk' (HK8.out.trans hkp)
          have HEND := Hid.mk' (fun (h : NP V8 (W0.heap.size + 1) T ys8 d8 (listO labO f.labs) (listE labE f.labs) (listC labC f.labs) wr) => HN.out wr (HBE.out wr _ _ _ (by
            obtain ⟨h1, h2, h3, h4, h5⟩ := h
            have := HU.out.2.trans h5
            refine ⟨h1, h2, h3, HU.out.1.trans h4, ?_⟩
            simpa [frmO, frmE, frmC, numsO, numsE, Bool.and_assoc, List.append_assoc, Nat.add_assoc] using this)))
          by_cases hlm : m < f.labs.length
          · have hmi : (m : Int) < (f.labs.length : Int) := by omega
            cases e1 with
            | true =>
              have HR3 := Hid.mk' (HEND.out ⟨zs1, true, hw, hkp, Wp.left hwp rfl⟩)
              obtain ⟨v, c0, cb, -, -, -, -, -⟩ := hw
              clear hkp hwp hle hle2 HEND
              go_wp2
              go_roundw
              case rel => exact ⟨k + 1, by omega, by go_num, HR3.out⟩
              case measure => simp [intOf]; omega
            | false =>
              rcases H2.out with hx0 | ⟨lb, lo, la, _, hcl⟩
              · rw [hx0] at hlm; simp at hlm
              have hBw := HBU.out wr HKW2.out
              have hss := sum_step' Lab.z labC f.labs m hlm
              have hle3 := sum_split labC f.labs (m + 1)
              have HNL := Hid.mk' (fun w3 (h : NP wr (W0.heap.size + 1) T zs1 false (labO (f.labs.getD m Lab.z)) (labE (f.labs.getD m Lab.z)) (labC (f.labs.getD m Lab.z)) w3) => NP.next Lab.z hlm hkp hwp h)
              have hq := hcl m hlm
              generalize f.labs.getD m Lab.z = g at hq hss HNL
              obtain ⟨⟨r0, r1, r2, r3⟩, -⟩ := hq
              have llb : lb < W0.heap.size := World.block_lt_of_cell? W0 _ r0
              have t0 := (hBw.cell (p := ⟨lb, lo + m * 4, none⟩) llb).trans r0
              have t1 := (hBw.cell (p := ⟨lb, lo + m * 4 + 1, none⟩) llb).trans r1
              have t2 := (hBw.cell (p := ⟨lb, lo + m * 4 + 2, none⟩) llb).trans r2
              have t3 := (hBw.cell (p := ⟨lb, lo + m * 4 + 3, none⟩) llb).trans r3
              have hzb : zs1.length ≤ 549755810000 := by simp only [listC] at hfc hy8; omega
              have HWL := Hid.mk' hw.lt
              have HWO := Hid.mk' (fun (W5 : World) (hb5 : Below wr.heap.size wr W5) => hw.on hb5)
              subst la
              have hcb : wr.cell? ⟨(W0.heap.size + 1), 1, none⟩ = some (.bool false) := hw.choose_spec.2.1
              clear hw hkp hwp hle hle2 hss hle3 hcl r0 r1 r2 r3 hBw HEND
              go_upto_region 19 with fail
              refine wp_gen (fun W => Bk W wr.heap.size [.int .i64 g.pc, .int .i64 g.ar, .int .i64 g.ht, .bool g.lp] ∧ Below wr.heap.size wr W ∧ wr.heap.size < W.heap.size) ?_ ?_
              · first
                  | exact ⟨Bk.new, (Below.refl _ _).alloc (Nat.le_refl _) _, by simp⟩
                  | exact ⟨Bk.new.set.set.set.set, (((((Below.refl _ _).alloc (Nat.le_refl _) _).setCell (Nat.le_refl _) _).setCell (Nat.le_refl _) _).setCell (Nat.le_refl _) _).setCell (Nat.le_refl _) _, by simp⟩
              rintro X0 ⟨bk, hb5, hl5⟩
              have hw := HWO.out X0 hb5
              clear hcb t0 t1 t2 t3 HWO q4
              obtain ⟨R, hR⟩ : ∃ R, R = fun k => T k ∨ (wr.heap.size ≤ k ∧ k < X0.heap.size) := ⟨_, rfl⟩
              have hRn : R wr.heap.size := by rw [hR]; exact .inr ⟨Nat.le_refl _, hl5⟩
              rw [← hR] at hw
              have HBE2 := Hid.mk' (fun w3 ok ys c (h : NP X0 (W0.heap.size + 1) R zs1 false ok ys c w3) => NP.back HWL.out hb5 (hR ▸ h))
              have HC2 := Hid.mk' (fun (U : World) (hk : Kept R X0 U) (j : Nat) (v : Value) (hv : [.int .i64 g.pc, .int .i64 g.ar, .int .i64 g.ht, .bool g.lp][j]? = some v) => (hk.cell (o := j) hRn).trans (bk.2.1 j v hv))
              have HU2 : Hid (Kept R X0 X0 ∧ Wp zs1 false zs1 false true [] 0) := ⟨Kept.refl _ _, Wp.refl _ _⟩
              clear hR bk hb5
              have q0 := HC2.out X0 HU2.out.1 0 (.int .i64 g.pc) rfl
              have KL := Hid.mk' (snum_c (W0.heap.size + 1) R zs1 false g.pc X0 (by omega) hw)
              clear hw
              go_wp2_with fail
              refine KL.out.mono ?_
              rintro e X1 ⟨rfl, hn⟩
              obtain ⟨us1, e1, hw, hk, hp⟩ := hn
              have hu1 : us1.length ≤ zs1.length + 10 := by have := hp.le; omega
              have HU' := Hid.mk' (And.intro (HU2.out.1.trans hk) (HU2.out.2.trans hp))
              clear HU2 hk hp KL q0
              have HU2 := HU'
              clear HU'
              have q1 := HC2.out X1 HU2.out.1 1 (.int .i64 g.ar) rfl
              have KL := Hid.mk' (snum_c (W0.heap.size + 1) R us1 e1 g.ar X1 (by omega) hw)
              clear hw
              go_wp2_with fail
              refine KL.out.mono ?_
              rintro e X2 ⟨rfl, hn⟩
              obtain ⟨us2, e2, hw, hk, hp⟩ := hn
              have hu2 : us2.length ≤ zs1.length + 20 := by have := hp.le; omega
              have HU' := Hid.mk' (And.intro (HU2.out.1.trans hk) (HU2.out.2.trans hp))
              clear HU2 hk hp KL q1
              have HU2 := HU'
              clear HU'
              have q2 := HC2.out X2 HU2.out.1 2 (.int .i64 g.ht) rfl
              have KL := Hid.mk' (snum_c (W0.heap.size + 1) R us2 e2 g.ht X2 (by omega) hw)
              clear hw
              go_wp2_with fail
              refine KL.out.mono ?_
              rintro e X3 ⟨rfl, hn⟩
              obtain ⟨us3, e3, hw, hk, hp⟩ := hn
              have hu3 : us3.length ≤ zs1.length + 30 := by have := hp.le; omega
              have HU' := Hid.mk' (And.intro (HU2.out.1.trans hk) (HU2.out.2.trans hp))
              clear HU2 hk hp KL q2
              have HU2 := HU'
              clear HU'
              have q3 := HC2.out X3 HU2.out.1 3 (.bool g.lp) rfl
              have KF := Hid.mk' (sflag_c g.lp)
              obtain ⟨v, c0, cb, f0, own, hp, hr, hSS⟩ := hw
              have lt : (W0.heap.size + 1) < X3.heap.size := World.block_lt_of_cell? X3 _ c0
              obtain ⟨va, vc, rfl⟩ := own.slice
              have HP := Hid.mk' (fun (W w1 : World) (v' : Value) (h1 : Below X3.heap.size X3 W) (h2 : w1.ownsRow ((W0.heap.size + 1) - 1) 5 1 v' (us3.length + (flB g.lp).length) (U us3 ++ U (flB g.lp))) (h3 : W.grownBy w1 (Value.slice va us3.length vc).ownBlock) (h4 : v'.ownBlock = (Value.slice va us3.length vc).ownBlock ∨ ∀ k, v'.ownBlock = some k → W.heap.size ≤ k) => wb_pushed (ys := flB g.lp) c0 cb f0 own hp hr hSS h1 h2 h3 h4)
              have OW := Hid.mk' own
              have HC0 := Hid.mk' c0
              clear own hp hr hSS f0 cb
              go_wp2_with fail
              go_region_law (first
                | (refine step_buf rfl (.tmp 103) (.tmp 107) rfl (W0.heap.size + 1) (.slice va us3.length vc) us3 (by simp [Act.eval, Act.put]) (OW.out.of_block (fun k hk => heap_old _ _ k (OW.out.lt k hk))) ⟨X3.heap.size, 0, none⟩ 1 (flB g.lp) (by simp [Act.eval, Act.put, flB]) (fun j u hu => by simp only [flB] at hu ⊢; exact cell_one_new _ _ _ j u hu) (by simp [flB]) (by simp only [flB, List.length_cons, List.length_nil]; omega) (by simp; omega) ?_
                   intro v2 w2 own2 gr2 hloc
                   have HQ2 := Hid.mk' (HP.out _ _ _ (((Below.refl _ _).drew).alloc (Nat.le_refl _) _) own2 gr2 hloc)
                   have dd0 := HQ2.out.2.2.1
                   have ddf := HQ2.out.2.2.2
                   obtain ⟨v2a, v2c, rfl⟩ := ownE_slice own2
                   clear own2 gr2 hloc)
                | (go_simp
                   refine (KF.out _).mono ?_
                   rintro e w1 ⟨rfl, rfl⟩))
              all_goals
                have HR3 := Hid.mk' (HNL.out _ (HBE2.out _ _ _ _ ⟨_, _, HQ2.out.1, HU2.out.1.trans HQ2.out.2.1, by
                  have := HU2.out.2.trans (Wp.bytes us3 (flB g.lp) e3 1 (by simp [flB]))
                  simpa [labO, labE, labC, numsO, numsE, Bool.and_assoc, List.append_assoc, Nat.add_assoc] using this⟩))
                clear HNL HP OW HC0 KF q3 c0 HU2 HBE2
                go_simp
                go_wp2
                go_roundw
                case rel => exact ⟨m + 1, by omega, by go_num, HR3.out⟩
                case measure => simp [intOf]; omega
          · have e : m = f.labs.length := by omega
            subst e
            have HR3 := Hid.mk' (HEND.out ⟨zs1, e1, hw, hkp, Wp.full hwp⟩)
            clear hw hkp hwp hle hle2 HEND
            go_wp2
            go_roundw
            case rel => exact ⟨k + 1, by omega, by go_num, HR3.out⟩
            case measure => simp [intOf]; omega
    · have e : k = x.frs.length := by omega
      subst e
      have HFN : Hid (NP V3 (W0.heap.size + 1) (fun k => k < W0.heap.size) xs3 b3 (listO frmO x.frs) (listE frmE x.frs) (listC frmC x.frs) wr) := ⟨ys1, d1, hw, hkp, Wp.full hwp⟩
      clear hw hkp hwp hle hle2
      obtain ⟨xs', b', hw, hk, hp⟩ := HFN.out
      have HIM := Hid.mk' (stk_img (x := x) (by
        have := HT.out.2.trans hp
        simpa [staO, staE, numsO, numsE, Bool.and_assoc, List.append_assoc] using this))
      have HBL : Hid (Below w.heap.size w wr) := HB0.out.trans ((HBC.out wr HKW.out).mono (by have := HS0.out; omega))
      have hle := hp.le
      have hxl : xs'.length ≤ 549755813000 := by omega
      obtain ⟨v, c0, cb, f0, own, hnp, hr, hSS⟩ := hw
      obtain ⟨va, vc, rfl⟩ := own.slice
      have HOW := Hid.mk' own
      clear HFN hk hp hle own f0 hr hSS hnp HT HL1 HL2 HQ HBC
      have hb : stk xs' b' = (b' || decide (1000000 < xs'.length)) := rfl
      have HHB := Hid.mk' hb
      clear hb
      cases b' with
      | true =>
        have H2 : Hid (imgM x = []) := by
          rcases HIM.out with ⟨h1, h2⟩ | ⟨h1, h2, h3⟩
          · exact h2
          · cases h1
        clear HIM HOW HHB
        go_wp2
        go_ret
        rw [H2.out]
        exact ⟨_, rfl, World.ownsRow_lit wr #[] 0 (HBL.out.size) (Nat.zero_le _) rfl, HBL.out.alloc HBL.out.size _⟩
      | false =>
        by_cases hgt : 1000000 < xs'.length
        · have H2 : Hid (imgM x = []) := by
            rcases HIM.out with ⟨h1, h2⟩ | ⟨h1, h2, h3⟩
            · exact h2
            · rw [HHB.out, decide_eq_true hgt] at h1; cases h1
          have hh : ((xs'.length : Nat) : Int) > 1000000 := by omega
          clear HIM HOW HHB hgt
          go_wp2
          go_ret
          rw [H2.out]
          exact ⟨_, rfl, World.ownsRow_lit wr #[] 0 (HBL.out.size) (Nat.zero_le _) rfl, HBL.out.alloc HBL.out.size _⟩
        · have H2 : Hid (imgM x = xs' ∧ xs' = [83, 1] ++ staE x) := by
            rcases HIM.out with ⟨h1, h2⟩ | ⟨h1, h2, h3⟩
            · rw [HHB.out, decide_eq_false hgt] at h1; cases h1
            · exact ⟨h2, h3⟩
          have HO : Hid (wr.ownsRow w.heap.size 5 1 (.slice va xs'.length vc) xs'.length (U xs')) := by
            rcases HOW.out with h | ⟨h, _⟩
            · exact ownE_down h (by have := HS0.out; omega)
            · rw [H2.out.2] at h
              exact absurd (by simpa using h) (staE_ne x)
          have hh : ¬ ((xs'.length : Nat) : Int) > 1000000 := by omega
          clear HIM HOW HHB hgt
          go_wp2
          go_ret
          rw [H2.out.1]
          exact ⟨_, rfl, HO.out, HBL.out⟩
end Go.Proofs.Ytfaajmhmcdoibaa
