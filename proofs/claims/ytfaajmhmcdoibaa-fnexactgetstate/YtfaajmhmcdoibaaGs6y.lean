import Derived.Test.YtfaajmhmcdoibaaGsB
set_option linter.all false
set_option linter.unusedVariables false
namespace Go.Proofs.Ytfaajmhmcdoibaa
open Go.RowKit Go.Sort
set_option maxRecDepth 100000
set_option maxHeartbeats 200000000 in
theorem sget_y (ab ao c : Nat) (bs : List Int) (w : World) (h1 : bs.length ≤ 1000000) (h2 : 2 ≤ bs.length) (hH : ∀ i, i < bs.length → w.cell? ⟨ab, ao + i, none⟩ = some (.int .u8 (bs.getD i 0))) (hB : Byt bs) (hyp : ∃ y : Sta, y.Vs ∧ imgM y = bs) :
    Calls Try.prog 14 #[.slice (some ⟨ab, ao, none⟩) bs.length c] w fun e w' => ∃ v, e = .returned v ∧ GsQ bs w.heap.size w' v ∧ Below w.heap.size w w' := by
  obtain ⟨iL, hiL, hzL0, hzL1, hzL2⟩ := info_parts infoL
  obtain ⟨iF, hiF, hzF0, hzF1, hzF2⟩ := info_parts infoF
  have hh : ¬ ((bs.length : Nat) : Int) > 1000000 := by omega
  have hh2 : ¬ ((bs.length : Nat) : Int) < 2 := by omega
  have HST := Hid.mk' (fun t1 t2 t3 => box_new (c := c) t1 t2 t3 h1 h2 hH hB)
  have HBS := Hid.mk' (show Bs w (.slice (some ⟨ab, ao, none⟩) bs.length c) bs from .inr ⟨ab, ao, c, rfl, hH⟩)
  have HBy := Hid.mk' hB
  have HYP := Hid.mk' hyp
  clear hyp
  have H12 := Hid.mk' (And.intro h1 h2)
  obtain ⟨P, hP⟩ : ∃ P, P = w.heap.size + 1 := ⟨_, rfl⟩
  obtain ⟨T, hT⟩ : ∃ T, T = w.heap.size + 1 + 1 := ⟨_, rfl⟩
  obtain ⟨R0, hR0⟩ : ∃ R0, R0 = w.heap.size := ⟨_, rfl⟩
  have HPT := Hid.mk' (And.intro hP (And.intro hT hR0))
  clear hH hB h1 h2
  go_enter Try.func14, Try.ntmps14
  go_upto_region 5 with fail
  rw [← hT, ← hP]
  refine wp_gen (fun W => Bk W R0 [.bool false, .int .i64 0, .int .i64 0, .slice none 0 0, .slice none 0 0] ∧ Fp w W P T bs [.int .i64 0, .int .i64 0, .slice none 0 0, .slice none 0 0] 2 false W) (by rw [hR0, hP, hT]; exact HST.out _ _ _) ?_
  rintro V0 ⟨hbk0, hF⟩
  have HBK := Hid.mk' hbk0
  have HF := Hid.mk' hF
  rw [← hR0]
  clear hP hT hR0 hbk0 hF HST hh hh2
  have KN := Hid.mk' (srm_c w P bs _ _ _ HF.out.rd)
  go_wp2_with fail
  refine KN.out.mono ?_
  rintro e U1 ⟨n1, rfl, p1, b1, hn, hs, hk⟩
  have G := HF.out.step hs hk
  have HG := Hid.mk' (G.put 0 (.int .i64 n1))
  have d := G.bk.2.1 0 _ rfl
  have z := G.bk.2.2 0
  have HN1 := Hid.mk' hn
  clear G hs hk hn KN HF
  go_upto_region 6 with fail
  refine wp_gen (fun V => Fp w V0 P T bs [.int .i64 n1, .int .i64 0, .slice none 0 0, .slice none 0 0] p1 b1 V) HG.out ?_
  rintro V1 hF
  have HF := Hid.mk' hF
  clear hF HG d z
  have KN := Hid.mk' (srm_c w P bs _ _ _ HF.out.rd)
  go_wp2_with fail
  refine KN.out.mono ?_
  rintro e U2 ⟨n2, rfl, p2, b2, hn, hs, hk⟩
  have G := HF.out.step hs hk
  have HG := Hid.mk' (G.put 1 (.int .i64 n2))
  have d := G.bk.2.1 1 _ rfl
  have z := G.bk.2.2 1
  have HN2 := Hid.mk' hn
  clear G hs hk hn KN HF
  go_upto_region 7 with fail
  refine wp_gen (fun V => Fp w V0 P T bs [.int .i64 n1, .int .i64 n2, .slice none 0 0, .slice none 0 0] p2 b2 V) HG.out ?_
  rintro V2 hF
  have HF := Hid.mk' hF
  clear hF HG d z
  obtain ⟨A3, hA3⟩ : ∃ A, A = V2.heap.size := ⟨_, rfl⟩
  have KN := Hid.mk' (srv_c w P bs _ _ _ HF.out.rd)
  have HXA3 := Hid.mk' (show T < A3 by rw [hA3]; exact HF.out.bk.1)
  have HPA3 := Hid.mk' (show P < A3 by rw [hA3]; exact HF.out.rd.pos)
  have HBA3 := Hid.mk' (show V0.heap.size ≤ A3 by rw [hA3]; exact HF.out.kq.size)
  go_wp2_with fail
  refine KN.out.mono ?_
  rintro e U3 ⟨v3, rfl, ws3, p3, b3, hs, hk, hown, hrp, hrg⟩
  rw [← hA3] at hown
  obtain ⟨va3, vc3, rfl⟩ := ownS_slice hown
  have G := HF.out.step hs hk
  have HG := Hid.mk' (And.intro (G.put 2 (.slice va3 ws3.length vc3)) (And.intro (ownS_set (b := T) (o := 2) (u := .slice va3 ws3.length vc3) hown (fun e => by have := (hown.lt _ e).1; have := HXA3.out; omega)) (show A3 ≤ U3.heap.size by rw [hA3]; exact hk.size)))
  have d := G.bk.2.1 2 _ rfl
  have z := G.bk.2.2 2
  have HW3 := Hid.mk' (And.intro hrp hrg)
  clear G hs hk hrp hrg KN HF hown hA3
  go_upto_region 8 with fail
  refine wp_gen (fun V => Fp w V0 P T bs [.int .i64 n1, .int .i64 n2, .slice va3 ws3.length vc3, .slice none 0 0] p3 b3 V ∧ V.ownsRow A3 85 1 (.slice va3 ws3.length vc3) ws3.length (ws3.flatMap ceW) ∧ A3 ≤ V.heap.size) ⟨HG.out.1, HG.out.2.1, by simpa using HG.out.2.2⟩ ?_
  rintro V3 ⟨hF, hO, hZ⟩
  have HK3 := Hid.mk' hF.kq
  have HF := Hid.mk' hF.rebase
  have HO3 := Hid.mk' (And.intro hO hZ)
  clear hF hO hZ HG d z
  have KN := Hid.mk' (srm_c w P bs _ _ _ HF.out.rd)
  go_wp2_with fail
  refine KN.out.mono ?_
  rintro e V4 ⟨n4, rfl, p4, b4, hn, hs, hk⟩
  have HF' := Hid.mk' (HF.out.step hs hk)
  have HN4 := Hid.mk' hn
  clear hs hk hn KN HF
  have HF := HF'
  clear HF'
  have HBK4 : Hid (Bk V4 R0 [.bool false, .int .i64 0, .int .i64 0, .slice none 0 0, .slice none 0 0]) := by
    have hq := HPT.out
    exact (HBK.out.kq HK3.out (fun h => by omega)).kq HF.out.kq (fun h => by omega)
  have HEND : Hid (∀ (xs : List (Frm × Value × Value)) (W : World) (v : Value) (p1 : Nat) (b1 : Bool), Sb w W P bs p1 b1 → Bk W T [.int .i64 n1, .int .i64 n2, .slice va3 ws3.length vc3, v] → Kq (fun k => k = P ∨ k = T) V4 W → W.ownsRow V4.heap.size 54 5 v xs.length (xs.flatMap ceF) → LI frmE frmO' fSz 1 (bs.drop p3) b3 n4 (xs.map (·.1)) (bs.drop p1) b1 → FsI W V4.heap.size v.ownBlock xs → (b1 = true ∨ n4 ≤ (xs.length : Int)) → EndP w bs R0 T n1 n2 ws3 xs (.slice va3 ws3.length vc3) v b1 W) := by
    intro xs W v p1 b1 g1 g2 g3 g4 g5 g6 g7
    have hq := HPT.out
    have ha := HXA3.out
    have hb := HPA3.out
    exact end_of H12.out.2 H12.out.1 (by omega) ⟨by omega, by omega⟩ HN1.out HN2.out HW3.out.1 HW3.out.2 HBK4.out HO3.out.1 (by omega) hb ha HO3.out.2 HF.out.kq g1 g2 g3 g4 g5 g6 g7
  have HFS : Hid (FrI w V4 P T bs (bs.drop p3) b3 n4 (.int .i64 n1) (.int .i64 n2) (.slice va3 ws3.length vc3) [] V4) := by
    refine ⟨.slice none 0 0, p4, b4, HF.out.rd, HF.out.bk, Kq.refl _ _, ⟨rfl, .inl ⟨rfl, rfl⟩⟩, LI.start _ _ _ _ HN4.out, ⟨fun _ => V4.heap.size, Nat.le_refl _, Nat.le_refl _, fun i hi => by simp at hi⟩⟩
  have HPW : Hid (P < V4.heap.size ∧ T < V4.heap.size ∧ T ≠ P ∧ w.heap.size ≤ T ∧ w.heap.size ≤ P) := by
    have hq := HPT.out
    exact ⟨HF.out.rd.pos, HF.out.bk.1, HF.out.ne, HF.out.ge, by omega⟩
  clear HF HN1 HN2 HW3 HO3 HK3 HXA3 HPA3 HBA3 HBK
  go_wp2
  go_loopw [6] (fun i wr => ∃ xs : List (Frm × Value × Value), i = .int .i64 (xs.length : Int) ∧ FrI w V4 P T bs (bs.drop p3) b3 n4 (.int .i64 n1) (.int .i64 n2) (.slice va3 ws3.length vc3) xs wr) (fun i _ => n4.toNat - (intOf i).toNat)
  case atStart => exact ⟨[], rfl, HFS.out⟩
  case round =>
    obtain ⟨xs, rfl, v, q1, d1, hSb, hBk, hK, hown, hLI, hfs⟩ := hrel
    clear HFS
    obtain ⟨va, vc, rfl⟩ := ownS_slice hown
    have c2 := hSb.bad
    have hxl : xs.length ≤ 1000010 := by have := hLI.szb; have := H12.out.1; simp only [List.length_map, List.length_drop] at *; omega
    by_cases hlt : (xs.length : Int) < n4
    · cases d1 with
      | true =>
        have HE := Hid.mk' (HEND.out xs wr _ q1 true hSb hBk hK hown hLI hfs (.inl rfl))
        clear HEND hSb hBk hK hown hLI hfs
        exact absurd HYP.out.choose_spec.2 (HE.out.no rfl _ HYP.out.choose_spec.1)
      | false =>
        have HH := Hid.mk' (And.intro hBk (And.intro hK (And.intro hown (And.intro hLI hfs))))
        have HS1 := Hid.mk' hSb
        have hwsz : V4.heap.size ≤ wr.heap.size := hK.size
        obtain ⟨F, hFe⟩ : ∃ F, F = wr.heap.size := ⟨_, rfl⟩
        have HFe := Hid.mk' hFe
        clear hSb hBk hK hown hLI hfs
        go_upto_region 13 with fail
        rw [← hFe]
        refine wp_gen (fun V => Fp w wr P F bs [.int .i64 0, .int .i64 0, .slice none 0 0, .int .i64 0, .slice none 0 0] q1 false V) (by rw [hFe]; exact Fp.start HS1.out ((Below.refl _ _).alloc (Nat.le_refl _) _) Bk.new (Nat.le_refl _)) ?_
        rintro V5 hF
        have HF := Hid.mk' hF
        clear hF hFe c2
        have KN := Hid.mk' (srm_c w P bs _ _ _ HF.out.rd)
        go_wp2_with fail
        refine KN.out.mono ?_
        rintro e U6 ⟨n6, rfl, p6, b6, hn, hs, hk⟩
        have G := HF.out.step hs hk
        have HG := Hid.mk' (G.put 0 (.int .i64 n6))
        have d := G.bk.2.1 0 _ rfl
        have z := G.bk.2.2 0
        have HN6 := Hid.mk' hn
        clear G hs hk hn KN HF
        go_upto_region 14 with fail
        refine wp_gen (fun V => Fp w wr P F bs [.int .i64 n6, .int .i64 0, .slice none 0 0, .int .i64 0, .slice none 0 0] p6 b6 V) HG.out ?_
        rintro V6 hF
        have HF := Hid.mk' hF
        clear hF HG d z
        have KN := Hid.mk' (srm_c w P bs _ _ _ HF.out.rd)
        go_wp2_with fail
        refine KN.out.mono ?_
        rintro e U7 ⟨n7, rfl, p7, b7, hn, hs, hk⟩
        have G := HF.out.step hs hk
        have HG := Hid.mk' (G.put 1 (.int .i64 n7))
        have d := G.bk.2.1 1 _ rfl
        have z := G.bk.2.2 1
        have HN7 := Hid.mk' hn
        clear G hs hk hn KN HF
        go_upto_region 15 with fail
        refine wp_gen (fun V => Fp w wr P F bs [.int .i64 n6, .int .i64 n7, .slice none 0 0, .int .i64 0, .slice none 0 0] p7 b7 V) HG.out ?_
        rintro V7 hF
        have HF := Hid.mk' hF
        clear hF HG d z
        obtain ⟨A8, hA8⟩ : ∃ A, A = V7.heap.size := ⟨_, rfl⟩
        have KN := Hid.mk' (srv_c w P bs _ _ _ HF.out.rd)
        have HXA8 := Hid.mk' (show F < A8 by rw [hA8]; exact HF.out.bk.1)
        have HPA8 := Hid.mk' (show P < A8 by rw [hA8]; exact HF.out.rd.pos)
        have HBA8 := Hid.mk' (show wr.heap.size ≤ A8 by rw [hA8]; exact HF.out.kq.size)
        go_wp2_with fail
        refine KN.out.mono ?_
        rintro e U8 ⟨v8, rfl, ws8, p8, b8, hs, hk, hown, hrp, hrg⟩
        rw [← hA8] at hown
        obtain ⟨va8, vc8, rfl⟩ := ownS_slice hown
        have G := HF.out.step hs hk
        have HG := Hid.mk' (And.intro (G.put 2 (.slice va8 ws8.length vc8)) (And.intro (ownS_set (b := F) (o := 2) (u := .slice va8 ws8.length vc8) hown (fun e => by have := (hown.lt _ e).1; have := HXA8.out; omega)) (show A8 ≤ U8.heap.size by rw [hA8]; exact hk.size)))
        have d := G.bk.2.1 2 _ rfl
        have z := G.bk.2.2 2
        have HW8 := Hid.mk' (And.intro hrp hrg)
        clear G hs hk hrp hrg KN HF hown hA8
        go_upto_region 16 with fail
        refine wp_gen (fun V => Fp w wr P F bs [.int .i64 n6, .int .i64 n7, .slice va8 ws8.length vc8, .int .i64 0, .slice none 0 0] p8 b8 V ∧ V.ownsRow A8 85 1 (.slice va8 ws8.length vc8) ws8.length (ws8.flatMap ceW) ∧ A8 ≤ V.heap.size) ⟨HG.out.1, HG.out.2.1, by simpa using HG.out.2.2⟩ ?_
        rintro V8 ⟨hF, hO, hZ⟩
        have HK8 := Hid.mk' hF.kq
        have HF := Hid.mk' hF.rebase
        have HO8 := Hid.mk' (And.intro hO hZ)
        clear hF hO hZ HG d z
        have KN := Hid.mk' (srm_c w P bs _ _ _ HF.out.rd)
        go_wp2_with fail
        refine KN.out.mono ?_
        rintro e U9 ⟨n9, rfl, p9, b9, hn, hs, hk⟩
        have G := HF.out.step hs hk
        have HG := Hid.mk' (G.put 3 (.int .i64 n9))
        have d := G.bk.2.1 3 _ rfl
        have z := G.bk.2.2 3
        have HN9 := Hid.mk' hn
        clear G hs hk hn KN HF
        go_upto_region 17 with fail
        refine wp_gen (fun V => Fp w V8 P F bs [.int .i64 n6, .int .i64 n7, .slice va8 ws8.length vc8, .int .i64 n9, .slice none 0 0] p9 b9 V) HG.out ?_
        rintro V9 hF
        have HF := Hid.mk' hF
        clear hF HG d z
        have KN := Hid.mk' (srm_c w P bs _ _ _ HF.out.rd)
        go_wp2_with fail
        refine KN.out.mono ?_
        rintro e VA ⟨nA, rfl, pA, bA, hn, hs, hk⟩
        have HF' := Hid.mk' (HF.out.step hs hk)
        have HNA := Hid.mk' hn
        clear hs hk hn KN HF
        have HF := HF'
        clear HF'
        have HLS : Hid (LbI w VA P F bs (bs.drop p9) b9 nA (.int .i64 n6) (.int .i64 n7) (.slice va8 ws8.length vc8) (.int .i64 n9) [] VA) := by
          exact ⟨.slice none 0 0, pA, bA, HF.out.rd, HF.out.bk, Kq.refl _ _, ⟨rfl, .inl ⟨rfl, rfl⟩⟩, LI.start _ _ _ _ HNA.out⟩
        have HPA' : Hid (P < VA.heap.size ∧ F < VA.heap.size ∧ F ≠ P ∧ w.heap.size ≤ F) := ⟨HF.out.rd.pos, HF.out.bk.1, HF.out.ne, HF.out.ge⟩
        have HNX : Hid (∀ (ls : List Lab) (WE : World) (u : Value) (p' : Nat) (b' : Bool), Sb w WE P bs p' b' → Bk WE F [.int .i64 n6, .int .i64 n7, .slice va8 ws8.length vc8, .int .i64 n9, u] → Kq (fun k => k = P ∨ k = F) VA WE → WE.ownsRow VA.heap.size 56 4 u ls.length (ls.flatMap ceL) → LI labE labO (fun _ => 0) 0 (bs.drop p9) b9 nA ls (bs.drop p') b' → (b' = true ∨ nA ≤ (ls.length : Int)) → (Bk WE T [.int .i64 n1, .int .i64 n2, .slice va3 ws3.length vc3, .slice va xs.length vc] ∧ (∀ o, (WE.alloc o).ownsRow V4.heap.size 54 5 (.slice va xs.length vc) xs.length (xs.flatMap ceF)) ∧ V4.heap.size ≤ WE.heap.size ∧ ∀ (o : Obj) (w3 : World) (v3 : Value), (WE.alloc o).grownBy w3 (Value.slice va xs.length vc).ownBlock → (v3.ownBlock = (Value.slice va xs.length vc).ownBlock ∨ v3.ownBlock = some (WE.alloc o).heap.size) → w3.ownsRow V4.heap.size 54 5 v3 (xs.length + 1) (xs.flatMap ceF ++ [.int .i64 n6, .int .i64 n7, .slice va8 ws8.length vc8, .int .i64 n9, u]) → ∃ x, FrI w V4 P T bs (bs.drop p3) b3 n4 (.int .i64 n1) (.int .i64 n2) (.slice va3 ws3.length vc3) (xs ++ [x]) (w3.setCell ⟨T, 3, none⟩ v3))) := by
          intro ls WE u p' b' g1 g2 g3 g4 g5 g6
          obtain ⟨hBk, hK, hown, hLI, hfs⟩ := HH.out
          have hFe := HFe.out
          have hPW := HPW.out
          have hKE : Kq (fun k => k = P ∨ k = F) wr WE := (HK8.out.trans HF.out.kq).trans g3
          have s1 := hKE.size
          have s2 := g3.size
          have s3 := HF.out.kq.size
          have hA8 := HXA8.out
          have hP8 := HPA8.out
          have hB8 := HBA8.out
          have hT : T < wr.heap.size := hBk.1
          refine ⟨hBk.kq hKE (fun h => by omega), fun o => (ownS_of hown (fun q hq => hKE.block q (hown.lt q hq).2 (fun h => by have := (hown.lt q hq).1; have := (hown.lt q hq).2; omega))).alloc o, by omega, fun o w3 v3 k1 k2 k3 => ?_⟩
          obtain ⟨hO8, hZ8⟩ := HO8.out
          have hfh : FrH WE A8 VA.heap.size WE.heap.size ⟨n6, n7, ws8, n9, ls⟩ (.slice va8 ws8.length vc8) u := by
            refine ⟨ownS_of hO8 (fun q hq => ?_), g4, fun q hq => by have := (hO8.lt q hq).2; omega, fun q hq => (g4.lt q hq).2, by omega, s2, Nat.le_refl _⟩
            have := hO8.lt q hq
            exact (g3.block q (by omega) (fun h => by omega)).trans (HF.out.kq.block q (by omega) (fun h => by omega))
          have hrp := sfrm_rp HN6.out HN7.out HW8.out.1 HN9.out (g5.done g6)
          exact ⟨(⟨n6, n7, ws8, n9, ls⟩, .slice va8 ws8.length vc8, u), fr_add hBk hK hPW.1 hPW.2.1 hPW.2.2.1 hPW.2.2.2.1 hown hLI hlt hfs g1 hKE (by omega) hB8 hfh HW8.out.2 hrp k1 k2 k3⟩
        clear HF HN6 HN7 HN9 HNA HW8 HO8 HK8 HXA8 HPA8 HBA8 HH HS1
        go_wp2
        go_loopw [9] (fun k wr => ∃ ls : List Lab, k = .int .i64 (ls.length : Int) ∧ LbI w VA P F bs (bs.drop p9) b9 nA (.int .i64 n6) (.int .i64 n7) (.slice va8 ws8.length vc8) (.int .i64 n9) ls wr) (fun k _ => nA.toNat - (intOf k).toNat)
        case atStart => exact ⟨[], rfl, HLS.out⟩
        case round =>
          obtain ⟨ls, rfl, u, q2, d2, hSb, hBk, hK, hown, hLI⟩ := hrel
          clear HLS
          obtain ⟨ua, uc, rfl⟩ := ownS_slice hown
          have c2 := hSb.bad
          have hyl : ls.length ≤ 1000010 := by have := hLI.szb; have := H12.out.1; simp only [List.length_drop] at *; omega
          by_cases hlt2 : (ls.length : Int) < nA
          · cases d2 with
            | true =>
              have HX := Hid.mk' (HNX.out ls wr _ q2 true hSb hBk hK hown hLI (.inl rfl))
              have hBk2 := hBk
              clear HNX hSb hBk hK hown hLI
              have f0 := hBk2.2.1 0 _ rfl
              have f1 := hBk2.2.1 1 _ rfl
              have f2 := hBk2.2.1 2 _ rfl
              have f3 := hBk2.2.1 3 _ rfl
              have f4 := hBk2.2.1 4 _ rfl
              have t3 := HX.out.1.2.1 3 _ rfl
              have z3 := HX.out.1.2.2 3
              have hsz := HX.out.2.2.1
              have HOW := Hid.mk' HX.out.2.1
              have HTB := Hid.mk' HX.out.1
              have HNY := Hid.mk' HX.out.2.2.2
              have HTQ : Hid (T < V4.heap.size) := HPW.out.2.1
              clear hBk2 HX HEND
              go_wp2_with (at_builtin; refine wpList_append_own_at _ rfl _ _ 29 rfl V4.heap.size 54 iF (.agg #[.int .i64 0, .int .i64 0, .slice none 0 0, .int .i64 0, .slice none 0 0]) 5 72 Try.underlying29 hiF hzF0 hzF1 hzF2 rfl (by decide) _ _ _ rfl (HOW.out _) ⟨wr.heap.size, 0, none⟩ 1 1 [.int .i64 n6, .int .i64 n7, .slice va8 ws8.length vc8, .int .i64 n9, .slice ua ls.length uc] rfl rfl (lit1 _ _ _) (by simp [Value.oneCell']) (by unfold maxLen; omega) (by omega) (by simp; omega) ?_; intro v3 w3 hown' hgrow hnn hat; have HR3 := Hid.mk' (HNY.out _ w3 v3 hgrow hat hown'); have bT := (HTB.out.past).grown hgrow (fun e => by have := ((HOW.out (.cells #[] 0)).lt T e).1; have := HTQ.out; omega); have t3' := bT.2.1 3 _ rfl; have z3' := bT.2.2 3; obtain ⟨v3a, v3c, rfl⟩ := ownS_slice hown'; clear hown' hgrow hnn hat HNY HOW bT HTB)
              go_simp
              go_wp2
              obtain ⟨x, hx⟩ := HR3.out
              have HX := Hid.mk' hx
              clear hx HR3
              go_roundw
              case rel => exact ⟨xs ++ [x], by simp, HX.out⟩
              case measure => simp [intOf]; omega
            | false =>
              have HH := Hid.mk' (And.intro hBk (And.intro hK (And.intro hown hLI)))
              have HS1 := Hid.mk' hSb
              obtain ⟨L, hLe⟩ : ∃ L, L = wr.heap.size := ⟨_, rfl⟩
              have HLe := Hid.mk' hLe
              clear hSb hBk hK hown hLI HNX HEND
              go_upto_region 22 with fail
              rw [← hLe]
              refine wp_gen (fun V => Fp w wr P L bs [.int .i64 0, .int .i64 0, .int .i64 0, .bool false] q2 false V) (by rw [hLe]; exact Fp.start HS1.out ((Below.refl _ _).alloc (Nat.le_refl _) _) Bk.new (Nat.le_refl _)) ?_
              rintro VB hF
              have HF := Hid.mk' hF
              clear hF hLe c2
              have KN := Hid.mk' (srm_c w P bs _ _ _ HF.out.rd)
              go_wp2_with fail
              refine KN.out.mono ?_
              rintro e UC ⟨nC, rfl, pC, bC, hn, hs, hk⟩
              have G := HF.out.step hs hk
              have HG := Hid.mk' (G.put 0 (.int .i64 nC))
              have d := G.bk.2.1 0 _ rfl
              have z := G.bk.2.2 0
              have HNC := Hid.mk' hn
              clear G hs hk hn KN HF
              go_upto_region 23 with fail
              refine wp_gen (fun V => Fp w wr P L bs [.int .i64 nC, .int .i64 0, .int .i64 0, .bool false] pC bC V) HG.out ?_
              rintro VC hF
              have HF := Hid.mk' hF
              clear hF HG d z
              have KN := Hid.mk' (srm_c w P bs _ _ _ HF.out.rd)
              go_wp2_with fail
              refine KN.out.mono ?_
              rintro e UD ⟨nD, rfl, pD, bD, hn, hs, hk⟩
              have G := HF.out.step hs hk
              have HG := Hid.mk' (G.put 1 (.int .i64 nD))
              have d := G.bk.2.1 1 _ rfl
              have z := G.bk.2.2 1
              have HND := Hid.mk' hn
              clear G hs hk hn KN HF
              go_upto_region 24 with fail
              refine wp_gen (fun V => Fp w wr P L bs [.int .i64 nC, .int .i64 nD, .int .i64 0, .bool false] pD bD V) HG.out ?_
              rintro VD hF
              have HF := Hid.mk' hF
              clear hF HG d z
              have KN := Hid.mk' (srm_c w P bs _ _ _ HF.out.rd)
              go_wp2_with fail
              refine KN.out.mono ?_
              rintro e UE ⟨nE, rfl, pE, bE, hn, hs, hk⟩
              have G := HF.out.step hs hk
              have HG := Hid.mk' (G.put 2 (.int .i64 nE))
              have d := G.bk.2.1 2 _ rfl
              have z := G.bk.2.2 2
              have HNE := Hid.mk' hn
              clear G hs hk hn KN HF
              go_upto_region 25 with fail
              refine wp_gen (fun V => Fp w wr P L bs [.int .i64 nC, .int .i64 nD, .int .i64 nE, .bool false] pE bE V) HG.out ?_
              rintro VE hF
              have HF := Hid.mk' hF
              clear hF HG d z
              have KN := Hid.mk' (srm_c w P bs _ _ _ HF.out.rd)
              go_wp2_with fail
              refine KN.out.mono ?_
              rintro e VG ⟨nG, rfl, pG, bG, hn, hs, hk⟩
              have HF' := Hid.mk' (HF.out.step hs hk)
              have HNG := Hid.mk' hn
              clear hs hk hn KN HF
              have HF := HF'
              clear HF'
              have d := HF.out.bk.2.1 3 _ rfl
              have z := HF.out.bk.2.2 3
              have HG := Hid.mk' (HF.out.put 3 (.bool (nG == 1)))
              clear HF
              go_upto_region 27 with fail
              refine wp_gen (fun V => Fp w wr P L bs [.int .i64 nC, .int .i64 nD, .int .i64 nE, .bool (nG == 1)] pG bG V) HG.out ?_
              rintro VH hF
              clear HG d z
              have l0 := hF.bk.2.1 0 _ rfl
              have l1 := hF.bk.2.1 1 _ rfl
              have l2 := hF.bk.2.1 2 _ rfl
              have l3 := hF.bk.2.1 3 _ rfl
              have hkB : Bk VH F [.int .i64 n6, .int .i64 n7, .slice va8 ws8.length vc8, .int .i64 n9, .slice ua ls.length uc] := HH.out.1.kq hF.kq (fun h => by have := HH.out.1.1; have := HLe.out; have := HPA'.out; omega)
              have f4 := hkB.2.1 4 _ rfl
              have z4 := hkB.2.2 4
              have HOW : Hid (∀ o, (VH.alloc o).ownsRow VA.heap.size 56 4 (.slice ua ls.length uc) ls.length (ls.flatMap ceL)) := fun o => (ownS_of HH.out.2.2.1 (fun q hq => hF.kq.block q (HH.out.2.2.1.lt q hq).2 (fun h => by have := HH.out.2.2.1.lt q hq; have := HLe.out; have := HPA'.out; omega))).alloc o
              have hvs : VA.heap.size ≤ VH.heap.size := Nat.le_trans HH.out.2.1.size hF.kq.size
              have hFl : F < VH.heap.size := hkB.1
              have hqb : ∀ q, (Value.slice ua ls.length uc).ownBlock = some q → q ≠ F := fun q hq => by have := (HH.out.2.2.1.lt q hq).1; have := HPA'.out; omega
              have HQB := Hid.mk' hqb
              have HNY : Hid (∀ (o : Obj) (w3 : World) (v3 : Value), (VH.alloc o).grownBy w3 (Value.slice ua ls.length uc).ownBlock → w3.ownsRow VA.heap.size 56 4 v3 (ls.length + 1) (ls.flatMap ceL ++ [.int .i64 nC, .int .i64 nD, .int .i64 nE, .bool (nG == 1)]) → LbI w VA P F bs (bs.drop p9) b9 nA (.int .i64 n6) (.int .i64 n7) (.slice va8 ws8.length vc8) (.int .i64 n9) (ls ++ [⟨nC, nD, nE, nG == 1⟩]) (w3.setCell ⟨F, 4, none⟩ v3)) := by
                intro o w3 v3 k1 k2
                obtain ⟨hBk, hK, hown, hLI⟩ := HH.out
                have hPA := HPA'.out
                exact lb_add hBk hK hPA.1 hPA.2.1 hPA.2.2.1 hPA.2.2.2 hown hLI hlt2 (by rw [HLe.out]; exact Nat.le_refl _) hF (slab_rp HNC.out HND.out HNE.out (flag_rp HNG.out)) k1 k2
              have HFZ := Hid.mk' hkB
              clear hF hkB HNC HND HNE HNG HH HS1 hqb
              go_wp2_with (at_builtin; refine wpList_append_own_at _ rfl _ _ 52 rfl VA.heap.size 56 iL (.agg #[.int .i64 0, .int .i64 0, .int .i64 0, .bool false]) 4 32 Try.underlying52 hiL hzL0 hzL1 hzL2 rfl (by decide) _ _ _ rfl (HOW.out _) ⟨VH.heap.size, 0, none⟩ 1 1 [.int .i64 nC, .int .i64 nD, .int .i64 nE, .bool (nG == 1)] rfl rfl (lit1 _ _ _) (by simp [Value.oneCell']) (by unfold maxLen; omega) (by omega) (by simp; omega) ?_; intro v3 w3 hown' hgrow hnn hat; have HR3 := Hid.mk' (HNY.out _ w3 v3 hgrow hown'); have bF := (HFZ.out.past).grown hgrow (fun e => HQB.out F e rfl); have f4' := bF.2.1 4 _ rfl; have z4' := bF.2.2 4; obtain ⟨v3a, v3c, rfl⟩ := ownS_slice hown'; clear hown' hgrow hnn hat HNY HOW bF HFZ)
              go_simp
              go_wp2
              go_roundw
              case rel => exact ⟨ls ++ [⟨nC, nD, nE, nG == 1⟩], by simp, HR3.out⟩
              case measure => simp [intOf]; omega
          · have HX := Hid.mk' (HNX.out ls wr _ q2 d2 hSb hBk hK hown hLI (.inr (by omega)))
            have hBk2 := hBk
            clear HNX hSb hBk hK hown hLI c2
            have f0 := hBk2.2.1 0 _ rfl
            have f1 := hBk2.2.1 1 _ rfl
            have f2 := hBk2.2.1 2 _ rfl
            have f3 := hBk2.2.1 3 _ rfl
            have f4 := hBk2.2.1 4 _ rfl
            have t3 := HX.out.1.2.1 3 _ rfl
            have z3 := HX.out.1.2.2 3
            have hsz := HX.out.2.2.1
            have HOW := Hid.mk' HX.out.2.1
            have HTB := Hid.mk' HX.out.1
            have HNY := Hid.mk' HX.out.2.2.2
            have HTQ : Hid (T < V4.heap.size) := HPW.out.2.1
            clear hBk2 HX HEND
            go_wp2_with (at_builtin; refine wpList_append_own_at _ rfl _ _ 29 rfl V4.heap.size 54 iF (.agg #[.int .i64 0, .int .i64 0, .slice none 0 0, .int .i64 0, .slice none 0 0]) 5 72 Try.underlying29 hiF hzF0 hzF1 hzF2 rfl (by decide) _ _ _ rfl (HOW.out _) ⟨wr.heap.size, 0, none⟩ 1 1 [.int .i64 n6, .int .i64 n7, .slice va8 ws8.length vc8, .int .i64 n9, .slice ua ls.length uc] rfl rfl (lit1 _ _ _) (by simp [Value.oneCell']) (by unfold maxLen; omega) (by omega) (by simp; omega) ?_; intro v3 w3 hown' hgrow hnn hat; have HR3 := Hid.mk' (HNY.out _ w3 v3 hgrow hat hown'); have bT := (HTB.out.past).grown hgrow (fun e => by have := ((HOW.out (.cells #[] 0)).lt T e).1; have := HTQ.out; omega); have t3' := bT.2.1 3 _ rfl; have z3' := bT.2.2 3; obtain ⟨v3a, v3c, rfl⟩ := ownS_slice hown'; clear hown' hgrow hnn hat HNY HOW bT HTB)
            go_simp
            go_wp2
            obtain ⟨x, hx⟩ := HR3.out
            have HX := Hid.mk' hx
            clear hx HR3
            go_roundw
            case rel => exact ⟨xs ++ [x], by simp, HX.out⟩
            case measure => simp [intOf]; omega
    · have HE := Hid.mk' (HEND.out xs wr _ q1 d1 hSb hBk hK hown hLI hfs (.inr (by omega)))
      clear HEND hBk hK hown hLI hfs hSb
      cases d1 with
      | true =>
        exact absurd HYP.out.choose_spec.2 (HE.out.no rfl _ HYP.out.choose_spec.1)
      | false =>
        have HUQ := Hid.mk' HE.out.uniq
        have HBN : Hid (bs ≠ []) := fun e => by have := H12.out.2; rw [e] at this; simp at this
        obtain ⟨M, hSt⟩ := HE.out.sth
        obtain ⟨a1, c1', a2, c2', e1, e2, hI⟩ := hSt.is n1 n2
        injection e1 with i1 i2 i3
        injection e2 with j1 j2 j3
        clear i2 j2
        subst i1 i3 j1 j3
        have hKP := fun (d : World) (hd : Below wr.heap.size wr d) => sput_c ⟨n1, n2, ws3, xs.map (·.1)⟩ va3 vc3 va vc d (hI.up (up_below hd)) (lb_of _ _ (Nat.le_trans HE.out.sz (by omega))) (by rw [sz_sSz]; exact Nat.le_trans HE.out.sz (by omega)) (hSt.vs n1 n2)
        dsimp only at hKP
        simp only [List.length_map] at hKP
        obtain ⟨E, hE⟩ : ∃ E, E = imgM ⟨n1, n2, ws3, xs.map (·.1)⟩ := ⟨_, rfl⟩
        rw [← hE] at hKP
        have KP := Hid.mk' hKP
        have HEB : Hid (Byt E) := by rw [hE]; exact img_byt _
        have hse := strn_beq HEB.out HBy.out
        have cb0 := (HBS.out.below HE.out.bel).conv
        have cb1 := (HBS.out.below (HE.out.bel.drew)).conv
        have t0 := HE.out.box.2.1 0 _ rfl
        have t1 := HE.out.box.2.1 1 _ rfl
        have t2 := HE.out.box.2.1 2 _ rfl
        have t3 := HE.out.box.2.1 3 _ rfl
        have HSt := Hid.mk' hSt
        have HEE := Hid.mk' hE
        clear hKP hE hI hSt
        have heq : E = bs := by rw [HEE.out, HUQ.out _ HYP.out.choose_spec.1 HYP.out.choose_spec.2]; exact HYP.out.choose_spec.2
        rw [decide_eq_true heq] at hse
        have HQ := Hid.mk' heq
        clear heq
        go_upto_region 29 with fail
        go_region_law (go_simp; refine (KP.out _ ?hd).mono ?_; (case hd => first | exact Below.refl _ _ | exact (Below.refl _ _).drew); rintro e w4 ⟨u, rfl, hu, hb4⟩; have hb5 : Below wr.heap.size wr w4 := ⟨hb4.os, hb4.tape, hb4.output, hb4.size, hb4.block⟩; have HL4 := Hid.mk' (HE.out.bel.trans (hb5.mono HE.out.bel.size)); have cu := (own_bs hu).conv; have cb4 := (HBS.out.below HL4.out).conv; have bk4 := HE.out.bk.keep hb5; have bx4 := HE.out.box.keep hb5; have q0 := bk4.2.1 0 _ rfl; have q1 := bk4.2.1 1 _ rfl; have q2 := bk4.2.1 2 _ rfl; have q3 := bk4.2.1 3 _ rfl; have q4 := bk4.2.1 4 _ rfl; have fz := bk4.2.2; have r0 := bx4.2.1 0 _ rfl; have r1 := bx4.2.1 1 _ rfl; have r2 := bx4.2.1 2 _ rfl; have r3 := bx4.2.1 3 _ rfl; have HK4 := Hid.mk' bk4; have HS4 := Hid.mk' (HSt.out.keep hb5.size (fun q _ hq => hb5.block q hq)); clear hb4 hb5 bk4 bx4 hu)
        all_goals
          go_simp
          go_wp2
          refine body_gen (fun U => Bk U R0 [.bool true, .int .i64 n1, .int .i64 n2, .slice va3 ws3.length vc3, .slice va xs.length vc] ∧ Below w.heap.size w U ∧ StH U (w.heap.size + 1) M ws3 xs (.slice va3 ws3.length vc3) (.slice va xs.length vc)) ⟨HK4.out.set.set.set.set.set, by have hr : ∀ j, w.heap.size ≤ (⟨R0, j, none⟩ : Addr).block := fun _ => Nat.le_of_eq HPT.out.2.2.symm; exact ((((HL4.out.setCell (hr _) _).setCell (hr _) _).setCell (hr _) _).setCell (hr _) _).setCell (hr _) _, HS4.out.keep (by simp) (fun q hq _ => by
            have hqn : q ≠ R0 := by have := HPT.out.2.2; omega
            rw [Below.heap_setCell _ _ _ _ hqn, Below.heap_setCell _ _ _ _ hqn, Below.heap_setCell _ _ _ _ hqn, Below.heap_setCell _ _ _ _ hqn, Below.heap_setCell _ _ _ _ hqn]; try rfl)⟩ ?_
          rintro U ⟨bu, hbu, hsu⟩
          have s0 := bu.2.1 0 _ rfl
          have s1 := bu.2.1 1 _ rfl
          have s2 := bu.2.1 2 _ rfl
          have s3 := bu.2.1 3 _ rfl
          have s4 := bu.2.1 4 _ rfl
          exact bodyPost_ret (v := .agg #[.bool true, .int .i64 n1, .int .i64 n2, .slice va3 ws3.length vc3, .slice va xs.length vc]) (by simp [results, Try.results14, go_sem, s0, s1, s2, s3, s4]) rfl ⟨_, rfl, .inr ⟨n1, n2, ws3, xs, _, _, M, rfl, hsu.down (by omega), HBN.out, HEE.out ▸ HQ.out, HUQ.out⟩, hbu⟩
        
end Go.Proofs.Ytfaajmhmcdoibaa
