import Derived.Test.YtdbmolambolmgaaGreatHq
set_option linter.all false
set_option maxHeartbeats 16000000
set_option maxRecDepth 100000
namespace Go.Proofs.YtdbmolambolmgaaGreat
open Go.RowKit Go.Sort
set_option maxRecDepth 100000
theorem mkCods_c (a:Option Addr) (c:Nat) (xs:List Cod) (k0:Int) (B:Nat) (W0 V:World) (hL:Cod.Ls B W0 a xs) (hm:Mk B W0 V) (h0:0≤k0) (h1:k0+10*((xs.length+(xs.map Cod.sz).sum):Nat)≤100000000) :
    Calls Tryz.prog 92 #[.slice a xs.length c,.int .i64 k0] V fun e V'=>∃ k1:Int,e=.returned (.int .i64 k1)∧k0≤k1∧k1≤k0+10*((xs.length+(xs.map Cod.sz).sum):Nat)∧MB B W0 V V':=by
 have HL:=Hm hL
 have HM:=Hm hm
 have H1:=Hm h1
 have hxl:xs.length≤100000000:=by omega
 clear hL hm h1
 go_enter Tryz.func92,Tryz.ntmps92
 go_wp2
 go_loopw [1,5] (fun q i wr=>∃ (j:Nat) (kk:Int),j≤xs.length∧i=.int .i64 j∧q=.int .i64 kk∧k0≤kk∧kk≤k0+10*((j+((xs.take j).map Cod.sz).sum:Nat):Int)∧MB B W0 V wr) (fun _ i _=>xs.length-(intOf i).toNat)
 case atStart=>exact ⟨0,k0,Nat.zero_le _,rfl,rfl,Int.le_refl _,by simp,MB.refl HM.out⟩
 case round =>
  obtain ⟨j,kk,hj,rfl,rfl,hk0,hk1,hmb⟩:=hrel
  clear HM
  by_cases hlt:j<xs.length
  · have hji:(j:Int)<(xs.length:Int):=by omega
    rcases HL.out with hx | ⟨b,off,ea,hB,hc⟩
    · rw [hx] at hlt;simp at hlt
    have hr:=hc j hlt
    have st:=sum_step (f:=Cod.sz) Cod.z xs j hlt
    have sle:=sumk_le Cod.sz xs (j+1)
    have hH1:=H1.out
    obtain ⟨p1,s1,p2,s2,⟨d0,d1⟩,hi⟩:=hr
    generalize xs.getD j Cod.z=y at *
    have lb:b<W0.heap.size:=World.block_lt_of_cell? W0 _ d0
    have HST:Hid (j+1+((xs.take (j+1)).map Cod.sz).sum=(j+((xs.take j).map Cod.sz).sum)+(1+Cod.sz y)):=by show _=_;rw [st];omega
    have hbd:kk+10*((1+Cod.sz y:Nat):Int)≤100000000:=by rw [st] at sle;omega
    subst ea
    clear st sle hH1 hc HL H1
    simp only [Cod.sz] at hbd HST
    have hkp:0≤kk:=by omega
    go_upto_region 4 with fail
    have hs:=hmb.mm.sl b (off+j*2) _ _ _ d0
    have KC:=Hm (mkGrps_c p1 s1 y.locs (kk) B W0 wr (hi.1) hmb.mm (by omega) (by rw [sum_zero];omega))
    have HMM:=Hm hmb
    clear hmb
    go_wp2_with fail
    refine KC.out.mono ?_
    rintro e V1 ⟨kn0,rfl,lo0,up0,mc⟩
    have m0:=HMM.out.trans mc
    clear mc KC HMM hs
    rw [sum_zero] at up0
    go_upto_region 5 with fail
    have hs:=m0.mm.sl b (off+j*2+1) _ _ _ d1
    have KC:=Hm (mkIns_c p2 s2 y.body (kn0) B W0 V1 (hi.2) m0.mm (by omega) (by omega))
    have HMM:=Hm m0
    clear m0
    go_wp2_with fail
    refine KC.out.mono ?_
    rintro e V2 ⟨kn1,rfl,lo1,up1,mc⟩
    have m1:=HMM.out.trans mc
    clear mc KC HMM hs
    have HMF:=Hm m1
    clear m1
    have HKL:Hid (k0≤kn1):=by show _≤_;omega
    have HKU:Hid (kn1≤k0+10*((j+1+((xs.take (j+1)).map Cod.sz).sum:Nat):Int)):=by show _≤_;rw [HST.out];omega
    clear HST hbd hk0 hk1
    go_wp2
    go_roundw
    case rel=>exact ⟨j+1,kn1,by omega,by go_num,rfl,HKL.out,HKU.out,HMF.out⟩
    case measure=>simp [intOf];omega
  · have e:j=xs.length:=by omega
    subst e
    rw [List.take_length] at hk1
    have HO:=Hm (And.intro hk0 (And.intro hk1 hmb))
    clear hk0 hk1 hmb
    go_wp2
    go_ret
    exact ⟨kk,rfl,HO.out⟩
theorem mkDats_c (a:Option Addr) (c:Nat) (xs:List Dat) (k0:Int) (B:Nat) (W0 V:World) (hL:Dat.Ls B W0 a xs) (hm:Mk B W0 V) (h0:0≤k0) (h1:k0+10*((xs.length+(xs.map Dat.sz).sum):Nat)≤100000000) :
    Calls Tryz.prog 93 #[.slice a xs.length c,.int .i64 k0] V fun e V'=>∃ k1:Int,e=.returned (.int .i64 k1)∧k0≤k1∧k1≤k0+10*((xs.length+(xs.map Dat.sz).sum):Nat)∧MB B W0 V V':=by
 have HL:=Hm hL
 have HM:=Hm hm
 have H1:=Hm h1
 have hxl:xs.length≤100000000:=by omega
 clear hL hm h1
 go_enter Tryz.func93,Tryz.ntmps93
 go_wp2
 go_loopw [1,5] (fun q i wr=>∃ (j:Nat) (kk:Int),j≤xs.length∧i=.int .i64 j∧q=.int .i64 kk∧k0≤kk∧kk≤k0+10*((j+((xs.take j).map Dat.sz).sum:Nat):Int)∧MB B W0 V wr) (fun _ i _=>xs.length-(intOf i).toNat)
 case atStart=>exact ⟨0,k0,Nat.zero_le _,rfl,rfl,Int.le_refl _,by simp,MB.refl HM.out⟩
 case round =>
  obtain ⟨j,kk,hj,rfl,rfl,hk0,hk1,hmb⟩:=hrel
  clear HM
  by_cases hlt:j<xs.length
  · have hji:(j:Int)<(xs.length:Int):=by omega
    rcases HL.out with hx | ⟨b,off,ea,hB,hc⟩
    · rw [hx] at hlt;simp at hlt
    have hr:=hc j hlt
    have st:=sum_step (f:=Dat.sz) Dat.z xs j hlt
    have sle:=sumk_le Dat.sz xs (j+1)
    have hH1:=H1.out
    obtain ⟨p1,s1,p2,s2,⟨d0,d1⟩,hi⟩:=hr
    generalize xs.getD j Dat.z=y at *
    have lb:b<W0.heap.size:=World.block_lt_of_cell? W0 _ d0
    have HST:Hid (j+1+((xs.take (j+1)).map Dat.sz).sum=(j+((xs.take j).map Dat.sz).sum)+(1+Dat.sz y)):=by show _=_;rw [st];omega
    have hbd:kk+10*((1+Dat.sz y:Nat):Int)≤100000000:=by rw [st] at sle;omega
    subst ea
    clear st sle hH1 hc HL H1
    simp only [Dat.sz] at hbd HST
    have hkp:0≤kk:=by omega
    go_upto_region 4 with fail
    have hs:=hmb.mm.sl b (off+j*2) _ _ _ d0
    have KC:=Hm (mkIns_c p1 s1 y.off (kk) B W0 wr (hi.1) hmb.mm (by omega) (by omega))
    have HMM:=Hm hmb
    clear hmb
    go_wp2_with fail
    refine KC.out.mono ?_
    rintro e V1 ⟨kn0,rfl,lo0,up0,mc⟩
    have m0:=HMM.out.trans mc
    clear mc KC HMM hs
    go_upto_region 5 with fail
    have hs:=m0.mm.sl b (off+j*2+1) _ _ _ d1
    have KC:=Hm (mkBytes_c p2 s2 y.bs (kn0) B W0 V1 (hi.2) m0.mm (by omega) (by omega))
    have HMM:=Hm m0
    clear m0
    go_wp2_with fail
    refine KC.out.mono ?_
    rintro e V2 ⟨rfl,mc⟩
    have m1:=HMM.out.trans mc
    clear mc KC HMM hs
    have HMF:=Hm m1
    clear m1
    have HKL:Hid (k0≤(kn0+y.bs.length)):=by show _≤_;omega
    have HKU:Hid ((kn0+y.bs.length)≤k0+10*((j+1+((xs.take (j+1)).map Dat.sz).sum:Nat):Int)):=by show _≤_;rw [HST.out];omega
    clear HST hbd hk0 hk1
    go_wp2
    go_roundw
    case rel=>exact ⟨j+1,(kn0+y.bs.length),by omega,by go_num,rfl,HKL.out,HKU.out,HMF.out⟩
    case measure=>simp [intOf];omega
  · have e:j=xs.length:=by omega
    subst e
    rw [List.take_length] at hk1
    have HO:=Hm (And.intro hk0 (And.intro hk1 hmb))
    clear hk0 hk1 hmb
    go_wp2
    go_ret
    exact ⟨kk,rfl,HO.out⟩
theorem mkCuss_c (a:Option Addr) (c:Nat) (xs:List Cus) (k0:Int) (B:Nat) (W0 V:World) (hL:Cus.Ls B W0 a xs) (hm:Mk B W0 V) (h0:0≤k0) (h1:k0+10*((xs.length+(xs.map Cus.sz).sum):Nat)≤100000000) :
    Calls Tryz.prog 94 #[.slice a xs.length c,.int .i64 k0] V fun e V'=>∃ k1:Int,e=.returned (.int .i64 k1)∧k0≤k1∧k1≤k0+10*((xs.length+(xs.map Cus.sz).sum):Nat)∧MB B W0 V V':=by
 have HL:=Hm hL
 have HM:=Hm hm
 have H1:=Hm h1
 have hxl:xs.length≤100000000:=by omega
 clear hL hm h1
 go_enter Tryz.func94,Tryz.ntmps94
 go_wp2
 go_loopw [1,5] (fun q i wr=>∃ (j:Nat) (kk:Int),j≤xs.length∧i=.int .i64 j∧q=.int .i64 kk∧k0≤kk∧kk≤k0+10*((j+((xs.take j).map Cus.sz).sum:Nat):Int)∧MB B W0 V wr) (fun _ i _=>xs.length-(intOf i).toNat)
 case atStart=>exact ⟨0,k0,Nat.zero_le _,rfl,rfl,Int.le_refl _,by simp,MB.refl HM.out⟩
 case round =>
  obtain ⟨j,kk,hj,rfl,rfl,hk0,hk1,hmb⟩:=hrel
  clear HM
  by_cases hlt:j<xs.length
  · have hji:(j:Int)<(xs.length:Int):=by omega
    rcases HL.out with hx | ⟨b,off,ea,hB,hc⟩
    · rw [hx] at hlt;simp at hlt
    have hr:=hc j hlt
    have st:=sum_step (f:=Cus.sz) Cus.z xs j hlt
    have sle:=sumk_le Cus.sz xs (j+1)
    have hH1:=H1.out
    obtain ⟨p1,s1,⟨d0,d1,d2⟩,hi⟩:=hr
    generalize xs.getD j Cus.z=y at *
    have lb:b<W0.heap.size:=World.block_lt_of_cell? W0 _ d0
    have HST:Hid (j+1+((xs.take (j+1)).map Cus.sz).sum=(j+((xs.take j).map Cus.sz).sum)+(1+Cus.sz y)):=by show _=_;rw [st];omega
    have hbd:kk+10*((1+Cus.sz y:Nat):Int)≤100000000:=by rw [st] at sle;omega
    subst ea
    clear st sle hH1 hc HL H1
    simp only [Cus.sz] at hbd HST
    have hkp:0≤kk:=by omega
    go_upto_region 4 with fail
    obtain ⟨u,hu⟩:=hmb.mm.ex b (off+j*3) _ d0
    have hz:=hmb.mm.fz b (off+j*3) hB lb
    have hw:IntKind.i64.wrap (kk+1)=kk+1:=by rw [IntKind.wrap_i64];omega
    have HS:=Hm (fun v=>hmb.set v hB d0 (by intro a n c h;cases h))
    clear hmb
    go_upto_region 5 with fail
    refine wp_gen (fun W=>MB B W0 V W) (HS.out _) ?_
    rintro V1 m0
    clear HS hu hz u
    go_upto_region 6 with fail
    clear hw
    obtain ⟨u,hu⟩:=m0.mm.ex b (off+j*3+1) _ d1
    have hz:=m0.mm.fz b (off+j*3+1) hB lb
    have hw:IntKind.i64.wrap ((kk+1)+1)=(kk+1)+1:=by rw [IntKind.wrap_i64];omega
    have KT:=Hm (mtext_c ((kk+1)) V1 (by omega) (by omega))
    have HMM:=Hm m0
    clear m0 u hu hz
    go_wp2_with fail
    refine KT.out.mono ?_
    rintro e VT1 ⟨tx,rfl,hbt⟩
    have mt:=HMM.out.below hbt
    obtain ⟨u,hu⟩:=mt.mm.ex b (off+j*3+1) _ d1
    have hz:=mt.mm.fz b (off+j*3+1) hB lb
    have HS:=Hm (fun v=>mt.set v hB d1 (by intro a n c h;cases h))
    clear mt hbt KT HMM
    go_upto_region 7 with fail
    refine wp_gen (fun W=>MB B W0 V W) (HS.out _) ?_
    rintro V2 m1
    clear HS hu hz u
    go_upto_region 8 with fail
    clear hw
    have hs:=m1.mm.sl b (off+j*3+2) _ _ _ d2
    have KC:=Hm (mkBytes_c p1 s1 y.bs (((kk+1)+1)) B W0 V2 (hi) m1.mm (by omega) (by omega))
    have HMM:=Hm m1
    clear m1
    go_wp2_with fail
    refine KC.out.mono ?_
    rintro e V3 ⟨rfl,mc⟩
    have m2:=HMM.out.trans mc
    clear mc KC HMM hs
    have HMF:=Hm m2
    clear m2
    have HKL:Hid (k0≤(((kk+1)+1)+y.bs.length)):=by show _≤_;omega
    have HKU:Hid ((((kk+1)+1)+y.bs.length)≤k0+10*((j+1+((xs.take (j+1)).map Cus.sz).sum:Nat):Int)):=by show _≤_;rw [HST.out];omega
    clear HST hbd hk0 hk1
    go_wp2
    go_roundw
    case rel=>exact ⟨j+1,(((kk+1)+1)+y.bs.length),by omega,by go_num,rfl,HKL.out,HKU.out,HMF.out⟩
    case measure=>simp [intOf];omega
  · have e:j=xs.length:=by omega
    subst e
    rw [List.take_length] at hk1
    have HO:=Hm (And.intro hk0 (And.intro hk1 hmb))
    clear hk0 hk1 hmb
    go_wp2
    go_ret
    exact ⟨kk,rfl,HO.out⟩
open Go.RowKit Go.Sort
theorem bk_bet {V0 V1:World} {B C g:Nat} {cs:List Value} (h:Bk V0 g cs) (t:Bet B C V0 V1) (hC:C≤g):Bk V1 g cs :=
 ⟨Nat.lt_of_lt_of_le h.1 t.size,fun j v hv=>(t.cell (.inr ⟨hC,h.1⟩)).trans (h.2.1 j v hv),fun j=>(t.frozen (.inr ⟨hC,h.1⟩)).trans (h.2.2 j)⟩
theorem mkMod_c (x:Mod) (a1:Option Addr) (c1:Nat) (a2:Option Addr) (c2:Nat) (a3:Option Addr) (c3:Nat) (a4:Option Addr) (c4:Nat) (a5:Option Addr) (c5:Nat) (a6:Option Addr) (c6:Nat) (a7:Option Addr) (c7:Nat) (a8:Option Addr) (c8:Nat) (a9:Option Addr) (c9:Nat) (a10:Option Addr) (c10:Nat) (a11:Option Addr) (c11:Nat) (B:Nat) (W0 V:World) (hI:Mod.Is B W0 x a1 a2 a3 a4 a5 a6 a7 a8 a9 a10 a11) (hm:Mk B W0 V) (hs:x.sz≤1048576) :
    Calls Tryz.prog 14 #[.agg #[.slice a1 x.types.length c1,.slice a2 x.imps.length c2,.slice a3 x.funcs.length c3,.slice a4 x.tabs.length c4,.slice a5 x.mems.length c5,.slice a6 x.globs.length c6,.slice a7 x.exps.length c7,.bool x.hasS,.int .i64 x.start,.slice a8 x.elems.length c8,.slice a9 x.codes.length c9,.slice a10 x.datas.length c10,.slice a11 x.customs.length c11],.int .i64 1] V fun e V'=>∃ k:Int,e=.returned (.int .i64 k)∧0≤k∧MB B W0 V V':=by
 simp only [Mod.sz] at hs
 have zt:=sum_zeroL x.tabs
 have zm:=sum_zeroL x.mems
 obtain ⟨V0,hV0⟩:∃ V0,V0=V.alloc (.cells #[.slice a1 x.types.length c1,.slice a2 x.imps.length c2,.slice a3 x.funcs.length c3,.slice a4 x.tabs.length c4,.slice a5 x.mems.length c5,.slice a6 x.globs.length c6,.slice a7 x.exps.length c7,.bool x.hasS,.int .i64 x.start,.slice a8 x.elems.length c8,.slice a9 x.codes.length c9,.slice a10 x.datas.length c10,.slice a11 x.customs.length c11] 46):=⟨_,rfl⟩
 have hBk:Bk V0 V.heap.size [.slice a1 x.types.length c1,.slice a2 x.imps.length c2,.slice a3 x.funcs.length c3,.slice a4 x.tabs.length c4,.slice a5 x.mems.length c5,.slice a6 x.globs.length c6,.slice a7 x.exps.length c7,.bool x.hasS,.int .i64 x.start,.slice a8 x.elems.length c8,.slice a9 x.codes.length c9,.slice a10 x.datas.length c10,.slice a11 x.customs.length c11]:=by rw [hV0];exact Bk.new
 have m0:MB B W0 V V0:=(MB.refl hm).below (by rw [hV0];exact (Below.refl _ _).alloc (Nat.le_refl _) _)
 have hC:W0.heap.size≤V.heap.size:=hm.size
 have HV0:=Hm hV0
 clear hV0 hm
 go_enter Tryz.func14,Tryz.ntmps14
 go_upto_region 1 with fail
 rw [← HV0.out]
 clear HV0
 have hq:=hBk.2.1 0 _ rfl
 have KC:=Hm (mkFTypes_c a1 c1 x.types 1 B W0 V0 hI.1 m0.mm (by omega) (by omega))
 have HM:=Hm m0
 have HK:=Hm hBk
 clear m0 hBk
 go_wp2_with fail
 refine KC.out.mono ?_
 rintro e V1 ⟨k1,rfl,lo1,up1,mc⟩
 have m1:=HM.out.trans mc
 have bk1:=bk_bet HK.out mc.bt hC
 clear mc KC HM HK hq
 have hq:=bk1.2.1 1 _ rfl
 have KC:=Hm (mkImps_c a2 c2 x.imps k1 B W0 V1 hI.2.1 m1.mm (by omega) (by omega))
 have HM:=Hm m1
 have HK:=Hm bk1
 clear m1 bk1
 go_wp2_with fail
 refine KC.out.mono ?_
 rintro e V2 ⟨k2,rfl,lo2,up2,mc⟩
 have m2:=HM.out.trans mc
 have bk2:=bk_bet HK.out mc.bt hC
 clear mc KC HM HK hq
 have hq:=bk2.2.1 2 _ rfl
 have KC:=Hm (mkInts_c a3 c3 x.funcs k2 B W0 V2 hI.2.2.1 m2.mm (by omega) (by omega))
 have HM:=Hm m2
 have HK:=Hm bk2
 clear m2 bk2
 go_wp2_with fail
 refine KC.out.mono ?_
 rintro e V3 ⟨rfl,mc⟩
 have m3:=HM.out.trans mc
 have bk3:=bk_bet HK.out mc.bt hC
 clear mc KC HM HK hq
 have hq:=bk3.2.1 3 _ rfl
 have KC:=Hm (mkLimitss_c a4 c4 x.tabs (k2+x.funcs.length) B W0 V3 hI.2.2.2.1 m3.mm (by omega) (by omega))
 have HM:=Hm m3
 have HK:=Hm bk3
 clear m3 bk3
 go_wp2_with fail
 refine KC.out.mono ?_
 rintro e V4 ⟨k4,rfl,lo4,up4,mc⟩
 have m4:=HM.out.trans mc
 have bk4:=bk_bet HK.out mc.bt hC
 clear mc KC HM HK hq
 have hq:=bk4.2.1 4 _ rfl
 have KC:=Hm (mkLimitss_c a5 c5 x.mems k4 B W0 V4 hI.2.2.2.2.1 m4.mm (by omega) (by omega))
 have HM:=Hm m4
 have HK:=Hm bk4
 clear m4 bk4
 go_wp2_with fail
 refine KC.out.mono ?_
 rintro e V5 ⟨k5,rfl,lo5,up5,mc⟩
 have m5:=HM.out.trans mc
 have bk5:=bk_bet HK.out mc.bt hC
 clear mc KC HM HK hq
 have hq:=bk5.2.1 5 _ rfl
 have KC:=Hm (mkGlobs_c a6 c6 x.globs k5 B W0 V5 hI.2.2.2.2.2.1 m5.mm (by omega) (by omega))
 have HM:=Hm m5
 have HK:=Hm bk5
 clear m5 bk5
 go_wp2_with fail
 refine KC.out.mono ?_
 rintro e V6 ⟨k6,rfl,lo6,up6,mc⟩
 have m6:=HM.out.trans mc
 have bk6:=bk_bet HK.out mc.bt hC
 clear mc KC HM HK hq
 have hq:=bk6.2.1 6 _ rfl
 have KC:=Hm (mkExps_c a7 c7 x.exps k6 B W0 V6 hI.2.2.2.2.2.2.1 m6.mm (by omega) (by omega))
 have HM:=Hm m6
 have HK:=Hm bk6
 clear m6 bk6
 go_wp2_with fail
 refine KC.out.mono ?_
 rintro e V7 ⟨k7,rfl,lo7,up7,mc⟩
 have m7:=HM.out.trans mc
 have bk7:=bk_bet HK.out mc.bt hC
 clear mc KC HM HK hq
 have hq:=bk7.2.1 9 _ rfl
 have KC:=Hm (mkEles_c a8 c8 x.elems k7 B W0 V7 hI.2.2.2.2.2.2.2.1 m7.mm (by omega) (by omega))
 have HM:=Hm m7
 have HK:=Hm bk7
 clear m7 bk7
 go_wp2_with fail
 refine KC.out.mono ?_
 rintro e V8 ⟨k8,rfl,lo8,up8,mc⟩
 have m8:=HM.out.trans mc
 have bk8:=bk_bet HK.out mc.bt hC
 clear mc KC HM HK hq
 have hq:=bk8.2.1 10 _ rfl
 have KC:=Hm (mkCods_c a9 c9 x.codes k8 B W0 V8 hI.2.2.2.2.2.2.2.2.1 m8.mm (by omega) (by omega))
 have HM:=Hm m8
 have HK:=Hm bk8
 clear m8 bk8
 go_wp2_with fail
 refine KC.out.mono ?_
 rintro e V9 ⟨k9,rfl,lo9,up9,mc⟩
 have m9:=HM.out.trans mc
 have bk9:=bk_bet HK.out mc.bt hC
 clear mc KC HM HK hq
 have hq:=bk9.2.1 11 _ rfl
 have KC:=Hm (mkDats_c a10 c10 x.datas k9 B W0 V9 hI.2.2.2.2.2.2.2.2.2.1 m9.mm (by omega) (by omega))
 have HM:=Hm m9
 have HK:=Hm bk9
 clear m9 bk9
 go_wp2_with fail
 refine KC.out.mono ?_
 rintro e V10 ⟨k10,rfl,lo10,up10,mc⟩
 have m10:=HM.out.trans mc
 have bk10:=bk_bet HK.out mc.bt hC
 clear mc KC HM HK hq
 have hq:=bk10.2.1 12 _ rfl
 have KC:=Hm (mkCuss_c a11 c11 x.customs k10 B W0 V10 hI.2.2.2.2.2.2.2.2.2.2 m10.mm (by omega) (by omega))
 have HM:=Hm m10
 have HK:=Hm bk10
 clear m10 bk10
 go_wp2_with fail
 refine KC.out.mono ?_
 rintro e V11 ⟨k11,rfl,lo11,up11,mc⟩
 have m11:=HM.out.trans mc
 have bk11:=bk_bet HK.out mc.bt hC
 clear mc KC HM HK hq
 have HM:=Hm m11
 have HP:Hid (0≤k11):=by show _≤_;omega
 clear m11 bk11
 go_wp2
 go_ret
 exact ⟨k11,rfl,HP.out,HM.out⟩
open Go.RowKit Go.Sort
def BR (V:World) (v:Value) (L:List Int) (P:Nat→Prop):Prop:=∃ a c,v=.slice a L.length c∧(L=[]∨∃ g,a=some ⟨g,0,none⟩∧P g∧g<V.heap.size∧∀ i,i<L.length→V.cell? ⟨g,i,none⟩=some (.int .u8 (L.getD i 0)))
theorem BR.has {V:World} {v:Value} {L:List Int} {P:Nat→Prop} (h:BR V v L P):∃ a c,v=.slice a L.length c∧By.Has V a L:=by
 obtain ⟨a,c,e,h⟩:=h
 refine ⟨a,c,e,h.imp id ?_⟩
 rintro ⟨g,e,_,_,hc⟩
 exact ⟨g,0,e,fun i hi=>by rw [Nat.zero_add];exact hc i hi⟩
theorem BR.keep {V V':World} {v:Value} {L:List Int} {P:Nat→Prop} (h:BR V v L P) (hs:V.heap.size≤V'.heap.size) (hk:∀ k,P k→k<V.heap.size→V'.heap[k]?=V.heap[k]?):BR V' v L P:=by
 obtain ⟨a,c,e,h⟩:=h
 refine ⟨a,c,e,h.imp id ?_⟩
 rintro ⟨g,e,hp,hg,hc⟩
 exact ⟨g,e,hp,Nat.lt_of_lt_of_le hg hs,fun i hi=>(World.cell?_of_block (hk g hp hg)).trans (hc i hi)⟩
theorem BR.below {V V':World} {v:Value} {L:List Int} {P:Nat→Prop} (h:BR V v L P) (hb:Below V.heap.size V V'):BR V' v L P:=h.keep hb.size (fun k _ hk=>hb.block k hk)
theorem own_br {V:World} {v:Value} {L:List Int} {B:Nat} (h:V.ownsRow B 5 1 v L.length (U L)):BR V v L (fun k=>B≤k∧k<V.heap.size):=by
 rcases h.2 with ⟨h0,h1⟩ | ⟨g,cap,cur,hv,hB,hh,_⟩
 · exact ⟨none,0,by rw [h1];exact h0,.inl (List.eq_nil_of_length_eq_zero h1)⟩
 · subst hv
   have hg:=(h.lt g rfl).2
   refine ⟨_,cap,rfl,.inr ⟨g,rfl,⟨hB,hg⟩,hg,fun i hi=>?_⟩⟩
   rw [h.cellAt i (by omega)]
   simp [U,List.getD,hi]
theorem ResE.blk {V V':World} {B:Nat} {v:Value} {L:List Int} (h:ResE V B v L) (hk:∀ k,v.ownBlock=some k→V'.heap[k]?=V.heap[k]?):ResE V' B v L:=by
 rcases h with h | ⟨e,g,hv,hB,hg⟩
 · refine .inl ⟨h.1,?_⟩
   rcases h.2 with h0 | ⟨g,cap,cur,hv,hB,hh,r⟩
   · exact .inl h0
   · subst hv
     exact .inr ⟨g,cap,cur,rfl,hB,(hk g rfl).trans hh,r⟩
 · subst hv
   exact .inr ⟨e,g,rfl,hB,(hk g rfl).trans hg⟩
theorem ResE.lt {V:World} {B:Nat} {v:Value} {L:List Int} (h:ResE V B v L):∀ k,v.ownBlock=some k→B≤k∧k<V.heap.size:=by
 rcases h with h | ⟨e,g,hv,hB,hg⟩
 · exact h.lt
 · subst hv
   intro k hk
   have:g=k:=by simpa [Value.ownBlock] using hk
   subst this
   exact ⟨hB,(Array.getElem?_eq_some_iff.1 hg).1⟩
theorem ResE.br {V:World} {B:Nat} {v:Value} {L:List Int} (h:ResE V B v L):BR V v L (fun k=>v.ownBlock=some k):=by
 rcases h with h | ⟨e,g,hv,hB,hg⟩
 · obtain ⟨a,c,e,h'⟩:=own_br h
   refine ⟨a,c,e,h'.imp id ?_⟩
   rintro ⟨g,ea,_,hg,hc⟩
   exact ⟨g,ea,by subst e;subst ea;rfl,hg,hc⟩
 · subst hv e
   refine ⟨_,8,rfl,.inr ⟨g,rfl,rfl,(Array.getElem?_eq_some_iff.1 hg).1,fun i hi=>?_⟩⟩
   have hi8:i<8:=hi
   simp only [World.cell?,hg]
   match i,hi8 with
   | 0,_=>rfl
   | 1,_=>rfl
   | 2,_=>rfl
   | 3,_=>rfl
   | 4,_=>rfl
   | 5,_=>rfl
   | 6,_=>rfl
   | 7,_=>rfl
theorem set_heap {V:World} {g j:Nat} {v:Value} {c:Array Value} {t:TypeId} {r:Nat × Nat} (h:V.heap[g]?=some (.cells c t r)):(V.setCell ⟨g,j,none⟩ v).heap[g]?=some (.cells (c.setIfInBounds j v) t r):=by
 simp only [World.setCell,Array.getElem?_modify,if_true,h,Option.map_some]
 rfl
def mk8 (j:Nat):List Int:=(By.marks 1 j)++headE.drop j
theorem markHead (g:Nat) (V:World) (hg:V.heap[g]?=some (.cells headC 5 (8,9))) :
    Calls Tryz.prog 15 #[.slice (some ⟨g,0,none⟩) 8 8,.int .i64 1] V fun e V'=>e=.returned (.int .i64 9)∧V'.heap[g]?=some (.cells (U (By.marks 1 8)).toArray 5 (8,9))∧V.grownBy V' (some g):=by
 have HG:=Hm hg
 clear hg
 go_enter Tryz.func15,Tryz.ntmps15
 go_wp2
 go_loopw [1,5] (fun q i wr=>∃ j:Nat,j≤8∧i=.int .i64 j∧q=.int .i64 (1+j)∧wr.heap[g]?=some (.cells (U (mk8 j)).toArray 5 (8,9))∧V.grownBy wr (some g)) (fun _ i _=>8-(intOf i).toNat)
 case atStart=>exact ⟨0,Nat.zero_le _,rfl,rfl,HG.out,World.grownBy.refl _ _⟩
 case round =>
  obtain ⟨j,hj,rfl,rfl,hh,hgr⟩:=hrel
  clear HG
  by_cases hlt:j<8
  · have hji:(j:Int)<8:=by omega
    have hu:∃ u,wr.cell? ⟨g,j,none⟩=some u:=by
     simp only [World.cell?,hh]
     exact ⟨_,Array.getElem?_eq_getElem (by simp [mk8,By.marks,headE];omega)⟩
    obtain ⟨u,hu⟩:=hu
    have hz:wr.frozen? ⟨g,j,none⟩=false:=by simp [World.frozen?,hh];omega
    have hw8:IntKind.u8.wrap (1+(j:Int))=1+(j:Int):=by rw [wu8];omega
    have HS:=Hm (set_heap (j:=j) (v:=.int .u8 (1+(j:Int))) hh)
    have HGR:Hid (V.grownBy (wr.setCell ⟨g,j,none⟩ (.int .u8 (1+(j:Int)))) (some g)):=⟨hgr.os,hgr.tape,hgr.output,by simpa using hgr.size,fun k hk hne=>(Below.heap_setCell _ _ _ _ (fun e=>hne (by have e':k=g:=e;rw [e']))).trans (hgr.block k hk hne)⟩
    clear hh hgr
    go_wp2
    go_roundw
    case rel =>
     refine ⟨j+1,by omega,by go_num,by go_num,?_,HGR.out⟩
     rw [HS.out]
     match j,hlt with
     | 0,_=>rfl
     | 1,_=>rfl
     | 2,_=>rfl
     | 3,_=>rfl
     | 4,_=>rfl
     | 5,_=>rfl
     | 6,_=>rfl
     | 7,_=>rfl
    case measure=>simp [intOf];omega
  · have e:j=8:=by omega
    subst e
    go_wp2
    go_ret
    exact ⟨rfl,hh,hgr⟩
theorem markRes (B:Nat) (v:Value) (L:List Int) (V:World) (hl:L.length≤1099511627776) (h:ResE V B v L) :
    Calls Tryz.prog 15 #[v,.int .i64 1] V fun e V'=>e=.returned (.int .i64 (1+(L.length:Int)))∧BR V' v (By.marks 1 L.length) (fun k=>v.ownBlock=some k)∧V.grownBy V' v.ownBlock:=by
 rcases h with h | ⟨rfl,g,rfl,hB,hg⟩
 · refine (By.markV B L.length v L V hl h).mono ?_
   rintro e V' ⟨he,ho,hgr⟩
   refine ⟨he,?_,hgr⟩
   have ho2:V'.ownsRow B 5 1 v (By.marks 1 L.length).length (U (By.marks 1 L.length)):=by rw [By.marks_len];exact ho
   obtain ⟨a,c,e,h'⟩:=own_br ho2
   refine ⟨a,c,e,h'.imp id ?_⟩
   rintro ⟨g,ea,_,hg,hc⟩
   exact ⟨g,ea,by subst e;subst ea;rfl,hg,hc⟩
 · refine (markHead g V hg).mono ?_
   rintro e V' ⟨rfl,hh,hgr⟩
   refine ⟨rfl,⟨_,8,rfl,.inr ⟨g,rfl,rfl,(Array.getElem?_eq_some_iff.1 hh).1,fun i hi=>?_⟩⟩,hgr⟩
   have hi8:i<8:=by simpa [By.marks,headE] using hi
   simp only [World.cell?,hh]
   match i,hi8 with
   | 0,_=>rfl
   | 1,_=>rfl
   | 2,_=>rfl
   | 3,_=>rfl
   | 4,_=>rfl
   | 5,_=>rfl
   | 6,_=>rfl
   | 7,_=>rfl
end Go.Proofs.YtdbmolambolmgaaGreat
