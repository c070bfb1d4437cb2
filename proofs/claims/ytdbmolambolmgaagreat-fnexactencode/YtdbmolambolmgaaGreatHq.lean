import Derived.Test.YtdbmolambolmgaaGreatHp
set_option linter.all false
set_option maxHeartbeats 16000000
set_option maxRecDepth 100000
namespace Go.Proofs.YtdbmolambolmgaaGreat
open Go.RowKit Go.Sort
set_option maxRecDepth 100000
theorem mkGrps_c (a:Option Addr) (c:Nat) (xs:List Grp) (k0:Int) (B:Nat) (W0 V:World) (hL:Grp.Ls B W0 a xs) (hm:Mk B W0 V) (h0:0≤k0) (h1:k0+10*((xs.length+(xs.map Grp.sz).sum):Nat)≤100000000) :
    Calls Tryz.prog 153 #[.slice a xs.length c,.int .i64 k0] V fun e V'=>∃ k1:Int,e=.returned (.int .i64 k1)∧k0≤k1∧k1≤k0+10*((xs.length+(xs.map Grp.sz).sum):Nat)∧MB B W0 V V':=by
 have HL:=Hm hL
 have HM:=Hm hm
 have H1:=Hm h1
 have hxl:xs.length≤100000000:=by omega
 clear hL hm h1
 go_enter Tryz.func153,Tryz.ntmps153
 go_wp2
 go_loopw [1,5] (fun q i wr=>∃ (j:Nat) (kk:Int),j≤xs.length∧i=.int .i64 j∧q=.int .i64 kk∧k0≤kk∧kk≤k0+10*((j+((xs.take j).map Grp.sz).sum:Nat):Int)∧MB B W0 V wr) (fun _ i _=>xs.length-(intOf i).toNat)
 case atStart=>exact ⟨0,k0,Nat.zero_le _,rfl,rfl,Int.le_refl _,by simp,MB.refl HM.out⟩
 case round =>
  obtain ⟨j,kk,hj,rfl,rfl,hk0,hk1,hmb⟩:=hrel
  clear HM
  by_cases hlt:j<xs.length
  · have hji:(j:Int)<(xs.length:Int):=by omega
    rcases HL.out with hx | ⟨b,off,ea,hB,hc⟩
    · rw [hx] at hlt;simp at hlt
    have hr:=hc j hlt
    have st:=sum_step (f:=Grp.sz) Grp.z xs j hlt
    have sle:=sumk_le Grp.sz xs (j+1)
    have hH1:=H1.out
    obtain ⟨⟨d0,d1⟩,hi⟩:=hr
    generalize xs.getD j Grp.z=y at *
    have lb:b<W0.heap.size:=World.block_lt_of_cell? W0 _ d0
    have HST:Hid (j+1+((xs.take (j+1)).map Grp.sz).sum=(j+((xs.take j).map Grp.sz).sum)+(1+Grp.sz y)):=by show _=_;rw [st];omega
    have hbd:kk+10*((1+Grp.sz y:Nat):Int)≤100000000:=by rw [st] at sle;omega
    subst ea
    clear st sle hH1 hc HL H1
    simp only [Grp.sz] at hbd HST
    have hkp:0≤kk:=by omega
    go_upto_region 4 with fail
    obtain ⟨u,hu⟩:=hmb.mm.ex b (off+j*2) _ d0
    have hz:=hmb.mm.fz b (off+j*2) hB lb
    have hw:IntKind.i64.wrap (kk+1)=kk+1:=by rw [IntKind.wrap_i64];omega
    have HS:=Hm (fun v=>hmb.set v hB d0 (by intro a n c h;cases h))
    clear hmb
    go_upto_region 5 with fail
    refine wp_gen (fun W=>MB B W0 V W) (HS.out _) ?_
    rintro V1 m0
    clear HS hu hz u
    go_upto_region 6 with fail
    clear hw
    obtain ⟨u,hu⟩:=m0.mm.ex b (off+j*2+1) _ d1
    have hz:=m0.mm.fz b (off+j*2+1) hB lb
    have hw:IntKind.i64.wrap ((kk+1)+1)=(kk+1)+1:=by rw [IntKind.wrap_i64];omega
    have HS:=Hm (fun v=>m0.set v hB d1 (by intro a n c h;cases h))
    clear m0
    go_upto_region 7 with fail
    refine wp_gen (fun W=>MB B W0 V W) (HS.out _) ?_
    rintro V2 m1
    clear HS hu hz u
    go_upto_region 3 with fail
    clear hw
    have HMF:=Hm m1
    clear m1
    have HKL:Hid (k0≤((kk+1)+1)):=by show _≤_;omega
    have HKU:Hid (((kk+1)+1)≤k0+10*((j+1+((xs.take (j+1)).map Grp.sz).sum:Nat):Int)):=by show _≤_;rw [HST.out];omega
    clear HST hbd hk0 hk1
    go_wp2
    go_roundw
    case rel=>exact ⟨j+1,((kk+1)+1),by omega,by go_num,rfl,HKL.out,HKU.out,HMF.out⟩
    case measure=>simp [intOf];omega
  · have e:j=xs.length:=by omega
    subst e
    rw [List.take_length] at hk1
    have HO:=Hm (And.intro hk0 (And.intro hk1 hmb))
    clear hk0 hk1 hmb
    go_wp2
    go_ret
    exact ⟨kk,rfl,HO.out⟩
theorem mkFTypes_c (a:Option Addr) (c:Nat) (xs:List FType) (k0:Int) (B:Nat) (W0 V:World) (hL:FType.Ls B W0 a xs) (hm:Mk B W0 V) (h0:0≤k0) (h1:k0+10*((xs.length+(xs.map FType.sz).sum):Nat)≤100000000) :
    Calls Tryz.prog 85 #[.slice a xs.length c,.int .i64 k0] V fun e V'=>∃ k1:Int,e=.returned (.int .i64 k1)∧k0≤k1∧k1≤k0+10*((xs.length+(xs.map FType.sz).sum):Nat)∧MB B W0 V V':=by
 have HL:=Hm hL
 have HM:=Hm hm
 have H1:=Hm h1
 have hxl:xs.length≤100000000:=by omega
 clear hL hm h1
 go_enter Tryz.func85,Tryz.ntmps85
 go_wp2
 go_loopw [1,5] (fun q i wr=>∃ (j:Nat) (kk:Int),j≤xs.length∧i=.int .i64 j∧q=.int .i64 kk∧k0≤kk∧kk≤k0+10*((j+((xs.take j).map FType.sz).sum:Nat):Int)∧MB B W0 V wr) (fun _ i _=>xs.length-(intOf i).toNat)
 case atStart=>exact ⟨0,k0,Nat.zero_le _,rfl,rfl,Int.le_refl _,by simp,MB.refl HM.out⟩
 case round =>
  obtain ⟨j,kk,hj,rfl,rfl,hk0,hk1,hmb⟩:=hrel
  clear HM
  by_cases hlt:j<xs.length
  · have hji:(j:Int)<(xs.length:Int):=by omega
    rcases HL.out with hx | ⟨b,off,ea,hB,hc⟩
    · rw [hx] at hlt;simp at hlt
    have hr:=hc j hlt
    have st:=sum_step (f:=FType.sz) FType.z xs j hlt
    have sle:=sumk_le FType.sz xs (j+1)
    have hH1:=H1.out
    obtain ⟨p1,s1,p2,s2,⟨d0,d1⟩,hi⟩:=hr
    generalize xs.getD j FType.z=y at *
    have lb:b<W0.heap.size:=World.block_lt_of_cell? W0 _ d0
    have HST:Hid (j+1+((xs.take (j+1)).map FType.sz).sum=(j+((xs.take j).map FType.sz).sum)+(1+FType.sz y)):=by show _=_;rw [st];omega
    have hbd:kk+10*((1+FType.sz y:Nat):Int)≤100000000:=by rw [st] at sle;omega
    subst ea
    clear st sle hH1 hc HL H1
    simp only [FType.sz] at hbd HST
    have hkp:0≤kk:=by omega
    go_upto_region 4 with fail
    have hs:=hmb.mm.sl b (off+j*2) _ _ _ d0
    have KC:=Hm (mkInts_c p1 s1 y.ps (kk) B W0 wr (hi.1) hmb.mm (by omega) (by omega))
    have HMM:=Hm hmb
    clear hmb
    go_wp2_with fail
    refine KC.out.mono ?_
    rintro e V1 ⟨rfl,mc⟩
    have m0:=HMM.out.trans mc
    clear mc KC HMM hs
    go_upto_region 5 with fail
    have hs:=m0.mm.sl b (off+j*2+1) _ _ _ d1
    have KC:=Hm (mkInts_c p2 s2 y.rs ((kk+y.ps.length)) B W0 V1 (hi.2) m0.mm (by omega) (by omega))
    have HMM:=Hm m0
    clear m0
    go_wp2_with fail
    refine KC.out.mono ?_
    rintro e V2 ⟨rfl,mc⟩
    have m1:=HMM.out.trans mc
    clear mc KC HMM hs
    have HMF:=Hm m1
    clear m1
    have HKL:Hid (k0≤((kk+y.ps.length)+y.rs.length)):=by show _≤_;omega
    have HKU:Hid (((kk+y.ps.length)+y.rs.length)≤k0+10*((j+1+((xs.take (j+1)).map FType.sz).sum:Nat):Int)):=by show _≤_;rw [HST.out];omega
    clear HST hbd hk0 hk1
    go_wp2
    go_roundw
    case rel=>exact ⟨j+1,((kk+y.ps.length)+y.rs.length),by omega,by go_num,rfl,HKL.out,HKU.out,HMF.out⟩
    case measure=>simp [intOf];omega
  · have e:j=xs.length:=by omega
    subst e
    rw [List.take_length] at hk1
    have HO:=Hm (And.intro hk0 (And.intro hk1 hmb))
    clear hk0 hk1 hmb
    go_wp2
    go_ret
    exact ⟨kk,rfl,HO.out⟩
theorem mkExps_c (a:Option Addr) (c:Nat) (xs:List Exp) (k0:Int) (B:Nat) (W0 V:World) (hL:Exp.Ls B W0 a xs) (hm:Mk B W0 V) (h0:0≤k0) (h1:k0+10*((xs.length+(xs.map Exp.sz).sum):Nat)≤100000000) :
    Calls Tryz.prog 90 #[.slice a xs.length c,.int .i64 k0] V fun e V'=>∃ k1:Int,e=.returned (.int .i64 k1)∧k0≤k1∧k1≤k0+10*((xs.length+(xs.map Exp.sz).sum):Nat)∧MB B W0 V V':=by
 have HL:=Hm hL
 have HM:=Hm hm
 have H1:=Hm h1
 have hxl:xs.length≤100000000:=by omega
 clear hL hm h1
 go_enter Tryz.func90,Tryz.ntmps90
 go_wp2
 go_loopw [1,5] (fun q i wr=>∃ (j:Nat) (kk:Int),j≤xs.length∧i=.int .i64 j∧q=.int .i64 kk∧k0≤kk∧kk≤k0+10*((j+((xs.take j).map Exp.sz).sum:Nat):Int)∧MB B W0 V wr) (fun _ i _=>xs.length-(intOf i).toNat)
 case atStart=>exact ⟨0,k0,Nat.zero_le _,rfl,rfl,Int.le_refl _,by simp,MB.refl HM.out⟩
 case round =>
  obtain ⟨j,kk,hj,rfl,rfl,hk0,hk1,hmb⟩:=hrel
  clear HM
  by_cases hlt:j<xs.length
  · have hji:(j:Int)<(xs.length:Int):=by omega
    rcases HL.out with hx | ⟨b,off,ea,hB,hc⟩
    · rw [hx] at hlt;simp at hlt
    have hr:=hc j hlt
    have st:=sum_step (f:=Exp.sz) Exp.z xs j hlt
    have sle:=sumk_le Exp.sz xs (j+1)
    have hH1:=H1.out
    obtain ⟨⟨d0,d1,d2⟩,hi⟩:=hr
    generalize xs.getD j Exp.z=y at *
    have lb:b<W0.heap.size:=World.block_lt_of_cell? W0 _ d0
    have HST:Hid (j+1+((xs.take (j+1)).map Exp.sz).sum=(j+((xs.take j).map Exp.sz).sum)+(1+Exp.sz y)):=by show _=_;rw [st];omega
    have hbd:kk+10*((1+Exp.sz y:Nat):Int)≤100000000:=by rw [st] at sle;omega
    subst ea
    clear st sle hH1 hc HL H1
    simp only [Exp.sz] at hbd HST
    have hkp:0≤kk:=by omega
    go_upto_region 4 with fail
    obtain ⟨u,hu⟩:=hmb.mm.ex b (off+j*3) _ d0
    have hz:=hmb.mm.fz b (off+j*3) hB lb
    have hw:IntKind.i64.wrap (kk+1)=kk+1:=by rw [IntKind.wrap_i64];omega
    have KT:=Hm (mtext_c (kk) wr (by omega) (by omega))
    have HMM:=Hm hmb
    clear hmb u hu hz
    go_wp2_with fail
    refine KT.out.mono ?_
    rintro e VT0 ⟨tx,rfl,hbt⟩
    have mt:=HMM.out.below hbt
    obtain ⟨u,hu⟩:=mt.mm.ex b (off+j*3) _ d0
    have hz:=mt.mm.fz b (off+j*3) hB lb
    have HS:=Hm (fun v=>mt.set v hB d0 (by intro a n c h;cases h))
    clear mt hbt KT HMM
    go_upto_region 5 with fail
    refine wp_gen (fun W=>MB B W0 V W) (HS.out _) ?_
    rintro V1 m0
    clear HS hu hz u
    go_upto_region 6 with fail
    clear hw
    obtain ⟨u,hu⟩:=m0.mm.ex b (off+j*3+1) _ d1
    have hz:=m0.mm.fz b (off+j*3+1) hB lb
    have hw:IntKind.i64.wrap ((kk+1)+1)=(kk+1)+1:=by rw [IntKind.wrap_i64];omega
    have HS:=Hm (fun v=>m0.set v hB d1 (by intro a n c h;cases h))
    clear m0
    go_upto_region 7 with fail
    refine wp_gen (fun W=>MB B W0 V W) (HS.out _) ?_
    rintro V2 m1
    clear HS hu hz u
    go_upto_region 8 with fail
    clear hw
    obtain ⟨u,hu⟩:=m1.mm.ex b (off+j*3+2) _ d2
    have hz:=m1.mm.fz b (off+j*3+2) hB lb
    have hw:IntKind.i64.wrap (((kk+1)+1)+1)=((kk+1)+1)+1:=by rw [IntKind.wrap_i64];omega
    have HS:=Hm (fun v=>m1.set v hB d2 (by intro a n c h;cases h))
    clear m1
    go_upto_region 9 with fail
    refine wp_gen (fun W=>MB B W0 V W) (HS.out _) ?_
    rintro V3 m2
    clear HS hu hz u
    go_upto_region 3 with fail
    clear hw
    have HMF:=Hm m2
    clear m2
    have HKL:Hid (k0≤(((kk+1)+1)+1)):=by show _≤_;omega
    have HKU:Hid ((((kk+1)+1)+1)≤k0+10*((j+1+((xs.take (j+1)).map Exp.sz).sum:Nat):Int)):=by show _≤_;rw [HST.out];omega
    clear HST hbd hk0 hk1
    go_wp2
    go_roundw
    case rel=>exact ⟨j+1,(((kk+1)+1)+1),by omega,by go_num,rfl,HKL.out,HKU.out,HMF.out⟩
    case measure=>simp [intOf];omega
  · have e:j=xs.length:=by omega
    subst e
    rw [List.take_length] at hk1
    have HO:=Hm (And.intro hk0 (And.intro hk1 hmb))
    clear hk0 hk1 hmb
    go_wp2
    go_ret
    exact ⟨kk,rfl,HO.out⟩
theorem mkImps_c (a:Option Addr) (c:Nat) (xs:List Imp) (k0:Int) (B:Nat) (W0 V:World) (hL:Imp.Ls B W0 a xs) (hm:Mk B W0 V) (h0:0≤k0) (h1:k0+10*((xs.length+(xs.map Imp.sz).sum):Nat)≤100000000) :
    Calls Tryz.prog 86 #[.slice a xs.length c,.int .i64 k0] V fun e V'=>∃ k1:Int,e=.returned (.int .i64 k1)∧k0≤k1∧k1≤k0+10*((xs.length+(xs.map Imp.sz).sum):Nat)∧MB B W0 V V':=by
 have HL:=Hm hL
 have HM:=Hm hm
 have H1:=Hm h1
 have hxl:xs.length≤100000000:=by omega
 clear hL hm h1
 go_enter Tryz.func86,Tryz.ntmps86
 go_wp2
 go_loopw [1,5] (fun q i wr=>∃ (j:Nat) (kk:Int),j≤xs.length∧i=.int .i64 j∧q=.int .i64 kk∧k0≤kk∧kk≤k0+10*((j+((xs.take j).map Imp.sz).sum:Nat):Int)∧MB B W0 V wr) (fun _ i _=>xs.length-(intOf i).toNat)
 case atStart=>exact ⟨0,k0,Nat.zero_le _,rfl,rfl,Int.le_refl _,by simp,MB.refl HM.out⟩
 case round =>
  obtain ⟨j,kk,hj,rfl,rfl,hk0,hk1,hmb⟩:=hrel
  clear HM
  by_cases hlt:j<xs.length
  · have hji:(j:Int)<(xs.length:Int):=by omega
    rcases HL.out with hx | ⟨b,off,ea,hB,hc⟩
    · rw [hx] at hlt;simp at hlt
    have hr:=hc j hlt
    have st:=sum_step (f:=Imp.sz) Imp.z xs j hlt
    have sle:=sumk_le Imp.sz xs (j+1)
    have hH1:=H1.out
    obtain ⟨⟨d0,d1,d2,d3,d4,d5,d6,d7,d8⟩,hi⟩:=hr
    generalize xs.getD j Imp.z=y at *
    have lb:b<W0.heap.size:=World.block_lt_of_cell? W0 _ d0
    have HST:Hid (j+1+((xs.take (j+1)).map Imp.sz).sum=(j+((xs.take j).map Imp.sz).sum)+(1+Imp.sz y)):=by show _=_;rw [st];omega
    have hbd:kk+10*((1+Imp.sz y:Nat):Int)≤100000000:=by rw [st] at sle;omega
    subst ea
    clear st sle hH1 hc HL H1
    simp only [Imp.sz] at hbd HST
    have hkp:0≤kk:=by omega
    go_upto_region 4 with fail
    obtain ⟨u,hu⟩:=hmb.mm.ex b (off+j*9) _ d0
    have hz:=hmb.mm.fz b (off+j*9) hB lb
    have hw:IntKind.i64.wrap (kk+1)=kk+1:=by rw [IntKind.wrap_i64];omega
    have KT:=Hm (mtext_c (kk) wr (by omega) (by omega))
    have HMM:=Hm hmb
    clear hmb u hu hz
    go_wp2_with fail
    refine KT.out.mono ?_
    rintro e VT0 ⟨tx,rfl,hbt⟩
    have mt:=HMM.out.below hbt
    obtain ⟨u,hu⟩:=mt.mm.ex b (off+j*9) _ d0
    have hz:=mt.mm.fz b (off+j*9) hB lb
    have HS:=Hm (fun v=>mt.set v hB d0 (by intro a n c h;cases h))
    clear mt hbt KT HMM
    go_upto_region 5 with fail
    refine wp_gen (fun W=>MB B W0 V W) (HS.out _) ?_
    rintro V1 m0
    clear HS hu hz u
    go_upto_region 6 with fail
    clear hw
    obtain ⟨u,hu⟩:=m0.mm.ex b (off+j*9+1) _ d1
    have hz:=m0.mm.fz b (off+j*9+1) hB lb
    have hw:IntKind.i64.wrap ((kk+1)+1)=(kk+1)+1:=by rw [IntKind.wrap_i64];omega
    have KT:=Hm (mtext_c ((kk+1)) V1 (by omega) (by omega))
    have HMM:=Hm m0
    clear m0 u hu hz
    go_wp2_with fail
    refine KT.out.mono ?_
    rintro e VT1 ⟨tx,rfl,hbt⟩
    have mt:=HMM.out.below hbt
    obtain ⟨u,hu⟩:=mt.mm.ex b (off+j*9+1) _ d1
    have hz:=mt.mm.fz b (off+j*9+1) hB lb
    have HS:=Hm (fun v=>mt.set v hB d1 (by intro a n c h;cases h))
    clear mt hbt KT HMM
    go_upto_region 7 with fail
    refine wp_gen (fun W=>MB B W0 V W) (HS.out _) ?_
    rintro V2 m1
    clear HS hu hz u
    go_upto_region 8 with fail
    clear hw
    obtain ⟨u,hu⟩:=m1.mm.ex b (off+j*9+2) _ d2
    have hz:=m1.mm.fz b (off+j*9+2) hB lb
    have hw:IntKind.i64.wrap (((kk+1)+1)+1)=((kk+1)+1)+1:=by rw [IntKind.wrap_i64];omega
    have HS:=Hm (fun v=>m1.set v hB d2 (by intro a n c h;cases h))
    clear m1
    go_upto_region 9 with fail
    refine wp_gen (fun W=>MB B W0 V W) (HS.out _) ?_
    rintro V3 m2
    clear HS hu hz u
    go_upto_region 10 with fail
    clear hw
    obtain ⟨u,hu⟩:=m2.mm.ex b (off+j*9+3) _ d3
    have hz:=m2.mm.fz b (off+j*9+3) hB lb
    have hw:IntKind.i64.wrap ((((kk+1)+1)+1)+1)=(((kk+1)+1)+1)+1:=by rw [IntKind.wrap_i64];omega
    have HS:=Hm (fun v=>m2.set v hB d3 (by intro a n c h;cases h))
    clear m2
    go_upto_region 11 with fail
    refine wp_gen (fun W=>MB B W0 V W) (HS.out _) ?_
    rintro V4 m3
    clear HS hu hz u
    go_upto_region 12 with fail
    clear hw
    obtain ⟨u,hu⟩:=m3.mm.ex b (off+j*9+4) _ d4
    have hz:=m3.mm.fz b (off+j*9+4) hB lb
    have hw:IntKind.i64.wrap (((((kk+1)+1)+1)+1)+1)=((((kk+1)+1)+1)+1)+1:=by rw [IntKind.wrap_i64];omega
    have HS:=Hm (fun v=>m3.set v hB d4 (by intro a n c h;cases h))
    clear m3
    go_upto_region 13 with fail
    refine wp_gen (fun W=>MB B W0 V W) (HS.out _) ?_
    rintro V5 m4
    clear HS hu hz u
    go_upto_region 14 with fail
    clear hw
    obtain ⟨u,hu⟩:=m4.mm.ex b (off+j*9+5) _ d5
    have hz:=m4.mm.fz b (off+j*9+5) hB lb
    have hw:IntKind.i64.wrap ((((((kk+1)+1)+1)+1)+1)+1)=(((((kk+1)+1)+1)+1)+1)+1:=by rw [IntKind.wrap_i64];omega
    have HS:=Hm (fun v=>m4.set v hB d5 (by intro a n c h;cases h))
    clear m4
    go_upto_region 15 with fail
    refine wp_gen (fun W=>MB B W0 V W) (HS.out _) ?_
    rintro V6 m5
    clear HS hu hz u
    go_upto_region 16 with fail
    clear hw
    obtain ⟨u,hu⟩:=m5.mm.ex b (off+j*9+6) _ d6
    have hz:=m5.mm.fz b (off+j*9+6) hB lb
    have hw:IntKind.i64.wrap (((((((kk+1)+1)+1)+1)+1)+1)+1)=((((((kk+1)+1)+1)+1)+1)+1)+1:=by rw [IntKind.wrap_i64];omega
    have HS:=Hm (fun v=>m5.set v hB d6 (by intro a n c h;cases h))
    clear m5
    go_upto_region 17 with fail
    refine wp_gen (fun W=>MB B W0 V W) (HS.out _) ?_
    rintro V7 m6
    clear HS hu hz u
    go_upto_region 18 with fail
    clear hw
    obtain ⟨u,hu⟩:=m6.mm.ex b (off+j*9+7) _ d7
    have hz:=m6.mm.fz b (off+j*9+7) hB lb
    have hw:IntKind.i64.wrap ((((((((kk+1)+1)+1)+1)+1)+1)+1)+1)=(((((((kk+1)+1)+1)+1)+1)+1)+1)+1:=by rw [IntKind.wrap_i64];omega
    have HS:=Hm (fun v=>m6.set v hB d7 (by intro a n c h;cases h))
    clear m6
    go_upto_region 19 with fail
    refine wp_gen (fun W=>MB B W0 V W) (HS.out _) ?_
    rintro V8 m7
    clear HS hu hz u
    go_upto_region 20 with fail
    clear hw
    obtain ⟨u,hu⟩:=m7.mm.ex b (off+j*9+8) _ d8
    have hz:=m7.mm.fz b (off+j*9+8) hB lb
    have hw:IntKind.i64.wrap (((((((((kk+1)+1)+1)+1)+1)+1)+1)+1)+1)=((((((((kk+1)+1)+1)+1)+1)+1)+1)+1)+1:=by rw [IntKind.wrap_i64];omega
    have HS:=Hm (fun v=>m7.set v hB d8 (by intro a n c h;cases h))
    clear m7
    go_upto_region 21 with fail
    refine wp_gen (fun W=>MB B W0 V W) (HS.out _) ?_
    rintro V9 m8
    clear HS hu hz u
    go_upto_region 3 with fail
    clear hw
    have HMF:=Hm m8
    clear m8
    have HKL:Hid (k0≤(((((((((kk+1)+1)+1)+1)+1)+1)+1)+1)+1)):=by show _≤_;omega
    have HKU:Hid ((((((((((kk+1)+1)+1)+1)+1)+1)+1)+1)+1)≤k0+10*((j+1+((xs.take (j+1)).map Imp.sz).sum:Nat):Int)):=by show _≤_;rw [HST.out];omega
    clear HST hbd hk0 hk1
    go_wp2
    go_roundw
    case rel=>exact ⟨j+1,(((((((((kk+1)+1)+1)+1)+1)+1)+1)+1)+1),by omega,by go_num,rfl,HKL.out,HKU.out,HMF.out⟩
    case measure=>simp [intOf];omega
  · have e:j=xs.length:=by omega
    subst e
    rw [List.take_length] at hk1
    have HO:=Hm (And.intro hk0 (And.intro hk1 hmb))
    clear hk0 hk1 hmb
    go_wp2
    go_ret
    exact ⟨kk,rfl,HO.out⟩
theorem mkGlobs_c (a:Option Addr) (c:Nat) (xs:List Glob) (k0:Int) (B:Nat) (W0 V:World) (hL:Glob.Ls B W0 a xs) (hm:Mk B W0 V) (h0:0≤k0) (h1:k0+10*((xs.length+(xs.map Glob.sz).sum):Nat)≤100000000) :
    Calls Tryz.prog 89 #[.slice a xs.length c,.int .i64 k0] V fun e V'=>∃ k1:Int,e=.returned (.int .i64 k1)∧k0≤k1∧k1≤k0+10*((xs.length+(xs.map Glob.sz).sum):Nat)∧MB B W0 V V':=by
 have HL:=Hm hL
 have HM:=Hm hm
 have H1:=Hm h1
 have hxl:xs.length≤100000000:=by omega
 clear hL hm h1
 go_enter Tryz.func89,Tryz.ntmps89
 go_wp2
 go_loopw [1,5] (fun q i wr=>∃ (j:Nat) (kk:Int),j≤xs.length∧i=.int .i64 j∧q=.int .i64 kk∧k0≤kk∧kk≤k0+10*((j+((xs.take j).map Glob.sz).sum:Nat):Int)∧MB B W0 V wr) (fun _ i _=>xs.length-(intOf i).toNat)
 case atStart=>exact ⟨0,k0,Nat.zero_le _,rfl,rfl,Int.le_refl _,by simp,MB.refl HM.out⟩
 case round =>
  obtain ⟨j,kk,hj,rfl,rfl,hk0,hk1,hmb⟩:=hrel
  clear HM
  by_cases hlt:j<xs.length
  · have hji:(j:Int)<(xs.length:Int):=by omega
    rcases HL.out with hx | ⟨b,off,ea,hB,hc⟩
    · rw [hx] at hlt;simp at hlt
    have hr:=hc j hlt
    have st:=sum_step (f:=Glob.sz) Glob.z xs j hlt
    have sle:=sumk_le Glob.sz xs (j+1)
    have hH1:=H1.out
    obtain ⟨p1,s1,⟨d0,d1,d2⟩,hi⟩:=hr
    generalize xs.getD j Glob.z=y at *
    have lb:b<W0.heap.size:=World.block_lt_of_cell? W0 _ d0
    have HST:Hid (j+1+((xs.take (j+1)).map Glob.sz).sum=(j+((xs.take j).map Glob.sz).sum)+(1+Glob.sz y)):=by show _=_;rw [st];omega
    have hbd:kk+10*((1+Glob.sz y:Nat):Int)≤100000000:=by rw [st] at sle;omega
    subst ea
    clear st sle hH1 hc HL H1
    simp only [Glob.sz] at hbd HST
    have hkp:0≤kk:=by omega
    go_upto_region 4 with fail
    obtain ⟨u,hu⟩:=hmb.mm.ex b (off+j*3) _ d0
    have hz:=hmb.mm.fz b (off+j*3) hB lb
    have hw:IntKind.i64.wrap (kk+1)=kk+1:=by rw [IntKind.wrap_i64];omega
    have HS:=Hm (fun v=>hmb.set v hB d0 (by intro a n c h;cases h))
    clear hmb
    go_upto_region 5 with fail
    refine wp_gen (fun W=>MB B W0 V W) (HS.out _) ?_
    rintro V1 m0
    clear HS hu hz u
    go_upto_region 6 with fail
    clear hw
    obtain ⟨u,hu⟩:=m0.mm.ex b (off+j*3+1) _ d1
    have hz:=m0.mm.fz b (off+j*3+1) hB lb
    have hw:IntKind.i64.wrap ((kk+1)+1)=(kk+1)+1:=by rw [IntKind.wrap_i64];omega
    have HS:=Hm (fun v=>m0.set v hB d1 (by intro a n c h;cases h))
    clear m0
    go_upto_region 7 with fail
    refine wp_gen (fun W=>MB B W0 V W) (HS.out _) ?_
    rintro V2 m1
    clear HS hu hz u
    go_upto_region 8 with fail
    clear hw
    have hs:=m1.mm.sl b (off+j*3+2) _ _ _ d2
    have KC:=Hm (mkIns_c p1 s1 y.ini (((kk+1)+1)) B W0 V2 (hi) m1.mm (by omega) (by omega))
    have HMM:=Hm m1
    clear m1
    go_wp2_with fail
    refine KC.out.mono ?_
    rintro e V3 ⟨kn2,rfl,lo2,up2,mc⟩
    have m2:=HMM.out.trans mc
    clear mc KC HMM hs
    have HMF:=Hm m2
    clear m2
    have HKL:Hid (k0≤kn2):=by show _≤_;omega
    have HKU:Hid (kn2≤k0+10*((j+1+((xs.take (j+1)).map Glob.sz).sum:Nat):Int)):=by show _≤_;rw [HST.out];omega
    clear HST hbd hk0 hk1
    go_wp2
    go_roundw
    case rel=>exact ⟨j+1,kn2,by omega,by go_num,rfl,HKL.out,HKU.out,HMF.out⟩
    case measure=>simp [intOf];omega
  · have e:j=xs.length:=by omega
    subst e
    rw [List.take_length] at hk1
    have HO:=Hm (And.intro hk0 (And.intro hk1 hmb))
    clear hk0 hk1 hmb
    go_wp2
    go_ret
    exact ⟨kk,rfl,HO.out⟩
theorem mkEles_c (a:Option Addr) (c:Nat) (xs:List Ele) (k0:Int) (B:Nat) (W0 V:World) (hL:Ele.Ls B W0 a xs) (hm:Mk B W0 V) (h0:0≤k0) (h1:k0+10*((xs.length+(xs.map Ele.sz).sum):Nat)≤100000000) :
    Calls Tryz.prog 91 #[.slice a xs.length c,.int .i64 k0] V fun e V'=>∃ k1:Int,e=.returned (.int .i64 k1)∧k0≤k1∧k1≤k0+10*((xs.length+(xs.map Ele.sz).sum):Nat)∧MB B W0 V V':=by
 have HL:=Hm hL
 have HM:=Hm hm
 have H1:=Hm h1
 have hxl:xs.length≤100000000:=by omega
 clear hL hm h1
 go_enter Tryz.func91,Tryz.ntmps91
 go_wp2
 go_loopw [1,5] (fun q i wr=>∃ (j:Nat) (kk:Int),j≤xs.length∧i=.int .i64 j∧q=.int .i64 kk∧k0≤kk∧kk≤k0+10*((j+((xs.take j).map Ele.sz).sum:Nat):Int)∧MB B W0 V wr) (fun _ i _=>xs.length-(intOf i).toNat)
 case atStart=>exact ⟨0,k0,Nat.zero_le _,rfl,rfl,Int.le_refl _,by simp,MB.refl HM.out⟩
 case round =>
  obtain ⟨j,kk,hj,rfl,rfl,hk0,hk1,hmb⟩:=hrel
  clear HM
  by_cases hlt:j<xs.length
  · have hji:(j:Int)<(xs.length:Int):=by omega
    rcases HL.out with hx | ⟨b,off,ea,hB,hc⟩
    · rw [hx] at hlt;simp at hlt
    have hr:=hc j hlt
    have st:=sum_step (f:=Ele.sz) Ele.z xs j hlt
    have sle:=sumk_le Ele.sz xs (j+1)
    have hH1:=H1.out
    obtain ⟨p1,s1,p2,s2,⟨d0,d1⟩,hi⟩:=hr
    generalize xs.getD j Ele.z=y at *
    have lb:b<W0.heap.size:=World.block_lt_of_cell? W0 _ d0
    have HST:Hid (j+1+((xs.take (j+1)).map Ele.sz).sum=(j+((xs.take j).map Ele.sz).sum)+(1+Ele.sz y)):=by show _=_;rw [st];omega
    have hbd:kk+10*((1+Ele.sz y:Nat):Int)≤100000000:=by rw [st] at sle;omega
    subst ea
    clear st sle hH1 hc HL H1
    simp only [Ele.sz] at hbd HST
    have hkp:0≤kk:=by omega
    go_upto_region 4 with fail
    have hs:=hmb.mm.sl b (off+j*2) _ _ _ d0
    have KC:=Hm (mkIns_c p1 s1 y.off (kk) B W0 wr (hi.1) hmb.mm (by omega) (by omega))
    have HMM:=Hm hmb
    clear hmb
    go_wp2_with fail
    refine KC.out.mono ?_
    rintro e V1 ⟨kn0,rfl,lo0,up0,mc⟩
    have m0:=HMM.out.trans mc
    clear mc KC HMM hs
    go_upto_region 5 with fail
    have hs:=m0.mm.sl b (off+j*2+1) _ _ _ d1
    have KC:=Hm (mkInts_c p2 s2 y.fs (kn0) B W0 V1 (hi.2) m0.mm (by omega) (by omega))
    have HMM:=Hm m0
    clear m0
    go_wp2_with fail
    refine KC.out.mono ?_
    rintro e V2 ⟨rfl,mc⟩
    have m1:=HMM.out.trans mc
    clear mc KC HMM hs
    have HMF:=Hm m1
    clear m1
    have HKL:Hid (k0≤(kn0+y.fs.length)):=by show _≤_;omega
    have HKU:Hid ((kn0+y.fs.length)≤k0+10*((j+1+((xs.take (j+1)).map Ele.sz).sum:Nat):Int)):=by show _≤_;rw [HST.out];omega
    clear HST hbd hk0 hk1
    go_wp2
    go_roundw
    case rel=>exact ⟨j+1,(kn0+y.fs.length),by omega,by go_num,rfl,HKL.out,HKU.out,HMF.out⟩
    case measure=>simp [intOf];omega
  · have e:j=xs.length:=by omega
    subst e
    rw [List.take_length] at hk1
    have HO:=Hm (And.intro hk0 (And.intro hk1 hmb))
    clear hk0 hk1 hmb
    go_wp2
    go_ret
    exact ⟨kk,rfl,HO.out⟩
end Go.Proofs.YtdbmolambolmgaaGreat
