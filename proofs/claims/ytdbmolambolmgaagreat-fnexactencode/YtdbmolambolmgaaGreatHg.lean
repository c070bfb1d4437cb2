import Derived.Test.YtdbmolambolmgaaGreatHd
import Derived.Test.YtdbmolambolmgaaGreatHf
set_option linter.all false
set_option maxHeartbeats 16000000
set_option maxRecDepth 100000
namespace Go.Proofs.YtdbmolambolmgaaGreat
open Go.RowKit Go.Sort
set_option maxRecDepth 100000
theorem act47 (a:Act) {x0 x1 x2 x3 x4 x5 x6 x7 x8 x9 x10 x11 x12 x13 x14 x15 x16 x17 x18 x19 x20 x21 x22 x23 x24 x25 x26 x27 x28 x29 x30 x31 x32 x33 x34 x35 x36 x37 x38 x39 x40 x41 x42 x43 x44 x45 x46:Value} {d:List Deferred} (h:a.tmps.size=47) (e0:a.eval (.tmp 0)=x0) (e1:a.eval (.tmp 1)=x1) (e2:a.eval (.tmp 2)=x2) (e3:a.eval (.tmp 3)=x3) (e4:a.eval (.tmp 4)=x4) (e5:a.eval (.tmp 5)=x5) (e6:a.eval (.tmp 6)=x6) (e7:a.eval (.tmp 7)=x7) (e8:a.eval (.tmp 8)=x8) (e9:a.eval (.tmp 9)=x9) (e10:a.eval (.tmp 10)=x10) (e11:a.eval (.tmp 11)=x11) (e12:a.eval (.tmp 12)=x12) (e13:a.eval (.tmp 13)=x13) (e14:a.eval (.tmp 14)=x14) (e15:a.eval (.tmp 15)=x15) (e16:a.eval (.tmp 16)=x16) (e17:a.eval (.tmp 17)=x17) (e18:a.eval (.tmp 18)=x18) (e19:a.eval (.tmp 19)=x19) (e20:a.eval (.tmp 20)=x20) (e21:a.eval (.tmp 21)=x21) (e22:a.eval (.tmp 22)=x22) (e23:a.eval (.tmp 23)=x23) (e24:a.eval (.tmp 24)=x24) (e25:a.eval (.tmp 25)=x25) (e26:a.eval (.tmp 26)=x26) (e27:a.eval (.tmp 27)=x27) (e28:a.eval (.tmp 28)=x28) (e29:a.eval (.tmp 29)=x29) (e30:a.eval (.tmp 30)=x30) (e31:a.eval (.tmp 31)=x31) (e32:a.eval (.tmp 32)=x32) (e33:a.eval (.tmp 33)=x33) (e34:a.eval (.tmp 34)=x34) (e35:a.eval (.tmp 35)=x35) (e36:a.eval (.tmp 36)=x36) (e37:a.eval (.tmp 37)=x37) (e38:a.eval (.tmp 38)=x38) (e39:a.eval (.tmp 39)=x39) (e40:a.eval (.tmp 40)=x40) (e41:a.eval (.tmp 41)=x41) (e42:a.eval (.tmp 42)=x42) (e43:a.eval (.tmp 43)=x43) (e44:a.eval (.tmp 44)=x44) (e45:a.eval (.tmp 45)=x45) (e46:a.eval (.tmp 46)=x46) (hd:a.defers=d):a=⟨#[x0,x1,x2,x3,x4,x5,x6,x7,x8,x9,x10,x11,x12,x13,x14,x15,x16,x17,x18,x19,x20,x21,x22,x23,x24,x25,x26,x27,x28,x29,x30,x31,x32,x33,x34,x35,x36,x37,x38,x39,x40,x41,x42,x43,x44,x45,x46],d⟩:=by
 obtain ⟨⟨l⟩,d'⟩:=a
 match l,h with
 | u0::u1::u2::u3::u4::u5::u6::u7::u8::u9::u10::u11::u12::u13::u14::u15::u16::u17::u18::u19::u20::u21::u22::u23::u24::u25::u26::u27::u28::u29::u30::u31::u32::u33::u34::u35::u36::u37::u38::u39::u40::u41::u42::u43::u44::u45::u46::[],_ =>
  have hd':d'=d:=hd
  subst hd'
  have e0:u0=x0:=e0;have e1:u1=x1:=e1;have e2:u2=x2:=e2;have e3:u3=x3:=e3;have e4:u4=x4:=e4;have e5:u5=x5:=e5;have e6:u6=x6:=e6;have e7:u7=x7:=e7;have e8:u8=x8:=e8;have e9:u9=x9:=e9;have e10:u10=x10:=e10;have e11:u11=x11:=e11;have e12:u12=x12:=e12;have e13:u13=x13:=e13;have e14:u14=x14:=e14;have e15:u15=x15:=e15;have e16:u16=x16:=e16;have e17:u17=x17:=e17;have e18:u18=x18:=e18;have e19:u19=x19:=e19;have e20:u20=x20:=e20;have e21:u21=x21:=e21;have e22:u22=x22:=e22;have e23:u23=x23:=e23;have e24:u24=x24:=e24;have e25:u25=x25:=e25;have e26:u26=x26:=e26;have e27:u27=x27:=e27;have e28:u28=x28:=e28;have e29:u29=x29:=e29;have e30:u30=x30:=e30;have e31:u31=x31:=e31;have e32:u32=x32:=e32;have e33:u33=x33:=e33;have e34:u34=x34:=e34;have e35:u35=x35:=e35;have e36:u36=x36:=e36;have e37:u37=x37:=e37;have e38:u38=x38:=e38;have e39:u39=x39:=e39;have e40:u40=x40:=e40;have e41:u41=x41:=e41;have e42:u42=x42:=e42;have e43:u43=x43:=e43;have e44:u44=x44:=e44;have e45:u45=x45:=e45;have e46:u46=x46:=e46;
  subst_vars
  rfl
theorem grp_pre (x:Cod) (k:Nat) (h:k<x.locs.length):lebU 9 x.locs.length++catE grpE (x.locs.take (k+1))=lebU 9 x.locs.length++catE grpE (x.locs.take k)++lebU 9 (x.locs.getD k Grp.z).n++[(x.locs.getD k Grp.z).ty%256]:=by
 rw [catE_step grpE Grp.z x.locs k h,grpE];simp [List.append_assoc]
theorem s5code_c (x:Cod) (a1:Option Addr) (c1:Nat) (a2:Option Addr) (c2:Nat) (w0 w:World) (hb0:Below w0.heap.size w0 w) (hI:Cod.Is 0 w0 x a1 a2) (hn:x.locs.length≤1048576) (hu:∀ i,i<x.locs.length→0≤(x.locs.getD i Grp.z).n∧(x.locs.getD i Grp.z).n≤4294967295) (hg:LG x.body) (hl:(codE x).length≤400000000000) :
    Calls Tryz.prog 145 #[.agg #[.slice a1 x.locs.length c1,.slice a2 x.body.length c2]] w fun e w'=>∃ u,e=.returned u∧Out w w' u (codE x):=by
 obtain ⟨i0,hi,hz0,hz1,hz2⟩:=info_parts Tryz.info5
 have hlI:(lebU 9 x.locs.length).length+(catE grpE x.locs).length+(catE encI x.body).length≤400000000000:=by simp only [codE,szE,codI,List.length_append] at hl;omega
 have HL:=Hm hlI
 have hwn:IntKind.u64.wrap (x.locs.length:Int)=(x.locs.length:Int):=by rw [IntKind.wrap_u64];omega
 obtain ⟨W,hWd⟩:∃ W,W=w.alloc (.cells #[.slice a1 x.locs.length c1,.slice a2 x.body.length c2] 74):=⟨_,rfl⟩
 have hBk:Bk W w.heap.size [.slice a1 x.locs.length c1,.slice a2 x.body.length c2]:=by rw [hWd];exact Bk.new
 have hWs:W.heap.size=w.heap.size+1:=by rw [hWd];simp
 have bW:Below w.heap.size w W:=by rw [hWd];exact (Below.refl _ _).alloc (Nat.le_refl _) _
 have HB0:=Hm hb0
 have HI:=Hm hI
 have HU:=Hm hu
 have HG:=Hm hg
 have KP:=Hm (specPutU_any x.locs.length W (by omega) (by omega))
 have T0:=Hm (And.intro hBk (And.intro hWs bW))
 have HW:=Hm hWd
 have q0:=hBk.2.1 0 _ rfl
 clear hb0 hI hu hg hWd hBk hWs bW hlI hl
 go_enter Tryz.func145,Tryz.ntmps145
 go_upto_region 1 with fail
 rw [← HW.out]
 clear HW
 go_wp2_with fail
 refine KP.out.mono ?_
 rintro e w1 ⟨v1,rfl,ho1,hb1⟩
 have T1:Hid (w1.ownsRow (w.heap.size+1) 5 1 v1 (lebU 9 x.locs.length).length (U (lebU 9 x.locs.length))∧Bk w1 w.heap.size [.slice a1 x.locs.length c1,.slice a2 x.body.length c2]∧Below w.heap.size w w1):=by
  obtain ⟨t1,t2,t3⟩:=T0.out
  exact ⟨ownE_down ho1 (by omega),t1.keep hb1,t3.trans (hb1.mono (by omega))⟩
 have q0:=T1.out.2.1.2.1 0 _ rfl
 clear ho1 hb1 T0 KP
 go_wp2_with fail
 go_loopw [3,4] (fun v i wr=>∃ k:Nat,k≤x.locs.length∧i=.int .i64 k∧wr.ownsRow (w.heap.size+1) 5 1 v (lebU 9 x.locs.length++catE grpE (x.locs.take k)).length (U (lebU 9 x.locs.length++catE grpE (x.locs.take k)))∧Bk wr w.heap.size [.slice a1 x.locs.length c1,.slice a2 x.body.length c2]∧Below w.heap.size w wr) (fun _ i _=>x.locs.length-(intOf i).toNat)
 case atStart=>exact ⟨0,Nat.zero_le _,rfl,by simpa [catE] using T1.out.1,T1.out.2.1,T1.out.2.2⟩
 case round =>
  obtain ⟨k,hk,rfl,ho,bk,hb⟩:=hrel
  clear q0 T1
  have q0:=bk.2.1 0 _ rfl
  by_cases hlt:k<x.locs.length
  · have hki:(k:Int)<(x.locs.length:Int):=by omega
    have hbr:Below w0.heap.size w0 wr:=HB0.out.trans (hb.mono HB0.out.size)
    rcases HI.out.1 with hx | ⟨b,off,ea,_,hc⟩
    · rw [hx] at hlt;simp at hlt
    obtain ⟨⟨d0,d1⟩,_⟩:=hc k hlt
    subst ea
    have lb:b<w0.heap.size:=World.block_lt_of_cell? w0 _ d0
    have d0:=(hbr.cell (p:=⟨b,off+k*2,none⟩) lb).trans d0
    have d1:=(hbr.cell (p:=⟨b,off+k*2+1,none⟩) lb).trans d1
    have HP:=Hm (grp_pre x k hlt)
    have hle:=catE_le grpE x.locs (k+1)
    rw [catE_step grpE Grp.z x.locs k hlt,grpE] at hle
    simp only [List.length_append] at hle
    obtain ⟨u0,u1⟩:=HU.out k hlt
    have hw0:w0.heap.size≤w.heap.size:=HB0.out.size
    have hlL:=HL.out
    generalize (x.locs.getD k Grp.z).n=gn at *
    generalize (x.locs.getD k Grp.z).ty=gt at *
    have hlen:(lebU 9 x.locs.length++catE grpE (x.locs.take k)).length+(lebU 9 gn).length+1≤400000000000:=by simp only [List.length_append,List.length_cons,List.length_nil] at hle⊢;omega
    generalize lebU 9 x.locs.length++catE grpE (x.locs.take k)=pre at *
    have hn0:0≤gn:=u0
    have hn1:gn≤18446744073709551615:=by omega
    have hwu:IntKind.u64.wrap gn=gn:=by rw [IntKind.wrap_u64];omega
    have hw8:IntKind.u8.wrap gt=gt%256:=wu8 gt
    have hbS:b<w.heap.size+1:=by omega
    have HRS:Hid (∀ k,k<w.heap.size+1→k<wr.heap.size):=fun k hk=>by have:=bk.1;omega
    have HRB:Hid (w.heap.size+1≤wr.heap.size):=by have:=bk.1;show _≤_;omega
    have HRO:=Hm ho
    have HRK:Hid (∀ k,u3.ownBlock=some k→¬ k<w.heap.size+1):=fun k hk=>by have:=(ho.lt k hk).1;omega
    have HBK:=Hm bk
    have HBB:=Hm hb
    clear ho bk hb hc hle u0 u1 HU HL hlL hbr lb HI HG HB0
    go_wp2_with fail
    refine rg_one (t:=50) (N:=47) (base:=(w.heap.size+1)) (slots:=[17,18,19,20,21,22,23,24,25,26,27,28,29,30,31,32,33,34,35,3,3]) (gs:=[.row (pre),.val (.pointer (some ⟨w.heap.size,0,none⟩)),.val (.slice (some ⟨b,off,none⟩) x.locs.length c1),.val (.int .i64 k),.val (.pointer (some ⟨b,off+k*2,none⟩)),.val (.pointer (some ⟨b,off+k*2,none⟩)),.val (.int .i64 gn),.val (.int .u64 gn),.row (lebU 9 gn),.row ((pre++lebU 9 gn)),.val (.pointer (some ⟨w.heap.size,0,none⟩)),.val (.slice (some ⟨b,off,none⟩) x.locs.length c1),.val (.int .i64 k),.val (.pointer (some ⟨b,off+k*2,none⟩)),.val (.pointer (some ⟨b,off+k*2+1,none⟩)),.val (.int .i64 gt),.val (.int .u8 (gt%256)),.row ([gt%256]),.row (((pre++lebU 9 gn)++[gt%256])),.row (((pre++lebU 9 gn)++[gt%256])),.row (pre)]) (uses:=[some 9,none,none,none,none,none,none,none,some 9,some 18,none,none,none,none,none,none,none,some 18,some 19,none,some 0]) (S:=(fun k=>k<w.heap.size+1)) 3 (pre) (by kernel_rfl) Tryz.underlying50 Tryz.info5 (by kernel_rfl) rfl rfl rfl rfl HRS.out HRB.out HRO.out HRK.out ?_ ?_
    · refine AllSteps.cons ?_ ?_
      · refine .mv 20 (pre) (show 20<21 by decide) rfl rfl rfl (.inl (Nat.le_refl _)) (fun a W f=>?_)
        clear f
        go_simp
        try rfl
      refine AllSteps.cons ?_ ?_
      · refine .pure (.pointer (some ⟨w.heap.size,0,none⟩)) rfl (fun a W f=>?_)
        have e1:=fx_sm' f 1 _ (by kernel_rfl) rfl
        clear f
        go_simp
        try rfl
      refine AllSteps.cons ?_ ?_
      · refine .pure (.slice (some ⟨b,off,none⟩) x.locs.length c1) rfl (fun a W f=>?_)
        have e18:=fx_va' f 1 18 _ rfl (by kernel_rfl) (by kernel_rfl) rfl
        have hc:=(f.kp.cell (show w.heap.size<w.heap.size+1 by omega)).trans q0
        clear f
        go_simp
        try rfl
      refine AllSteps.cons ?_ ?_
      · refine .pure (.int .i64 k) rfl (fun a W f=>?_)
        have e4:=fx_sm' f 4 _ (by kernel_rfl) rfl
        clear f
        go_simp
        try rfl
      refine AllSteps.cons ?_ ?_
      · refine .pure (.pointer (some ⟨b,off+k*2,none⟩)) rfl (fun a W f=>?_)
        have e19:=fx_va' f 2 19 _ rfl (by kernel_rfl) (by kernel_rfl) rfl
        have e20:=fx_va' f 3 20 _ rfl (by kernel_rfl) (by kernel_rfl) rfl
        clear f
        go_simp
        try rfl
      refine AllSteps.cons ?_ ?_
      · refine .pure (.pointer (some ⟨b,off+k*2,none⟩)) rfl (fun a W f=>?_)
        have e21:=fx_va' f 4 21 _ rfl (by kernel_rfl) (by kernel_rfl) rfl
        clear f
        go_simp
        try rfl
      refine AllSteps.cons ?_ ?_
      · refine .pure (.int .i64 gn) rfl (fun a W f=>?_)
        have e22:=fx_va' f 5 22 _ rfl (by kernel_rfl) (by kernel_rfl) rfl
        have hc:=(f.kp.cell hbS).trans d0
        clear f
        go_simp
        try rfl
      refine AllSteps.cons ?_ ?_
      · refine .pure (.int .u64 gn) rfl (fun a W f=>?_)
        have e23:=fx_va' f 6 23 _ rfl (by kernel_rfl) (by kernel_rfl) rfl
        clear f
        go_simp
        try rfl
      refine AllSteps.cons ?_ ?_
      · refine .mk (lebU 9 gn) rfl (fun a W K Q f hK=>?_)
        have e24:=fx_va' f 7 24 _ rfl (by kernel_rfl) (by kernel_rfl) rfl
        refine mk_call (by clear hK f;go_simp;try rfl) (specPutU_any gn W hn0 hn1) hK
      refine AllSteps.cons ?_ ?_
      · exact .app 0 8 (pre) (lebU 9 gn) (show 0<21 by decide) (show 8<21 by decide) (by decide) rfl rfl rfl rfl rfl (.inr (by kernel_rfl)) (.inr (by kernel_rfl)) (by (try simp only [List.length_append,List.length_cons,List.length_nil]);omega) rfl
      refine AllSteps.cons ?_ ?_
      · refine .pure (.pointer (some ⟨w.heap.size,0,none⟩)) rfl (fun a W f=>?_)
        have e1:=fx_sm' f 1 _ (by kernel_rfl) rfl
        clear f
        go_simp
        try rfl
      refine AllSteps.cons ?_ ?_
      · refine .pure (.slice (some ⟨b,off,none⟩) x.locs.length c1) rfl (fun a W f=>?_)
        have e27:=fx_va' f 10 27 _ rfl (by kernel_rfl) (by kernel_rfl) rfl
        have hc:=(f.kp.cell (show w.heap.size<w.heap.size+1 by omega)).trans q0
        clear f
        go_simp
        try rfl
      refine AllSteps.cons ?_ ?_
      · refine .pure (.int .i64 k) rfl (fun a W f=>?_)
        have e4:=fx_sm' f 4 _ (by kernel_rfl) rfl
        clear f
        go_simp
        try rfl
      refine AllSteps.cons ?_ ?_
      · refine .pure (.pointer (some ⟨b,off+k*2,none⟩)) rfl (fun a W f=>?_)
        have e28:=fx_va' f 11 28 _ rfl (by kernel_rfl) (by kernel_rfl) rfl
        have e29:=fx_va' f 12 29 _ rfl (by kernel_rfl) (by kernel_rfl) rfl
        clear f
        go_simp
        try rfl
      refine AllSteps.cons ?_ ?_
      · refine .pure (.pointer (some ⟨b,off+k*2+1,none⟩)) rfl (fun a W f=>?_)
        have e30:=fx_va' f 13 30 _ rfl (by kernel_rfl) (by kernel_rfl) rfl
        clear f
        go_simp
        try rfl
      refine AllSteps.cons ?_ ?_
      · refine .pure (.int .i64 gt) rfl (fun a W f=>?_)
        have e31:=fx_va' f 14 31 _ rfl (by kernel_rfl) (by kernel_rfl) rfl
        have hc:=(f.kp.cell hbS).trans d1
        clear f
        go_simp
        try rfl
      refine AllSteps.cons ?_ ?_
      · refine .pure (.int .u8 (gt%256)) rfl (fun a W f=>?_)
        have e32:=fx_va' f 15 32 _ rfl (by kernel_rfl) (by kernel_rfl) rfl
        clear f
        go_simp
        try rfl
      refine AllSteps.cons ?_ ?_
      · refine .mk ([gt%256]) rfl (fun a W K Q f hK=>?_)
        have e33:=fx_va' f 16 33 _ rfl (by kernel_rfl) (by kernel_rfl) rfl
        refine mk_lit (by clear hK f;go_simp;try rfl) hK
      refine AllSteps.cons ?_ ?_
      · exact .app 9 17 ((pre++lebU 9 gn)) ([gt%256]) (show 9<21 by decide) (show 17<21 by decide) (by decide) rfl rfl rfl rfl rfl (.inr (by kernel_rfl)) (.inr (by kernel_rfl)) (by (try simp only [List.length_append,List.length_cons,List.length_nil]);omega) rfl
      refine AllSteps.cons ?_ ?_
      · refine .mv 18 (((pre++lebU 9 gn)++[gt%256])) (show 18<21 by decide) rfl rfl rfl (.inr (by kernel_rfl)) (fun a W f=>?_)
        clear f
        go_simp
        try rfl
      exact AllSteps.nil
    · intro a W F
      have e0:a.eval (.tmp 0)=.agg #[.slice (some ⟨b,off,none⟩) x.locs.length c1,.slice a2 x.body.length c2]:=fin_sm F 0 (by kernel_rfl)
      have e1:a.eval (.tmp 1)=.pointer (some ⟨w.heap.size,0,none⟩):=fin_sm F 1 (by kernel_rfl)
      have e2:a.eval (.tmp 2)=.slice none 0 0:=fin_sm F 2 (by kernel_rfl)
      obtain ⟨y3,e3⟩:∃ y,a.eval (.tmp 3)=y:=⟨_,rfl⟩
      have e4:a.eval (.tmp 4)=.int .i64 k:=fin_sm F 4 (by kernel_rfl)
      have e5:a.eval (.tmp 5)=.pointer (some ⟨w.heap.size,0,none⟩):=fin_sm F 5 (by kernel_rfl)
      have e6:a.eval (.tmp 6)=.slice (some ⟨b,off,none⟩) x.locs.length c1:=fin_sm F 6 (by kernel_rfl)
      have e7:a.eval (.tmp 7)=.int .i64 x.locs.length:=fin_sm F 7 (by kernel_rfl)
      have e8:a.eval (.tmp 8)=.int .u64 x.locs.length:=fin_sm F 8 (by kernel_rfl)
      have e9:a.eval (.tmp 9)=v1:=fin_sm F 9 (by kernel_rfl)
      have e10:a.eval (.tmp 10)=.int .i64 k:=fin_sm F 10 (by kernel_rfl)
      have e11:a.eval (.tmp 11)=.pointer (some ⟨w.heap.size,0,none⟩):=fin_sm F 11 (by kernel_rfl)
      have e12:a.eval (.tmp 12)=.slice (some ⟨b,off,none⟩) x.locs.length c1:=fin_sm F 12 (by kernel_rfl)
      have e13:a.eval (.tmp 13)=.int .i64 x.locs.length:=fin_sm F 13 (by kernel_rfl)
      have e14:a.eval (.tmp 14)=.bool true:=fin_sm F 14 (by kernel_rfl)
      have e15:a.eval (.tmp 15)=u15:=fin_sm F 15 (by kernel_rfl)
      have e16:a.eval (.tmp 16)=u16:=fin_sm F 16 (by kernel_rfl)
      obtain ⟨y17,e17⟩:∃ y,a.eval (.tmp 17)=y:=⟨_,rfl⟩
      obtain ⟨y18,e18⟩:∃ y,a.eval (.tmp 18)=y:=⟨_,rfl⟩
      obtain ⟨y19,e19⟩:∃ y,a.eval (.tmp 19)=y:=⟨_,rfl⟩
      obtain ⟨y20,e20⟩:∃ y,a.eval (.tmp 20)=y:=⟨_,rfl⟩
      obtain ⟨y21,e21⟩:∃ y,a.eval (.tmp 21)=y:=⟨_,rfl⟩
      obtain ⟨y22,e22⟩:∃ y,a.eval (.tmp 22)=y:=⟨_,rfl⟩
      obtain ⟨y23,e23⟩:∃ y,a.eval (.tmp 23)=y:=⟨_,rfl⟩
      obtain ⟨y24,e24⟩:∃ y,a.eval (.tmp 24)=y:=⟨_,rfl⟩
      obtain ⟨y25,e25⟩:∃ y,a.eval (.tmp 25)=y:=⟨_,rfl⟩
      obtain ⟨y26,e26⟩:∃ y,a.eval (.tmp 26)=y:=⟨_,rfl⟩
      obtain ⟨y27,e27⟩:∃ y,a.eval (.tmp 27)=y:=⟨_,rfl⟩
      obtain ⟨y28,e28⟩:∃ y,a.eval (.tmp 28)=y:=⟨_,rfl⟩
      obtain ⟨y29,e29⟩:∃ y,a.eval (.tmp 29)=y:=⟨_,rfl⟩
      obtain ⟨y30,e30⟩:∃ y,a.eval (.tmp 30)=y:=⟨_,rfl⟩
      obtain ⟨y31,e31⟩:∃ y,a.eval (.tmp 31)=y:=⟨_,rfl⟩
      obtain ⟨y32,e32⟩:∃ y,a.eval (.tmp 32)=y:=⟨_,rfl⟩
      obtain ⟨y33,e33⟩:∃ y,a.eval (.tmp 33)=y:=⟨_,rfl⟩
      obtain ⟨y34,e34⟩:∃ y,a.eval (.tmp 34)=y:=⟨_,rfl⟩
      obtain ⟨y35,e35⟩:∃ y,a.eval (.tmp 35)=y:=⟨_,rfl⟩
      have e36:a.eval (.tmp 36)=undef:=fin_sm F 36 (by kernel_rfl)
      have e37:a.eval (.tmp 37)=undef:=fin_sm F 37 (by kernel_rfl)
      have e38:a.eval (.tmp 38)=undef:=fin_sm F 38 (by kernel_rfl)
      have e39:a.eval (.tmp 39)=undef:=fin_sm F 39 (by kernel_rfl)
      have e40:a.eval (.tmp 40)=undef:=fin_sm F 40 (by kernel_rfl)
      have e41:a.eval (.tmp 41)=undef:=fin_sm F 41 (by kernel_rfl)
      have e42:a.eval (.tmp 42)=undef:=fin_sm F 42 (by kernel_rfl)
      have e43:a.eval (.tmp 43)=undef:=fin_sm F 43 (by kernel_rfl)
      have e44:a.eval (.tmp 44)=undef:=fin_sm F 44 (by kernel_rfl)
      have e45:a.eval (.tmp 45)=undef:=fin_sm F 45 (by kernel_rfl)
      have e46:a.eval (.tmp 46)=undef:=fin_sm F 46 (by kernel_rfl)
      have FR:W.ownsRow (w.heap.size+1) 5 1 (a.eval (.tmp 3)) (pre++lebU 9 gn++[gt%256]).length (U (pre++lebU 9 gn++[gt%256]))∧∀ k,(a.eval (.tmp 3)).ownBlock=some k→¬ k<w.heap.size+1:=F.ro 19 _ (show 19<21 by decide) rfl rfl
      have FR1:W.ownsRow (w.heap.size+1) 5 1 y3 (pre++lebU 9 gn++[gt%256]).length (U (pre++lebU 9 gn++[gt%256])):=by have:=FR.1;rw [e3] at this;exact this
      have FK:Bk W w.heap.size [.slice (some ⟨b,off,none⟩) x.locs.length c1,.slice a2 x.body.length c2]∧Below w.heap.size w W:=⟨HBK.out.kept F.kp (by show _<_;omega),HBB.out.trans (F.kp.weak (fun k (h:k<w.heap.size)=>Nat.lt_succ_of_lt h)).below⟩
      obtain rfl:=act47 a F.sz e0 e1 e2 e3 e4 e5 e6 e7 e8 e9 e10 e11 e12 e13 e14 e15 e16 e17 e18 e19 e20 e21 e22 e23 e24 e25 e26 e27 e28 e29 e30 e31 e32 e33 e34 e35 e36 e37 e38 e39 e40 e41 e42 e43 e44 e45 e46 (show a.defers=[] from F.df)
      have FX:=Hm (And.intro FR1 FK)
      clear FR FR1 FK F e0 e1 e2 e3 e4 e5 e6 e7 e8 e9 e10 e11 e12 e13 e14 e15 e16 e17 e18 e19 e20 e21 e22 e23 e24 e25 e26 e27 e28 e29 e30 e31 e32 e33 e34 e35 e36 e37 e38 e39 e40 e41 e42 e43 e44 e45 e46
      clear HRO HRK HRS HRB HBK HBB q0 d0 d1
      go_wp2
      go_roundw
      case rel =>
       refine ⟨k+1,by omega,by go_num,?_,FX.out.2.1,FX.out.2.2⟩
       rw [HP.out]
       exact FX.out.1
      case measure=>simp [intOf];omega
  · have e:k=x.locs.length:=by omega
    subst e
    rw [List.take_length] at ho
    have hbr:Below w0.heap.size w0 wr:=HB0.out.trans (hb.mono HB0.out.size)
    have q1:=bk.2.1 1 _ rfl
    have hlL:=HL.out
    have KL:=Hm (slist_c x.body a2 c2 w0 wr hbr HI.out.2 HG.out (by omega))
    have HRO:=Hm ho
    have HBB:=Hm (And.intro hb bk.1)
    have HE:Hid (codE x=lebU 9 (codI x).length++codI x):=by show _=_;rw [codE,szE]
    have HC:Hid (codI x=(lebU 9 x.locs.length++catE grpE x.locs)++catE encI x.body):=by show _=_;rw [codI]
    have hlC:(lebU 9 x.locs.length++catE grpE x.locs).length+(catE encI x.body).length≤400000000000:=by rw [List.length_append];omega
    have hne:1≤(codI x).length:=by have:=(lebU_len 9 x.locs.length).1;simp only [codI,List.length_append];omega
    clear ho hb bk hbr HU HL hlL HI HG HB0
    generalize lebU 9 x.locs.length++catE grpE x.locs=pre at *
    generalize catE encI x.body=bd at *
    go_wp2_with fail
    refine KL.out.mono ?_
    rintro e w2 ⟨v2,rfl,ho2,hb2⟩
    obtain ⟨a3,c3,rfl,hs2⟩:=own_srcC ho2
    have HS2:=Hm hs2
    have HO2:=Hm (ownE_keep HRO.out hb2 (Nat.le_refl _))
    have HB2:=Hm (HBB.out.1.trans (hb2.mono HBB.out.1.size))
    have hz:w.heap.size+1≤w2.heap.size:=by have:=HBB.out.2;have:=hb2.size;omega
    clear ho2 hb2 hs2 KL q0 q1 HRO HBB
    go_wp2_with (at_builtin;refine wpList_append_any rfl _ _ 50 rfl (w.heap.size+1) 5 i0 (.int .u8 0) 1 1 Tryz.underlying50 hi hz0 hz1 hz2 rfl (by decide) _ pre.length (U pre) rfl HO2.out a3 bd.length c3 (U bd) rfl (by simp) HS2.out (oneU _) (by unfold maxLen;omega) (by omega) hz ?_;intro v3 w3 own3 gr3 hloc;have O3:=Hm (And.intro own3 (And.intro (below_own HB2.out (by omega) (ownE_down HO2.out (by omega)) gr3) (Nat.le_trans hz gr3.size)));have own4:w3.ownsRow (w.heap.size+1) 5 1 v3 (codI x).length (U (codI x)):=(by rw [HC.out,List.length_append,show U (pre++bd)=U pre++U bd by simp [U]];exact own3);obtain ⟨a4,c4,rfl,hs4⟩:=own_srcC own4;have HS4:=Hm hs4;clear own3 own4 hs4 gr3 hloc)
    obtain ⟨b3,hz3⟩:=O3.out.2
    have hcl:(codI x).length≤400000000000:=by rw [HC.out,List.length_append];exact hlC
    have hwc:IntKind.u64.wrap ((codI x).length:Int)=((codI x).length:Int):=by rw [IntKind.wrap_u64];omega
    have KQ:=Hm (specPutU_any (codI x).length w3 (by omega) (by omega))
    have hla:=lebU_len 9 (codI x).length
    have B3:=Hm b3
    clear O3 b3 HS2 HO2 HB2 HC
    generalize lebU 9 ((codI x).length:Int)=LA at *
    generalize codI x=bdy at *
    simp only [hwc]
    refine KQ.out.mono ?_
    rintro e w4 ⟨v5,rfl,ho5,hb5⟩
    obtain ⟨gA,gcA,rfl,hgA,hgA'⟩:=By.own_split ho5 hla.1
    have O5:=Hm (ownE_down ho5 (show w.heap.size≤w3.heap.size by omega))
    have S5:=Hm (HS4.out.on hb5)
    have B5:=Hm (B3.out.trans (hb5.mono B3.out.size))
    have hz5:=B5.out.size
    clear ho5 hb5 KQ HS4 hgA hgA'
    go_wp2_with (at_builtin;refine wpList_append_any rfl _ _ 50 rfl w.heap.size 5 i0 (.int .u8 0) 1 1 Tryz.underlying50 hi hz0 hz1 hz2 rfl (by decide) _ LA.length (U LA) rfl O5.out a4 bdy.length c4 (U bdy) rfl (by simp) S5.out (oneU _) (by unfold maxLen;omega) (by omega) (by omega) ?_;intro v6 w6 own6 gr6 hloc6;have O6:=Hm (And.intro own6 (below_own B5.out hz5 O5.out gr6));clear own6 gr6 hloc6)
    go_ret
    refine ⟨_,rfl,?_,O6.out.2⟩
    rw [HE.out]
    have h:=O6.out.1
    simpa [U] using h
open Go.RowKit Go.Sort
theorem s5ent2 (x:Mod) (a1:Option Addr) (c1:Nat) (a2:Option Addr) (c2:Nat) (a3:Option Addr) (c3:Nat) (a4:Option Addr) (c4:Nat) (a5:Option Addr) (c5:Nat) (a6:Option Addr) (c6:Nat) (a7:Option Addr) (c7:Nat) (a8:Option Addr) (c8:Nat) (a9:Option Addr) (c9:Nat) (a10:Option Addr) (c10:Nat) (a11:Option Addr) (c11:Nat) (w0 w:World) (hb0:Below w0.heap.size w0 w) (hI:Mod.Is 0 w0 x a1 a2 a3 a4 a5 a6 a7 a8 a9 a10 a11) (hG:x.Gd) (hLB:Mod.LB 1048576 x) (i:Nat) (hi:i<x.imps.length) (hl:(impE (x.imps.getD i Imp.z)).length≤400000000000) :
    Calls Tryz.prog 78 #[.agg #[.slice a1 x.types.length c1,.slice a2 x.imps.length c2,.slice a3 x.funcs.length c3,.slice a4 x.tabs.length c4,.slice a5 x.mems.length c5,.slice a6 x.globs.length c6,.slice a7 x.exps.length c7,.bool x.hasS,.int .i64 x.start,.slice a8 x.elems.length c8,.slice a9 x.codes.length c9,.slice a10 x.datas.length c10,.slice a11 x.customs.length c11],.int .i64 2,.int .i64 i] w fun e w'=>∃ u,e=.returned u∧Out w w' u (impE (x.imps.getD i Imp.z)):=by
 obtain ⟨W,hWd⟩:∃ W,W=w.alloc (.cells #[.slice a1 x.types.length c1,.slice a2 x.imps.length c2,.slice a3 x.funcs.length c3,.slice a4 x.tabs.length c4,.slice a5 x.mems.length c5,.slice a6 x.globs.length c6,.slice a7 x.exps.length c7,.bool x.hasS,.int .i64 x.start,.slice a8 x.elems.length c8,.slice a9 x.codes.length c9,.slice a10 x.datas.length c10,.slice a11 x.customs.length c11] 46):=⟨_,rfl⟩
 have hBk:Bk W w.heap.size [.slice a1 x.types.length c1,.slice a2 x.imps.length c2,.slice a3 x.funcs.length c3,.slice a4 x.tabs.length c4,.slice a5 x.mems.length c5,.slice a6 x.globs.length c6,.slice a7 x.exps.length c7,.bool x.hasS,.int .i64 x.start,.slice a8 x.elems.length c8,.slice a9 x.codes.length c9,.slice a10 x.datas.length c10,.slice a11 x.customs.length c11]:=by rw [hWd];exact Bk.new
 have hWs:W.heap.size=w.heap.size+1:=by rw [hWd];simp
 have bW:Below w.heap.size w W:=by rw [hWd];exact (Below.refl _ _).alloc (Nat.le_refl _) _
 have hbW:Below w0.heap.size w0 W:=hb0.trans (bW.mono hb0.size)
 have hw0:w0.heap.size≤w.heap.size:=hb0.size
 rcases hI.2.1 with hx | ⟨b,off,ea,_,hc⟩
 · rw [hx] at hi;simp at hi
 have hr:=hc i hi
 subst ea
 obtain ⟨⟨d0,d1,d2,d3,d4,d5,d6,d7,d8⟩,hi1⟩:=hr
 have lb:b<w0.heap.size:=World.block_lt_of_cell? w0 _ d0
 have d0:=(hbW.cell (p:=⟨b,off+i*9,none⟩) lb).trans d0
 have d1:=(hbW.cell (p:=⟨b,off+i*9+1,none⟩) lb).trans d1
 have d2:=(hbW.cell (p:=⟨b,off+i*9+2,none⟩) lb).trans d2
 have d3:=(hbW.cell (p:=⟨b,off+i*9+3,none⟩) lb).trans d3
 have d4:=(hbW.cell (p:=⟨b,off+i*9+4,none⟩) lb).trans d4
 have d5:=(hbW.cell (p:=⟨b,off+i*9+5,none⟩) lb).trans d5
 have d6:=(hbW.cell (p:=⟨b,off+i*9+6,none⟩) lb).trans d6
 have d7:=(hbW.cell (p:=⟨b,off+i*9+7,none⟩) lb).trans d7
 have d8:=(hbW.cell (p:=⟨b,off+i*9+8,none⟩) lb).trans d8
 have q:=hBk.2.1 1 _ rfl
 have hki:(i:Int)<(x.imps.length:Int):=by omega
 have g1:=hG.imps.2 i hi
 have g2:=hLB.2.1.2 i hi
 generalize x.imps.getD i Imp.z=y at *
 obtain ⟨ymd,ynm,yk,yt,yl,yg⟩:=y
 have KC:=Hm (s5imp_c ymd ynm yk yt yl yg W g2.1 g2.2 g1)
 have BW:=Hm bW
 have HW:=Hm hWd
 clear hWd bW hBk hI hG hLB hb0 hbW hc lb hi1
 go_enter Tryz.func78,Tryz.ntmps78
 go_upto_region 1 with fail
 rw [← HW.out]
 clear HW
 go_wp2_with fail
 refine KC.out.mono ?_
 rintro e w2 ⟨v,rfl,ho,hb⟩
 have HO:Hid (Out w w2 v (impE ⟨ymd,ynm,yk,yt,yl,yg⟩)):=⟨ownE_down ho (by omega),BW.out.trans (hb.mono (by omega))⟩
 clear ho hb KC
 go_wp2
 go_ret
 exact ⟨_,rfl,HO.out⟩
theorem s5ent3 (x:Mod) (a1:Option Addr) (c1:Nat) (a2:Option Addr) (c2:Nat) (a3:Option Addr) (c3:Nat) (a4:Option Addr) (c4:Nat) (a5:Option Addr) (c5:Nat) (a6:Option Addr) (c6:Nat) (a7:Option Addr) (c7:Nat) (a8:Option Addr) (c8:Nat) (a9:Option Addr) (c9:Nat) (a10:Option Addr) (c10:Nat) (a11:Option Addr) (c11:Nat) (w0 w:World) (hb0:Below w0.heap.size w0 w) (hI:Mod.Is 0 w0 x a1 a2 a3 a4 a5 a6 a7 a8 a9 a10 a11) (hG:x.Gd) (hLB:Mod.LB 1048576 x) (i:Nat) (hi:i<x.funcs.length) (hl:(lebU 9 (x.funcs.getD i 0)).length≤400000000000) :
    Calls Tryz.prog 78 #[.agg #[.slice a1 x.types.length c1,.slice a2 x.imps.length c2,.slice a3 x.funcs.length c3,.slice a4 x.tabs.length c4,.slice a5 x.mems.length c5,.slice a6 x.globs.length c6,.slice a7 x.exps.length c7,.bool x.hasS,.int .i64 x.start,.slice a8 x.elems.length c8,.slice a9 x.codes.length c9,.slice a10 x.datas.length c10,.slice a11 x.customs.length c11],.int .i64 3,.int .i64 i] w fun e w'=>∃ u,e=.returned u∧Out w w' u (lebU 9 (x.funcs.getD i 0)):=by
 obtain ⟨W,hWd⟩:∃ W,W=w.alloc (.cells #[.slice a1 x.types.length c1,.slice a2 x.imps.length c2,.slice a3 x.funcs.length c3,.slice a4 x.tabs.length c4,.slice a5 x.mems.length c5,.slice a6 x.globs.length c6,.slice a7 x.exps.length c7,.bool x.hasS,.int .i64 x.start,.slice a8 x.elems.length c8,.slice a9 x.codes.length c9,.slice a10 x.datas.length c10,.slice a11 x.customs.length c11] 46):=⟨_,rfl⟩
 have hBk:Bk W w.heap.size [.slice a1 x.types.length c1,.slice a2 x.imps.length c2,.slice a3 x.funcs.length c3,.slice a4 x.tabs.length c4,.slice a5 x.mems.length c5,.slice a6 x.globs.length c6,.slice a7 x.exps.length c7,.bool x.hasS,.int .i64 x.start,.slice a8 x.elems.length c8,.slice a9 x.codes.length c9,.slice a10 x.datas.length c10,.slice a11 x.customs.length c11]:=by rw [hWd];exact Bk.new
 have hWs:W.heap.size=w.heap.size+1:=by rw [hWd];simp
 have bW:Below w.heap.size w W:=by rw [hWd];exact (Below.refl _ _).alloc (Nat.le_refl _) _
 have hbW:Below w0.heap.size w0 W:=hb0.trans (bW.mono hb0.size)
 have hw0:w0.heap.size≤w.heap.size:=hb0.size
 rcases hI.2.2.1 with hx | ⟨b,off,ea,_,hc⟩
 · rw [hx] at hi;simp at hi
 have d0:=hc i hi
 subst ea
 have lb:b<w0.heap.size:=World.block_lt_of_cell? w0 _ d0
 have d0:=(hbW.cell (p:=⟨b,off+i,none⟩) lb).trans d0
 have q:=hBk.2.1 2 _ rfl
 have hki:(i:Int)<(x.funcs.length:Int):=by omega
 obtain ⟨g1,g2⟩:=hG.funcs.2 i hi
 generalize x.funcs.getD i 0=y at *
 have hwu:IntKind.u64.wrap y=y:=by rw [IntKind.wrap_u64];omega
 have KC:=Hm (specPutU_any y W (by omega) (by omega))
 have BW:=Hm bW
 have HW:=Hm hWd
 clear hWd bW hBk hI hG hLB hb0 hbW hc lb
 go_enter Tryz.func78,Tryz.ntmps78
 go_upto_region 1 with fail
 rw [← HW.out]
 clear HW
 go_wp2_with fail
 refine KC.out.mono ?_
 rintro e w2 ⟨v,rfl,ho,hb⟩
 have HO:Hid (Out w w2 v (lebU 9 y)):=⟨ownE_down ho (by omega),BW.out.trans (hb.mono (by omega))⟩
 clear ho hb KC
 go_wp2
 go_ret
 exact ⟨_,rfl,HO.out⟩
theorem s5ent5 (x:Mod) (a1:Option Addr) (c1:Nat) (a2:Option Addr) (c2:Nat) (a3:Option Addr) (c3:Nat) (a4:Option Addr) (c4:Nat) (a5:Option Addr) (c5:Nat) (a6:Option Addr) (c6:Nat) (a7:Option Addr) (c7:Nat) (a8:Option Addr) (c8:Nat) (a9:Option Addr) (c9:Nat) (a10:Option Addr) (c10:Nat) (a11:Option Addr) (c11:Nat) (w0 w:World) (hb0:Below w0.heap.size w0 w) (hI:Mod.Is 0 w0 x a1 a2 a3 a4 a5 a6 a7 a8 a9 a10 a11) (hG:x.Gd) (hLB:Mod.LB 1048576 x) (i:Nat) (hi:i<x.mems.length) (hl:(limE (x.mems.getD i Limits.z)).length≤400000000000) :
    Calls Tryz.prog 78 #[.agg #[.slice a1 x.types.length c1,.slice a2 x.imps.length c2,.slice a3 x.funcs.length c3,.slice a4 x.tabs.length c4,.slice a5 x.mems.length c5,.slice a6 x.globs.length c6,.slice a7 x.exps.length c7,.bool x.hasS,.int .i64 x.start,.slice a8 x.elems.length c8,.slice a9 x.codes.length c9,.slice a10 x.datas.length c10,.slice a11 x.customs.length c11],.int .i64 5,.int .i64 i] w fun e w'=>∃ u,e=.returned u∧Out w w' u (limE (x.mems.getD i Limits.z)):=by
 obtain ⟨W,hWd⟩:∃ W,W=w.alloc (.cells #[.slice a1 x.types.length c1,.slice a2 x.imps.length c2,.slice a3 x.funcs.length c3,.slice a4 x.tabs.length c4,.slice a5 x.mems.length c5,.slice a6 x.globs.length c6,.slice a7 x.exps.length c7,.bool x.hasS,.int .i64 x.start,.slice a8 x.elems.length c8,.slice a9 x.codes.length c9,.slice a10 x.datas.length c10,.slice a11 x.customs.length c11] 46):=⟨_,rfl⟩
 have hBk:Bk W w.heap.size [.slice a1 x.types.length c1,.slice a2 x.imps.length c2,.slice a3 x.funcs.length c3,.slice a4 x.tabs.length c4,.slice a5 x.mems.length c5,.slice a6 x.globs.length c6,.slice a7 x.exps.length c7,.bool x.hasS,.int .i64 x.start,.slice a8 x.elems.length c8,.slice a9 x.codes.length c9,.slice a10 x.datas.length c10,.slice a11 x.customs.length c11]:=by rw [hWd];exact Bk.new
 have hWs:W.heap.size=w.heap.size+1:=by rw [hWd];simp
 have bW:Below w.heap.size w W:=by rw [hWd];exact (Below.refl _ _).alloc (Nat.le_refl _) _
 have hbW:Below w0.heap.size w0 W:=hb0.trans (bW.mono hb0.size)
 have hw0:w0.heap.size≤w.heap.size:=hb0.size
 rcases hI.2.2.2.2.1 with hx | ⟨b,off,ea,_,hc⟩
 · rw [hx] at hi;simp at hi
 have hr:=hc i hi
 subst ea
 obtain ⟨⟨d0,d1,d2⟩,hi1⟩:=hr
 have lb:b<w0.heap.size:=World.block_lt_of_cell? w0 _ d0
 have d0:=(hbW.cell (p:=⟨b,off+i*3,none⟩) lb).trans d0
 have d1:=(hbW.cell (p:=⟨b,off+i*3+1,none⟩) lb).trans d1
 have d2:=(hbW.cell (p:=⟨b,off+i*3+2,none⟩) lb).trans d2
 have q:=hBk.2.1 4 _ rfl
 have hki:(i:Int)<(x.mems.length:Int):=by omega
 have g1:=hG.mems.2 i hi
 generalize x.mems.getD i Limits.z=y at *
 have KC:=Hm (s5lim_c y W g1)
 have BW:=Hm bW
 have HW:=Hm hWd
 clear hWd bW hBk hI hG hLB hb0 hbW hc lb hi1
 go_enter Tryz.func78,Tryz.ntmps78
 go_upto_region 1 with fail
 rw [← HW.out]
 clear HW
 go_wp2_with fail
 refine KC.out.mono ?_
 rintro e w2 ⟨v,rfl,ho,hb⟩
 have HO:Hid (Out w w2 v (limE y)):=⟨ownE_down ho (by omega),BW.out.trans (hb.mono (by omega))⟩
 clear ho hb KC
 go_wp2
 go_ret
 exact ⟨_,rfl,HO.out⟩
theorem s5ent8 (x:Mod) (a1:Option Addr) (c1:Nat) (a2:Option Addr) (c2:Nat) (a3:Option Addr) (c3:Nat) (a4:Option Addr) (c4:Nat) (a5:Option Addr) (c5:Nat) (a6:Option Addr) (c6:Nat) (a7:Option Addr) (c7:Nat) (a8:Option Addr) (c8:Nat) (a9:Option Addr) (c9:Nat) (a10:Option Addr) (c10:Nat) (a11:Option Addr) (c11:Nat) (w0 w:World) (hb0:Below w0.heap.size w0 w) (hI:Mod.Is 0 w0 x a1 a2 a3 a4 a5 a6 a7 a8 a9 a10 a11) (hG:x.Gd) (hLB:Mod.LB 1048576 x) (i:Nat) (hl:(lebU 9 x.start).length≤400000000000) :
    Calls Tryz.prog 78 #[.agg #[.slice a1 x.types.length c1,.slice a2 x.imps.length c2,.slice a3 x.funcs.length c3,.slice a4 x.tabs.length c4,.slice a5 x.mems.length c5,.slice a6 x.globs.length c6,.slice a7 x.exps.length c7,.bool x.hasS,.int .i64 x.start,.slice a8 x.elems.length c8,.slice a9 x.codes.length c9,.slice a10 x.datas.length c10,.slice a11 x.customs.length c11],.int .i64 8,.int .i64 i] w fun e w'=>∃ u,e=.returned u∧Out w w' u (lebU 9 x.start):=by
 obtain ⟨W,hWd⟩:∃ W,W=w.alloc (.cells #[.slice a1 x.types.length c1,.slice a2 x.imps.length c2,.slice a3 x.funcs.length c3,.slice a4 x.tabs.length c4,.slice a5 x.mems.length c5,.slice a6 x.globs.length c6,.slice a7 x.exps.length c7,.bool x.hasS,.int .i64 x.start,.slice a8 x.elems.length c8,.slice a9 x.codes.length c9,.slice a10 x.datas.length c10,.slice a11 x.customs.length c11] 46):=⟨_,rfl⟩
 have hBk:Bk W w.heap.size [.slice a1 x.types.length c1,.slice a2 x.imps.length c2,.slice a3 x.funcs.length c3,.slice a4 x.tabs.length c4,.slice a5 x.mems.length c5,.slice a6 x.globs.length c6,.slice a7 x.exps.length c7,.bool x.hasS,.int .i64 x.start,.slice a8 x.elems.length c8,.slice a9 x.codes.length c9,.slice a10 x.datas.length c10,.slice a11 x.customs.length c11]:=by rw [hWd];exact Bk.new
 have hWs:W.heap.size=w.heap.size+1:=by rw [hWd];simp
 have bW:Below w.heap.size w W:=by rw [hWd];exact (Below.refl _ _).alloc (Nat.le_refl _) _
 have hbW:Below w0.heap.size w0 W:=hb0.trans (bW.mono hb0.size)
 have hw0:w0.heap.size≤w.heap.size:=hb0.size
 have q:=hBk.2.1 8 _ rfl
 obtain ⟨g1,g2⟩:=hG.start
 have hwu:IntKind.u64.wrap x.start=x.start:=by rw [IntKind.wrap_u64];omega
 have KC:=Hm (specPutU_any x.start W (by omega) (by omega))
 have BW:=Hm bW
 have HW:=Hm hWd
 clear hWd bW hBk hI hG hLB hb0 hbW
 go_enter Tryz.func78,Tryz.ntmps78
 go_upto_region 1 with fail
 rw [← HW.out]
 clear HW
 go_wp2_with fail
 refine KC.out.mono ?_
 rintro e w2 ⟨v,rfl,ho,hb⟩
 have HO:Hid (Out w w2 v (lebU 9 x.start)):=⟨ownE_down ho (by omega),BW.out.trans (hb.mono (by omega))⟩
 clear ho hb KC
 go_wp2
 go_ret
 exact ⟨_,rfl,HO.out⟩
theorem s5ent10 (x:Mod) (a1:Option Addr) (c1:Nat) (a2:Option Addr) (c2:Nat) (a3:Option Addr) (c3:Nat) (a4:Option Addr) (c4:Nat) (a5:Option Addr) (c5:Nat) (a6:Option Addr) (c6:Nat) (a7:Option Addr) (c7:Nat) (a8:Option Addr) (c8:Nat) (a9:Option Addr) (c9:Nat) (a10:Option Addr) (c10:Nat) (a11:Option Addr) (c11:Nat) (w0 w:World) (hb0:Below w0.heap.size w0 w) (hI:Mod.Is 0 w0 x a1 a2 a3 a4 a5 a6 a7 a8 a9 a10 a11) (hG:x.Gd) (hLB:Mod.LB 1048576 x) (i:Nat) (hi:i<x.codes.length) (hl:(codE (x.codes.getD i Cod.z)).length≤400000000000) :
    Calls Tryz.prog 78 #[.agg #[.slice a1 x.types.length c1,.slice a2 x.imps.length c2,.slice a3 x.funcs.length c3,.slice a4 x.tabs.length c4,.slice a5 x.mems.length c5,.slice a6 x.globs.length c6,.slice a7 x.exps.length c7,.bool x.hasS,.int .i64 x.start,.slice a8 x.elems.length c8,.slice a9 x.codes.length c9,.slice a10 x.datas.length c10,.slice a11 x.customs.length c11],.int .i64 10,.int .i64 i] w fun e w'=>∃ u,e=.returned u∧Out w w' u (codE (x.codes.getD i Cod.z)):=by
 obtain ⟨W,hWd⟩:∃ W,W=w.alloc (.cells #[.slice a1 x.types.length c1,.slice a2 x.imps.length c2,.slice a3 x.funcs.length c3,.slice a4 x.tabs.length c4,.slice a5 x.mems.length c5,.slice a6 x.globs.length c6,.slice a7 x.exps.length c7,.bool x.hasS,.int .i64 x.start,.slice a8 x.elems.length c8,.slice a9 x.codes.length c9,.slice a10 x.datas.length c10,.slice a11 x.customs.length c11] 46):=⟨_,rfl⟩
 have hBk:Bk W w.heap.size [.slice a1 x.types.length c1,.slice a2 x.imps.length c2,.slice a3 x.funcs.length c3,.slice a4 x.tabs.length c4,.slice a5 x.mems.length c5,.slice a6 x.globs.length c6,.slice a7 x.exps.length c7,.bool x.hasS,.int .i64 x.start,.slice a8 x.elems.length c8,.slice a9 x.codes.length c9,.slice a10 x.datas.length c10,.slice a11 x.customs.length c11]:=by rw [hWd];exact Bk.new
 have hWs:W.heap.size=w.heap.size+1:=by rw [hWd];simp
 have bW:Below w.heap.size w W:=by rw [hWd];exact (Below.refl _ _).alloc (Nat.le_refl _) _
 have hbW:Below w0.heap.size w0 W:=hb0.trans (bW.mono hb0.size)
 have hw0:w0.heap.size≤w.heap.size:=hb0.size
 rcases hI.2.2.2.2.2.2.2.2.1 with hx | ⟨b,off,ea,_,hc⟩
 · rw [hx] at hi;simp at hi
 have hr:=hc i hi
 subst ea
 obtain ⟨la,lc,ba,bc,⟨d0,d1⟩,hi1⟩:=hr
 have lb:b<w0.heap.size:=World.block_lt_of_cell? w0 _ d0
 have d0:=(hbW.cell (p:=⟨b,off+i*2,none⟩) lb).trans d0
 have d1:=(hbW.cell (p:=⟨b,off+i*2+1,none⟩) lb).trans d1
 have q:=hBk.2.1 10 _ rfl
 have hki:(i:Int)<(x.codes.length:Int):=by omega
 obtain ⟨g1,g2,g3⟩:=hG.codes.2 i hi
 generalize x.codes.getD i Cod.z=y at *
 have KC:=Hm (s5code_c y la lc ba bc w0 W hbW hi1 g1 g2 g3 hl)
 have BW:=Hm bW
 have HW:=Hm hWd
 clear hWd bW hBk hI hG hLB hb0 hbW hc lb hi1
 go_enter Tryz.func78,Tryz.ntmps78
 go_upto_region 1 with fail
 rw [← HW.out]
 clear HW
 go_wp2_with fail
 refine KC.out.mono ?_
 rintro e w2 ⟨v,rfl,ho,hb⟩
 have HO:Hid (Out w w2 v (codE y)):=⟨ownE_down ho (by omega),BW.out.trans (hb.mono (by omega))⟩
 clear ho hb KC
 go_wp2
 go_ret
 exact ⟨_,rfl,HO.out⟩
end Go.Proofs.YtdbmolambolmgaaGreat
