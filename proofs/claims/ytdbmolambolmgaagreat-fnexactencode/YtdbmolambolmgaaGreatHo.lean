import Derived.Test.YtdbmolambolmgaaGreatHn
set_option linter.all false
set_option maxHeartbeats 16000000
set_option maxRecDepth 100000
namespace Go.Proofs.YtdbmolambolmgaaGreat
open Go.RowKit Go.Sort
set_option maxRecDepth 100000
theorem qzCod_c (x:Cod) (a1:Option Addr) (c1:Nat) (a2:Option Addr) (c2:Nat) (left:Int) (w:World) (h0:0≤left) (h1:left≤1048576) (hI:Cod.Is 0 w x a1 a2) (hl:Cod.LB 9223372036854775807 x) :
    Calls Tryz.prog 105 #[.agg #[.slice a1 x.locs.length c1,.slice a2 x.body.length c2],.int .i64 left] w fun e w'=>∃ r:Int,e=.returned (.int .i64 r)∧Below w.heap.size w w'∧(r=-1∨(0≤r∧r+(Cod.sz x:Int)≤left∧Cod.LB 1048576 x)):=by
 obtain ⟨l0,l1⟩:=hl
 obtain ⟨r1,r2⟩:=hI
 have R1:=Hm r1
 have R2:=Hm r2
 clear r1 r2
 go_enter Tryz.func105,Tryz.ntmps105
 go_upto_region 1 with fail
 refine wp_gen (fun W=>(W.cell? ⟨w.heap.size,0,none⟩=some (.slice a1 x.locs.length c1)∧W.cell? ⟨w.heap.size,1,none⟩=some (.slice a2 x.body.length c2))∧Below w.heap.size w W∧w.heap.size<W.heap.size) ⟨⟨cell_new rfl rfl,cell_new rfl rfl⟩,(Below.refl _ _).alloc (Nat.le_refl _) _,by simp⟩ ?_
 rintro W ⟨⟨q0,q1⟩,hb,hlt⟩
 have HC0:=Hm (qzGrps_c a1 x.locs.length c1 left W (by omega) (by omega) l0.1)
 go_wp2_with fail
 refine HC0.out.mono ?_
 rintro e W0 ⟨m0,rfl,hb0,hm0⟩
 have hB0:Below w.heap.size w W0:=hb.trans (hb0.mono hb.size)
 have hL0:w.heap.size<W0.heap.size:=Nat.lt_of_lt_of_le hlt hb0.size
 have q1:=(hb0.cell (p:=⟨w.heap.size,1,none⟩) hlt).trans q1
 clear hb0 HC0 q0
 rcases hm0 with rfl | ⟨hm00,hm10,k0⟩
 · go_wp2
   go_ret
   exact ⟨-1,rfl,hB0,.inl rfl⟩
 have hn0:¬ m0<0:=by omega
 generalize hg0:x.locs.length=g0 at hm10
 have k0:x.locs.length≤1048576∧∀ i,i<x.locs.length→Grp.LB 1048576 (x.locs.getD i Grp.z):=⟨k0,fun _ _=>trivial⟩
 go_upto_region 4 with fail
 have HC1:=Hm (qzIns_c a2 c2 x.body m0 W0 (by omega) (by omega) (R2.out.up (up_below hB0)) l1)
 go_wp2_with fail
 refine HC1.out.mono ?_
 rintro e W1 ⟨m1,rfl,hb1,hm1⟩
 have hB1:Below w.heap.size w W1:=hB0.trans (hb1.mono hB0.size)
 have hL1:w.heap.size<W1.heap.size:=Nat.lt_of_lt_of_le hL0 hb1.size
 clear hb1 HC1 q1
 rcases hm1 with rfl | ⟨hm01,hm11,k1⟩
 · go_wp2
   go_ret
   exact ⟨-1,rfl,hB1,.inl rfl⟩
 have hn1:¬ m1<0:=by omega
 generalize hg1:(x.body.length+(x.body.map In.sz).sum)=g1 at hm11
 go_wp2
 go_ret
 exact ⟨m1,rfl,hB1,.inr ⟨hm01,by simp only [Cod.sz];omega,⟨k0,k1⟩⟩⟩
theorem qzCods_c (a:Option Addr) (c:Nat) (xs:List Cod) (left:Int) (w:World) (h0:0≤left) (h1:left≤1048576) (hL:Cod.Ls 0 w a xs) (hl:xs.length≤9223372036854775807∧∀ i,i<xs.length→Cod.LB 9223372036854775807 (xs.getD i Cod.z)) :
    Calls Tryz.prog 26 #[.slice a xs.length c,.int .i64 left] w fun e w'=>∃ r:Int,e=.returned (.int .i64 r)∧Below w.heap.size w w'∧(r=-1∨(0≤r∧r+((xs.length+(xs.map Cod.sz).sum:Nat):Int)≤left∧xs.length≤1048576∧∀ i,i<xs.length→Cod.LB 1048576 (xs.getD i Cod.z))):=by
 obtain ⟨hn,hl⟩:=hl
 have hw:IntKind.i64.wrap (left-xs.length)=left-xs.length:=by rw [IntKind.wrap_i64];omega
 by_cases h:left-xs.length<0
 · clear hL
   go_enter Tryz.func26,Tryz.ntmps26
   go_wp2
   go_ret
   exact ⟨-1,rfl,Below.refl _ _,.inl rfl⟩
 · have HL:=Hm hL
   have Hl:=Hm hl
   clear hL hl
   go_enter Tryz.func26,Tryz.ntmps26
   go_wp2
   go_loopw [1,5] (fun q i wr=>∃ (k:Nat) (r:Int),k≤xs.length∧i=.int .i64 k∧q=.int .i64 r∧0≤r∧r+(((xs.take k).map Cod.sz).sum:Int)≤left-xs.length∧(∀ i,i<k→Cod.LB 1048576 (xs.getD i Cod.z))∧Below w.heap.size w wr) (fun _ i _=>xs.length-(intOf i).toNat)
   case atStart=>exact ⟨0,_,Nat.zero_le _,rfl,rfl,by omega,by simp,fun i hi=>by omega,Below.refl _ _⟩
   case round =>
    obtain ⟨k,r,hk,rfl,rfl,hr0,hr1,hall,hb⟩:=hrel
    by_cases hlt:k<xs.length
    · rcases HL.out.up (up_below hb) with hx | ⟨b,o,ea,_,hc⟩
      · subst hx;simp at hlt
      subst ea
      have hxk:=hc k hlt
      have hlk:=Hl.out k hlt
      have hki:(k:Int)<(xs.length:Int):=by omega
      obtain ⟨x,hx⟩:∃ x,x=xs.getD k Cod.z:=⟨_,rfl⟩
      rw [← hx] at hxk hlk
      obtain ⟨a1,c1,a2,c2,⟨q0,q1⟩,hi⟩:=hxk
      have HX:=Hm hx
      have HT:=Hm (sum_step (f:=Cod.sz) Cod.z xs k hlt)
      have HA:=Hm hall
      have HS:=Hm (qzCod_c x a1 c1 a2 c2 r wr hr0 (by omega) hi hlk)
      clear hx hc hall HL hi hlk Hl
      go_wp2_with fail
      refine HS.out.mono ?_
      rintro e w1 ⟨r1,rfl,hb1,hr1'⟩
      have hb2:Below w.heap.size w w1:=hb.trans (hb1.mono hb.size)
      clear hb1 q0 q1 HS
      rcases hr1' with rfl | ⟨hr2,hr3,hr4⟩
      · go_wp2
        go_ret
        exact ⟨-1,rfl,hb2,.inl rfl⟩
      · have f:¬ r1<0:=by omega
        have HR:=Hm hr4
        clear hr4
        go_wp2
        go_roundw
        case rel=>exact ⟨k+1,r1,by omega,by go_num,rfl,hr2,by rw [HT.out,← HX.out];push_cast;omega,fun i hi=>by
         rcases (by omega:i<k∨i=k) with h | h
         · exact HA.out i h
         · subst h;rw [← HX.out];exact HR.out,hb2⟩
        case measure=>simp [intOf];omega
    · have e:k=xs.length:=by omega
      subst e
      go_wp2
      go_ret
      exact ⟨r,rfl,hb,.inr ⟨hr0,by rw [List.take_length] at hr1;push_cast;omega,by omega,hall⟩⟩
theorem qzDat_c (x:Dat) (a1:Option Addr) (c1:Nat) (a2:Option Addr) (c2:Nat) (left:Int) (w:World) (h0:0≤left) (h1:left≤1048576) (hI:Dat.Is 0 w x a1 a2) (hl:Dat.LB 9223372036854775807 x) :
    Calls Tryz.prog 106 #[.agg #[.slice a1 x.off.length c1,.slice a2 x.bs.length c2],.int .i64 left] w fun e w'=>∃ r:Int,e=.returned (.int .i64 r)∧Below w.heap.size w w'∧(r=-1∨(0≤r∧r+(Dat.sz x:Int)≤left∧Dat.LB 1048576 x)):=by
 obtain ⟨l0,l1⟩:=hl
 obtain ⟨r1,r2⟩:=hI
 have R1:=Hm r1
 have R2:=Hm r2
 clear r1 r2
 go_enter Tryz.func106,Tryz.ntmps106
 go_upto_region 1 with fail
 refine wp_gen (fun W=>(W.cell? ⟨w.heap.size,0,none⟩=some (.slice a1 x.off.length c1)∧W.cell? ⟨w.heap.size,1,none⟩=some (.slice a2 x.bs.length c2))∧Below w.heap.size w W∧w.heap.size<W.heap.size) ⟨⟨cell_new rfl rfl,cell_new rfl rfl⟩,(Below.refl _ _).alloc (Nat.le_refl _) _,by simp⟩ ?_
 rintro W ⟨⟨q0,q1⟩,hb,hlt⟩
 have HC0:=Hm (qzIns_c a1 c1 x.off left W (by omega) (by omega) (R1.out.up (up_below hb)) l0)
 go_wp2_with fail
 refine HC0.out.mono ?_
 rintro e W0 ⟨m0,rfl,hb0,hm0⟩
 have hB0:Below w.heap.size w W0:=hb.trans (hb0.mono hb.size)
 have hL0:w.heap.size<W0.heap.size:=Nat.lt_of_lt_of_le hlt hb0.size
 have q1:=(hb0.cell (p:=⟨w.heap.size,1,none⟩) hlt).trans q1
 clear hb0 HC0 q0
 rcases hm0 with rfl | ⟨hm00,hm10,k0⟩
 · go_wp2
   go_ret
   exact ⟨-1,rfl,hB0,.inl rfl⟩
 have hn0:¬ m0<0:=by omega
 generalize hg0:(x.off.length+(x.off.map In.sz).sum)=g0 at hm10
 go_upto_region 4 with fail
 have HC1:=Hm (qzBytes_c a2 x.bs.length c2 m0 W0 (by omega) (by omega) l1)
 go_wp2_with fail
 refine HC1.out.mono ?_
 rintro e W1 ⟨m1,rfl,hb1,hm1⟩
 have hB1:Below w.heap.size w W1:=hB0.trans (hb1.mono hB0.size)
 have hL1:w.heap.size<W1.heap.size:=Nat.lt_of_lt_of_le hL0 hb1.size
 clear hb1 HC1 q1
 rcases hm1 with rfl | ⟨hm01,hm11,k1⟩
 · go_wp2
   go_ret
   exact ⟨-1,rfl,hB1,.inl rfl⟩
 have hn1:¬ m1<0:=by omega
 generalize hg1:x.bs.length=g1 at hm11
 go_wp2
 go_ret
 exact ⟨m1,rfl,hB1,.inr ⟨hm01,by simp only [Dat.sz];omega,⟨k0,k1⟩⟩⟩
theorem qzDats_c (a:Option Addr) (c:Nat) (xs:List Dat) (left:Int) (w:World) (h0:0≤left) (h1:left≤1048576) (hL:Dat.Ls 0 w a xs) (hl:xs.length≤9223372036854775807∧∀ i,i<xs.length→Dat.LB 9223372036854775807 (xs.getD i Dat.z)) :
    Calls Tryz.prog 27 #[.slice a xs.length c,.int .i64 left] w fun e w'=>∃ r:Int,e=.returned (.int .i64 r)∧Below w.heap.size w w'∧(r=-1∨(0≤r∧r+((xs.length+(xs.map Dat.sz).sum:Nat):Int)≤left∧xs.length≤1048576∧∀ i,i<xs.length→Dat.LB 1048576 (xs.getD i Dat.z))):=by
 obtain ⟨hn,hl⟩:=hl
 have hw:IntKind.i64.wrap (left-xs.length)=left-xs.length:=by rw [IntKind.wrap_i64];omega
 by_cases h:left-xs.length<0
 · clear hL
   go_enter Tryz.func27,Tryz.ntmps27
   go_wp2
   go_ret
   exact ⟨-1,rfl,Below.refl _ _,.inl rfl⟩
 · have HL:=Hm hL
   have Hl:=Hm hl
   clear hL hl
   go_enter Tryz.func27,Tryz.ntmps27
   go_wp2
   go_loopw [1,5] (fun q i wr=>∃ (k:Nat) (r:Int),k≤xs.length∧i=.int .i64 k∧q=.int .i64 r∧0≤r∧r+(((xs.take k).map Dat.sz).sum:Int)≤left-xs.length∧(∀ i,i<k→Dat.LB 1048576 (xs.getD i Dat.z))∧Below w.heap.size w wr) (fun _ i _=>xs.length-(intOf i).toNat)
   case atStart=>exact ⟨0,_,Nat.zero_le _,rfl,rfl,by omega,by simp,fun i hi=>by omega,Below.refl _ _⟩
   case round =>
    obtain ⟨k,r,hk,rfl,rfl,hr0,hr1,hall,hb⟩:=hrel
    by_cases hlt:k<xs.length
    · rcases HL.out.up (up_below hb) with hx | ⟨b,o,ea,_,hc⟩
      · subst hx;simp at hlt
      subst ea
      have hxk:=hc k hlt
      have hlk:=Hl.out k hlt
      have hki:(k:Int)<(xs.length:Int):=by omega
      obtain ⟨x,hx⟩:∃ x,x=xs.getD k Dat.z:=⟨_,rfl⟩
      rw [← hx] at hxk hlk
      obtain ⟨a1,c1,a2,c2,⟨q0,q1⟩,hi⟩:=hxk
      have HX:=Hm hx
      have HT:=Hm (sum_step (f:=Dat.sz) Dat.z xs k hlt)
      have HA:=Hm hall
      have HS:=Hm (qzDat_c x a1 c1 a2 c2 r wr hr0 (by omega) hi hlk)
      clear hx hc hall HL hi hlk Hl
      go_wp2_with fail
      refine HS.out.mono ?_
      rintro e w1 ⟨r1,rfl,hb1,hr1'⟩
      have hb2:Below w.heap.size w w1:=hb.trans (hb1.mono hb.size)
      clear hb1 q0 q1 HS
      rcases hr1' with rfl | ⟨hr2,hr3,hr4⟩
      · go_wp2
        go_ret
        exact ⟨-1,rfl,hb2,.inl rfl⟩
      · have f:¬ r1<0:=by omega
        have HR:=Hm hr4
        clear hr4
        go_wp2
        go_roundw
        case rel=>exact ⟨k+1,r1,by omega,by go_num,rfl,hr2,by rw [HT.out,← HX.out];push_cast;omega,fun i hi=>by
         rcases (by omega:i<k∨i=k) with h | h
         · exact HA.out i h
         · subst h;rw [← HX.out];exact HR.out,hb2⟩
        case measure=>simp [intOf];omega
    · have e:k=xs.length:=by omega
      subst e
      go_wp2
      go_ret
      exact ⟨r,rfl,hb,.inr ⟨hr0,by rw [List.take_length] at hr1;push_cast;omega,by omega,hall⟩⟩
theorem qzCus_c (x:Cus) (a1:Option Addr) (c1:Nat) (left:Int) (w:World) (h0:0≤left) (h1:left≤1048576) (hI:Cus.Is 0 w x a1) (hl:Cus.LB 9223372036854775807 x) :
    Calls Tryz.prog 107 #[.agg #[.int .i64 x.aft,.string x.nm,.slice a1 x.bs.length c1],.int .i64 left] w fun e w'=>∃ r:Int,e=.returned (.int .i64 r)∧Below w.heap.size w w'∧(r=-1∨(0≤r∧r+(Cus.sz x:Int)≤left∧Cus.LB 1048576 x)):=by
 obtain ⟨l1,l2⟩:=hl
 have r1:=hI
 clear hI
 have R1:=Hm r1
 clear r1
 go_enter Tryz.func107,Tryz.ntmps107
 go_upto_region 1 with fail
 refine wp_gen (fun W=>(W.cell? ⟨w.heap.size,1,none⟩=some (.string x.nm)∧W.cell? ⟨w.heap.size,2,none⟩=some (.slice a1 x.bs.length c1))∧Below w.heap.size w W∧w.heap.size<W.heap.size) ⟨⟨cell_new rfl rfl,cell_new rfl rfl⟩,(Below.refl _ _).alloc (Nat.le_refl _) _,by simp⟩ ?_
 rintro W ⟨⟨q1,q2⟩,hb,hlt⟩
 have hw1:IntKind.i64.wrap (left-(x.nm.size:Int))=left-(x.nm.size:Int):=by rw [IntKind.wrap_i64];omega
 by_cases hn1:left-(x.nm.size:Int)<0
 · go_wp2
   go_ret
   exact ⟨-1,rfl,hb,.inl rfl⟩
 have k1:x.nm.size≤1048576:=by omega
 have hm01:0≤left-(x.nm.size:Int):=by omega
 have hm11:left-(x.nm.size:Int)+(x.nm.size:Int)≤left:=by omega
 go_upto_region 4 with fail
 have HC2:=Hm (qzBytes_c a1 x.bs.length c1 (left-(x.nm.size:Int)) W (by omega) (by omega) l2)
 go_wp2_with fail
 refine HC2.out.mono ?_
 rintro e W2 ⟨m2,rfl,hb2,hm2⟩
 have hB2:Below w.heap.size w W2:=hb.trans (hb2.mono hb.size)
 have hL2:w.heap.size<W2.heap.size:=Nat.lt_of_lt_of_le hlt hb2.size
 clear hb2 HC2 q2
 rcases hm2 with rfl | ⟨hm02,hm12,k2⟩
 · go_wp2
   go_ret
   exact ⟨-1,rfl,hB2,.inl rfl⟩
 have hn2:¬ m2<0:=by omega
 generalize hg2:x.bs.length=g2 at hm12
 go_wp2
 go_ret
 exact ⟨m2,rfl,hB2,.inr ⟨hm02,by simp only [Cus.sz];omega,⟨k1,k2⟩⟩⟩
theorem qzCuss_c (a:Option Addr) (c:Nat) (xs:List Cus) (left:Int) (w:World) (h0:0≤left) (h1:left≤1048576) (hL:Cus.Ls 0 w a xs) (hl:xs.length≤9223372036854775807∧∀ i,i<xs.length→Cus.LB 9223372036854775807 (xs.getD i Cus.z)) :
    Calls Tryz.prog 28 #[.slice a xs.length c,.int .i64 left] w fun e w'=>∃ r:Int,e=.returned (.int .i64 r)∧Below w.heap.size w w'∧(r=-1∨(0≤r∧r+((xs.length+(xs.map Cus.sz).sum:Nat):Int)≤left∧xs.length≤1048576∧∀ i,i<xs.length→Cus.LB 1048576 (xs.getD i Cus.z))):=by
 obtain ⟨hn,hl⟩:=hl
 have hw:IntKind.i64.wrap (left-xs.length)=left-xs.length:=by rw [IntKind.wrap_i64];omega
 by_cases h:left-xs.length<0
 · clear hL
   go_enter Tryz.func28,Tryz.ntmps28
   go_wp2
   go_ret
   exact ⟨-1,rfl,Below.refl _ _,.inl rfl⟩
 · have HL:=Hm hL
   have Hl:=Hm hl
   clear hL hl
   go_enter Tryz.func28,Tryz.ntmps28
   go_wp2
   go_loopw [1,5] (fun q i wr=>∃ (k:Nat) (r:Int),k≤xs.length∧i=.int .i64 k∧q=.int .i64 r∧0≤r∧r+(((xs.take k).map Cus.sz).sum:Int)≤left-xs.length∧(∀ i,i<k→Cus.LB 1048576 (xs.getD i Cus.z))∧Below w.heap.size w wr) (fun _ i _=>xs.length-(intOf i).toNat)
   case atStart=>exact ⟨0,_,Nat.zero_le _,rfl,rfl,by omega,by simp,fun i hi=>by omega,Below.refl _ _⟩
   case round =>
    obtain ⟨k,r,hk,rfl,rfl,hr0,hr1,hall,hb⟩:=hrel
    by_cases hlt:k<xs.length
    · rcases HL.out.up (up_below hb) with hx | ⟨b,o,ea,_,hc⟩
      · subst hx;simp at hlt
      subst ea
      have hxk:=hc k hlt
      have hlk:=Hl.out k hlt
      have hki:(k:Int)<(xs.length:Int):=by omega
      obtain ⟨x,hx⟩:∃ x,x=xs.getD k Cus.z:=⟨_,rfl⟩
      rw [← hx] at hxk hlk
      obtain ⟨a1,c1,⟨q0,q1,q2⟩,hi⟩:=hxk
      have HX:=Hm hx
      have HT:=Hm (sum_step (f:=Cus.sz) Cus.z xs k hlt)
      have HA:=Hm hall
      have HS:=Hm (qzCus_c x a1 c1 r wr hr0 (by omega) hi hlk)
      clear hx hc hall HL hi hlk Hl
      go_wp2_with fail
      refine HS.out.mono ?_
      rintro e w1 ⟨r1,rfl,hb1,hr1'⟩
      have hb2:Below w.heap.size w w1:=hb.trans (hb1.mono hb.size)
      clear hb1 q0 q1 q2 HS
      rcases hr1' with rfl | ⟨hr2,hr3,hr4⟩
      · go_wp2
        go_ret
        exact ⟨-1,rfl,hb2,.inl rfl⟩
      · have f:¬ r1<0:=by omega
        have HR:=Hm hr4
        clear hr4
        go_wp2
        go_roundw
        case rel=>exact ⟨k+1,r1,by omega,by go_num,rfl,hr2,by rw [HT.out,← HX.out];push_cast;omega,fun i hi=>by
         rcases (by omega:i<k∨i=k) with h | h
         · exact HA.out i h
         · subst h;rw [← HX.out];exact HR.out,hb2⟩
        case measure=>simp [intOf];omega
    · have e:k=xs.length:=by omega
      subst e
      go_wp2
      go_ret
      exact ⟨r,rfl,hb,.inr ⟨hr0,by rw [List.take_length] at hr1;push_cast;omega,by omega,hall⟩⟩
open Go.RowKit Go.Sort
theorem qzMod_c (x:Mod) (a1:Option Addr) (c1:Nat) (a2:Option Addr) (c2:Nat) (a3:Option Addr) (c3:Nat) (a4:Option Addr) (c4:Nat) (a5:Option Addr) (c5:Nat) (a6:Option Addr) (c6:Nat) (a7:Option Addr) (c7:Nat) (a8:Option Addr) (c8:Nat) (a9:Option Addr) (c9:Nat) (a10:Option Addr) (c10:Nat) (a11:Option Addr) (c11:Nat) (left:Int) (w:World) (h0:0≤left) (h1:left≤1048576) (hI:Mod.Is 0 w x a1 a2 a3 a4 a5 a6 a7 a8 a9 a10 a11) (hl:Mod.LB 9223372036854775807 x) :
    Calls Tryz.prog 6 #[.agg #[.slice a1 x.types.length c1,.slice a2 x.imps.length c2,.slice a3 x.funcs.length c3,.slice a4 x.tabs.length c4,.slice a5 x.mems.length c5,.slice a6 x.globs.length c6,.slice a7 x.exps.length c7,.bool x.hasS,.int .i64 x.start,.slice a8 x.elems.length c8,.slice a9 x.codes.length c9,.slice a10 x.datas.length c10,.slice a11 x.customs.length c11],.int .i64 left] w fun e w'=>∃ r:Int,e=.returned (.int .i64 r)∧Below w.heap.size w w'∧(r=-1∨(0≤r∧r+(Mod.sz x:Int)≤left∧Mod.LB 1048576 x)):=by
 obtain ⟨l0,l1,l2,l3,l4,l5,l6,l9,l10,l11,l12⟩:=hl
 obtain ⟨r1,r2,r3,r4,r5,r6,r7,r8,r9,r10,r11⟩:=hI
 have R1:=Hm r1
 have R2:=Hm r2
 have R3:=Hm r3
 have R4:=Hm r4
 have R5:=Hm r5
 have R6:=Hm r6
 have R7:=Hm r7
 have R8:=Hm r8
 have R9:=Hm r9
 have R10:=Hm r10
 have R11:=Hm r11
 clear r1 r2 r3 r4 r5 r6 r7 r8 r9 r10 r11
 go_enter Tryz.func6,Tryz.ntmps6
 go_upto_region 1 with fail
 refine wp_gen (fun W=>(W.cell? ⟨w.heap.size,0,none⟩=some (.slice a1 x.types.length c1)∧W.cell? ⟨w.heap.size,1,none⟩=some (.slice a2 x.imps.length c2)∧W.cell? ⟨w.heap.size,2,none⟩=some (.slice a3 x.funcs.length c3)∧W.cell? ⟨w.heap.size,3,none⟩=some (.slice a4 x.tabs.length c4)∧W.cell? ⟨w.heap.size,4,none⟩=some (.slice a5 x.mems.length c5)∧W.cell? ⟨w.heap.size,5,none⟩=some (.slice a6 x.globs.length c6)∧W.cell? ⟨w.heap.size,6,none⟩=some (.slice a7 x.exps.length c7)∧W.cell? ⟨w.heap.size,9,none⟩=some (.slice a8 x.elems.length c8)∧W.cell? ⟨w.heap.size,10,none⟩=some (.slice a9 x.codes.length c9)∧W.cell? ⟨w.heap.size,11,none⟩=some (.slice a10 x.datas.length c10)∧W.cell? ⟨w.heap.size,12,none⟩=some (.slice a11 x.customs.length c11))∧Below w.heap.size w W∧w.heap.size<W.heap.size) ⟨⟨cell_new rfl rfl,cell_new rfl rfl,cell_new rfl rfl,cell_new rfl rfl,cell_new rfl rfl,cell_new rfl rfl,cell_new rfl rfl,cell_new rfl rfl,cell_new rfl rfl,cell_new rfl rfl,cell_new rfl rfl⟩,(Below.refl _ _).alloc (Nat.le_refl _) _,by simp⟩ ?_
 rintro W ⟨⟨q0,q1,q2,q3,q4,q5,q6,q9,q10,q11,q12⟩,hb,hlt⟩
 have HC0:=Hm (qzFTypes_c a1 c1 x.types left W (by omega) (by omega) (R1.out.up (up_below hb)) l0)
 go_wp2_with fail
 refine HC0.out.mono ?_
 rintro e W0 ⟨m0,rfl,hb0,hm0⟩
 have hB0:Below w.heap.size w W0:=hb.trans (hb0.mono hb.size)
 have hL0:w.heap.size<W0.heap.size:=Nat.lt_of_lt_of_le hlt hb0.size
 have q1:=(hb0.cell (p:=⟨w.heap.size,1,none⟩) hlt).trans q1
 have q2:=(hb0.cell (p:=⟨w.heap.size,2,none⟩) hlt).trans q2
 have q3:=(hb0.cell (p:=⟨w.heap.size,3,none⟩) hlt).trans q3
 have q4:=(hb0.cell (p:=⟨w.heap.size,4,none⟩) hlt).trans q4
 have q5:=(hb0.cell (p:=⟨w.heap.size,5,none⟩) hlt).trans q5
 have q6:=(hb0.cell (p:=⟨w.heap.size,6,none⟩) hlt).trans q6
 have q9:=(hb0.cell (p:=⟨w.heap.size,9,none⟩) hlt).trans q9
 have q10:=(hb0.cell (p:=⟨w.heap.size,10,none⟩) hlt).trans q10
 have q11:=(hb0.cell (p:=⟨w.heap.size,11,none⟩) hlt).trans q11
 have q12:=(hb0.cell (p:=⟨w.heap.size,12,none⟩) hlt).trans q12
 clear hb0 HC0 q0
 rcases hm0 with rfl | ⟨hm00,hm10,k0⟩
 · go_wp2
   go_ret
   exact ⟨-1,rfl,hB0,.inl rfl⟩
 have hn0:¬ m0<0:=by omega
 generalize hg0:(x.types.length+(x.types.map FType.sz).sum)=g0 at hm10
 go_upto_region 4 with fail
 have HC1:=Hm (qzImps_c a2 c2 x.imps m0 W0 (by omega) (by omega) (R2.out.up (up_below hB0)) l1)
 go_wp2_with fail
 refine HC1.out.mono ?_
 rintro e W1 ⟨m1,rfl,hb1,hm1⟩
 have hB1:Below w.heap.size w W1:=hB0.trans (hb1.mono hB0.size)
 have hL1:w.heap.size<W1.heap.size:=Nat.lt_of_lt_of_le hL0 hb1.size
 have q2:=(hb1.cell (p:=⟨w.heap.size,2,none⟩) hL0).trans q2
 have q3:=(hb1.cell (p:=⟨w.heap.size,3,none⟩) hL0).trans q3
 have q4:=(hb1.cell (p:=⟨w.heap.size,4,none⟩) hL0).trans q4
 have q5:=(hb1.cell (p:=⟨w.heap.size,5,none⟩) hL0).trans q5
 have q6:=(hb1.cell (p:=⟨w.heap.size,6,none⟩) hL0).trans q6
 have q9:=(hb1.cell (p:=⟨w.heap.size,9,none⟩) hL0).trans q9
 have q10:=(hb1.cell (p:=⟨w.heap.size,10,none⟩) hL0).trans q10
 have q11:=(hb1.cell (p:=⟨w.heap.size,11,none⟩) hL0).trans q11
 have q12:=(hb1.cell (p:=⟨w.heap.size,12,none⟩) hL0).trans q12
 clear hb1 HC1 q1
 rcases hm1 with rfl | ⟨hm01,hm11,k1⟩
 · go_wp2
   go_ret
   exact ⟨-1,rfl,hB1,.inl rfl⟩
 have hn1:¬ m1<0:=by omega
 generalize hg1:(x.imps.length+(x.imps.map Imp.sz).sum)=g1 at hm11
 go_upto_region 7 with fail
 have HC2:=Hm (qzInts_c a3 x.funcs.length c3 m1 W1 (by omega) (by omega) l2)
 go_wp2_with fail
 refine HC2.out.mono ?_
 rintro e W2 ⟨m2,rfl,hb2,hm2⟩
 have hB2:Below w.heap.size w W2:=hB1.trans (hb2.mono hB1.size)
 have hL2:w.heap.size<W2.heap.size:=Nat.lt_of_lt_of_le hL1 hb2.size
 have q3:=(hb2.cell (p:=⟨w.heap.size,3,none⟩) hL1).trans q3
 have q4:=(hb2.cell (p:=⟨w.heap.size,4,none⟩) hL1).trans q4
 have q5:=(hb2.cell (p:=⟨w.heap.size,5,none⟩) hL1).trans q5
 have q6:=(hb2.cell (p:=⟨w.heap.size,6,none⟩) hL1).trans q6
 have q9:=(hb2.cell (p:=⟨w.heap.size,9,none⟩) hL1).trans q9
 have q10:=(hb2.cell (p:=⟨w.heap.size,10,none⟩) hL1).trans q10
 have q11:=(hb2.cell (p:=⟨w.heap.size,11,none⟩) hL1).trans q11
 have q12:=(hb2.cell (p:=⟨w.heap.size,12,none⟩) hL1).trans q12
 clear hb2 HC2 q2
 rcases hm2 with rfl | ⟨hm02,hm12,k2⟩
 · go_wp2
   go_ret
   exact ⟨-1,rfl,hB2,.inl rfl⟩
 have hn2:¬ m2<0:=by omega
 generalize hg2:x.funcs.length=g2 at hm12
 go_upto_region 10 with fail
 have HC3:=Hm (qzLimitss_c a4 x.tabs.length c4 m2 W2 (by omega) (by omega) l3.1)
 go_wp2_with fail
 refine HC3.out.mono ?_
 rintro e W3 ⟨m3,rfl,hb3,hm3⟩
 have hB3:Below w.heap.size w W3:=hB2.trans (hb3.mono hB2.size)
 have hL3:w.heap.size<W3.heap.size:=Nat.lt_of_lt_of_le hL2 hb3.size
 have q4:=(hb3.cell (p:=⟨w.heap.size,4,none⟩) hL2).trans q4
 have q5:=(hb3.cell (p:=⟨w.heap.size,5,none⟩) hL2).trans q5
 have q6:=(hb3.cell (p:=⟨w.heap.size,6,none⟩) hL2).trans q6
 have q9:=(hb3.cell (p:=⟨w.heap.size,9,none⟩) hL2).trans q9
 have q10:=(hb3.cell (p:=⟨w.heap.size,10,none⟩) hL2).trans q10
 have q11:=(hb3.cell (p:=⟨w.heap.size,11,none⟩) hL2).trans q11
 have q12:=(hb3.cell (p:=⟨w.heap.size,12,none⟩) hL2).trans q12
 clear hb3 HC3 q3
 rcases hm3 with rfl | ⟨hm03,hm13,k3⟩
 · go_wp2
   go_ret
   exact ⟨-1,rfl,hB3,.inl rfl⟩
 have hn3:¬ m3<0:=by omega
 generalize hg3:x.tabs.length=g3 at hm13
 have k3:x.tabs.length≤1048576∧∀ i,i<x.tabs.length→Limits.LB 1048576 (x.tabs.getD i Limits.z):=⟨k3,fun _ _=>trivial⟩
 go_upto_region 13 with fail
 have HC4:=Hm (qzLimitss_c a5 x.mems.length c5 m3 W3 (by omega) (by omega) l4.1)
 go_wp2_with fail
 refine HC4.out.mono ?_
 rintro e W4 ⟨m4,rfl,hb4,hm4⟩
 have hB4:Below w.heap.size w W4:=hB3.trans (hb4.mono hB3.size)
 have hL4:w.heap.size<W4.heap.size:=Nat.lt_of_lt_of_le hL3 hb4.size
 have q5:=(hb4.cell (p:=⟨w.heap.size,5,none⟩) hL3).trans q5
 have q6:=(hb4.cell (p:=⟨w.heap.size,6,none⟩) hL3).trans q6
 have q9:=(hb4.cell (p:=⟨w.heap.size,9,none⟩) hL3).trans q9
 have q10:=(hb4.cell (p:=⟨w.heap.size,10,none⟩) hL3).trans q10
 have q11:=(hb4.cell (p:=⟨w.heap.size,11,none⟩) hL3).trans q11
 have q12:=(hb4.cell (p:=⟨w.heap.size,12,none⟩) hL3).trans q12
 clear hb4 HC4 q4
 rcases hm4 with rfl | ⟨hm04,hm14,k4⟩
 · go_wp2
   go_ret
   exact ⟨-1,rfl,hB4,.inl rfl⟩
 have hn4:¬ m4<0:=by omega
 generalize hg4:x.mems.length=g4 at hm14
 have k4:x.mems.length≤1048576∧∀ i,i<x.mems.length→Limits.LB 1048576 (x.mems.getD i Limits.z):=⟨k4,fun _ _=>trivial⟩
 go_upto_region 16 with fail
 have HC5:=Hm (qzGlobs_c a6 c6 x.globs m4 W4 (by omega) (by omega) (R6.out.up (up_below hB4)) l5)
 go_wp2_with fail
 refine HC5.out.mono ?_
 rintro e W5 ⟨m5,rfl,hb5,hm5⟩
 have hB5:Below w.heap.size w W5:=hB4.trans (hb5.mono hB4.size)
 have hL5:w.heap.size<W5.heap.size:=Nat.lt_of_lt_of_le hL4 hb5.size
 have q6:=(hb5.cell (p:=⟨w.heap.size,6,none⟩) hL4).trans q6
 have q9:=(hb5.cell (p:=⟨w.heap.size,9,none⟩) hL4).trans q9
 have q10:=(hb5.cell (p:=⟨w.heap.size,10,none⟩) hL4).trans q10
 have q11:=(hb5.cell (p:=⟨w.heap.size,11,none⟩) hL4).trans q11
 have q12:=(hb5.cell (p:=⟨w.heap.size,12,none⟩) hL4).trans q12
 clear hb5 HC5 q5
 rcases hm5 with rfl | ⟨hm05,hm15,k5⟩
 · go_wp2
   go_ret
   exact ⟨-1,rfl,hB5,.inl rfl⟩
 have hn5:¬ m5<0:=by omega
 generalize hg5:(x.globs.length+(x.globs.map Glob.sz).sum)=g5 at hm15
 go_upto_region 19 with fail
 have HC6:=Hm (qzExps_c a7 c7 x.exps m5 W5 (by omega) (by omega) (R7.out.up (up_below hB5)) l6)
 go_wp2_with fail
 refine HC6.out.mono ?_
 rintro e W6 ⟨m6,rfl,hb6,hm6⟩
 have hB6:Below w.heap.size w W6:=hB5.trans (hb6.mono hB5.size)
 have hL6:w.heap.size<W6.heap.size:=Nat.lt_of_lt_of_le hL5 hb6.size
 have q9:=(hb6.cell (p:=⟨w.heap.size,9,none⟩) hL5).trans q9
 have q10:=(hb6.cell (p:=⟨w.heap.size,10,none⟩) hL5).trans q10
 have q11:=(hb6.cell (p:=⟨w.heap.size,11,none⟩) hL5).trans q11
 have q12:=(hb6.cell (p:=⟨w.heap.size,12,none⟩) hL5).trans q12
 clear hb6 HC6 q6
 rcases hm6 with rfl | ⟨hm06,hm16,k6⟩
 · go_wp2
   go_ret
   exact ⟨-1,rfl,hB6,.inl rfl⟩
 have hn6:¬ m6<0:=by omega
 generalize hg6:(x.exps.length+(x.exps.map Exp.sz).sum)=g6 at hm16
 go_upto_region 22 with fail
 have HC9:=Hm (qzEles_c a8 c8 x.elems m6 W6 (by omega) (by omega) (R8.out.up (up_below hB6)) l9)
 go_wp2_with fail
 refine HC9.out.mono ?_
 rintro e W9 ⟨m9,rfl,hb9,hm9⟩
 have hB9:Below w.heap.size w W9:=hB6.trans (hb9.mono hB6.size)
 have hL9:w.heap.size<W9.heap.size:=Nat.lt_of_lt_of_le hL6 hb9.size
 have q10:=(hb9.cell (p:=⟨w.heap.size,10,none⟩) hL6).trans q10
 have q11:=(hb9.cell (p:=⟨w.heap.size,11,none⟩) hL6).trans q11
 have q12:=(hb9.cell (p:=⟨w.heap.size,12,none⟩) hL6).trans q12
 clear hb9 HC9 q9
 rcases hm9 with rfl | ⟨hm09,hm19,k9⟩
 · go_wp2
   go_ret
   exact ⟨-1,rfl,hB9,.inl rfl⟩
 have hn9:¬ m9<0:=by omega
 generalize hg9:(x.elems.length+(x.elems.map Ele.sz).sum)=g9 at hm19
 go_upto_region 25 with fail
 have HC10:=Hm (qzCods_c a9 c9 x.codes m9 W9 (by omega) (by omega) (R9.out.up (up_below hB9)) l10)
 go_wp2_with fail
 refine HC10.out.mono ?_
 rintro e W10 ⟨m10,rfl,hb10,hm10⟩
 have hB10:Below w.heap.size w W10:=hB9.trans (hb10.mono hB9.size)
 have hL10:w.heap.size<W10.heap.size:=Nat.lt_of_lt_of_le hL9 hb10.size
 have q11:=(hb10.cell (p:=⟨w.heap.size,11,none⟩) hL9).trans q11
 have q12:=(hb10.cell (p:=⟨w.heap.size,12,none⟩) hL9).trans q12
 clear hb10 HC10 q10
 rcases hm10 with rfl | ⟨hm010,hm110,k10⟩
 · go_wp2
   go_ret
   exact ⟨-1,rfl,hB10,.inl rfl⟩
 have hn10:¬ m10<0:=by omega
 generalize hg10:(x.codes.length+(x.codes.map Cod.sz).sum)=g10 at hm110
 go_upto_region 28 with fail
 have HC11:=Hm (qzDats_c a10 c10 x.datas m10 W10 (by omega) (by omega) (R10.out.up (up_below hB10)) l11)
 go_wp2_with fail
 refine HC11.out.mono ?_
 rintro e W11 ⟨m11,rfl,hb11,hm11⟩
 have hB11:Below w.heap.size w W11:=hB10.trans (hb11.mono hB10.size)
 have hL11:w.heap.size<W11.heap.size:=Nat.lt_of_lt_of_le hL10 hb11.size
 have q12:=(hb11.cell (p:=⟨w.heap.size,12,none⟩) hL10).trans q12
 clear hb11 HC11 q11
 rcases hm11 with rfl | ⟨hm011,hm111,k11⟩
 · go_wp2
   go_ret
   exact ⟨-1,rfl,hB11,.inl rfl⟩
 have hn11:¬ m11<0:=by omega
 generalize hg11:(x.datas.length+(x.datas.map Dat.sz).sum)=g11 at hm111
 go_upto_region 31 with fail
 have HC12:=Hm (qzCuss_c a11 c11 x.customs m11 W11 (by omega) (by omega) (R11.out.up (up_below hB11)) l12)
 go_wp2_with fail
 refine HC12.out.mono ?_
 rintro e W12 ⟨m12,rfl,hb12,hm12⟩
 have hB12:Below w.heap.size w W12:=hB11.trans (hb12.mono hB11.size)
 have hL12:w.heap.size<W12.heap.size:=Nat.lt_of_lt_of_le hL11 hb12.size
 clear hb12 HC12 q12
 rcases hm12 with rfl | ⟨hm012,hm112,k12⟩
 · go_wp2
   go_ret
   exact ⟨-1,rfl,hB12,.inl rfl⟩
 have hn12:¬ m12<0:=by omega
 generalize hg12:(x.customs.length+(x.customs.map Cus.sz).sum)=g12 at hm112
 go_wp2
 go_ret
 exact ⟨m12,rfl,hB12,.inr ⟨hm012,by simp only [Mod.sz];omega,⟨k0,k1,k2,k3,k4,k5,k6,k9,k10,k11,k12⟩⟩⟩
end Go.Proofs.YtdbmolambolmgaaGreat
