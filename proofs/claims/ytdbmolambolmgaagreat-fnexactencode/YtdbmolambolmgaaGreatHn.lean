import Derived.Test.YtdbmolambolmgaaGreatGn
set_option linter.all false
set_option maxHeartbeats 16000000
set_option maxRecDepth 100000
namespace Go.Proofs.YtdbmolambolmgaaGreat
open Go.RowKit Go.Sort
set_option maxRecDepth 100000
theorem sum_step {α:Type} {f:α→Nat} (z:α) (xs:List α) (k:Nat) (h:k<xs.length):((xs.take (k+1)).map f).sum=((xs.take k).map f).sum+f (xs.getD k z):=by
 rw [List.take_add_one,List.getElem?_eq_getElem h]
 rw [show xs.getD k z=xs[k] by simp [List.getD,h]]
 simp only [Option.toList,List.map_append,List.map_cons,List.map_nil,List.sum_append,List.sum_cons,List.sum_nil,Nat.add_zero]
def FType.sz (x:FType):Nat:=x.ps.length+x.rs.length
def In.sz (x:In):Nat:=x.l.length
def Imp.sz (x:Imp):Nat:=x.mod.size+x.nm.size
def Glob.sz (x:Glob):Nat:=(x.ini.length+(x.ini.map In.sz).sum)
def Exp.sz (x:Exp):Nat:=x.nm.size
def Ele.sz (x:Ele):Nat:=(x.off.length+(x.off.map In.sz).sum)+x.fs.length
def Cod.sz (x:Cod):Nat:=x.locs.length+(x.body.length+(x.body.map In.sz).sum)
def Dat.sz (x:Dat):Nat:=(x.off.length+(x.off.map In.sz).sum)+x.bs.length
def Cus.sz (x:Cus):Nat:=x.nm.size+x.bs.length
def Mod.sz (x:Mod):Nat:=(x.types.length+(x.types.map FType.sz).sum)+(x.imps.length+(x.imps.map Imp.sz).sum)+x.funcs.length+x.tabs.length+x.mems.length+(x.globs.length+(x.globs.map Glob.sz).sum)+(x.exps.length+(x.exps.map Exp.sz).sum)+(x.elems.length+(x.elems.map Ele.sz).sum)+(x.codes.length+(x.codes.map Cod.sz).sum)+(x.datas.length+(x.datas.map Dat.sz).sum)+(x.customs.length+(x.customs.map Cus.sz).sum)
theorem qzInts_c (a:Option Addr) (n c:Nat) (left:Int) (w:World) (h0:0≤left) (h1:left≤1048576) (hn:n≤9223372036854775807) :
    Calls Tryz.prog 21 #[.slice a n c,.int .i64 left] w fun e w'=>∃ r:Int,e=.returned (.int .i64 r)∧Below w.heap.size w w'∧(r=-1∨(0≤r∧r+(n:Int)≤left∧n≤1048576)):=by
 have hw:IntKind.i64.wrap (left-n)=left-n:=by rw [IntKind.wrap_i64];omega
 by_cases h:left-n<0
 · go_enter Tryz.func21,Tryz.ntmps21
   go_wp2
   go_ret
   exact ⟨-1,rfl,Below.refl _ _,.inl rfl⟩
 · go_enter Tryz.func21,Tryz.ntmps21
   go_wp2
   go_ret
   exact ⟨left-n,rfl,Below.refl _ _,.inr ⟨by omega,by omega,by omega⟩⟩
theorem qzBytes_c (a:Option Addr) (n c:Nat) (left:Int) (w:World) (h0:0≤left) (h1:left≤1048576) (hn:n≤9223372036854775807) :
    Calls Tryz.prog 168 #[.slice a n c,.int .i64 left] w fun e w'=>∃ r:Int,e=.returned (.int .i64 r)∧Below w.heap.size w w'∧(r=-1∨(0≤r∧r+(n:Int)≤left∧n≤1048576)):=by
 have hw:IntKind.i64.wrap (left-n)=left-n:=by rw [IntKind.wrap_i64];omega
 by_cases h:left-n<0
 · go_enter Tryz.func168,Tryz.ntmps168
   go_wp2
   go_ret
   exact ⟨-1,rfl,Below.refl _ _,.inl rfl⟩
 · go_enter Tryz.func168,Tryz.ntmps168
   go_wp2
   go_ret
   exact ⟨left-n,rfl,Below.refl _ _,.inr ⟨by omega,by omega,by omega⟩⟩
theorem qzLimitss_c (a:Option Addr) (n c:Nat) (left:Int) (w:World) (h0:0≤left) (h1:left≤1048576) (hn:n≤9223372036854775807) :
    Calls Tryz.prog 22 #[.slice a n c,.int .i64 left] w fun e w'=>∃ r:Int,e=.returned (.int .i64 r)∧Below w.heap.size w w'∧(r=-1∨(0≤r∧r+(n:Int)≤left∧n≤1048576)):=by
 have hw:IntKind.i64.wrap (left-n)=left-n:=by rw [IntKind.wrap_i64];omega
 by_cases h:left-n<0
 · go_enter Tryz.func22,Tryz.ntmps22
   go_wp2
   go_ret
   exact ⟨-1,rfl,Below.refl _ _,.inl rfl⟩
 · go_enter Tryz.func22,Tryz.ntmps22
   go_wp2
   go_ret
   exact ⟨left-n,rfl,Below.refl _ _,.inr ⟨by omega,by omega,by omega⟩⟩
theorem qzGrps_c (a:Option Addr) (n c:Nat) (left:Int) (w:World) (h0:0≤left) (h1:left≤1048576) (hn:n≤9223372036854775807) :
    Calls Tryz.prog 167 #[.slice a n c,.int .i64 left] w fun e w'=>∃ r:Int,e=.returned (.int .i64 r)∧Below w.heap.size w w'∧(r=-1∨(0≤r∧r+(n:Int)≤left∧n≤1048576)):=by
 have hw:IntKind.i64.wrap (left-n)=left-n:=by rw [IntKind.wrap_i64];omega
 by_cases h:left-n<0
 · go_enter Tryz.func167,Tryz.ntmps167
   go_wp2
   go_ret
   exact ⟨-1,rfl,Below.refl _ _,.inl rfl⟩
 · go_enter Tryz.func167,Tryz.ntmps167
   go_wp2
   go_ret
   exact ⟨left-n,rfl,Below.refl _ _,.inr ⟨by omega,by omega,by omega⟩⟩
theorem qzFType_c (x:FType) (a1:Option Addr) (c1:Nat) (a2:Option Addr) (c2:Nat) (left:Int) (w:World) (h0:0≤left) (h1:left≤1048576) (hI:FType.Is 0 w x a1 a2) (hl:FType.LB 9223372036854775807 x) :
    Calls Tryz.prog 100 #[.agg #[.slice a1 x.ps.length c1,.slice a2 x.rs.length c2],.int .i64 left] w fun e w'=>∃ r:Int,e=.returned (.int .i64 r)∧Below w.heap.size w w'∧(r=-1∨(0≤r∧r+(FType.sz x:Int)≤left∧FType.LB 1048576 x)):=by
 obtain ⟨l0,l1⟩:=hl
 obtain ⟨r1,r2⟩:=hI
 have R1:=Hm r1
 have R2:=Hm r2
 clear r1 r2
 go_enter Tryz.func100,Tryz.ntmps100
 go_upto_region 1 with fail
 refine wp_gen (fun W=>(W.cell? ⟨w.heap.size,0,none⟩=some (.slice a1 x.ps.length c1)∧W.cell? ⟨w.heap.size,1,none⟩=some (.slice a2 x.rs.length c2))∧Below w.heap.size w W∧w.heap.size<W.heap.size) ⟨⟨cell_new rfl rfl,cell_new rfl rfl⟩,(Below.refl _ _).alloc (Nat.le_refl _) _,by simp⟩ ?_
 rintro W ⟨⟨q0,q1⟩,hb,hlt⟩
 have HC0:=Hm (qzInts_c a1 x.ps.length c1 left W (by omega) (by omega) l0)
 go_wp2_with fail
 refine HC0.out.mono ?_
 rintro e W0 ⟨m0,rfl,hb0,hm0⟩
 have hB0:Below w.heap.size w W0:=hb.trans (hb0.mono hb.size)
 have hL0:w.heap.size<W0.heap.size:=Nat.lt_of_lt_of_le hlt hb0.size
 have q1:=(hb0.cell (p:=⟨w.heap.size,1,none⟩) hlt).trans q1
 clear hb0 HC0 q0
 rcases hm0 with rfl | ⟨hm00,hm10,k0⟩
 · go_wp2
   go_ret
   exact ⟨-1,rfl,hB0,.inl rfl⟩
 have hn0:¬ m0<0:=by omega
 generalize hg0:x.ps.length=g0 at hm10
 go_upto_region 4 with fail
 have HC1:=Hm (qzInts_c a2 x.rs.length c2 m0 W0 (by omega) (by omega) l1)
 go_wp2_with fail
 refine HC1.out.mono ?_
 rintro e W1 ⟨m1,rfl,hb1,hm1⟩
 have hB1:Below w.heap.size w W1:=hB0.trans (hb1.mono hB0.size)
 have hL1:w.heap.size<W1.heap.size:=Nat.lt_of_lt_of_le hL0 hb1.size
 clear hb1 HC1 q1
 rcases hm1 with rfl | ⟨hm01,hm11,k1⟩
 · go_wp2
   go_ret
   exact ⟨-1,rfl,hB1,.inl rfl⟩
 have hn1:¬ m1<0:=by omega
 generalize hg1:x.rs.length=g1 at hm11
 go_wp2
 go_ret
 exact ⟨m1,rfl,hB1,.inr ⟨hm01,by simp only [FType.sz];omega,⟨k0,k1⟩⟩⟩
theorem qzFTypes_c (a:Option Addr) (c:Nat) (xs:List FType) (left:Int) (w:World) (h0:0≤left) (h1:left≤1048576) (hL:FType.Ls 0 w a xs) (hl:xs.length≤9223372036854775807∧∀ i,i<xs.length→FType.LB 9223372036854775807 (xs.getD i FType.z)) :
    Calls Tryz.prog 19 #[.slice a xs.length c,.int .i64 left] w fun e w'=>∃ r:Int,e=.returned (.int .i64 r)∧Below w.heap.size w w'∧(r=-1∨(0≤r∧r+((xs.length+(xs.map FType.sz).sum:Nat):Int)≤left∧xs.length≤1048576∧∀ i,i<xs.length→FType.LB 1048576 (xs.getD i FType.z))):=by
 obtain ⟨hn,hl⟩:=hl
 have hw:IntKind.i64.wrap (left-xs.length)=left-xs.length:=by rw [IntKind.wrap_i64];omega
 by_cases h:left-xs.length<0
 · clear hL
   go_enter Tryz.func19,Tryz.ntmps19
   go_wp2
   go_ret
   exact ⟨-1,rfl,Below.refl _ _,.inl rfl⟩
 · have HL:=Hm hL
   have Hl:=Hm hl
   clear hL hl
   go_enter Tryz.func19,Tryz.ntmps19
   go_wp2
   go_loopw [1,5] (fun q i wr=>∃ (k:Nat) (r:Int),k≤xs.length∧i=.int .i64 k∧q=.int .i64 r∧0≤r∧r+(((xs.take k).map FType.sz).sum:Int)≤left-xs.length∧(∀ i,i<k→FType.LB 1048576 (xs.getD i FType.z))∧Below w.heap.size w wr) (fun _ i _=>xs.length-(intOf i).toNat)
   case atStart=>exact ⟨0,_,Nat.zero_le _,rfl,rfl,by omega,by simp,fun i hi=>by omega,Below.refl _ _⟩
   case round =>
    obtain ⟨k,r,hk,rfl,rfl,hr0,hr1,hall,hb⟩:=hrel
    by_cases hlt:k<xs.length
    · rcases HL.out.up (up_below hb) with hx | ⟨b,o,ea,_,hc⟩
      · subst hx;simp at hlt
      subst ea
      have hxk:=hc k hlt
      have hlk:=Hl.out k hlt
      have hki:(k:Int)<(xs.length:Int):=by omega
      obtain ⟨x,hx⟩:∃ x,x=xs.getD k FType.z:=⟨_,rfl⟩
      rw [← hx] at hxk hlk
      obtain ⟨a1,c1,a2,c2,⟨q0,q1⟩,hi⟩:=hxk
      have HX:=Hm hx
      have HT:=Hm (sum_step (f:=FType.sz) FType.z xs k hlt)
      have HA:=Hm hall
      have HS:=Hm (qzFType_c x a1 c1 a2 c2 r wr hr0 (by omega) hi hlk)
      clear hx hc hall HL hi hlk Hl
      go_wp2_with fail
      refine HS.out.mono ?_
      rintro e w1 ⟨r1,rfl,hb1,hr1'⟩
      have hb2:Below w.heap.size w w1:=hb.trans (hb1.mono hb.size)
      clear hb1 q0 q1 HS
      rcases hr1' with rfl | ⟨hr2,hr3,hr4⟩
      · go_wp2
        go_ret
        exact ⟨-1,rfl,hb2,.inl rfl⟩
      · have f:¬ r1<0:=by omega
        have HR:=Hm hr4
        clear hr4
        go_wp2
        go_roundw
        case rel=>exact ⟨k+1,r1,by omega,by go_num,rfl,hr2,by rw [HT.out,← HX.out];push_cast;omega,fun i hi=>by
         rcases (by omega:i<k∨i=k) with h | h
         · exact HA.out i h
         · subst h;rw [← HX.out];exact HR.out,hb2⟩
        case measure=>simp [intOf];omega
    · have e:k=xs.length:=by omega
      subst e
      go_wp2
      go_ret
      exact ⟨r,rfl,hb,.inr ⟨hr0,by rw [List.take_length] at hr1;push_cast;omega,by omega,hall⟩⟩
theorem qzIn_c (x:In) (a1:Option Addr) (c1:Nat) (left:Int) (w:World) (h0:0≤left) (h1:left≤1048576) (hI:In.Is 0 w x a1) (hl:In.LB 9223372036854775807 x) :
    Calls Tryz.prog 213 #[.agg #[.int .i64 x.op,.int .i64 x.a,.int .i64 x.b,.int .u64 x.v,.slice a1 x.l.length c1],.int .i64 left] w fun e w'=>∃ r:Int,e=.returned (.int .i64 r)∧Below w.heap.size w w'∧(r=-1∨(0≤r∧r+(In.sz x:Int)≤left∧In.LB 1048576 x)):=by
 have l4:x.l.length≤9223372036854775807:=hl
 have r1:=hI
 clear hI
 have R1:=Hm r1
 clear r1
 go_enter Tryz.func213,Tryz.ntmps213
 go_upto_region 1 with fail
 refine wp_gen (fun W=>(W.cell? ⟨w.heap.size,4,none⟩=some (.slice a1 x.l.length c1))∧Below w.heap.size w W∧w.heap.size<W.heap.size) ⟨cell_new rfl rfl,(Below.refl _ _).alloc (Nat.le_refl _) _,by simp⟩ ?_
 rintro W ⟨q4,hb,hlt⟩
 have HC4:=Hm (qzInts_c a1 x.l.length c1 left W (by omega) (by omega) l4)
 go_wp2_with fail
 refine HC4.out.mono ?_
 rintro e W4 ⟨m4,rfl,hb4,hm4⟩
 have hB4:Below w.heap.size w W4:=hb.trans (hb4.mono hb.size)
 have hL4:w.heap.size<W4.heap.size:=Nat.lt_of_lt_of_le hlt hb4.size
 clear hb4 HC4 q4
 rcases hm4 with rfl | ⟨hm04,hm14,k4⟩
 · go_wp2
   go_ret
   exact ⟨-1,rfl,hB4,.inl rfl⟩
 have hn4:¬ m4<0:=by omega
 generalize hg4:x.l.length=g4 at hm14
 go_wp2
 go_ret
 exact ⟨m4,rfl,hB4,.inr ⟨hm04,by simp only [In.sz];omega,k4⟩⟩
theorem qzIns_c (a:Option Addr) (c:Nat) (xs:List In) (left:Int) (w:World) (h0:0≤left) (h1:left≤1048576) (hL:In.Ls 0 w a xs) (hl:xs.length≤9223372036854775807∧∀ i,i<xs.length→In.LB 9223372036854775807 (xs.getD i I0)) :
    Calls Tryz.prog 166 #[.slice a xs.length c,.int .i64 left] w fun e w'=>∃ r:Int,e=.returned (.int .i64 r)∧Below w.heap.size w w'∧(r=-1∨(0≤r∧r+((xs.length+(xs.map In.sz).sum:Nat):Int)≤left∧xs.length≤1048576∧∀ i,i<xs.length→In.LB 1048576 (xs.getD i I0))):=by
 obtain ⟨hn,hl⟩:=hl
 have hw:IntKind.i64.wrap (left-xs.length)=left-xs.length:=by rw [IntKind.wrap_i64];omega
 by_cases h:left-xs.length<0
 · clear hL
   go_enter Tryz.func166,Tryz.ntmps166
   go_wp2
   go_ret
   exact ⟨-1,rfl,Below.refl _ _,.inl rfl⟩
 · have HL:=Hm hL
   have Hl:=Hm hl
   clear hL hl
   go_enter Tryz.func166,Tryz.ntmps166
   go_wp2
   go_loopw [1,5] (fun q i wr=>∃ (k:Nat) (r:Int),k≤xs.length∧i=.int .i64 k∧q=.int .i64 r∧0≤r∧r+(((xs.take k).map In.sz).sum:Int)≤left-xs.length∧(∀ i,i<k→In.LB 1048576 (xs.getD i I0))∧Below w.heap.size w wr) (fun _ i _=>xs.length-(intOf i).toNat)
   case atStart=>exact ⟨0,_,Nat.zero_le _,rfl,rfl,by omega,by simp,fun i hi=>by omega,Below.refl _ _⟩
   case round =>
    obtain ⟨k,r,hk,rfl,rfl,hr0,hr1,hall,hb⟩:=hrel
    by_cases hlt:k<xs.length
    · rcases HL.out.up (up_below hb) with hx | ⟨b,o,ea,_,hc⟩
      · subst hx;simp at hlt
      subst ea
      have hxk:=hc k hlt
      have hlk:=Hl.out k hlt
      have hki:(k:Int)<(xs.length:Int):=by omega
      obtain ⟨x,hx⟩:∃ x,x=xs.getD k I0:=⟨_,rfl⟩
      rw [← hx] at hxk hlk
      obtain ⟨a1,c1,⟨q0,q1,q2,q3,q4⟩,hi⟩:=hxk
      have HX:=Hm hx
      have HT:=Hm (sum_step (f:=In.sz) I0 xs k hlt)
      have HA:=Hm hall
      have HS:=Hm (qzIn_c x a1 c1 r wr hr0 (by omega) hi hlk)
      clear hx hc hall HL hi hlk Hl
      go_wp2_with fail
      refine HS.out.mono ?_
      rintro e w1 ⟨r1,rfl,hb1,hr1'⟩
      have hb2:Below w.heap.size w w1:=hb.trans (hb1.mono hb.size)
      clear hb1 q0 q1 q2 q3 q4 HS
      rcases hr1' with rfl | ⟨hr2,hr3,hr4⟩
      · go_wp2
        go_ret
        exact ⟨-1,rfl,hb2,.inl rfl⟩
      · have f:¬ r1<0:=by omega
        have HR:=Hm hr4
        clear hr4
        go_wp2
        go_roundw
        case rel=>exact ⟨k+1,r1,by omega,by go_num,rfl,hr2,by rw [HT.out,← HX.out];push_cast;omega,fun i hi=>by
         rcases (by omega:i<k∨i=k) with h | h
         · exact HA.out i h
         · subst h;rw [← HX.out];exact HR.out,hb2⟩
        case measure=>simp [intOf];omega
    · have e:k=xs.length:=by omega
      subst e
      go_wp2
      go_ret
      exact ⟨r,rfl,hb,.inr ⟨hr0,by rw [List.take_length] at hr1;push_cast;omega,by omega,hall⟩⟩
theorem qzImp_c (x:Imp) (left:Int) (w:World) (h0:0≤left) (h1:left≤1048576) (hI:Imp.Is 0 w x) (hl:Imp.LB 9223372036854775807 x) :
    Calls Tryz.prog 101 #[.agg #[.string x.mod,.string x.nm,.int .i64 x.kind,.int .i64 x.ty,.int .i64 x.lim.min,.int .i64 x.lim.max,.bool x.lim.has,.int .i64 x.gl.ty,.bool x.gl.mu],.int .i64 left] w fun e w'=>∃ r:Int,e=.returned (.int .i64 r)∧Below w.heap.size w w'∧(r=-1∨(0≤r∧r+(Imp.sz x:Int)≤left∧Imp.LB 1048576 x)):=by
 obtain ⟨l0,l1⟩:=hl
 go_enter Tryz.func101,Tryz.ntmps101
 go_upto_region 1 with fail
 refine wp_gen (fun W=>(W.cell? ⟨w.heap.size,0,none⟩=some (.string x.mod)∧W.cell? ⟨w.heap.size,1,none⟩=some (.string x.nm))∧Below w.heap.size w W∧w.heap.size<W.heap.size) ⟨⟨cell_new rfl rfl,cell_new rfl rfl⟩,(Below.refl _ _).alloc (Nat.le_refl _) _,by simp⟩ ?_
 rintro W ⟨⟨q0,q1⟩,hb,hlt⟩
 have hw0:IntKind.i64.wrap (left-(x.mod.size:Int))=left-(x.mod.size:Int):=by rw [IntKind.wrap_i64];omega
 by_cases hn0:left-(x.mod.size:Int)<0
 · go_wp2
   go_ret
   exact ⟨-1,rfl,hb,.inl rfl⟩
 have k0:x.mod.size≤1048576:=by omega
 have hm00:0≤left-(x.mod.size:Int):=by omega
 have hm10:left-(x.mod.size:Int)+(x.mod.size:Int)≤left:=by omega
 go_upto_region 4 with fail
 have hw1:IntKind.i64.wrap ((left-(x.mod.size:Int))-(x.nm.size:Int))=(left-(x.mod.size:Int))-(x.nm.size:Int):=by rw [IntKind.wrap_i64];omega
 by_cases hn1:(left-(x.mod.size:Int))-(x.nm.size:Int)<0
 · go_wp2
   go_ret
   exact ⟨-1,rfl,hb,.inl rfl⟩
 have k1:x.nm.size≤1048576:=by omega
 have hm01:0≤(left-(x.mod.size:Int))-(x.nm.size:Int):=by omega
 have hm11:(left-(x.mod.size:Int))-(x.nm.size:Int)+(x.nm.size:Int)≤(left-(x.mod.size:Int)):=by omega
 go_wp2
 go_ret
 exact ⟨((left-(x.mod.size:Int))-(x.nm.size:Int)),rfl,hb,.inr ⟨hm01,by simp only [Imp.sz];omega,⟨k0,k1⟩⟩⟩
theorem qzImps_c (a:Option Addr) (c:Nat) (xs:List Imp) (left:Int) (w:World) (h0:0≤left) (h1:left≤1048576) (hL:Imp.Ls 0 w a xs) (hl:xs.length≤9223372036854775807∧∀ i,i<xs.length→Imp.LB 9223372036854775807 (xs.getD i Imp.z)) :
    Calls Tryz.prog 20 #[.slice a xs.length c,.int .i64 left] w fun e w'=>∃ r:Int,e=.returned (.int .i64 r)∧Below w.heap.size w w'∧(r=-1∨(0≤r∧r+((xs.length+(xs.map Imp.sz).sum:Nat):Int)≤left∧xs.length≤1048576∧∀ i,i<xs.length→Imp.LB 1048576 (xs.getD i Imp.z))):=by
 obtain ⟨hn,hl⟩:=hl
 have hw:IntKind.i64.wrap (left-xs.length)=left-xs.length:=by rw [IntKind.wrap_i64];omega
 by_cases h:left-xs.length<0
 · clear hL
   go_enter Tryz.func20,Tryz.ntmps20
   go_wp2
   go_ret
   exact ⟨-1,rfl,Below.refl _ _,.inl rfl⟩
 · have HL:=Hm hL
   have Hl:=Hm hl
   clear hL hl
   go_enter Tryz.func20,Tryz.ntmps20
   go_wp2
   go_loopw [1,5] (fun q i wr=>∃ (k:Nat) (r:Int),k≤xs.length∧i=.int .i64 k∧q=.int .i64 r∧0≤r∧r+(((xs.take k).map Imp.sz).sum:Int)≤left-xs.length∧(∀ i,i<k→Imp.LB 1048576 (xs.getD i Imp.z))∧Below w.heap.size w wr) (fun _ i _=>xs.length-(intOf i).toNat)
   case atStart=>exact ⟨0,_,Nat.zero_le _,rfl,rfl,by omega,by simp,fun i hi=>by omega,Below.refl _ _⟩
   case round =>
    obtain ⟨k,r,hk,rfl,rfl,hr0,hr1,hall,hb⟩:=hrel
    by_cases hlt:k<xs.length
    · rcases HL.out.up (up_below hb) with hx | ⟨b,o,ea,_,hc⟩
      · subst hx;simp at hlt
      subst ea
      have hxk:=hc k hlt
      have hlk:=Hl.out k hlt
      have hki:(k:Int)<(xs.length:Int):=by omega
      obtain ⟨x,hx⟩:∃ x,x=xs.getD k Imp.z:=⟨_,rfl⟩
      rw [← hx] at hxk hlk
      obtain ⟨⟨q0,q1,q2,q3,q4,q5,q6,q7,q8⟩,hi⟩:=hxk
      have HX:=Hm hx
      have HT:=Hm (sum_step (f:=Imp.sz) Imp.z xs k hlt)
      have HA:=Hm hall
      have HS:=Hm (qzImp_c x r wr hr0 (by omega) hi hlk)
      clear hx hc hall HL hi hlk Hl
      go_wp2_with fail
      refine HS.out.mono ?_
      rintro e w1 ⟨r1,rfl,hb1,hr1'⟩
      have hb2:Below w.heap.size w w1:=hb.trans (hb1.mono hb.size)
      clear hb1 q0 q1 q2 q3 q4 q5 q6 q7 q8 HS
      rcases hr1' with rfl | ⟨hr2,hr3,hr4⟩
      · go_wp2
        go_ret
        exact ⟨-1,rfl,hb2,.inl rfl⟩
      · have f:¬ r1<0:=by omega
        have HR:=Hm hr4
        clear hr4
        go_wp2
        go_roundw
        case rel=>exact ⟨k+1,r1,by omega,by go_num,rfl,hr2,by rw [HT.out,← HX.out];push_cast;omega,fun i hi=>by
         rcases (by omega:i<k∨i=k) with h | h
         · exact HA.out i h
         · subst h;rw [← HX.out];exact HR.out,hb2⟩
        case measure=>simp [intOf];omega
    · have e:k=xs.length:=by omega
      subst e
      go_wp2
      go_ret
      exact ⟨r,rfl,hb,.inr ⟨hr0,by rw [List.take_length] at hr1;push_cast;omega,by omega,hall⟩⟩
open Go.RowKit Go.Sort
theorem qzGlob_c (x:Glob) (a1:Option Addr) (c1:Nat) (left:Int) (w:World) (h0:0≤left) (h1:left≤1048576) (hI:Glob.Is 0 w x a1) (hl:Glob.LB 9223372036854775807 x) :
    Calls Tryz.prog 102 #[.agg #[.int .i64 x.ty.ty,.bool x.ty.mu,.slice a1 x.ini.length c1],.int .i64 left] w fun e w'=>∃ r:Int,e=.returned (.int .i64 r)∧Below w.heap.size w w'∧(r=-1∨(0≤r∧r+(Glob.sz x:Int)≤left∧Glob.LB 1048576 x)):=by
 have l2:=hl
 have r1:=hI
 clear hI
 have R1:=Hm r1
 clear r1
 go_enter Tryz.func102,Tryz.ntmps102
 go_upto_region 1 with fail
 refine wp_gen (fun W=>(W.cell? ⟨w.heap.size,2,none⟩=some (.slice a1 x.ini.length c1))∧Below w.heap.size w W∧w.heap.size<W.heap.size) ⟨cell_new rfl rfl,(Below.refl _ _).alloc (Nat.le_refl _) _,by simp⟩ ?_
 rintro W ⟨q2,hb,hlt⟩
 have HC2:=Hm (qzIns_c a1 c1 x.ini left W (by omega) (by omega) (R1.out.up (up_below hb)) l2)
 go_wp2_with fail
 refine HC2.out.mono ?_
 rintro e W2 ⟨m2,rfl,hb2,hm2⟩
 have hB2:Below w.heap.size w W2:=hb.trans (hb2.mono hb.size)
 have hL2:w.heap.size<W2.heap.size:=Nat.lt_of_lt_of_le hlt hb2.size
 clear hb2 HC2 q2
 rcases hm2 with rfl | ⟨hm02,hm12,k2⟩
 · go_wp2
   go_ret
   exact ⟨-1,rfl,hB2,.inl rfl⟩
 have hn2:¬ m2<0:=by omega
 generalize hg2:(x.ini.length+(x.ini.map In.sz).sum)=g2 at hm12
 go_wp2
 go_ret
 exact ⟨m2,rfl,hB2,.inr ⟨hm02,by simp only [Glob.sz];omega,k2⟩⟩
theorem qzGlobs_c (a:Option Addr) (c:Nat) (xs:List Glob) (left:Int) (w:World) (h0:0≤left) (h1:left≤1048576) (hL:Glob.Ls 0 w a xs) (hl:xs.length≤9223372036854775807∧∀ i,i<xs.length→Glob.LB 9223372036854775807 (xs.getD i Glob.z)) :
    Calls Tryz.prog 23 #[.slice a xs.length c,.int .i64 left] w fun e w'=>∃ r:Int,e=.returned (.int .i64 r)∧Below w.heap.size w w'∧(r=-1∨(0≤r∧r+((xs.length+(xs.map Glob.sz).sum:Nat):Int)≤left∧xs.length≤1048576∧∀ i,i<xs.length→Glob.LB 1048576 (xs.getD i Glob.z))):=by
 obtain ⟨hn,hl⟩:=hl
 have hw:IntKind.i64.wrap (left-xs.length)=left-xs.length:=by rw [IntKind.wrap_i64];omega
 by_cases h:left-xs.length<0
 · clear hL
   go_enter Tryz.func23,Tryz.ntmps23
   go_wp2
   go_ret
   exact ⟨-1,rfl,Below.refl _ _,.inl rfl⟩
 · have HL:=Hm hL
   have Hl:=Hm hl
   clear hL hl
   go_enter Tryz.func23,Tryz.ntmps23
   go_wp2
   go_loopw [1,5] (fun q i wr=>∃ (k:Nat) (r:Int),k≤xs.length∧i=.int .i64 k∧q=.int .i64 r∧0≤r∧r+(((xs.take k).map Glob.sz).sum:Int)≤left-xs.length∧(∀ i,i<k→Glob.LB 1048576 (xs.getD i Glob.z))∧Below w.heap.size w wr) (fun _ i _=>xs.length-(intOf i).toNat)
   case atStart=>exact ⟨0,_,Nat.zero_le _,rfl,rfl,by omega,by simp,fun i hi=>by omega,Below.refl _ _⟩
   case round =>
    obtain ⟨k,r,hk,rfl,rfl,hr0,hr1,hall,hb⟩:=hrel
    by_cases hlt:k<xs.length
    · rcases HL.out.up (up_below hb) with hx | ⟨b,o,ea,_,hc⟩
      · subst hx;simp at hlt
      subst ea
      have hxk:=hc k hlt
      have hlk:=Hl.out k hlt
      have hki:(k:Int)<(xs.length:Int):=by omega
      obtain ⟨x,hx⟩:∃ x,x=xs.getD k Glob.z:=⟨_,rfl⟩
      rw [← hx] at hxk hlk
      obtain ⟨a1,c1,⟨q0,q1,q2⟩,hi⟩:=hxk
      have HX:=Hm hx
      have HT:=Hm (sum_step (f:=Glob.sz) Glob.z xs k hlt)
      have HA:=Hm hall
      have HS:=Hm (qzGlob_c x a1 c1 r wr hr0 (by omega) hi hlk)
      clear hx hc hall HL hi hlk Hl
      go_wp2_with fail
      refine HS.out.mono ?_
      rintro e w1 ⟨r1,rfl,hb1,hr1'⟩
      have hb2:Below w.heap.size w w1:=hb.trans (hb1.mono hb.size)
      clear hb1 q0 q1 q2 HS
      rcases hr1' with rfl | ⟨hr2,hr3,hr4⟩
      · go_wp2
        go_ret
        exact ⟨-1,rfl,hb2,.inl rfl⟩
      · have f:¬ r1<0:=by omega
        have HR:=Hm hr4
        clear hr4
        go_wp2
        go_roundw
        case rel=>exact ⟨k+1,r1,by omega,by go_num,rfl,hr2,by rw [HT.out,← HX.out];push_cast;omega,fun i hi=>by
         rcases (by omega:i<k∨i=k) with h | h
         · exact HA.out i h
         · subst h;rw [← HX.out];exact HR.out,hb2⟩
        case measure=>simp [intOf];omega
    · have e:k=xs.length:=by omega
      subst e
      go_wp2
      go_ret
      exact ⟨r,rfl,hb,.inr ⟨hr0,by rw [List.take_length] at hr1;push_cast;omega,by omega,hall⟩⟩
theorem qzExp_c (x:Exp) (left:Int) (w:World) (h0:0≤left) (h1:left≤1048576) (hI:Exp.Is 0 w x) (hl:Exp.LB 9223372036854775807 x) :
    Calls Tryz.prog 103 #[.agg #[.string x.nm,.int .i64 x.kind,.int .i64 x.ix],.int .i64 left] w fun e w'=>∃ r:Int,e=.returned (.int .i64 r)∧Below w.heap.size w w'∧(r=-1∨(0≤r∧r+(Exp.sz x:Int)≤left∧Exp.LB 1048576 x)):=by
 have l0:x.nm.size≤9223372036854775807:=hl
 go_enter Tryz.func103,Tryz.ntmps103
 go_upto_region 1 with fail
 refine wp_gen (fun W=>(W.cell? ⟨w.heap.size,0,none⟩=some (.string x.nm))∧Below w.heap.size w W∧w.heap.size<W.heap.size) ⟨cell_new rfl rfl,(Below.refl _ _).alloc (Nat.le_refl _) _,by simp⟩ ?_
 rintro W ⟨q0,hb,hlt⟩
 have hw0:IntKind.i64.wrap (left-(x.nm.size:Int))=left-(x.nm.size:Int):=by rw [IntKind.wrap_i64];omega
 by_cases hn0:left-(x.nm.size:Int)<0
 · go_wp2
   go_ret
   exact ⟨-1,rfl,hb,.inl rfl⟩
 have k0:x.nm.size≤1048576:=by omega
 have hm00:0≤left-(x.nm.size:Int):=by omega
 have hm10:left-(x.nm.size:Int)+(x.nm.size:Int)≤left:=by omega
 go_wp2
 go_ret
 exact ⟨(left-(x.nm.size:Int)),rfl,hb,.inr ⟨hm00,by simp only [Exp.sz];omega,k0⟩⟩
theorem qzExps_c (a:Option Addr) (c:Nat) (xs:List Exp) (left:Int) (w:World) (h0:0≤left) (h1:left≤1048576) (hL:Exp.Ls 0 w a xs) (hl:xs.length≤9223372036854775807∧∀ i,i<xs.length→Exp.LB 9223372036854775807 (xs.getD i Exp.z)) :
    Calls Tryz.prog 24 #[.slice a xs.length c,.int .i64 left] w fun e w'=>∃ r:Int,e=.returned (.int .i64 r)∧Below w.heap.size w w'∧(r=-1∨(0≤r∧r+((xs.length+(xs.map Exp.sz).sum:Nat):Int)≤left∧xs.length≤1048576∧∀ i,i<xs.length→Exp.LB 1048576 (xs.getD i Exp.z))):=by
 obtain ⟨hn,hl⟩:=hl
 have hw:IntKind.i64.wrap (left-xs.length)=left-xs.length:=by rw [IntKind.wrap_i64];omega
 by_cases h:left-xs.length<0
 · clear hL
   go_enter Tryz.func24,Tryz.ntmps24
   go_wp2
   go_ret
   exact ⟨-1,rfl,Below.refl _ _,.inl rfl⟩
 · have HL:=Hm hL
   have Hl:=Hm hl
   clear hL hl
   go_enter Tryz.func24,Tryz.ntmps24
   go_wp2
   go_loopw [1,5] (fun q i wr=>∃ (k:Nat) (r:Int),k≤xs.length∧i=.int .i64 k∧q=.int .i64 r∧0≤r∧r+(((xs.take k).map Exp.sz).sum:Int)≤left-xs.length∧(∀ i,i<k→Exp.LB 1048576 (xs.getD i Exp.z))∧Below w.heap.size w wr) (fun _ i _=>xs.length-(intOf i).toNat)
   case atStart=>exact ⟨0,_,Nat.zero_le _,rfl,rfl,by omega,by simp,fun i hi=>by omega,Below.refl _ _⟩
   case round =>
    obtain ⟨k,r,hk,rfl,rfl,hr0,hr1,hall,hb⟩:=hrel
    by_cases hlt:k<xs.length
    · rcases HL.out.up (up_below hb) with hx | ⟨b,o,ea,_,hc⟩
      · subst hx;simp at hlt
      subst ea
      have hxk:=hc k hlt
      have hlk:=Hl.out k hlt
      have hki:(k:Int)<(xs.length:Int):=by omega
      obtain ⟨x,hx⟩:∃ x,x=xs.getD k Exp.z:=⟨_,rfl⟩
      rw [← hx] at hxk hlk
      obtain ⟨⟨q0,q1,q2⟩,hi⟩:=hxk
      have HX:=Hm hx
      have HT:=Hm (sum_step (f:=Exp.sz) Exp.z xs k hlt)
      have HA:=Hm hall
      have HS:=Hm (qzExp_c x r wr hr0 (by omega) hi hlk)
      clear hx hc hall HL hi hlk Hl
      go_wp2_with fail
      refine HS.out.mono ?_
      rintro e w1 ⟨r1,rfl,hb1,hr1'⟩
      have hb2:Below w.heap.size w w1:=hb.trans (hb1.mono hb.size)
      clear hb1 q0 q1 q2 HS
      rcases hr1' with rfl | ⟨hr2,hr3,hr4⟩
      · go_wp2
        go_ret
        exact ⟨-1,rfl,hb2,.inl rfl⟩
      · have f:¬ r1<0:=by omega
        have HR:=Hm hr4
        clear hr4
        go_wp2
        go_roundw
        case rel=>exact ⟨k+1,r1,by omega,by go_num,rfl,hr2,by rw [HT.out,← HX.out];push_cast;omega,fun i hi=>by
         rcases (by omega:i<k∨i=k) with h | h
         · exact HA.out i h
         · subst h;rw [← HX.out];exact HR.out,hb2⟩
        case measure=>simp [intOf];omega
    · have e:k=xs.length:=by omega
      subst e
      go_wp2
      go_ret
      exact ⟨r,rfl,hb,.inr ⟨hr0,by rw [List.take_length] at hr1;push_cast;omega,by omega,hall⟩⟩
theorem qzEle_c (x:Ele) (a1:Option Addr) (c1:Nat) (a2:Option Addr) (c2:Nat) (left:Int) (w:World) (h0:0≤left) (h1:left≤1048576) (hI:Ele.Is 0 w x a1 a2) (hl:Ele.LB 9223372036854775807 x) :
    Calls Tryz.prog 104 #[.agg #[.slice a1 x.off.length c1,.slice a2 x.fs.length c2],.int .i64 left] w fun e w'=>∃ r:Int,e=.returned (.int .i64 r)∧Below w.heap.size w w'∧(r=-1∨(0≤r∧r+(Ele.sz x:Int)≤left∧Ele.LB 1048576 x)):=by
 obtain ⟨l0,l1⟩:=hl
 obtain ⟨r1,r2⟩:=hI
 have R1:=Hm r1
 have R2:=Hm r2
 clear r1 r2
 go_enter Tryz.func104,Tryz.ntmps104
 go_upto_region 1 with fail
 refine wp_gen (fun W=>(W.cell? ⟨w.heap.size,0,none⟩=some (.slice a1 x.off.length c1)∧W.cell? ⟨w.heap.size,1,none⟩=some (.slice a2 x.fs.length c2))∧Below w.heap.size w W∧w.heap.size<W.heap.size) ⟨⟨cell_new rfl rfl,cell_new rfl rfl⟩,(Below.refl _ _).alloc (Nat.le_refl _) _,by simp⟩ ?_
 rintro W ⟨⟨q0,q1⟩,hb,hlt⟩
 have HC0:=Hm (qzIns_c a1 c1 x.off left W (by omega) (by omega) (R1.out.up (up_below hb)) l0)
 go_wp2_with fail
 refine HC0.out.mono ?_
 rintro e W0 ⟨m0,rfl,hb0,hm0⟩
 have hB0:Below w.heap.size w W0:=hb.trans (hb0.mono hb.size)
 have hL0:w.heap.size<W0.heap.size:=Nat.lt_of_lt_of_le hlt hb0.size
 have q1:=(hb0.cell (p:=⟨w.heap.size,1,none⟩) hlt).trans q1
 clear hb0 HC0 q0
 rcases hm0 with rfl | ⟨hm00,hm10,k0⟩
 · go_wp2
   go_ret
   exact ⟨-1,rfl,hB0,.inl rfl⟩
 have hn0:¬ m0<0:=by omega
 generalize hg0:(x.off.length+(x.off.map In.sz).sum)=g0 at hm10
 go_upto_region 4 with fail
 have HC1:=Hm (qzInts_c a2 x.fs.length c2 m0 W0 (by omega) (by omega) l1)
 go_wp2_with fail
 refine HC1.out.mono ?_
 rintro e W1 ⟨m1,rfl,hb1,hm1⟩
 have hB1:Below w.heap.size w W1:=hB0.trans (hb1.mono hB0.size)
 have hL1:w.heap.size<W1.heap.size:=Nat.lt_of_lt_of_le hL0 hb1.size
 clear hb1 HC1 q1
 rcases hm1 with rfl | ⟨hm01,hm11,k1⟩
 · go_wp2
   go_ret
   exact ⟨-1,rfl,hB1,.inl rfl⟩
 have hn1:¬ m1<0:=by omega
 generalize hg1:x.fs.length=g1 at hm11
 go_wp2
 go_ret
 exact ⟨m1,rfl,hB1,.inr ⟨hm01,by simp only [Ele.sz];omega,⟨k0,k1⟩⟩⟩
theorem qzEles_c (a:Option Addr) (c:Nat) (xs:List Ele) (left:Int) (w:World) (h0:0≤left) (h1:left≤1048576) (hL:Ele.Ls 0 w a xs) (hl:xs.length≤9223372036854775807∧∀ i,i<xs.length→Ele.LB 9223372036854775807 (xs.getD i Ele.z)) :
    Calls Tryz.prog 25 #[.slice a xs.length c,.int .i64 left] w fun e w'=>∃ r:Int,e=.returned (.int .i64 r)∧Below w.heap.size w w'∧(r=-1∨(0≤r∧r+((xs.length+(xs.map Ele.sz).sum:Nat):Int)≤left∧xs.length≤1048576∧∀ i,i<xs.length→Ele.LB 1048576 (xs.getD i Ele.z))):=by
 obtain ⟨hn,hl⟩:=hl
 have hw:IntKind.i64.wrap (left-xs.length)=left-xs.length:=by rw [IntKind.wrap_i64];omega
 by_cases h:left-xs.length<0
 · clear hL
   go_enter Tryz.func25,Tryz.ntmps25
   go_wp2
   go_ret
   exact ⟨-1,rfl,Below.refl _ _,.inl rfl⟩
 · have HL:=Hm hL
   have Hl:=Hm hl
   clear hL hl
   go_enter Tryz.func25,Tryz.ntmps25
   go_wp2
   go_loopw [1,5] (fun q i wr=>∃ (k:Nat) (r:Int),k≤xs.length∧i=.int .i64 k∧q=.int .i64 r∧0≤r∧r+(((xs.take k).map Ele.sz).sum:Int)≤left-xs.length∧(∀ i,i<k→Ele.LB 1048576 (xs.getD i Ele.z))∧Below w.heap.size w wr) (fun _ i _=>xs.length-(intOf i).toNat)
   case atStart=>exact ⟨0,_,Nat.zero_le _,rfl,rfl,by omega,by simp,fun i hi=>by omega,Below.refl _ _⟩
   case round =>
    obtain ⟨k,r,hk,rfl,rfl,hr0,hr1,hall,hb⟩:=hrel
    by_cases hlt:k<xs.length
    · rcases HL.out.up (up_below hb) with hx | ⟨b,o,ea,_,hc⟩
      · subst hx;simp at hlt
      subst ea
      have hxk:=hc k hlt
      have hlk:=Hl.out k hlt
      have hki:(k:Int)<(xs.length:Int):=by omega
      obtain ⟨x,hx⟩:∃ x,x=xs.getD k Ele.z:=⟨_,rfl⟩
      rw [← hx] at hxk hlk
      obtain ⟨a1,c1,a2,c2,⟨q0,q1⟩,hi⟩:=hxk
      have HX:=Hm hx
      have HT:=Hm (sum_step (f:=Ele.sz) Ele.z xs k hlt)
      have HA:=Hm hall
      have HS:=Hm (qzEle_c x a1 c1 a2 c2 r wr hr0 (by omega) hi hlk)
      clear hx hc hall HL hi hlk Hl
      go_wp2_with fail
      refine HS.out.mono ?_
      rintro e w1 ⟨r1,rfl,hb1,hr1'⟩
      have hb2:Below w.heap.size w w1:=hb.trans (hb1.mono hb.size)
      clear hb1 q0 q1 HS
      rcases hr1' with rfl | ⟨hr2,hr3,hr4⟩
      · go_wp2
        go_ret
        exact ⟨-1,rfl,hb2,.inl rfl⟩
      · have f:¬ r1<0:=by omega
        have HR:=Hm hr4
        clear hr4
        go_wp2
        go_roundw
        case rel=>exact ⟨k+1,r1,by omega,by go_num,rfl,hr2,by rw [HT.out,← HX.out];push_cast;omega,fun i hi=>by
         rcases (by omega:i<k∨i=k) with h | h
         · exact HA.out i h
         · subst h;rw [← HX.out];exact HR.out,hb2⟩
        case measure=>simp [intOf];omega
    · have e:k=xs.length:=by omega
      subst e
      go_wp2
      go_ret
      exact ⟨r,rfl,hb,.inr ⟨hr0,by rw [List.take_length] at hr1;push_cast;omega,by omega,hall⟩⟩
end Go.Proofs.YtdbmolambolmgaaGreat
