import Derived.Test.YtipfjdogokanbaaGreatDoorGaa
import Derived.Test.YtipfjdogokanbaaGreatDoorGah
import Derived.Test.YtipfjdogokanbaaGreatDoorGag
import Derived.Lib.AppendIntMem
import Derived.Lib.AtoiErrMem
import Derived.Lib.Bytealg
import Derived.Lib.IndexLaws
import Derived.Maps.AppendAt
import Derived.Lib.ConvBytes
set_option linter.all false
set_option maxHeartbeats 400000000
set_option maxRecDepth 100000
set_option linter.all false
namespace Go.Proofs.YtipfjdogokanbaaGreatDoor.Yz
open Go.RowKit Go.Sort
def IsErr (ev:Value):Prop:=ev=.nilIface\/∃ te pe,ev=.iface te pe
structure Vs (q:Nat)(w:World):Prop where
 tz:w.cell? ⟨5,15,none⟩=some (.int .u8 4)
 tab:Lib.TabBelow Tryz.prog q w "internal/strconv.uint64pow10" .u64 Lib.pow10Tab
 e1:∃ ev,w.cell? ⟨1,0,none⟩=some ev/\IsErr ev
 e2:∃ ev,w.cell? ⟨2,0,none⟩=some ev/\IsErr ev
 ge:6<=q
theorem Vs.keep {q:Nat}{w w':World}(h:Vs q w)(hb:Below q w w'):Vs q w':=by
 have ge:=h.ge;obtain ⟨v1,c1,i1⟩:=h.e1;obtain ⟨v2,c2,i2⟩:=h.e2
 exact ⟨(hb.cell (p:=⟨5,15,none⟩) (by show 5<q;omega)).trans h.tz,λw2 h2=>h.tab w2 (hb.trans h2),⟨v1,(hb.cell (p:=⟨1,0,none⟩) (by show 1<q;omega)).trans c1,i1⟩,⟨v2,(hb.cell (p:=⟨2,0,none⟩) (by show 2<q;omega)).trans c2,i2⟩,ge⟩
theorem Vs.up {q q':Nat}{w:World}(h:Vs q w)(hq:q<=q'):Vs q' w:=⟨h.tz,λw2 h2=>h.tab w2 (h2.mono hq),h.e1,h.e2,Nat.le_trans h.ge hq⟩
theorem num_c (q:Nat)(x:Int)(w:World)(h0:-9223372036854775808<=x)(h1:x<=9223372036854775807)(hV:Vs q w) :
    Calls Tryz.prog 113 #[.int .i64 x] w λe w'=>e=.returned (.string (S (Lib.itoa x)))/\Below w.heap.size w w':=by
 have K:=Hm (Tryz.strconv_FormatInt_10 x h0 h1 w hV.tab.here);clear hV
 go_enter Tryz.func113,Tryz.ntmps113
 go_wp2_with fail
 refine K.o.mono ?_
 rintro e w1 ⟨rfl,k,os,hw⟩;have HB:Hid (Below w.heap.size w w1):=by show Below _ _ _;rw [hw];exact Lib.below_grow _ _ (Nat.le_refl _) k os
 clear hw K
 go_wp2
 go_ret
 exact ⟨rfl,HB.o⟩
def okP (s:Wd):Option Int:=match Lib.parseIntB 64 s with|.ok v=>some v|_=>none
theorem okP_bd {s:Wd}{v:Int}(h:okP s=some v):-9223372036854775808<=v/\v<=9223372036854775807:=by
 unfold okP at h
 split at h
 . rename_i u hu
   cases h
   unfold Lib.parseIntB at hu
   split at hu
   . cases hu
   . simp only at hu
     split at hu
     . cases hu
     . cases hu
     . split at hu
       . cases hu
       . split at hu
         . cases hu
         . rename_i n1 n2
           simp only [Lib.NumEnd.ok.injEq] at hu
           subst hu
           split<;>rename_i hneg<;>simp [hneg] at n1 n2<;>omega
 . cases h
theorem pint_c (q:Nat)(s:Wd)(w:World)(hl:s.length<=1099511627776)(hV:Vs q w) :
    Calls Tryz.prog 124 #[.string (S s),.int .i64 10,.int .i64 64] w λe w'=>∃ x ev,e=.returned (.tuple #[.int .i64 x,ev])/\Below w.heap.size w w'/\((okP s=some x/\ev=.nilIface)\/(okP s=none/\∃ t p,ev=.iface t p)):=by
 have hz:(S s).size=s.length:=Qn s;have hd:(S s).data.toList=s:=QO s
 cases hp:Lib.parseIntB 64 s
 case ok v =>
  refine (Tryz.strconv_ParseInt_10_at64_ok (S s) (by omega) v (by rw [hd];exact hp) w).mono ?_
  rintro e w' ⟨rfl,hw⟩
  refine ⟨v,_,rfl,?_,.inl ⟨by simp [okP,hp],rfl⟩⟩
  rcases hw with rfl|⟨t,rfl⟩
  . exact Below.refl _ _
  . exact Lib.bytesWorld_below _ _ _
 case range =>
  obtain ⟨ev,c1,i1⟩:=hV.e2
  refine (Tryz.strconv_ParseInt_10_at64_range (S s) (by omega) (by rw [hd];exact hp) ev w c1 i1).mono ?_
  rintro e w' ⟨N,rfl,_,_,hb⟩
  exact ⟨_,_,rfl,hb,.inr ⟨by simp [okP,hp],_,_,rfl⟩⟩
 next =>
  obtain ⟨ev,c1,i1⟩:=hV.e1
  refine (Tryz.strconv_ParseInt_10_at64_syntax (S s) (by omega) (by rw [hd];exact hp) ev w c1 i1).mono ?_
  rintro e w' ⟨N,rfl,_,_,hb⟩
  exact ⟨_,_,rfl,hb,.inr ⟨by simp [okP,hp],_,_,rfl⟩⟩
def okN (lo hi:Int)(s:Wd):Bool:=match okP s with|some v=>decide (lo<=v)&&(decide (v<=hi)&&decide (Lib.itoa v=s))|none=>false
theorem S_beq (a b:Wd):((S a).toList==(S b).toList)=decide (a=b):=by
 rw [ByteArray.toList_eq,ByteArray.toList_eq,QO,QO]
 by_cases h:a=b
 . subst h;simp
 . simp [h]
theorem number_c (q:Nat)(ws:List Wd)(bad:Bool)(lo hi:Int)(w:World)(h:Tw w q ws bad)(hl:∀ x ∈ ws,x.length<=1099511627776)(hV:Vs q w) :
    Calls Tryz.prog 84 #[.pointer (some ⟨q,0,none⟩),.int .i64 lo,.int .i64 hi] w λe w'=>∃ x:Int,e=.returned (.int .i64 x)/\Tw w' q ws.tail ((bad || ws.isEmpty) || !okN lo hi (ws.headD []))/\w.grownBy w' (some q)/\(okN lo hi (ws.headD [])=true->okP (ws.headD [])=some x):=by
 have KN:=Hm (next_g q ws bad w h)
 have hhl:(ws.headD []).length<=1099511627776:=by
  cases ws with
 |nil=>simp
 |cons x r=>exact hl x (by simp)
 have HV:=Hm hV;have hq:=h.lt;clear h hV hl;generalize ws.headD []=s at *;generalize ws.tail=r at *;generalize (bad || ws.isEmpty)=z at *
 go_enter Tryz.func84,Tryz.ntmps84
 go_wp2_with fail
 refine KN.o.mono ?_
 rintro e w1 ⟨rfl,t1,b1⟩;have T1:=Hm t1;have B1:=Hm b1;have V1:=Hm (HV.o.keep (QU b1 hq));have hq1:=t1.lt;clear t1 b1 KN HV
 go_wp2_with fail
 refine (pint_c q s w1 hhl V1.o).mono ?_
 rintro e w2 ⟨x,ev,rfl,b2,hx⟩;have T2:=Hm (T1.o.keep b2);have B2:=Hm (Qa B1.o (QD b2));have V2:=Hm (V1.o.keep (b2.mono (by omega)));clear b2 T1 B1 V1
 rcases hx with ⟨hx,rfl⟩|⟨hx,t,p,rfl⟩
 . obtain ⟨x0,x1⟩:=okP_bd hx;have KT:=Hm (num_c q x w2 x0 x1 V2.o);have hok:okN lo hi s=(decide (lo<=x)&&(decide (x<=hi)&&decide (Lib.itoa x=s))):=by simp [okN,hx]
   have HX:=Hm hx;have HOK:=Hm hok;clear hx hok
   by_cases hlo:lo<=x
   . by_cases hhi:x<=hi
     . go_wp2_with fail
       refine KT.o.mono ?_
       rintro e w3 ⟨rfl,b3⟩;have T3:=Hm (T2.o.keep b3);have B3:=Hm (Qa B2.o (QD b3));clear b3 T2 B2 V2 KT
       by_cases he:Lib.itoa x=s
       . have hok:okN lo hi s=true:=by rw [HOK.o];simp [hlo,hhi,he]
         have HK:=Hm hok;have KA:=Hm (ask_c q r z true w3 T3.o);have HE:=Hm he;have hse:((S (Lib.itoa x)).toList==(S s).toList)=true:=by rw [S_beq];simp [HE.o]
         clear hok he
         go_wp2_with fail
         refine KA.o.mono ?_
         rintro e w9 ⟨rfl,t9,b9⟩;have T9:=Hm t9;have B9:=Hm (Qa B3.o b9);clear t9 b9 KA
         go_wp2
         go_ret
         exact ⟨x,rfl,by rw [HK.o];exact T9.o,B9.o,λ_=>HX.o⟩
       . have hok:okN lo hi s=false:=by rw [HOK.o];simp [he]
         have HK:=Hm hok;have KA:=Hm (ask_c q r z false w3 T3.o);have hse:((S (Lib.itoa x)).toList==(S s).toList)=false:=by rw [S_beq];simp [he]
         clear hok he
         go_wp2_with fail
         refine KA.o.mono ?_
         rintro e w9 ⟨rfl,t9,b9⟩;have T9:=Hm t9;have B9:=Hm (Qa B3.o b9);clear t9 b9 KA
         go_wp2
         go_ret
         exact ⟨x,rfl,by rw [HK.o];exact T9.o,B9.o,λh=>by rw [HK.o] at h;cases h⟩
     . have hok:okN lo hi s=false:=by rw [HOK.o];simp [hhi]
       have HK:=Hm hok;have KA:=Hm (ask_c q r z false w2 T2.o);clear hok KT
       go_wp2_with fail
       refine KA.o.mono ?_
       rintro e w9 ⟨rfl,t9,b9⟩;have T9:=Hm t9;have B9:=Hm (Qa B2.o b9);clear t9 b9 KA
       go_wp2
       go_ret
       exact ⟨x,rfl,by rw [HK.o];exact T9.o,B9.o,λh=>by rw [HK.o] at h;cases h⟩
   . have hok:okN lo hi s=false:=by rw [HOK.o];simp [hlo]
     have HK:=Hm hok;have KA:=Hm (ask_c q r z false w2 T2.o);clear hok KT
     go_wp2_with fail
     refine KA.o.mono ?_
     rintro e w9 ⟨rfl,t9,b9⟩;have T9:=Hm t9;have B9:=Hm (Qa B2.o b9);clear t9 b9 KA
     go_wp2
     go_ret
     exact ⟨x,rfl,by rw [HK.o];exact T9.o,B9.o,λh=>by rw [HK.o] at h;cases h⟩
 . have hok:okN lo hi s=false:=by simp [okN,hx]
   have KA:=Hm (ask_c q r z false w2 T2.o);have HOK:=Hm hok;clear hx hok
   go_wp2_with fail
   refine KA.o.mono ?_
   rintro e w9 ⟨rfl,t9,b9⟩;have T9:=Hm t9;have B9:=Hm (Qa B2.o b9);clear t9 b9 KA
   go_wp2
   go_ret
   exact ⟨x,rfl,by rw [HOK.o];exact T9.o,B9.o,λh=>by rw [HOK.o] at h;cases h⟩
theorem Xg (q:Nat)(ws:List Wd)(bad:Bool)(w:World)(h:Tw w q ws bad)(hl:∀ x ∈ ws,x.length<=1099511627776)(hV:Vs q w) :
    Calls Tryz.prog 83 #[.pointer (some ⟨q,0,none⟩)] w λe w'=>∃ x:Int,e=.returned (.int .i64 x)/\Tw w' q ws.tail ((bad || ws.isEmpty) || !okN 0 4294967295 (ws.headD []))/\w.grownBy w' (some q)/\(okN 0 4294967295 (ws.headD [])=true->okP (ws.headD [])=some x):=by
 have K:=Hm (number_c q ws bad 0 4294967295 w h hl hV);clear h hl hV
 go_enter Tryz.func83,Tryz.ntmps83
 go_wp2_with fail
 refine K.o.mono ?_
 rintro e w1 ⟨x,rfl,t,b,hx⟩;have HH:=Hm (And.intro t (And.intro b hx));clear t b hx K
 go_wp2
 go_ret
 exact ⟨x,rfl,HH.o.1,HH.o.2.1,HH.o.2.2⟩
theorem good_c (q:Nat)(ws:List Wd)(bad:Bool)(w:World)(h:Tw w q ws bad) :
    Calls Tryz.prog 31 #[.pointer (some ⟨q,0,none⟩)] w λe w'=>e=.returned (.bool (!bad&&ws.isEmpty))/\w=w':=by
 have c1:=h.c1;have KM:=Hm (more_c q ws bad w h);clear h
 cases bad with
|true =>
  go_enter Tryz.func31,Tryz.ntmps31
  go_wp2
  go_ret
  exact ⟨rfl,rfl⟩
|false =>
  generalize ws.isEmpty=z at *
  go_enter Tryz.func31,Tryz.ntmps31
  go_wp2_with fail
  refine KM.o.mono ?_
  rintro e w1 ⟨rfl,rfl⟩
  go_wp2
  go_ret
  exact ⟨by simp,rfl⟩
end Go.Proofs.YtipfjdogokanbaaGreatDoor.Yz
set_option linter.all false
namespace Go.Proofs.YtipfjdogokanbaaGreatDoor.Yz
open Go.RowKit Go.Sort
def tyW (i:Nat):Wd:=if i=0 then [105,51,50] else if i=1 then [105,54,52] else if i=2 then [102,51,50] else [102,54,52]
def tyN (s:Wd):Int:=if s=tyW 0 then 127 else if s=tyW 1 then 126 else if s=tyW 2 then 125 else if s=tyW 3 then 124 else 0
theorem types_c (w:World):Calls Tryz.prog 123 #[] w λe w'=>e=.returned (.slice (some ⟨w.heap.size,0,none⟩) 4 4)/\w'=w.alloc (.cells #[.string ⟨#[105,51,50]⟩,.int .i64 127,.string ⟨#[105,54,52]⟩,.int .i64 126,.string ⟨#[102,51,50]⟩,.int .i64 125,.string ⟨#[102,54,52]⟩,.int .i64 124] 210):=by
 go_enter Tryz.func123,Tryz.ntmps123
 go_wp2
 go_ret
 exact ⟨rfl,rfl⟩
def TyT (w:World)(g:Nat):Prop:=∀ i,i<4->w.cell? ⟨g,i*2,none⟩=some (.string (S (tyW i)))/\w.cell? ⟨g,i*2+1,none⟩=some (.int .i64 (127-(i:Int)))
theorem tyt_new (w:World):TyT (w.alloc (.cells #[.string ⟨#[105,51,50]⟩,.int .i64 127,.string ⟨#[105,54,52]⟩,.int .i64 126,.string ⟨#[102,51,50]⟩,.int .i64 125,.string ⟨#[102,54,52]⟩,.int .i64 124] 210)) w.heap.size:=by
 intro i hi
 match i,hi with
|0,_=>exact ⟨Qi rfl rfl,Qi rfl rfl⟩
|1,_=>exact ⟨Qi rfl rfl,Qi rfl rfl⟩
|2,_=>exact ⟨Qi rfl rfl,Qi rfl rfl⟩
|3,_=>exact ⟨Qi rfl rfl,Qi rfl rfl⟩
theorem TyT.keep {w w':World}{g:Nat}(h:TyT w g)(hk:w'.heap[g]?=w.heap[g]?):TyT w' g:=λi hi=>⟨(World.cell?_of_block hk).trans (h i hi).1,(World.cell?_of_block hk).trans (h i hi).2⟩
theorem tyN_at {s:Wd}{k:Nat}(hk:k<4)(h:∀ i,i<k->s≠tyW i)(e:s=tyW k):tyN s=127-(k:Int):=by
 match k,hk with
|0,_=>simp [tyN,e]
|1,_=>simp only [tyN];rw [if_neg (h 0 (by omega)),if_pos e];rfl
|2,_=>simp only [tyN];rw [if_neg (h 0 (by omega)),if_neg (h 1 (by omega)),if_pos e];rfl
|3,_=>simp only [tyN];rw [if_neg (h 0 (by omega)),if_neg (h 1 (by omega)),if_neg (h 2 (by omega)),if_pos e];rfl
theorem tyN_no {s:Wd}(h:∀ i,i<4->s≠tyW i):tyN s=0:=by
 simp only [tyN];rw [if_neg (h 0 (by omega)),if_neg (h 1 (by omega)),if_neg (h 2 (by omega)),if_neg (h 3 (by omega))]
theorem one_c (q g:Nat)(ws:List Wd)(bad:Bool)(w:World)(h:Tw w q ws bad)(hT:TyT w g)(hg:q<g) :
    Calls Tryz.prog 122 #[.pointer (some ⟨q,0,none⟩),.slice (some ⟨g,0,none⟩) 4 4] w λe w'=>e=.returned (.int .i64 (tyN (ws.headD [])))/\Tw w' q ws.tail ((bad || ws.isEmpty) || tyN (ws.headD [])==0)/\w.grownBy w' (some q):=by
 have KN:=Hm (next_g q ws bad w h);have hgl:g<w.heap.size:=World.block_lt_of_cell? w _ (hT 0 (by omega)).1;have HT:=Hm hT;clear h hT;generalize ws.headD []=s at *;generalize ws.tail=r at *;generalize (bad || ws.isEmpty)=z at *
 go_enter Tryz.func122,Tryz.ntmps122
 go_wp2_with fail
 refine KN.o.mono ?_
 rintro e w1 ⟨rfl,t1,g1⟩;have T1:=Hm t1;have B1:=Hm g1;have HT1:=Hm (HT.o.keep (g1.block g hgl (by simp;omega)));have hgl1:g<w1.heap.size:=Nat.lt_of_lt_of_le hgl g1.size;clear t1 g1 KN HT
 go_wp2
 go_loopw [12] (λi wr=>∃ k:Nat,k<=4/\i=.int .i64 k/\(∀ i,i<k->s≠tyW i)/\Below w1.heap.size w1 wr) (λi _=>4-(intOf i).toNat)
 case atStart=>exact ⟨0,by omega,rfl,λi hi=>by omega,Below.refl _ _⟩
 case round =>
  obtain ⟨k,hk,rfl,hall,hb⟩:=hrel;have T2:=Hm (T1.o.keep hb);have B2:=Hm (Qa B1.o (QD hb));have HB:=Hm hb;have HA:=Hm hall;have hs1:=hb.size
  by_cases hlt:k<4
  . have hki:(k:Int)<4:=by omega
    obtain ⟨c0,c1⟩:=HT1.o k hlt;have c0:=(hb.cell (p:=⟨g,k*2,none⟩) hgl1).trans c0;have c1:=(hb.cell (p:=⟨g,k*2+1,none⟩) hgl1).trans c1;clear hb hall T1 B1 HT1
    by_cases he:s=tyW k
    . have hse:((S (tyW k)).toList==(S s).toList)=true:=by rw [S_beq];simp [he]
      have HN:=Hm (tyN_at hlt HA.o he);have hz:(tyN s==0)=false:=by rw [HN.o];simp;omega
      clear he
      go_wp2
      go_ret
      refine ⟨by rw [HN.o];rfl,by rw [hz];simpa using T2.o.keep ((Below.refl _ _).alloc (Nat.le_refl _) _),Qa B2.o (QD ((Below.refl _ _).alloc (Nat.le_refl _) _))⟩
    . have hse:((S (tyW k)).toList==(S s).toList)=false:=by rw [S_beq];simp [Ne.symm he]
      have HE:=Hm he;clear he
      go_wp2
      go_roundw
      case rel=>exact ⟨k+1,by omega,by go_num,fun i hi=>by
       rcases (by omega:i<k\/i=k) with h|h
       . exact HA.o i h
       . subst h;exact HE.o,HB.o.alloc hs1 _⟩
      case measure=>simp [intOf];omega
  . have e:k=4:=by omega
    subst e;have HN:=Hm (tyN_no HA.o);have c1:=T2.o.c1;have f1:=T2.o.fz 1;have T3:=Hm (T2.o.flag true);clear hb hall T1 B1 HT1
    go_wp2
    go_ret
    exact ⟨by rw [HN.o];rfl,by rw [HN.o];simpa using T3.o,Qa B2.o (Xc _ _ _ _)⟩
theorem vty_c (q:Nat)(ws:List Wd)(bad:Bool)(w:World)(h:Tw w q ws bad) :
    Calls Tryz.prog 82 #[.pointer (some ⟨q,0,none⟩)] w λe w'=>e=.returned (.int .i64 (tyN (ws.headD [])))/\Tw w' q ws.tail ((bad || ws.isEmpty) || tyN (ws.headD [])==0)/\w.grownBy w' (some q):=by
 have hq:=h.lt;obtain ⟨W,hW⟩:∃ W,W=w.alloc (.cells #[.string ⟨#[105,51,50]⟩,.int .i64 127,.string ⟨#[105,54,52]⟩,.int .i64 126,.string ⟨#[102,51,50]⟩,.int .i64 125,.string ⟨#[102,54,52]⟩,.int .i64 124] 210):=⟨_,rfl⟩;have bW:Below w.heap.size w W:=by rw [hW];exact (Below.refl _ _).alloc (Nat.le_refl _) _
 have K:=Hm (one_c q w.heap.size ws bad W (h.keep bW) (by rw [hW];exact tyt_new w) hq);have KT:=Hm (types_c w);have HB:=Hm bW;have HW:=Hm hW;clear h bW hW;generalize ws.headD []=s at *
 go_enter Tryz.func82,Tryz.ntmps82
 go_wp2_with fail
 refine KT.o.mono ?_
 rintro e w1 ⟨rfl,hw1⟩;obtain rfl:w1=W:=hw1.trans HW.o.symm;clear hw1 HW KT
 go_wp2_with fail
 refine K.o.mono ?_
 rintro e w2 ⟨rfl,t2,b2⟩;have T2:=Hm t2;have B2:=Hm (Qa (QD HB.o) b2);clear t2 b2 K HB
 go_wp2
 go_ret
 exact ⟨rfl,T2.o,B2.o⟩
end Go.Proofs.YtipfjdogokanbaaGreatDoor.Yz
set_option linter.all false
namespace Go.Proofs.YtipfjdogokanbaaGreatDoor.Yz
open Go.RowKit Go.Sort
def Xk (l:Wd):Nat:=if Lib.hasPrefix l [34]=true then (1+Lib.indexByte (l.drop 1) 34).toNat else 0
def Jd (l:Wd):Nat:=if 0<=Lib.indexByte (l.drop (Xk l)) 32 then Xk l+(Lib.indexByte (l.drop (Xk l)) 32).toNat else l.length
theorem Gc (l:Wd)(c:UInt8):Lib.indexByte l c=-1\/∃ o:Nat,Lib.indexByte l c=o/\o<l.length/\l[o]?=some c:=by
 by_cases h:Lib.indexByte l c=-1
 . exact .inl h
 . have:=Lib.indexByte_ge l c
   obtain ⟨o,ho⟩:=Int.eq_ofNat_of_zero_le (show 0<=Lib.indexByte l c by omega);have h1:=(Lib.indexByte_some ho).1
   refine .inr ⟨o,ho,?_,h1⟩
   rcases Nat.lt_or_ge o l.length with h'|h'
   . exact h'
   . rw [List.getElem?_eq_none h'] at h1;cases h1
theorem from_le (l:Wd):Xk l<=l.length:=by
 unfold Xk
 split
 . rcases Gc (l.drop 1) 34 with h|⟨o,h,ho,_⟩
   . rw [h];simp
   . rw [h];simp at ho;omega
 . omega
theorem end_le (l:Wd):Jd l<=l.length:=by
 unfold Jd
 split
 . rename_i h0
   rcases Gc (l.drop (Xk l)) 32 with h|⟨o,h,ho,_⟩
   . omega
   . rw [h];simp at ho;simp;omega
 . omega
theorem end_at (l:Wd)(h:Jd l<l.length):l[Jd l]?=some 32:=by
 unfold Jd at h⊢
 split at h
 . rename_i h0
   rw [if_pos h0]
   rcases Gc (l.drop (Xk l)) 32 with h1|⟨o,h1,ho,h2⟩
   . omega
   . rw [h1];simpa using h2
 . omega
theorem S_ext (l:Wd)(a b:Nat):(S l).extract a b=S ((l.take b).drop a):=by
 apply ByteArray.ext
 apply Array.ext'
 rw [ByteArray.data_extract,Array.toList_extract]
 simp [S,List.extract_eq_drop_take,List.drop_take]
theorem GC (l:Wd)(a n:Nat)(hn:n=l.length):(S l).extract a n=S (l.drop a):=by
 rw [S_ext,List.take_of_length_le (by omega)]
theorem end_tail (l:Wd)(f:Nat)(hf:f<=l.length)(o:Int)(ho:Lib.indexByte (l.drop f) 32=o):-1<=o/\(0<=o->(f:Int)+o<=l.length):=by
 rcases Gc (l.drop f) 32 with h|⟨k,h,hk,_⟩
 . rw [<- ho,h];exact ⟨by omega,λh=>by omega⟩
 . rw [<- ho,h];simp at hk;exact ⟨by omega,λ_=>by omega⟩
theorem end_c (l:Wd)(w:World)(hl:l.length<=1099511627776) :
    Calls Tryz.prog 79 #[.string (S l)] w λe w'=>e=.returned (.int .i64 (Jd l))/\w=w':=by
 have KP:=Hm (Tryz.strings_HasPrefix (S l) ⟨#[34]⟩);rw [QO,show (⟨#[34]⟩:ByteArray).data.toList=[34] from rfl] at KP;have K34:=Hm (λ(m:Wd) (w:World)=>Tryz.strings_IndexByte (S m) 34 w);have K32:=Hm (λ(m:Wd) (w:World)=>Tryz.strings_IndexByte (S m) 32 w)
 simp only [QO,show (34:Int).toNat.toUInt8=34 from rfl,show (32:Int).toNat.toUInt8=32 from rfl] at K34 K32
 have hz:(S l).size=l.length:=Qn l;have hf:=from_le l;obtain ⟨o,ho⟩:∃ o,Lib.indexByte (l.drop (Xk l)) 32=o:=⟨_,rfl⟩;obtain ⟨o1,o2⟩:=end_tail l _ hf o ho;have hE:Jd l=if 0<=o then Xk l+o.toNat else l.length:=by unfold Jd;rw [ho]
 have HE:=Hm hE;have HO:=Hm ho;clear hE ho
 by_cases hp:Lib.hasPrefix l [34]=true
 . have hpos:1<=l.length:=by
     cases l with
    |nil=>simp [Lib.hasPrefix] at hp
    |cons x r=>simp
   rw [hp] at KP;obtain ⟨u,hu⟩:∃ u,Lib.indexByte (l.drop 1) 34=u:=⟨_,rfl⟩
   have hfe:(Xk l:Int)=1+u:=by
    unfold Xk;rw [if_pos hp,hu]
    have:=Lib.indexByte_ge (l.drop 1) 34
    omega
   have hw:IntKind.i64.wrap (1+u)=(Xk l:Int):=by rw [IntKind.wrap_i64];omega
   have HU:=Hm hu;clear hu hp hfe;generalize Xk l=f at *
   go_enter Tryz.func79,Tryz.ntmps79
   go_wp2_with fail
   refine (KP.o _).mono ?_
   rintro e w1 ⟨rfl,rfl⟩;clear KP
   go_wp2_with fail
   rw [GC l 1 _ rfl]
   refine (K34.o _ _).mono ?_
   rintro e w2 ⟨rfl,rfl⟩;rw [HU.o]
   go_wp2_with fail
   rw [GC l f _ rfl]
   refine (K32.o _ _).mono ?_
   rintro e w3 ⟨rfl,rfl⟩;rw [HO.o]
   by_cases h0:0<=o
   . have hw3:IntKind.i64.wrap ((f:Int)+o)=(f:Int)+o:=by rw [IntKind.wrap_i64];have:=o2 h0;omega
     go_wp2
     go_ret
     refine ⟨?_,rfl⟩
     rw [HE.o,if_pos h0]
     simp;omega
   . go_wp2
     go_ret
     refine ⟨?_,rfl⟩
     rw [HE.o,if_neg (by omega)]
     rfl
 . have hp':Lib.hasPrefix l [34]=false:=by simpa using hp
   rw [hp'] at KP;have hfe:Xk l=0:=by unfold Xk;rw [if_neg hp]
   rw [hfe] at HE HO o2;clear hp hp' hf hfe
   go_enter Tryz.func79,Tryz.ntmps79
   go_wp2_with fail
   refine (KP.o _).mono ?_
   rintro e w1 ⟨rfl,rfl⟩;clear KP
   go_wp2_with fail
   try rw [GC l 0 _ rfl]
   refine (K32.o _ _).mono ?_
   rintro e w3 ⟨rfl,rfl⟩;rw [HO.o]
   by_cases h0:0<=o
   . have hw3:IntKind.i64.wrap o=o:=by rw [IntKind.wrap_i64];have:=o2 h0;omega
     go_wp2
     go_ret
     refine ⟨?_,rfl⟩
     rw [HE.o,if_pos h0]
     simp;omega
   . go_wp2
     go_ret
     refine ⟨?_,rfl⟩
     rw [HE.o,if_neg (by omega)]
     rfl
def Q3 (l:Wd):List Wd:=if h:Jd l<l.length then l.take (Jd l)::Q3 (l.drop (Jd l+1)) else [l]
termination_by l.length
decreasing_by simp;omega
theorem Ju {l:Wd}(h:Jd l<l.length):Q3 l=l.take (Jd l)::Q3 (l.drop (Jd l+1)):=by rw [Q3,dif_pos h]
theorem Jv {l:Wd}(h:¬ Jd l<l.length):Q3 l=[l]:=by rw [Q3,dif_neg h]
theorem XI:∀ (n:Nat) (l:Wd),l.length<=n->(Q3 l).length<=l.length+1/\∀ x ∈ Q3 l,x.length<=l.length
|n,l,hn=>by
  by_cases h:Jd l<l.length
  . rw [Ju h];have hd:(l.drop (Jd l+1)).length=l.length-(Jd l+1):=by simp
    obtain ⟨h1,h2⟩:=XI (n-1) (l.drop (Jd l+1)) (by rw [hd];omega);rw [hd] at h1 h2
    refine ⟨by simp only [List.length_cons];omega,λx hx=>?_⟩
    simp only [List.mem_cons] at hx
    rcases hx with rfl|hx
    . simp;omega
    . have:=h2 x hx;omega
  . rw [Jv h]
    exact ⟨by simp,λx hx=>by simp at hx;subst hx;exact Nat.le_refl _⟩
termination_by n l=>l.length
decreasing_by simp;omega
theorem Tryz.info9:(Tryz.prog.info? 9).map (λi=>(i.zero,i.size,i.bytes))=some (some (.string ⟨#[]⟩),1,16):=by kernel_rfl
theorem oneS (s:ByteArray):∀ u ∈ [Value.string s],u.oneCell'=true:=by
 intro u hu;simp at hu;subst hu;rfl
def Sv (r:List Wd):List Value:=r.map λx=>Value.string (S x)
theorem Sv_app (r:List Wd)(x:Wd):Sv (r++[x])=Sv r++[.string (S x)]:=by simp [Sv]
theorem JD {w:World}{B e:Nat}{v:Value}{n:Nat}{zs:List Value}(h:w.ownsRow B e 1 v n zs):∃ a c,v=.slice a n c:=by
 rcases h.2 with ⟨e,h0⟩|⟨g,cap,cur,hv,_⟩
 . rw [h0];exact ⟨_,_,e⟩
 . exact ⟨_,_,hv⟩
theorem split_c (l0:Wd)(w:World)(hl:l0.length<=1048576) :
    Calls Tryz.prog 27 #[.string (S l0)] w λe w'=>∃ v,e=.returned v/\w'.ownsRow w.heap.size 9 1 v (Q3 l0).length (Sv (Q3 l0))/\Below w.heap.size w w':=by
 obtain ⟨i0,hi,hz0,hz1,hz2⟩:=info_parts Tryz.info9;have HP:=Hm (XI l0.length l0 (Nat.le_refl _)).1
 go_enter Tryz.func27,Tryz.ntmps27
 go_wp2
 go_loopw [0,3] (λt v wr=>∃ (l:Wd) (r:List Wd),t=.string (S l)/\l.length<=l0.length/\Q3 l0=r++Q3 l/\wr.ownsRow w.heap.size 9 1 v r.length (Sv r)/\Below w.heap.size w wr) (λt _ _=>match t with|.string s=>s.size|_=>0)
 case atStart=>exact ⟨l0,[],rfl,Nat.le_refl _,by simp,⟨by simp [Sv],.inl ⟨rfl,rfl⟩⟩,Below.refl _ _⟩
 case round =>
  obtain ⟨l,r,rfl,hll,hsp,ho,hb⟩:=hrel;have KE:=Hm (end_c l wr (by omega));have hz:(S l).size=l.length:=Qn l;have he:=end_le l
  have hrl:r.length<=1048578:=by
   have h1:=HP.o;rw [hsp] at h1
   simp at h1;omega
  have HS:=Hm hsp;have HB:=Hm hb;have hbs:=hb.size;obtain ⟨va,vc,rfl⟩:=JD ho;have h2:((Jd l:Nat):Int)<=((S l).size:Int):=by rw [hz];omega
  clear hsp hb
  by_cases hlt:Jd l<l.length
  . have HM:=Hm (Ju hlt);have hne:((Jd l:Int)==(l.length:Int))=false:=by simp;omega
    have hw:IntKind.i64.wrap ((Jd l:Int)+1)=(Jd l:Int)+1:=by rw [IntKind.wrap_i64];omega
    generalize Jd l=f at *
    go_wp2_with fail
    refine KE.o.mono ?_
    rintro e w1 ⟨rfl,rfl⟩;clear KE
    go_wp2_with (at_builtin;refine wpList_append_own_at _ rfl _ _ 71 rfl w.heap.size 9 i0 (.string ⟨#[]⟩) 1 16 Tryz.underlying71 hi hz0 hz1 hz2 rfl (by decide) _ _ _ rfl (ho.alloc _) ⟨wr.heap.size,0,none⟩ 1 1 [.string ((S l).extract 0 f)] rfl rfl (cell_one_new _ _ _) (oneS _) (by unfold maxLen;omega) (by omega) (by simp;omega) ?_;intro v' w2 hown' hgrow hnn hloc;have HO2:=Hm (And.intro hown' hgrow);obtain ⟨va2,vc2,rfl⟩:=JD hown';clear hown' hgrow hnn hloc)
    refine ⟨⟨l.drop (f+1),r++[l.take f],by rw [GC l (f+1) _ rfl],by simp;omega,by rw [HS.o,HM.o];simp,?_,HB.o.alloc hbs _ |>.grown HO2.o.2 (by simp;omega) (λj hj=>(ho.lt j hj).1)⟩,?_⟩
    . have h4:=HO2.o.1;rw [S_ext,List.drop_zero] at h4;rw [show (r++[l.take f]).length=r.length+1 by simp,Sv_app]
      exact h4
    . show ((S l).extract (f+1) l.length).size<(S l).size
      rw [GC l (f+1) _ rfl,Qn,Qn];simp;omega
  . have HM:=Hm (Jv hlt);have hee:Jd l=l.length:=by omega
    rw [hee] at KE h2;clear hlt he hee
    go_wp2_with fail
    refine KE.o.mono ?_
    rintro e w1 ⟨rfl,rfl⟩;clear KE
    go_wp2_with (at_builtin;refine wpList_append_own_at _ rfl _ _ 71 rfl w.heap.size 9 i0 (.string ⟨#[]⟩) 1 16 Tryz.underlying71 hi hz0 hz1 hz2 rfl (by decide) _ _ _ rfl (ho.alloc _) ⟨wr.heap.size,0,none⟩ 1 1 [.string ((S l).extract 0 l.length)] rfl rfl (cell_one_new _ _ _) (oneS _) (by unfold maxLen;omega) (by omega) (by simp;omega) ?_;intro v' w2 hown' hgrow hnn hloc;have HO2:=Hm (And.intro hown' hgrow);obtain ⟨va2,vc2,rfl⟩:=JD hown';clear hown' hgrow hnn hloc)
    go_ret
    refine ⟨_,rfl,?_,HB.o.alloc hbs _ |>.grown HO2.o.2 (by simp;omega) (λj hj=>(ho.lt j hj).1)⟩
    have h4:=HO2.o.1;rw [GC l 0 _ rfl,List.drop_zero] at h4;rw [HS.o,HM.o,show (r++[l]).length=r.length+1 by simp,Sv_app]
    exact h4
end Go.Proofs.YtipfjdogokanbaaGreatDoor.Yz
set_option linter.all false
namespace Go.Proofs.YtipfjdogokanbaaGreatDoor.Yz
open Go.RowKit Go.Sort
def dgI (c:UInt8):Option Nat:=if 48<=c.toNat/\c.toNat<=57 then some (c.toNat-48) else if 97<=bits .or .u8 (c.toNat:Int) 32/\bits .or .u8 (c.toNat:Int) 32<=102 then some ((bits .or .u8 (c.toNat:Int) 32).toNat-87) else none
def pu (mx:Nat):Nat->Wd->Option Nat
|n,[]=>some n
|n,c::r=>match dgI c with
 |none=>none
 |some d=>if 1152921504606846976<=n then none else if mx<n*16+d then none else pu mx (n*16+d) r
def PuP (mx:Nat)(l:Wd)(w:World)(e:Ending)(w':World):Prop:=∃ (x:Int) (ev:Value),e=.returned (.tuple #[.int .u64 x,ev])/\Below w.heap.size w w'/\((∃ n:Nat,pu mx 0 l=some n/\x=n/\ev=.nilIface)\/(pu mx 0 l=none/\(ev=.iface 234 (.int .i64 2)\/ev=.iface 234 (.int .i64 1))))
theorem pui32_c (l:Wd)(w:World)(hne:l≠[])(hl:l.length<=1099511627776) :
    Calls Tryz.prog 163 #[.string (S l),.int .i64 16,.int .i64 32] w λe w'=>PuP 4294967295 l w e w':=by
 have hemp:(S l).toList.isEmpty=false:=by
  rw [ByteArray.toList_eq,QO];cases l with
 |nil=>exact absurd rfl hne
 |cons x r=>rfl
 have hcv:=Lib.run_convert_string_bytes (P:=Tryz.prog) w 9 22 5 (S l) (u:=.string) Tryz.underlying9 Tryz.underlying22 Tryz.underlying5
 have hB:∀ j,j<l.length->(Lib.bytesWorld w 5 (S l)).cell? ⟨w.heap.size,j,none⟩=some (.int .u8 (l.getD j 0).toNat):=λj hj=>by
  have:=Lib.bytesWorld_cell w 5 (S l) j (by rw [Qn];exact hj)
  rwa [QO] at this
 have hbw:=Lib.bytesWorld_below w 5 (S l);have hz:(S l).size=l.length:=Qn l;obtain ⟨W1,hW1⟩:∃ W1,W1=Lib.bytesWorld w 5 (S l):=⟨_,rfl⟩;rw [<- hW1] at hcv hB hbw;clear hW1;have HBW:=Hm hbw;have HBC:=Hm hB;clear hbw hB
 have hmv:IntKind.u64.wrap (IntKind.u64.wrap 4294967296-1)=4294967295:=by
  simp only [IntKind.wrap_u64];decide
 go_enter Tryz.func163,Tryz.ntmps163
 go_wp2
 go_loop [12,13,101] (λvu vn vi=>∃ (k acc:Nat) (a:Int),vu=.bool false/\vn=.int .u64 a/\vi=.int .i64 k/\k<=l.length/\Hid (a=(acc:Int)/\acc<=4294967295/\pu 4294967295 0 l=pu 4294967295 acc (l.drop k))) (λ_ _ vi=>l.length-(intOf vi).toNat)
 case atStart=>exact ⟨0,0,0,rfl,rfl,rfl,by omega,rfl,by omega,rfl⟩
 case round =>
  obtain ⟨k,acc,a,rfl,rfl,rfl,hk,hh⟩:=hrel;obtain ⟨ha,hacc,hdec⟩:=hh.o;clear hh;have a0:0<=a:=by omega
  have a1:a<=4294967295:=by omega
  by_cases hkn:k<l.length
  . have hki:(k:Int)<(l.length:Int):=by omega
    have hc:=HBC.o k hkn;have hdrop:l.drop k=l[k]'hkn::l.drop (k+1):=List.drop_eq_getElem_cons hkn;have hget:l.getD k 0=l[k]'hkn:=by simp [List.getD,List.getElem?_eq_getElem hkn]
    rw [hdrop] at hdec;rw [hget] at hc;generalize l[k]'hkn=c at hc hdec;have hc256:c.toNat<256:=c.toNat_lt;clear HBC hdrop hget;obtain ⟨v,hv⟩:∃ v,v=bits .or .u8 (c.toNat:Int) 32:=⟨_,rfl⟩;have v0:0<=v:=by rw [hv];exact bits_lo_u8 _ _ _
    have v1:v<=255:=by rw [hv];exact bits_hi_u8 _ _ _
    have KL:=Hm (λw=>Tryz.internal_strconv_lower (c.toNat:Int) w);rw [<- hv] at KL
    by_cases hdig:48<=c.toNat/\c.toNat<=57
    . obtain ⟨hd0,hd1⟩:=hdig;obtain ⟨d,hd⟩:∃ d,d=c.toNat-48:=⟨_,rfl⟩;have hdg:dgI c=some d:=by rw [hd];simp [dgI,hd0,hd1]
      have hdn:c.toNat=d+48:=by omega
      have hd9:d<=9:=by omega
      rw [hdn] at hc;have hcc:((d+48:Nat):Int)=(d:Int)+48:=by omega
      rw [hcc] at hc;have g1:((d:Int)+48==95)=false:=by simp;omega
      have g2:(48:Int)<=(d:Int)+48:=by omega
      have g3:(d:Int)+48<=57:=by omega
      have g4:IntKind.u8.wrap ((d:Int)+48-48)=(d:Int):=by rw [IntKind.wrap_u8];omega
      have g4':IntKind.u8.wrap (d:Int)=(d:Int):=by rw [IntKind.wrap_u8];omega
      have g5:¬ (16:Int)<=(d:Int):=by omega
      have g6:IntKind.u64.wrap (d:Int)=(d:Int):=by rw [IntKind.wrap_u64];omega
      clear hcc hdn hd hd0 hd1 hc256 hv v0 v1 KL;have hcut:¬ 1152921504606846976<=acc:=by omega
      by_cases hov:4294967295<acc*16+d
      . have hF:pu 4294967295 acc (c::l.drop (k+1))=none:=by simp [pu,hdg,hcut,hov]
        rw [hF] at hdec;have iov:4294967295<a*16+(d:Int):=by omega
        have icut:¬ 1152921504606846976<=a:=by omega
        have w1:IntKind.u64.wrap (a*16)=a*16:=by rw [IntKind.wrap_u64];omega
        have w2:IntKind.u64.wrap (a*16+(d:Int))=a*16+(d:Int):=by rw [IntKind.wrap_u64];omega
        have w3:¬ a*16+(d:Int)<a*16:=by omega
        have HD:=Hm hdec;clear hacc hF ha hdec hcut hov hdg
        go_wp2
        go_ret2
        exact ⟨_,_,rfl,HBW.o,.inr ⟨HD.o,.inr rfl⟩⟩
      . have hF:pu 4294967295 acc (c::l.drop (k+1))=pu 4294967295 (acc*16+d) (l.drop (k+1)):=by simp [pu,hdg,hcut,hov]
        have HN:Hid (a*16+(d:Int)=((acc*16+d:Nat):Int)/\acc*16+d<=4294967295/\pu 4294967295 0 l=pu 4294967295 (acc*16+d) (l.drop (k+1))):=⟨by omega,by omega,by rw [hdec,hF]⟩;have iov:¬ 4294967295<a*16+(d:Int):=by omega
        have icut:¬ 1152921504606846976<=a:=by omega
        have w1:IntKind.u64.wrap (a*16)=a*16:=by rw [IntKind.wrap_u64];omega
        have w2:IntKind.u64.wrap (a*16+(d:Int))=a*16+(d:Int):=by rw [IntKind.wrap_u64];omega
        have w3:¬ a*16+(d:Int)<a*16:=by omega
        clear hacc hF ha hdec hcut hov hdg
        go_wp2
        refine ⟨⟨k+1,acc*16+d,a*16+(d:Int),rfl,(by first|rfl|(congr 1;omega)),(by first|rfl|(congr 1;omega)),by omega,HN⟩,by simp [intOf];omega⟩
    . by_cases hlet:97<=v/\v<=102
      . obtain ⟨hl0,hl1⟩:=hlet;obtain ⟨d,hd⟩:∃ d:Nat,v=(d:Int)+87:=⟨(v-87).toNat,by omega⟩
        have hdg:dgI c=some d:=by
         simp only [dgI]
         rw [if_neg hdig,<- hv,if_pos ⟨hl0,hl1⟩,hd]
         congr 1
        have h95:c.toNat≠95:=by
         intro e
         rw [e] at hv
         have:bits .or .u8 ((95:Nat):Int) 32=127:=by decide
         omega
        have g0:((c.toNat:Int)==95)=false:=by simp;omega
        have hnd:48<=(c.toNat:Int)->¬ (c.toNat:Int)<=57:=by omega
        generalize (c.toNat:Int)=ci at *;have g1:(97:Int)<=v:=hl0;have g2:v<=122:=by omega
        have g3:IntKind.u8.wrap (v-97)=v-97:=by rw [IntKind.wrap_u8];omega
        have g4:IntKind.u8.wrap (v-97+10)=(d:Int):=by rw [IntKind.wrap_u8];omega
        have g5:¬ (16:Int)<=(d:Int):=by omega
        have g6:IntKind.u64.wrap (d:Int)=(d:Int):=by rw [IntKind.wrap_u64];omega
        have hd15:(d:Int)<=15:=by omega
        have hd0:(0:Int)<=(d:Int):=by omega
        clear hl0 hl1 hc256 hv v0 v1 hdig h95 hd
        by_cases h48:(48:Int)<=ci
        . have h57:=hnd h48;clear hnd;have hcut:¬ 1152921504606846976<=acc:=by omega
          by_cases hov:4294967295<acc*16+d
          . have hF:pu 4294967295 acc (c::l.drop (k+1))=none:=by simp [pu,hdg,hcut,hov]
            rw [hF] at hdec;have iov:4294967295<a*16+(d:Int):=by omega
            have icut:¬ 1152921504606846976<=a:=by omega
            have w1:IntKind.u64.wrap (a*16)=a*16:=by rw [IntKind.wrap_u64];omega
            have w2:IntKind.u64.wrap (a*16+(d:Int))=a*16+(d:Int):=by rw [IntKind.wrap_u64];omega
            have w3:¬ a*16+(d:Int)<a*16:=by omega
            have HD:=Hm hdec;clear hacc hF ha hdec hcut hov hdg
            go_wp2_with (go_at_call 194;refine (KL.o _).mono ?_;rintro e w' ⟨rfl,rfl⟩)
            go_ret2
            exact ⟨_,_,rfl,HBW.o,.inr ⟨HD.o,.inr rfl⟩⟩
          . have hF:pu 4294967295 acc (c::l.drop (k+1))=pu 4294967295 (acc*16+d) (l.drop (k+1)):=by simp [pu,hdg,hcut,hov]
            have HN:Hid (a*16+(d:Int)=((acc*16+d:Nat):Int)/\acc*16+d<=4294967295/\pu 4294967295 0 l=pu 4294967295 (acc*16+d) (l.drop (k+1))):=⟨by omega,by omega,by rw [hdec,hF]⟩;have iov:¬ 4294967295<a*16+(d:Int):=by omega
            have icut:¬ 1152921504606846976<=a:=by omega
            have w1:IntKind.u64.wrap (a*16)=a*16:=by rw [IntKind.wrap_u64];omega
            have w2:IntKind.u64.wrap (a*16+(d:Int))=a*16+(d:Int):=by rw [IntKind.wrap_u64];omega
            have w3:¬ a*16+(d:Int)<a*16:=by omega
            clear hacc hF ha hdec hcut hov hdg
            go_wp2_with (go_at_call 194;refine (KL.o _).mono ?_;rintro e w' ⟨rfl,rfl⟩)
            refine ⟨⟨k+1,acc*16+d,a*16+(d:Int),rfl,(by first|rfl|(congr 1;omega)),(by first|rfl|(congr 1;omega)),by omega,HN⟩,by simp [intOf];omega⟩
        . clear hnd;have hcut:¬ 1152921504606846976<=acc:=by omega
          by_cases hov:4294967295<acc*16+d
          . have hF:pu 4294967295 acc (c::l.drop (k+1))=none:=by simp [pu,hdg,hcut,hov]
            rw [hF] at hdec;have iov:4294967295<a*16+(d:Int):=by omega
            have icut:¬ 1152921504606846976<=a:=by omega
            have w1:IntKind.u64.wrap (a*16)=a*16:=by rw [IntKind.wrap_u64];omega
            have w2:IntKind.u64.wrap (a*16+(d:Int))=a*16+(d:Int):=by rw [IntKind.wrap_u64];omega
            have w3:¬ a*16+(d:Int)<a*16:=by omega
            have HD:=Hm hdec;clear hacc hF ha hdec hcut hov hdg
            go_wp2_with (go_at_call 194;refine (KL.o _).mono ?_;rintro e w' ⟨rfl,rfl⟩)
            go_ret2
            exact ⟨_,_,rfl,HBW.o,.inr ⟨HD.o,.inr rfl⟩⟩
          . have hF:pu 4294967295 acc (c::l.drop (k+1))=pu 4294967295 (acc*16+d) (l.drop (k+1)):=by simp [pu,hdg,hcut,hov]
            have HN:Hid (a*16+(d:Int)=((acc*16+d:Nat):Int)/\acc*16+d<=4294967295/\pu 4294967295 0 l=pu 4294967295 (acc*16+d) (l.drop (k+1))):=⟨by omega,by omega,by rw [hdec,hF]⟩;have iov:¬ 4294967295<a*16+(d:Int):=by omega
            have icut:¬ 1152921504606846976<=a:=by omega
            have w1:IntKind.u64.wrap (a*16)=a*16:=by rw [IntKind.wrap_u64];omega
            have w2:IntKind.u64.wrap (a*16+(d:Int))=a*16+(d:Int):=by rw [IntKind.wrap_u64];omega
            have w3:¬ a*16+(d:Int)<a*16:=by omega
            clear hacc hF ha hdec hcut hov hdg
            go_wp2_with (go_at_call 194;refine (KL.o _).mono ?_;rintro e w' ⟨rfl,rfl⟩)
            refine ⟨⟨k+1,acc*16+d,a*16+(d:Int),rfl,(by first|rfl|(congr 1;omega)),(by first|rfl|(congr 1;omega)),by omega,HN⟩,by simp [intOf];omega⟩
      . have hF:pu 4294967295 acc (c::l.drop (k+1))=none:=by
          have:dgI c=none:=by
           simp only [dgI]
           rw [if_neg hdig,<- hv,if_neg hlet]
          simp [pu,this]
        rw [hF] at hdec;have HD:=Hm hdec;have hnd:48<=(c.toNat:Int)->¬ (c.toNat:Int)<=57:=by omega
        clear hacc hF ha hdec hv hdig;have three:¬ (97:Int)<=v\/((97:Int)<=v/\¬ v<=122)\/((97:Int)<=v/\v<=122/\(16:Int)<=v-97+10):=by omega
        by_cases h95:c.toNat=95
        . rw [h95] at hc KL;have e95:((95:Nat):Int)=95:=rfl;rw [e95] at hc KL;clear hnd h95 e95
          rcases three with t1|⟨t1,t2⟩|⟨t1,t2,t3⟩
          . go_wp2_with (go_at_call 194;refine (KL.o _).mono ?_;rintro e w' ⟨rfl,rfl⟩)
            go_ret2
            exact ⟨_,_,rfl,HBW.o,.inr ⟨HD.o,.inl rfl⟩⟩
          . go_wp2_with (go_at_call 194;refine (KL.o _).mono ?_;rintro e w' ⟨rfl,rfl⟩)
            go_ret2
            exact ⟨_,_,rfl,HBW.o,.inr ⟨HD.o,.inl rfl⟩⟩
          . have g3:IntKind.u8.wrap (v-97)=v-97:=by rw [IntKind.wrap_u8];omega
            have g4:IntKind.u8.wrap (v-97+10)=v-97+10:=by rw [IntKind.wrap_u8];omega
            go_wp2_with (go_at_call 194;refine (KL.o _).mono ?_;rintro e w' ⟨rfl,rfl⟩)
            go_ret2
            exact ⟨_,_,rfl,HBW.o,.inr ⟨HD.o,.inl rfl⟩⟩
        . have g0:((c.toNat:Int)==95)=false:=by simp;omega
          generalize (c.toNat:Int)=ci at *;clear h95
          by_cases h48:(48:Int)<=ci
          . have h57:=hnd h48;clear hnd
            rcases three with t1|⟨t1,t2⟩|⟨t1,t2,t3⟩
            . go_wp2_with (go_at_call 194;refine (KL.o _).mono ?_;rintro e w' ⟨rfl,rfl⟩)
              go_ret2
              exact ⟨_,_,rfl,HBW.o,.inr ⟨HD.o,.inl rfl⟩⟩
            . go_wp2_with (go_at_call 194;refine (KL.o _).mono ?_;rintro e w' ⟨rfl,rfl⟩)
              go_ret2
              exact ⟨_,_,rfl,HBW.o,.inr ⟨HD.o,.inl rfl⟩⟩
            . have g3:IntKind.u8.wrap (v-97)=v-97:=by rw [IntKind.wrap_u8];omega
              have g4:IntKind.u8.wrap (v-97+10)=v-97+10:=by rw [IntKind.wrap_u8];omega
              go_wp2_with (go_at_call 194;refine (KL.o _).mono ?_;rintro e w' ⟨rfl,rfl⟩)
              go_ret2
              exact ⟨_,_,rfl,HBW.o,.inr ⟨HD.o,.inl rfl⟩⟩
          . clear hnd
            rcases three with t1|⟨t1,t2⟩|⟨t1,t2,t3⟩
            . go_wp2_with (go_at_call 194;refine (KL.o _).mono ?_;rintro e w' ⟨rfl,rfl⟩)
              go_ret2
              exact ⟨_,_,rfl,HBW.o,.inr ⟨HD.o,.inl rfl⟩⟩
            . go_wp2_with (go_at_call 194;refine (KL.o _).mono ?_;rintro e w' ⟨rfl,rfl⟩)
              go_ret2
              exact ⟨_,_,rfl,HBW.o,.inr ⟨HD.o,.inl rfl⟩⟩
            . have g3:IntKind.u8.wrap (v-97)=v-97:=by rw [IntKind.wrap_u8];omega
              have g4:IntKind.u8.wrap (v-97+10)=v-97+10:=by rw [IntKind.wrap_u8];omega
              go_wp2_with (go_at_call 194;refine (KL.o _).mono ?_;rintro e w' ⟨rfl,rfl⟩)
              go_ret2
              exact ⟨_,_,rfl,HBW.o,.inr ⟨HD.o,.inl rfl⟩⟩
  . have hkk:k=l.length:=by omega
    subst hkk;have hF:pu 4294967295 acc (l.drop l.length)=some acc:=by rw [List.drop_eq_nil_of_le (Nat.le_refl _)];rfl
    rw [hF] at hdec;subst ha;have HD:=Hm hdec;clear hacc hF a0 a1 hdec HBC
    go_wp2
    go_ret2
    exact ⟨_,_,rfl,HBW.o,.inl ⟨acc,HD.o,rfl,rfl⟩⟩
end Go.Proofs.YtipfjdogokanbaaGreatDoor.Yz
