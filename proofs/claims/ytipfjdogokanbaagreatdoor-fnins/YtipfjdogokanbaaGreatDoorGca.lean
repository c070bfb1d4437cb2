import Derived.Test.YtipfjdogokanbaaGreatDoorGaa
import Derived.Test.YtipfjdogokanbaaGreatDoorGbp
import Derived.Test.YtipfjdogokanbaaGreatDoorGbz
import Derived.Test.YtipfjdogokanbaaGreatDoorGbn
import Derived.Test.YtipfjdogokanbaaGreatDoorGay
import Derived.Test.YtipfjdogokanbaaGreatDoorGbg
import Derived.Deep.Cut
import Derived.Deep.RegionLaw
import Derived.Test.YtipfjdogokanbaaGreatDoorGby
set_option linter.all false
set_option maxHeartbeats 400000000
set_option maxRecDepth 100000
set_option linter.all false
set_option linter.all false
namespace Go.Proofs.YtipfjdogokanbaaGreatDoor.An
open Go.RowKit Go.Sort
theorem bytes_bI (l:List UInt8):Yz.Qv (Pr.bI l)=l:=by
 induction l with
 |nil=>rfl
 |cons a l ih=>simp only [Yz.Qv,Pr.bI,List.map_cons] at ih⊢;rw [ih];simp
theorem bI_bytes (ts:List Int)(h:L3.Qt ts):Pr.bI (Yz.Qv ts)=ts:=by
 have h':∀ t ∈ ts,0<=t/\t<=255:=by
  intro t ht
  obtain ⟨i,hi,e⟩:=List.getElem_of_mem ht
  have:=h i
  rw [List.getD_eq_getElem?_getD,List.getElem?_eq_getElem hi] at this;rw [<- e];exact this
 clear h
 induction ts with
 |nil=>rfl
 |cons a l ih =>
  have ha:=h' a (by simp);have hl:=ih (λt ht=>h' t (by simp [ht]))
  simp only [Yz.Qv,Pr.bI,List.map_cons] at hl⊢
  rw [hl]
  congr 1
  have:(UInt8.ofNat a.toNat).toNat=a.toNat%256:=by simp
  rw [this]
  omega
theorem gd_same (x:In):Yz.gd x=gd x:=rfl
theorem prt_line (x:In)(h:gd x=true):Yz.Qv (Pr.JH x)=Yz.lnX x:=by
 unfold Pr.JH;rw [if_pos (show Pr.gd x=true from h),bytes_bI]
 rfl
theorem enc_none (x:In)(h:gd x=false):Ed.QS x=[]/\Pr.JH x=[]:=by
 constructor
 . unfold Ed.QS;rw [if_neg (by rw [h];decide)]
 . unfold Pr.JH;rw [if_neg (by rw [show Pr.gd x=false from h];decide)]
theorem enc_some (x:In)(h:gd x=true):1<=(Ed.QS x).length:=by
 unfold Ed.QS;rw [if_pos h];simp [Ed.Gw]
theorem cell_of {w:World}{g:Nat}{L:List Int}{B n c:Nat}(h:w.ownsRow B 5 1 (.slice (some ⟨g,0,none⟩) n c) n (U L)):∀ j u,(U L)[j]?=some u->w.cell? ((⟨g,0,none⟩:Addr).add j)=some u:=by
 intro j u hu
 rw [show (⟨g,0,none⟩:Addr).add j=⟨g,0+j,none⟩ by unfold Addr.add;split<;>simp_all];have hj:j<L.length:=by have:=(List.getElem?_eq_some_iff.1 hu).1;simpa [U] using this
 obtain ⟨h1,h2⟩:=h;have hn:n=L.length:=by simpa [U] using h1.symm
 rw [Nat.zero_add,World.ownsRow.cellAt ⟨h1,h2⟩ j (by omega)]
 exact hu
theorem lit_one (w:World)(v:Value)(t:TypeId):∀ j u,([v]:List Value)[j]?=some u->(w.alloc (.cells #[v] t)).cell? ((⟨w.heap.size,0,none⟩:Addr).add j)=some u:=by
 intro j u hu
 have k:Bk (w.alloc (.cells ([v]:List Value).toArray t)) w.heap.size [v]:=Bk.new;rw [show (⟨w.heap.size,0,none⟩:Addr).add j=⟨w.heap.size,0+j,none⟩ by unfold Addr.add;split<;>simp_all,Nat.zero_add]
 exact k.2.1 j u hu
theorem two_lit {V:World}{cs cs':List Value}{t t':TypeId}(n:Nat)(h:cs.length=n)(h':cs'.length=n):(∀ j,j<n->((V.alloc (.cells cs.toArray t)).alloc (.cells cs'.toArray t')).cell? ⟨V.heap.size,j,none⟩=cs[j]?)/\(∀ j,j<n->((V.alloc (.cells cs.toArray t)).alloc (.cells cs'.toArray t')).cell? ⟨V.heap.size+1,j,none⟩=cs'[j]?):=by
 have k:Bk (V.alloc (.cells cs.toArray t)) V.heap.size cs:=Bk.new;have k2:=k.past (o:=.cells cs'.toArray t');have k3:Bk ((V.alloc (.cells cs.toArray t)).alloc (.cells cs'.toArray t')) (V.alloc (.cells cs.toArray t)).heap.size cs':=Bk.new;have hz:(V.alloc (.cells cs.toArray t)).heap.size=V.heap.size+1:=by simp
 rw [hz] at k3
 refine ⟨λj hj=>?_,λj hj=>?_⟩
 . rw [List.getElem?_eq_getElem (by omega)]
   exact k2.2.1 j _ (List.getElem?_eq_getElem (by omega))
 . rw [List.getElem?_eq_getElem (by omega)]
   exact k3.2.1 j _ (List.getElem?_eq_getElem (by omega))
theorem fieldT (ok:Bool)(y:In)(la:Option Addr)(lc:Nat)(w:World):(Instr.field 33 (.agg #[.bool ok,.int .i64 y.op,.int .i64 y.a,.int .i64 y.b,.int .u64 y.v,.slice la y.l.length lc]) 0).run Tryz.prog w=.ok (.bool ok) w:=by kernel_rfl
def cD (d:Ed.DR)(v:Value):List Value:=[.int .i64 d.err,.int .i64 d.nxt,.int .i64 d.x.op,.int .i64 d.x.a,.int .i64 d.x.b,.int .u64 d.x.v,v]
def cT (ok:Bool)(x:In)(v:Value):List Value:=[.bool ok,.int .i64 x.op,.int .i64 x.a,.int .i64 x.b,.int .u64 x.v,v]
theorem conv_has {W:World}{a:Option Addr}{xs:List Int}{c:Nat}(h:L3.Has W a xs):(convert 22 9 (.slice a xs.length c)).run Tryz.prog W=.ok (.string (strOfNums xs)) W:=by
 by_cases hx:xs=[]
 . subst hx
   cases a with
   |none=>exact run_convert_bytes_nil W 22 5 Tryz.underlying22 Tryz.underlying5 _ _ 9 Tryz.underlying9
   |some p=>exact run_convert_bytes_back W 22 9 5 p c [] Tryz.underlying22 Tryz.underlying5 Tryz.underlying9 (λj hj=>by simp at hj)
 . rcases h with h|⟨b,o,rfl,hc⟩
   . exact absurd h hx
   . exact run_convert_bytes_arg W 22 5 Tryz.underlying22 Tryz.underlying5 b o _ c xs rfl (λi hi=>hc i hi) 9 Tryz.underlying9
theorem pV {W:World}(h:Yz.Vs W.heap.size W):Pr.Vs W:=⟨h.tz,h.tab⟩
theorem own_i {w:World}{B:Nat}{la:Option Addr}{lc:Nat}{xs:List Int}(h:w.ownsRow B 2 1 (.slice la xs.length lc) xs.length (I xs)):Has w la xs:=by
 obtain ⟨a,c,e,hh⟩:=own_shape h
 cases e
 exact hh
theorem law_ins (a0 a1:Option Addr)(c0 c1:Nat)(xs ys:List Int)(w:World)(hB0:L3.Qt xs)(hB1:L3.Qt ys)(h0:L3.Has w a0 xs)(h1:L3.Has w a1 ys)(hV:Yz.Vs w.heap.size w) :
    Calls Tryz.prog 3 #[.slice a0 xs.length c0,.slice a1 ys.length c1] w λe w'=>e=.returned (.bool true)/\Below w.heap.size w w':=by
 by_cases hx:1048576<xs.length
 . have hxi:(1048576:Int)<(xs.length:Int):=by omega
   clear h0 h1 hV hB0 hB1
   go_enter Tryz.func3,Tryz.ntmps3
   go_wp2
   go_ret
   exact ⟨rfl,Below.refl _ _⟩
 have hxi:¬ (1048576:Int)<(xs.length:Int):=by omega
 by_cases hy:1048576<ys.length
 . have hyi:(1048576:Int)<(ys.length:Int):=by omega
   clear h0 h1 hV hB0 hB1
   go_enter Tryz.func3,Tryz.ntmps3
   go_wp2
   go_ret
   exact ⟨rfl,Below.refl _ _⟩
 have hyi:¬ (1048576:Int)<(ys.length:Int):=by omega
 have hl0:xs.length<=1099511627776:=by omega
 have hl1:ys.length<=1099511627776:=by omega
 have KD:=Hm (de_c a0 c0 xs w hl0 hB0 h0);have KDD:=Hm (λW (h:Below w.heap.size w W)=>dd_c a1 c1 ys W hl1 hB1 (h1.below h));have KDP:=Hm (λW (h:Below w.heap.size w W)=>dp_c a1 c1 ys W hl1 hB1 (h1.below h));have HV:=Hm (λW (h:Below w.heap.size w W)=>((hV.keep h).up h.size:Yz.Vs W.heap.size W));clear h0 h1 hB0 hB1 hV hx hy
 go_enter Tryz.func3,Tryz.ntmps3
 go_wp2_with fail
 refine KD.o.mono ?_
 rintro e w1 ⟨x,la,lc,rfl,hib,hlv,hb1⟩;have hTR:=And.intro (Bk.new (w:=w1) (cs:=cI x (.slice la x.l.length lc)) (t:=26)) (And.intro (hlv.has.keep ((Below.refl w1.heap.size w1).alloc (Nat.le_refl _) (.cells #[.int .i64 x.op,.int .i64 x.a,.int .i64 x.b,.int .u64 x.v,.slice la x.l.length lc] 26))) (hb1.alloc hb1.size (.cells #[.int .i64 x.op,.int .i64 x.a,.int .i64 x.b,.int .u64 x.v,.slice la x.l.length lc] 26)));have HT:=Hm hTR;have HIB:=Hm hib;clear hTR hlv hib hb1 KD;obtain ⟨g,hg⟩:∃ g,g=w1.heap.size:=⟨_,rfl⟩
 go_upto_region 4 with fail
 rw [<- hg] at HT⊢;clear hg
 refine Qj (λV=>Bk V g (cI x (.slice la x.l.length lc))/\Has V la x.l/\Below w.heap.size w V) HT.o ?_
 rintro V1 ⟨b1,l1,e1⟩;clear HT;have p0:=b1.2.1 0 _ rfl;have p1:=b1.2.1 1 _ rfl;have p2:=b1.2.1 2 _ rfl;have p3:=b1.2.1 3 _ rfl;have p4:=b1.2.1 4 _ rfl;have HX:=Hm (And.intro b1 (And.intro l1 e1));have KE:=Hm (Ed.ienc_c x la lc V1 HIB.o.1 HIB.o.2.1 (by have:=HIB.o.2.2;omega) l1);clear b1 l1 e1
 go_wp2_with fail
 refine KE.o.mono ?_
 rintro e V2 ⟨vb,rfl,ob,bb⟩;have HX:=Hm (And.intro (HX.o.1.keep bb) (And.intro (HX.o.2.1.keep bb) (HX.o.2.2.trans (bb.mono HX.o.2.2.size))));have OB:=Hm ob;have p0:=HX.o.1.2.1 0 _ rfl;have p1:=HX.o.1.2.1 1 _ rfl;have p2:=HX.o.1.2.1 2 _ rfl;have p3:=HX.o.1.2.1 3 _ rfl;have p4:=HX.o.1.2.1 4 _ rfl;obtain ⟨ba,bc,rfl⟩:∃ ba bc,vb=.slice ba (Ed.QS x).length bc:=Ql ob;have KP:=Hm (Pr.iprt_c x la lc V2 HIB.o.1 HIB.o.2.1 (by have:=HIB.o.2.2;omega) HX.o.2.1 (pV (HV.o _ HX.o.2.2)));clear ob bb KE
 go_wp2_with fail
 refine KP.o.mono ?_
 rintro e V3 ⟨vt,rfl,ot,bt⟩;have HX:=Hm (And.intro (HX.o.1.keep bt) (And.intro (HX.o.2.1.keep bt) (HX.o.2.2.trans (bt.mono HX.o.2.2.size))));have OB:=Hm (Js OB.o (λk hk=>bt.block k (OB.o.lt k hk).2));have OT:=Hm ot;have p0:=HX.o.1.2.1 0 _ rfl;have p1:=HX.o.1.2.1 1 _ rfl;have p2:=HX.o.1.2.1 2 _ rfl;have p3:=HX.o.1.2.1 3 _ rfl;have p4:=HX.o.1.2.1 4 _ rfl;obtain ⟨ta,tc,rfl⟩:∃ ta tc,vt=.slice ta (Pr.JH x).length tc:=Ql ot;have KS:=Hm (Ed.senc_c x la lc V3 HIB.o.1 HIB.o.2.1 (by have:=HIB.o.2.2;omega) HX.o.2.1);clear ot bt KP
 go_wp2_with fail
 refine KS.o.mono ?_
 rintro e V4 ⟨vz,rfl,oz,bz⟩;obtain ⟨za,zc,rfl⟩:∃ za zc,vz=.slice za (Ed.QS x).length zc:=Ql oz;have HX:=Hm (And.intro (HX.o.1.keep bz) (And.intro (HX.o.2.1.keep bz) (HX.o.2.2.trans (bz.mono HX.o.2.2.size))));have OB:=Hm (Js OB.o (λk hk=>bz.block k (OB.o.lt k hk).2));have OT:=Hm (Js OT.o (λk hk=>bz.block k (OT.o.lt k hk).2));clear oz bz KS p0 p1 p2 p3 p4
 go_upto_if 33 with fail
 go_cut [8,9] from 24 to 82 (λi8 i9 wc=>Below w.heap.size w wc)
 case first =>
  cases hgd:gd x with
  |false =>
   obtain ⟨z1,z2⟩:=enc_none x hgd;have e1:((Ed.QS x).length:Int)=0:=by rw [z1];rfl
   have e2:((Pr.JH x).length:Int)=0:=by rw [z2];rfl
   clear z1 z2
   go_wp2
   go_meet
   case rel=>exact HX.o.2.2
  |true =>
   have e1:¬ ((Ed.QS x).length:Int)=0:=by have:=enc_some x hgd;omega
   have HG:=Hm hgd;have hel:=enc_short x HIB.o.2.2;have heb:L3.Qt (Ed.QS x):=encM_allB x (by have:=HIB.o.2.2;omega)
   obtain ⟨g5,rfl⟩:∃ g5,ba=some ⟨g5,0,none⟩:=by
    rcases OB.o.2 with ⟨_,h⟩|⟨g5,c5,cur5,e,-⟩
    . omega
    . injection e with e;exact ⟨g5,e⟩
   obtain ⟨i5,hi5,ht0,ht1,ht2⟩:=info_parts infoB;have HO5:Hid (∀ t,(V4.alloc (.cells #[.int .u8 5] t)).ownsRow V4.heap.size t 1 (.slice (some ⟨V4.heap.size,0,none⟩) 1 1) 1 [.int .u8 5]):=λt=>World.ownsRow_lit V4 #[.int .u8 5] 1 (Nat.le_refl _) (by decide) rfl;have HC5:Hid (∀ t j u,(U (Ed.QS x))[j]?=some u->(V4.alloc (.cells #[.int .u8 5] t)).cell? ((⟨g5,0,none⟩:Addr).add j)=some u):=λt=>cell_of (OB.o.alloc (.cells #[.int .u8 5] t));have HL5:Hid (∀ t,V4.heap.size<=(V4.alloc (.cells #[.int .u8 5] t)).heap.size):=λt=>by simp
   have HN:Hid ((5::Ed.QS x++[9]).length=1+(Ed.QS x).length+1):=by show _=_;simp;omega
   have ab5:L3.Qt [5]:=λi=>by match i with|0=>simp|i+1=>simp
   have ab9:L3.Qt [9]:=λi=>by match i with|0=>simp|i+1=>simp
   have HAB:Hid (L3.Qt (5::Ed.QS x++[9])):=Gk (Gk ab5 heb) ab9;clear ab5 ab9
   have KI:Hid (∀ (W:World) (B:Nat) (va:Option Addr) (vc:Nat),W.ownsRow B 5 1 (.slice va (1+(Ed.QS x).length+1) vc) (1+(Ed.QS x).length+1) (U (5::Ed.QS x++[9]))->Calls Tryz.prog 8 #[.slice va (1+(Ed.QS x).length+1) vc,.int .i64 1] W (λe w'=>∃ la' lc',e=.returned (Ed.drV ⟨0,(Ed.QS x).length+1,x⟩ la' lc')/\Has w' la' x.l/\Below W.heap.size W w')):=by
    intro W B va vc ho
    obtain ⟨k1,k2,k3,k4⟩:=X6 ho;have k:=Ed.idec_c va vc (5::Ed.QS x++[9]) 1 W HAB.o (by rw [HN.o];omega) (by rw [HN.o];omega) k2 k3;rw [HN.o,Ed.dres_back x HG.o HIB.o.1 HIB.o.2.1 (by have:=HIB.o.2.2;omega)] at k
    refine k.mono ?_
    rintro e w' ⟨la',lc',rfl,o,b⟩
    exact ⟨la',lc',rfl,own_i o,b⟩
   have KT:Hid (∀ (W:World),L3.Has W ta (Pr.JH x)->Yz.Vs W.heap.size W->Calls Tryz.prog 9 #[.slice ta (Pr.JH x).length tc] W (λe w'=>∃ la' lc',e=.returned (Yz.itV true x la' lc')/\Has w' la' x.l/\Below W.heap.size W w')):=by
    intro W hh hv
    have hs:=Pr.prt_short x HIB.o.1 HIB.o.2.1 HIB.o.2.2;have k:=Yz.ipar_c ta tc (Pr.JH x) W hh (by omega) hv;rw [prt_line x HG.o] at k;have hp:=Yz.prs_line x HG.o HIB.o.1 HIB.o.2.1
    refine k.mono ?_
    rintro e w' ⟨ok,y,la',lc',rfl,o,b,k1,k2⟩
    cases ok with
    |false=>exact absurd ⟨x,hp⟩ (k2 rfl).2
    |true =>
     have:=Yz.prs_uniq (k1 rfl) hp
     subst this
     exact ⟨la',lc',rfl,own_i o,b⟩
   clear hgd heb
   go_wp2_with (first
    |(at_builtin;refine wpList_append_own_at _ rfl _ _ 22 rfl V4.heap.size 5 i5 (.int .u8 0) 1 1 Tryz.underlying22 hi5 ht0 ht1 ht2 rfl (by decide) (.slice (some ⟨V4.heap.size,0,none⟩) 1 1) 1 _ rfl (HO5.o _) ⟨g5,0,none⟩ (Ed.QS x).length bc (U (Ed.QS x)) rfl (by simp [U]) (HC5.o _) (by simp [U,Value.oneCell']) (by unfold maxLen;omega) (by omega) (HL5.o _) ?_;intro v6 w6 o6 g6 hn6 hat6;have B6:=Hm (Jq ((Below.refl V4.heap.size V4).alloc (Nat.le_refl _) _) g6 (λq hq=>((HO5.o 5).lt q hq).1));have H6:Hid (∀ o,(w6.alloc o).ownsRow V4.heap.size 5 1 v6 (1+(Ed.QS x).length) ([.int .u8 5]++U (Ed.QS x))):=(λo=>o6.alloc o);have H6L:=Hm (lit_one w6 (.int .u8 9) 5);have H6S:Hid (∀ o,V4.heap.size<=(w6.alloc o).heap.size):=(λo=>by have:=B6.o.size;simp;omega);obtain ⟨v6a,v6c,rfl⟩:=Ql o6;clear o6 g6 hn6 hat6)
    | (at_builtin;go_loud (refine wpList_append_own_at _ rfl _ _ 22 rfl V4.heap.size 5 i5 (.int .u8 0) 1 1 Tryz.underlying22 hi5 ht0 ht1 ht2 rfl (by decide) (.slice v6a (1+(Ed.QS x).length) v6c) (1+(Ed.QS x).length) _ rfl (H6.o _) ⟨w6.heap.size,0,none⟩ 1 1 [.int .u8 9] rfl rfl H6L.o (by simp [Value.oneCell']) (by unfold maxLen;omega) (by omega) (H6S.o _) ?_;intro v7 w7 o7 g7 hn7 hat7;have B7:=Hm (Jq (B6.o.alloc B6.o.size _) g7 (fun q hq=>((H6.o (.cells #[.int .u8 9] 5)).lt q hq).1));have H7:=Hm o7;obtain ⟨v7a,v7c,rfl⟩:=Ql o7;clear o7 g7 hn7 hat7)))
   refine (KI.o w7 V4.heap.size v7a v7c (by simpa [U] using H7.o)).mono ?_
   rintro e w8 ⟨la8,lc8,rfl,hl8,b8⟩;have B8:=Hm (B7.o.trans (b8.mono B7.o.size));have L8:=Hm hl8;clear hl8 b8 KI B6 H6 H6L H6S B7 H7 HO5 HC5 HL5;have HT8:Hid ((λV=>Bk V w8.heap.size (cD ⟨0,(Ed.QS x).length+1,x⟩ (.slice la8 x.l.length lc8))/\Has V la8 x.l/\Below V4.heap.size V4 V) (w8.alloc (.cells #[.int .i64 0,.int .i64 ((Ed.QS x).length+1),.int .i64 x.op,.int .i64 x.a,.int .i64 x.b,.int .u64 x.v,.slice la8 x.l.length lc8] 30))):=⟨Bk.new,L8.o.keep ((Below.refl _ _).alloc (Nat.le_refl _) _),B8.o.alloc B8.o.size _⟩;obtain ⟨g8,hg8⟩:∃ g8,g8=w8.heap.size:=⟨_,rfl⟩
   go_upto_region 10 with fail
   rw [<- hg8] at HT8⊢;clear hg8
   refine Qj (λV=>Bk V g8 (cD ⟨0,(Ed.QS x).length+1,x⟩ (.slice la8 x.l.length lc8))/\Has V la8 x.l/\Below V4.heap.size V4 V) HT8.o ?_
   rintro V9 ⟨b9,l9,e9⟩;have H9:=Hm (And.intro b9 (And.intro l9 e9));have KT9:=Hm (KT.o V9 ((X6 OT.o).2.1.below e9) (HV.o _ (HX.o.2.2.trans (e9.mono HX.o.2.2.size))));clear b9 l9 e9 HT8 L8 B8
   go_wp2_with fail
   refine KT9.o.mono ?_
   rintro e w10 ⟨la10,lc10,rfl,hl10,b10⟩;have H10:=Hm (And.intro (H9.o.1.keep b10) (And.intro (H9.o.2.1.keep b10) (H9.o.2.2.trans (b10.mono H9.o.2.2.size))))
   have HT11:Hid ((λV=>Bk V w10.heap.size (cT true x (.slice la10 x.l.length lc10))/\Has V la10 x.l/\Bk V g8 (cD ⟨0,(Ed.QS x).length+1,x⟩ (.slice la8 x.l.length lc8))/\Has V la8 x.l/\Bk V g (cI x (.slice la x.l.length lc))/\Has V la x.l/\Below w.heap.size w V) (w10.alloc (.cells #[.bool true,.int .i64 x.op,.int .i64 x.a,.int .i64 x.b,.int .u64 x.v,.slice la10 x.l.length lc10] 33))):=by
    have hA:∀ o,Below w10.heap.size w10 (w10.alloc o):=λo=>(Below.refl _ _).alloc (Nat.le_refl _) _;have hB:=H10.o.2.2
    exact ⟨Bk.new,hl10.keep (hA _),H10.o.1.keep (hA _),H10.o.2.1.keep (hA _),(HX.o.1.keep hB).keep (hA _),(HX.o.2.1.keep hB).keep (hA _),(HX.o.2.2.trans (hB.mono HX.o.2.2.size)).alloc (HX.o.2.2.trans (hB.mono HX.o.2.2.size)).size _⟩
   obtain ⟨g10,hg10⟩:∃ g10,g10=w10.heap.size:=⟨_,rfl⟩
   go_upto_region 11 with fail
   rw [<- hg10] at HT11⊢;clear hg10
   refine Qj (λV=>Bk V g10 (cT true x (.slice la10 x.l.length lc10))/\Has V la10 x.l/\Bk V g8 (cD ⟨0,(Ed.QS x).length+1,x⟩ (.slice la8 x.l.length lc8))/\Has V la8 x.l/\Bk V g (cI x (.slice la x.l.length lc))/\Has V la x.l/\Below w.heap.size w V) HT11.o ?_
   rintro V12 h12;have H12:=Hm h12;have d0:=h12.2.2.1.2.1 0 _ rfl;have d1:=h12.2.2.1.2.1 1 _ rfl;have d2:=h12.2.2.1.2.1 2 _ rfl;have d3:=h12.2.2.1.2.1 3 _ rfl;have d4:=h12.2.2.1.2.1 4 _ rfl;have d5:=h12.2.2.1.2.1 5 _ rfl;have d6:=h12.2.2.1.2.1 6 _ rfl;have hpp:=h12.2.2.2.2.1.past (o:=.cells #[.int .i64 x.op,.int .i64 x.a,.int .i64 x.b,.int .u64 x.v,.slice la8 x.l.length lc8] 26);have p0:=hpp.2.1 0 _ rfl;have p1:=hpp.2.1 1 _ rfl;have p2:=hpp.2.1 2 _ rfl;have p3:=hpp.2.1 3 _ rfl;have p4:=hpp.2.1 4 _ rfl;clear h12 hpp HT11 H10 H9 KT9 hl10 b10;have HXL:Hid (x.l.length<=4):=HIB.o.2.2
   have HLW:Hid (∀ (la la':Option Addr) (lc lc':Nat) (V:World),Has V la x.l->Has V la' x.l->Calls Tryz.prog 10 #[.slice (some ⟨V.heap.size,0,none⟩) 1 1,.slice (some ⟨V.heap.size+1,0,none⟩) 1 1] ((V.alloc (.cells #[.int .i64 x.op,.int .i64 x.a,.int .i64 x.b,.int .u64 x.v,.slice la x.l.length lc] 26)).alloc (.cells #[.int .i64 x.op,.int .i64 x.a,.int .i64 x.b,.int .u64 x.v,.slice la' x.l.length lc'] 26)) λe w'=>e=.returned (.bool true)/\Below V.heap.size V w'):=by
    intro la la' lc lc' V h h'
    have hb:Below V.heap.size V ((V.alloc (.cells #[.int .i64 x.op,.int .i64 x.a,.int .i64 x.b,.int .u64 x.v,.slice la x.l.length lc] 26)).alloc (.cells #[.int .i64 x.op,.int .i64 x.a,.int .i64 x.b,.int .u64 x.v,.slice la' x.l.length lc'] 26)):=((Below.refl _ _).alloc (Nat.le_refl _) _).alloc (by simp) _;obtain ⟨k1,k2⟩:=two_lit (V:=V) (cs:=cI x (.slice la x.l.length lc)) (cs':=cI x (.slice la' x.l.length lc')) (t:=26) (t':=26) 5 rfl rfl
    refine (lwL_c V.heap.size (V.heap.size+1) 1 1 x la la' lc lc' _ k1 k2 (h.keep hb) (h'.keep hb) (by have:=HXL.o;omega)).mono ?_
    rintro e w' ⟨rfl,hb'⟩
    exact ⟨rfl,hb.trans (hb'.mono hb.size)⟩
   go_wp2_with fail
   refine (HLW.o la8 la lc8 lc V12 H12.o.2.2.2.1 H12.o.2.2.2.2.2.1).mono ?_
   rintro e V13 ⟨rfl,b13⟩;have h13:=And.intro (H12.o.1.keep b13) (And.intro (H12.o.2.1.keep b13) (And.intro (H12.o.2.2.2.2.1.keep b13) (And.intro (H12.o.2.2.2.2.2.1.keep b13) (H12.o.2.2.2.2.2.2.trans (b13.mono H12.o.2.2.2.2.2.2.size)))));have H13:=Hm h13;clear p0 p1 p2 p3 p4 d0 d1 d2 d3 d4 d5 d6;have d0:=h13.1.2.1 0 _ rfl;have d1:=h13.1.2.1 1 _ rfl;have d2:=h13.1.2.1 2 _ rfl;have d3:=h13.1.2.1 3 _ rfl;have d4:=h13.1.2.1 4 _ rfl;have d5:=h13.1.2.1 5 _ rfl;have hpp:=h13.2.2.1.past (o:=.cells #[.int .i64 x.op,.int .i64 x.a,.int .i64 x.b,.int .u64 x.v,.slice la10 x.l.length lc10] 26);have p0:=hpp.2.1 0 _ rfl;have p1:=hpp.2.1 1 _ rfl;have p2:=hpp.2.1 2 _ rfl;have p3:=hpp.2.1 3 _ rfl;have p4:=hpp.2.1 4 _ rfl;clear h13 hpp b13 H12
   go_wp2_with fail
   refine (HLW.o la10 la lc10 lc V13 H13.o.2.1 H13.o.2.2.2.1).mono ?_
   rintro e V14 ⟨rfl,b14⟩;have H14:=Hm (H13.o.2.2.2.2.trans (b14.mono H13.o.2.2.2.2.size));clear b14 p0 p1 p2 p3 p4 d0 d1 d2 d3 d4 d5
   go_wp2
   go_meet
   case rel=>exact H14.o
 case rest =>
  clear HX OB OT HIB;have HC:=Hm hcut;clear hcut
  go_wp2_with fail
  refine (KDD.o _ HC.o).mono ?_
  rintro e w5 ⟨bs,ba5,bc5,at_,rfl,hB5,hn5,hc5,hh5,hp5,hb5⟩;have HC5:=Hm (HC.o.trans (hb5.mono HC.o.size))
  have KI5:Hid (Calls Tryz.prog 8 #[.slice ba5 bs.length bc5,.int .i64 at_] w5 (λe w'=>∃ la' lc',e=.returned (Ed.drV (Ed.Jx bs at_) la' lc')/\Has w' la' (Ed.Jx bs at_).x.l/\Below w5.heap.size w5 w')):=by
   refine (Ed.idec_c ba5 bc5 bs at_ w5 hB5 (by omega) hc5 hh5 hp5).mono ?_
   rintro e w' ⟨la',lc',rfl,o,b⟩
   exact ⟨la',lc',rfl,own_i o,b⟩
  have KS5:Hid (∀ W,Below w5.heap.size w5 W->Calls Tryz.prog 12 #[.slice ba5 bs.length bc5,.int .i64 at_] W (λe w'=>∃ la' lc',e=.returned (Ed.drV (Ed.Jx bs at_) la' lc')/\Has w' la' (Ed.Jx bs at_).x.l/\Below W.heap.size W w')):=by
   intro W hb
   refine (Ed.sdec_c ba5 bc5 bs at_ W hB5 (by omega) (hh5.below hb) (λa e=>Nat.lt_of_lt_of_le (hp5 a e) hb.size)).mono ?_
   rintro e w' ⟨la',lc',rfl,o,b⟩
   exact ⟨la',lc',rfl,own_i o,b⟩
  have HDS:=Hm (And.intro (λh=>And.intro (Ed.dres_short bs hB5 at_ h) (And.intro (Ed.dres_n bs at_ h) hn5)) (And.intro (Ed.dres_v bs hB5 at_) (show (Ed.Jx bs at_).x.l.length<=1048576 by have:=Ed.dres_in bs at_;omega)));clear hB5 hn5 hc5 hh5 hp5 hb5;generalize Ed.Jx bs at_=d at *
  go_wp2_with fail
  refine KI5.o.mono ?_
  rintro e w6 ⟨la6,lc6,rfl,hl6,b6⟩;have HT6:Hid ((λV=>Bk V w6.heap.size (cD d (.slice la6 d.x.l.length lc6))/\Has V la6 d.x.l/\Below w5.heap.size w5 V) (w6.alloc (.cells #[.int .i64 d.err,.int .i64 d.nxt,.int .i64 d.x.op,.int .i64 d.x.a,.int .i64 d.x.b,.int .u64 d.x.v,.slice la6 d.x.l.length lc6] 30))):=⟨Bk.new,hl6.keep ((Below.refl _ _).alloc (Nat.le_refl _) _),b6.alloc b6.size _⟩;clear hl6 b6 KI5;obtain ⟨g6,hg6⟩:∃ g6,g6=w6.heap.size:=⟨_,rfl⟩
  go_upto_region 15 with fail
  rw [<- hg6] at HT6⊢;clear hg6
  refine Qj (λV=>Bk V g6 (cD d (.slice la6 d.x.l.length lc6))/\Has V la6 d.x.l/\Below w5.heap.size w5 V) HT6.o ?_
  rintro V6 h6;have H6:=Hm h6;clear h6 HT6
  go_wp2_with fail
  refine (KS5.o V6 H6.o.2.2).mono ?_
  rintro e w7 ⟨la7,lc7,rfl,hl7,b7⟩
  have HT7:Hid ((λV=>Bk V w7.heap.size (cD d (.slice la7 d.x.l.length lc7))/\Bk V g6 (cD d (.slice la6 d.x.l.length lc6))/\Has V la6 d.x.l/\Below w.heap.size w V) (w7.alloc (.cells #[.int .i64 d.err,.int .i64 d.nxt,.int .i64 d.x.op,.int .i64 d.x.a,.int .i64 d.x.b,.int .u64 d.x.v,.slice la7 d.x.l.length lc7] 30))):=by
   have hA:∀ o,Below w7.heap.size w7 (w7.alloc o):=λo=>(Below.refl _ _).alloc (Nat.le_refl _) _;have hB:=HC5.o.trans (H6.o.2.2.mono HC5.o.size);have hB':=hB.trans (b7.mono hB.size)
   exact ⟨Bk.new,(H6.o.1.keep b7).keep (hA _),(H6.o.2.1.keep b7).keep (hA _),hB'.alloc hB'.size _⟩
  clear hl7 b7 KS5 H6;obtain ⟨g7,hg7⟩:∃ g7,g7=w7.heap.size:=⟨_,rfl⟩
  go_upto_region 16 with fail
  rw [<- hg7] at HT7⊢;clear hg7
  refine Qj (λV=>Bk V g7 (cD d (.slice la7 d.x.l.length lc7))/\Bk V g6 (cD d (.slice la6 d.x.l.length lc6))/\Has V la6 d.x.l/\Below w.heap.size w V) HT7.o ?_
  rintro V7 h7;have H7:=Hm h7;clear h7 HT7
  go_wp2_with fail
  refine (KDP.o V7 H7.o.2.2.2).mono ?_
  rintro e w8 ⟨ts,ta8,tc8,rfl,hB8,hn8,hh8,hb8⟩;have HC8:=Hm (H7.o.2.2.2.trans (hb8.mono H7.o.2.2.2.size));have H8:=Hm (And.intro (H7.o.1.keep hb8) (And.intro (H7.o.2.1.keep hb8) (And.intro (H7.o.2.2.1.keep hb8) HC8.o)));obtain ⟨ok,y,-,uI,uS⟩:=Yz.one_ans (Yz.Qv ts) (by simp [Yz.Qv];omega);have HTL:Hid ((Yz.Qv ts).length=ts.length):=by show _=_;simp [Yz.Qv]
  have HTB:=Hm (bI_bytes ts hB8)
  have KI8:Hid (Calls Tryz.prog 9 #[.slice ta8 ts.length tc8] w8 (λe w'=>(∃ la' lc',e=.returned (Yz.itV ok y la' lc')/\Has w' la' y.l/\Below w8.heap.size w8 w')/\(ok=true->Yz.Prs (Yz.Q3 (Yz.Qv ts)) y))):=by
   refine (Yz.ipar_c ta8 tc8 ts w8 hh8 (by omega) (HV.o _ HC8.o)).mono ?_
   rintro e w' ⟨ok1,x1,la',lc',rfl,o,b,k1,k2⟩;obtain ⟨rfl,rfl⟩:=uI ok1 x1 k1 k2
   exact ⟨⟨la',lc',rfl,own_i o,b⟩,k1⟩
  have KS8:Hid (∀ W,Below w8.heap.size w8 W->Calls Tryz.prog 14 #[.slice ta8 ts.length tc8] W (λe w'=>∃ la' lc',e=.returned (.agg #[.bool ok,.int .i64 y.op,.int .i64 y.a,.int .i64 y.b,.int .u64 y.v,.slice la' y.l.length lc'])/\Below W.heap.size W w')):=by
   intro W hb
   refine (Yz.spar_c ta8 tc8 ts W (hh8.below hb) (by omega)).mono ?_
   rintro e w' ⟨ok0,x0,la',lc',rfl,o,b,k1,k2⟩;obtain ⟨rfl,rfl⟩:=uS ok0 x0 k1 k2
   exact ⟨la',lc',rfl,b⟩
  have HH8:=Hm (And.intro hh8 hB8);clear hB8 hh8 hb8 uI uS H7
  go_wp2_with fail
  refine KI8.o.mono ?_
  rintro e w9 ⟨⟨la9,lc9,rfl,hl9,b9⟩,hpr⟩;have HPR:=Hm hpr
  have HT9:Hid ((λV=>Bk V w9.heap.size (cT ok y (.slice la9 y.l.length lc9))/\Has V la9 y.l/\Bk V g7 (cD d (.slice la7 d.x.l.length lc7))/\Bk V g6 (cD d (.slice la6 d.x.l.length lc6))/\Has V la6 d.x.l/\Below w8.heap.size w8 V/\Below w.heap.size w V) (w9.alloc (.cells #[.bool ok,.int .i64 y.op,.int .i64 y.a,.int .i64 y.b,.int .u64 y.v,.slice la9 y.l.length lc9] 33))):=by
   have hA:∀ o,Below w9.heap.size w9 (w9.alloc o):=λo=>(Below.refl _ _).alloc (Nat.le_refl _) _;have hB:=HC8.o.trans (b9.mono HC8.o.size)
   exact ⟨Bk.new,hl9.keep (hA _),(H8.o.1.keep b9).keep (hA _),(H8.o.2.1.keep b9).keep (hA _),(H8.o.2.2.1.keep b9).keep (hA _),b9.alloc b9.size _,hB.alloc hB.size _⟩
  clear hl9 b9 KI8 H8 hpr;obtain ⟨g9,hg9⟩:∃ g9,g9=w9.heap.size:=⟨_,rfl⟩
  go_upto_region 18 with fail
  rw [<- hg9] at HT9⊢;clear hg9
  refine Qj (λV=>Bk V g9 (cT ok y (.slice la9 y.l.length lc9))/\Has V la9 y.l/\Bk V g7 (cD d (.slice la7 d.x.l.length lc7))/\Bk V g6 (cD d (.slice la6 d.x.l.length lc6))/\Has V la6 d.x.l/\Below w8.heap.size w8 V/\Below w.heap.size w V) HT9.o ?_
  rintro V9 h9;have H9:=Hm h9;have c0:=h9.1.2.1 0 _ rfl;have d0:=h9.2.2.1.2.1 0 _ rfl;have d1:=h9.2.2.1.2.1 1 _ rfl;have k0:=h9.2.2.2.1.2.1 0 _ rfl;have k1:=h9.2.2.2.1.2.1 1 _ rfl;clear h9 HT9
  go_cut [116] from 97 to 116 (λc V=>c=.bool false/\Bk V g9 (cT ok y (.slice la9 y.l.length lc9))/\Has V la9 y.l/\Bk V g6 (cD d (.slice la6 d.x.l.length lc6))/\Has V la6 d.x.l/\Below w8.heap.size w8 V/\Below w.heap.size w V)
  case first =>
   go_region_law (go_simp;refine (KS8.o _ (by first|exact H9.o.2.2.2.2.2.1|exact H9.o.2.2.2.2.2.1.drew|exact H9.o.2.2.2.2.2.1.drew.drew)).mono ?_;rintro e W ⟨la',lc',rfl,bW⟩;have HW:Hid (Below V9.heap.size V9 W):=(by first|exact bW|exact (Below.refl _ _).drew.trans bW|exact (Below.refl _ _).drew.drew.trans bW);have c0':=(H9.o.1.keep HW.o).2.1 0 _ rfl;have fT:=fieldT ok y la' lc' W;clear bW)
   all_goals
    go_simp
    go_wp2
    go_meet
    exact ⟨rfl,H9.o.1.keep HW.o,H9.o.2.1.keep HW.o,H9.o.2.2.2.1.keep HW.o,H9.o.2.2.2.2.1.keep HW.o,H9.o.2.2.2.2.2.1.trans (HW.o.mono H9.o.2.2.2.2.2.1.size),H9.o.2.2.2.2.2.2.trans (HW.o.mono H9.o.2.2.2.2.2.2.size)⟩
  case rest =>
   obtain ⟨rfl,hc⟩:=hcut;clear c0 d0 d1 k0 k1 H9 KS8 KDD KDP HC HC5;have c0:=hc.1.2.1 0 _ rfl;have c1:=hc.1.2.1 1 _ rfl;have c2:=hc.1.2.1 2 _ rfl;have c3:=hc.1.2.1 3 _ rfl;have c4:=hc.1.2.1 4 _ rfl;have c5:=hc.1.2.1 5 _ rfl;have k0:=hc.2.2.1.2.1 0 _ rfl;have k1:=hc.2.2.1.2.1 1 _ rfl;have k2:=hc.2.2.1.2.1 2 _ rfl;have k3:=hc.2.2.1.2.1 3 _ rfl;have k4:=hc.2.2.1.2.1 4 _ rfl;have k5:=hc.2.2.1.2.1 5 _ rfl;have k6:=hc.2.2.1.2.1 6 _ rfl;have H:=Hm hc;clear hc
   have KE:Hid (∀ W,Below wc.heap.size wc W->Calls Tryz.prog 5 #[.agg #[.int .i64 d.x.op,.int .i64 d.x.a,.int .i64 d.x.b,.int .u64 d.x.v,.slice la6 d.x.l.length lc6]] W (λe w'=>∃ a c,e=.returned (.slice a (Ed.QS d.x).length c)/\Below W.heap.size W w')):=by
    intro W hb
    refine (Ed.ienc_c d.x la6 lc6 W HDS.o.2.1.1 HDS.o.2.1.2 HDS.o.2.2 (H.o.2.2.2.1.keep hb)).mono ?_
    rintro e w' ⟨v,rfl,o,b⟩;obtain ⟨a,c,rfl⟩:=Ql o
    exact ⟨a,c,rfl,b⟩
   have KP:Hid (∀ W,Below wc.heap.size wc W->ok=true->Calls Tryz.prog 6 #[.agg #[.int .i64 y.op,.int .i64 y.a,.int .i64 y.b,.int .u64 y.v,.slice la9 y.l.length lc9]] W (λe w'=>∃ v,e=.returned v/\(∃ B,w'.ownsRow B 5 1 v ts.length (U ts))/\Below W.heap.size W w')):=by
    intro W hb hok
    have hp:=HPR.o hok;obtain ⟨hg,hv0,hv1,hln⟩:=Yz.line_prs _ _ hp;have hyl:=Yz.prs_bd _ _ hp;rw [HTL.o] at hyl
    have hpm:Pr.JH y=ts:=by
     unfold Pr.JH;rw [if_pos (show Pr.gd y=true from hg),show Pr.lnX y=Yz.lnX y from rfl,hln,HTB.o]
    have hbw:=H.o.2.2.2.2.2.trans (hb.mono H.o.2.2.2.2.2.size)
    refine (Pr.iprt_c y la9 lc9 W hv0 hv1 (by omega) (H.o.2.1.keep hb) (pV (HV.o _ hbw))).mono ?_
    rintro e w' ⟨v,rfl,o,b⟩;rw [hpm] at o
    exact ⟨v,rfl,⟨_,o⟩,b⟩
   have HS8:Hid (∀ W,Below wc.heap.size wc W->L3.Has W ta8 ts):=λW hb=>HH8.o.1.below (H.o.2.2.2.2.1.trans (hb.mono H.o.2.2.2.2.1.size))
   have hdn:d.err=0->((Ed.QS d.x).length:Int)<=d.nxt-at_/\(-9223372036854775808<=d.nxt-at_/\d.nxt-at_<=9223372036854775807):=λh=>by
    obtain ⟨q1,q2,q3⟩:=HDS.o.1 h
    exact ⟨q1,by omega,by omega⟩
   clear HDS HPR HTL HTB HV;clear c0 c1 c2 c3 c4 c5 k0 k1 k2 k3 k4 k5 k6 HH8
   go_upto_region 20 with fail
   obtain ⟨z,hzz⟩:∃ z,(d.err==0)=z:=⟨_,rfl⟩;have hnz:(d.err != 0)=!z:=by rw [<- hzz];rfl
   have hdz:z=true->((Ed.QS d.x).length:Int)<=d.nxt-at_/\(-9223372036854775808<=d.nxt-at_/\d.nxt-at_<=9223372036854775807):=λh=>hdn (by rw [h] at hzz;simpa using hzz);clear hdn hzz
   refine Rp.pg_list (N:=143) (gs:=[Rp.is (.pointer (some ⟨g6,0,none⟩)),Rp.is (.int .i64 d.err),Rp.is (.bool (!z)),Rp.is (.bool (!z)),Rp.opt z (Rp.is (.pointer (some ⟨g6,2,none⟩))),Rp.opt z (Rp.is (.agg #[.int .i64 d.x.op,.int .i64 d.x.a,.int .i64 d.x.b,.int .u64 d.x.v,.slice la6 d.x.l.length lc6])),Rp.opt z (λ_ v=>∃ ea ec,v=.slice ea (Ed.QS d.x).length ec),Rp.opt z (Rp.is (.int .i64 (Ed.QS d.x).length)),Rp.opt z (Rp.is (.pointer (some ⟨g6,1,none⟩))),Rp.opt z (Rp.is (.int .i64 d.nxt)),Rp.opt z (Rp.is (.int .i64 at_)),Rp.opt z (Rp.is (.int .i64 (d.nxt-at_))),Rp.opt z (Rp.is (.bool true)),Rp.is (.bool true),Rp.is (.bool true),Rp.is (.pointer (some ⟨g9,0,none⟩)),Rp.is (.bool ok),Rp.is (.bool (!ok)),Rp.is (.bool (!ok)),Rp.opt ok (Rp.is (.pointer (some ⟨g9,1,none⟩))),Rp.opt ok (Rp.is (.agg #[.int .i64 y.op,.int .i64 y.a,.int .i64 y.b,.int .u64 y.v,.slice la9 y.l.length lc9])),Rp.opt ok (λW v=>∃ B,W.ownsRow B 5 1 v ts.length (U ts)),Rp.opt ok (Rp.is (.slice ta8 ts.length tc8)),Rp.opt ok (Rp.is (.bool true)),Rp.is (.bool true),Rp.is (.bool true),Rp.is (.bool true)]) (by kernel_rfl) (by kernel_rfl) rfl ?_ ?_ ?_
   . exact .cons (Rp.Jb _) (.cons (Rp.Jb _) (.cons (Rp.Jb _) (.cons (Rp.Jb _) (.cons (Rp.Jz _ (Rp.Jb _)) (.cons (Rp.Jz _ (Rp.Jb _)) (.cons (Rp.Jz _ (λ_ _ _ h _=>h)) (.cons (Rp.Jz _ (Rp.Jb _)) (.cons (Rp.Jz _ (Rp.Jb _)) (.cons (Rp.Jz _ (Rp.Jb _)) (.cons (Rp.Jz _ (Rp.Jb _)) (.cons (Rp.Jz _ (Rp.Jb _)) (.cons (Rp.Jz _ (Rp.Jb _)) (.cons (Rp.Jb _) (.cons (Rp.Jb _) (.cons (Rp.Jb _) (.cons (Rp.Jb _) (.cons (Rp.Jb _) (.cons (Rp.Jb _) (.cons (Rp.Jz _ (Rp.Jb _)) (.cons (Rp.Jz _ (Rp.Jb _)) (.cons (Rp.Jz _ (λW W' v h hb=>by obtain ⟨B,o⟩:=h;exact ⟨B,Js o (λk hk=>hb.block k (o.lt k hk).2)⟩)) (.cons (Rp.Jz _ (Rp.Jb _)) (.cons (Rp.Jz _ (Rp.Jb _)) (.cons (Rp.Jb _) (.cons (Rp.Jb _) (.cons (Rp.Jb _) (.nil)))))))))))))))))))))))))))
   . refine Rp.Jr.cons (λa W K Q f hK=>?_) ?_
     . have e12:a.tmps[12]?.getD undef=.pointer (some ⟨g6,0,none⟩):=(Rp.fx_sm f 12 (by kernel_rfl)).trans rfl
       refine Rp.J6 (.pointer (some ⟨g6,0,none⟩)) (Rp.JS rfl) (Below.refl _ _) ?_ rfl hK
       clear f hK
       go_simp
       try rfl
     refine Rp.Jr.cons (λa W K Q f hK=>?_) ?_
     . have e117:a.tmps[117]?.getD undef=.pointer (some ⟨g6,0,none⟩):=Rp.QL f 2 0 117 (by kernel_rfl);have hbW:Below wc.heap.size wc W:=f.kp;have c:=(H.o.2.2.1.keep hbW).2.1 0 _ rfl
       refine Rp.J6 (.int .i64 d.err) (Rp.JS rfl) (Below.refl _ _) ?_ rfl hK
       clear f hK
       go_simp
       try rfl
     refine Rp.Jr.cons (λa W K Q f hK=>?_) ?_
     . have e118:a.tmps[118]?.getD undef=.int .i64 d.err:=Rp.QL f 2 1 118 (by kernel_rfl)
       refine Rp.J6 (.bool (!z)) (Rp.JS rfl) (Below.refl _ _) ?_ rfl hK
       clear f hK
       go_simp
       try rfl
     refine Rp.Jr.cons (λa W K Q f hK=>?_) ?_
     . have e119:a.tmps[119]?.getD undef=.bool (!z):=Rp.QL f 2 2 119 (by kernel_rfl)
       refine Rp.J6 (.bool (!z)) (Rp.JS rfl) (Below.refl _ _) ?_ rfl hK
       clear f hK
       go_simp
       try rfl
     refine Rp.Jr.cons (λa W K Q f hK=>?_) ?_
     . have e120:a.tmps[120]?.getD undef=.bool (!z):=Rp.QL f 2 3 120 (by kernel_rfl)
       refine Rp.XG z (.pointer (some ⟨g6,2,none⟩)) rfl (Rp.Je rfl rfl (Nat.lt_of_lt_of_eq (show 120<143 by decide) f.sz.symm) e120 (by cases z<;>rfl)) (λhz=>?_) (λ_=>rfl) hK
       have e12:a.tmps[12]?.getD undef=.pointer (some ⟨g6,0,none⟩):=(Rp.fx_sm f 12 (by kernel_rfl)).trans rfl;clear f hK
       go_simp
       try rfl
     refine Rp.Jr.cons (λa W K Q f hK=>?_) ?_
     . have e120:a.tmps[120]?.getD undef=.bool (!z):=Rp.QL f 2 3 120 (by kernel_rfl)
       refine Rp.XG z (.agg #[.int .i64 d.x.op,.int .i64 d.x.a,.int .i64 d.x.b,.int .u64 d.x.v,.slice la6 d.x.l.length lc6]) rfl (Rp.Je rfl rfl (Nat.lt_of_lt_of_eq (show 120<143 by decide) f.sz.symm) e120 (by cases z<;>rfl)) (λhz=>?_) (λ_=>rfl) hK
       have e121:a.tmps[121]?.getD undef=.pointer (some ⟨g6,2,none⟩):=(Rp.QL f 2 4 121 (by kernel_rfl)).1 hz;have hbW:Below wc.heap.size wc W:=f.kp;have c2:=(H.o.2.2.1.keep hbW).2.1 2 _ rfl;have c3:=(H.o.2.2.1.keep hbW).2.1 3 _ rfl;have c4:=(H.o.2.2.1.keep hbW).2.1 4 _ rfl;have c5:=(H.o.2.2.1.keep hbW).2.1 5 _ rfl;have c6:=(H.o.2.2.1.keep hbW).2.1 6 _ rfl;clear f hK
       go_simp
       try rfl
     refine Rp.Jr.cons (λa W K Q f hK=>?_) ?_
     . have e120:a.tmps[120]?.getD undef=.bool (!z):=Rp.QL f 2 3 120 (by kernel_rfl)
       refine Rp.st_optc z (p:=λ_ v=>∃ ea ec,v=.slice ea (Ed.QS d.x).length ec) (fn:=5) (args:=#[.agg #[.int .i64 d.x.op,.int .i64 d.x.a,.int .i64 d.x.b,.int .u64 d.x.v,.slice la6 d.x.l.length lc6]]) rfl (Rp.Je rfl rfl (Nat.lt_of_lt_of_eq (show 120<143 by decide) f.sz.symm) e120 (by cases z<;>rfl)) (λhz=>?_) (λhz=>?_) hK
       . have e122:a.tmps[122]?.getD undef=.agg #[.int .i64 d.x.op,.int .i64 d.x.a,.int .i64 d.x.b,.int .u64 d.x.v,.slice la6 d.x.l.length lc6]:=(Rp.QL f 2 5 122 (by kernel_rfl)).1 hz;clear f hK
         go_simp
         try rfl
       . have e122:a.tmps[122]?.getD undef=.agg #[.int .i64 d.x.op,.int .i64 d.x.a,.int .i64 d.x.b,.int .u64 d.x.v,.slice la6 d.x.l.length lc6]:=(Rp.QL f 2 5 122 (by kernel_rfl)).1 hz
         exact (KE.o W f.kp).mono (by rintro e w' ⟨a',c',rfl,b⟩;exact ⟨_,rfl,b,a',c',rfl⟩)
     refine Rp.Jr.cons (λa W K Q f hK=>?_) ?_
     . have e120:a.tmps[120]?.getD undef=.bool (!z):=Rp.QL f 2 3 120 (by kernel_rfl)
       refine Rp.XG z (.int .i64 (Ed.QS d.x).length) rfl (Rp.Je rfl rfl (Nat.lt_of_lt_of_eq (show 120<143 by decide) f.sz.symm) e120 (by cases z<;>rfl)) (λhz=>?_) (λ_=>rfl) hK
       have e123:=(Rp.QL f 2 6 123 (by kernel_rfl)).1 hz;obtain ⟨ea,ec,e123⟩:∃ ea ec,a.tmps[123]?.getD undef=.slice ea (Ed.QS d.x).length ec:=e123;clear f hK
       go_simp
       try rfl
     refine Rp.Jr.cons (λa W K Q f hK=>?_) ?_
     . have e120:a.tmps[120]?.getD undef=.bool (!z):=Rp.QL f 2 3 120 (by kernel_rfl)
       refine Rp.XG z (.pointer (some ⟨g6,1,none⟩)) rfl (Rp.Je rfl rfl (Nat.lt_of_lt_of_eq (show 120<143 by decide) f.sz.symm) e120 (by cases z<;>rfl)) (λhz=>?_) (λ_=>rfl) hK
       have e12:a.tmps[12]?.getD undef=.pointer (some ⟨g6,0,none⟩):=(Rp.fx_sm f 12 (by kernel_rfl)).trans rfl;clear f hK
       go_simp
       try rfl
     refine Rp.Jr.cons (λa W K Q f hK=>?_) ?_
     . have e120:a.tmps[120]?.getD undef=.bool (!z):=Rp.QL f 2 3 120 (by kernel_rfl)
       refine Rp.XG z (.int .i64 d.nxt) rfl (Rp.Je rfl rfl (Nat.lt_of_lt_of_eq (show 120<143 by decide) f.sz.symm) e120 (by cases z<;>rfl)) (λhz=>?_) (λ_=>rfl) hK
       have e125:a.tmps[125]?.getD undef=.pointer (some ⟨g6,1,none⟩):=(Rp.QL f 2 8 125 (by kernel_rfl)).1 hz;have hbW:Below wc.heap.size wc W:=f.kp;have c:=(H.o.2.2.1.keep hbW).2.1 1 _ rfl;clear f hK
       go_simp
       try rfl
     refine Rp.Jr.cons (λa W K Q f hK=>?_) ?_
     . have e120:a.tmps[120]?.getD undef=.bool (!z):=Rp.QL f 2 3 120 (by kernel_rfl)
       refine Rp.XG z (.int .i64 at_) rfl (Rp.Je rfl rfl (Nat.lt_of_lt_of_eq (show 120<143 by decide) f.sz.symm) e120 (by cases z<;>rfl)) (λhz=>?_) (λ_=>rfl) hK
       have e11:a.tmps[11]?.getD undef=.int .i64 at_:=(Rp.fx_sm f 11 (by kernel_rfl)).trans rfl;clear f hK
       go_simp
       try rfl
     refine Rp.Jr.cons (λa W K Q f hK=>?_) ?_
     . have e120:a.tmps[120]?.getD undef=.bool (!z):=Rp.QL f 2 3 120 (by kernel_rfl)
       refine Rp.XG z (.int .i64 (d.nxt-at_)) rfl (Rp.Je rfl rfl (Nat.lt_of_lt_of_eq (show 120<143 by decide) f.sz.symm) e120 (by cases z<;>rfl)) (λhz=>?_) (λ_=>rfl) hK
       have e126:a.tmps[126]?.getD undef=.int .i64 d.nxt:=(Rp.QL f 2 9 126 (by kernel_rfl)).1 hz;have e127:a.tmps[127]?.getD undef=.int .i64 at_:=(Rp.QL f 2 10 127 (by kernel_rfl)).1 hz;have hw1:IntKind.i64.wrap (d.nxt-at_)=d.nxt-at_:=by obtain ⟨_,_,_⟩:=hdz hz;rw [IntKind.wrap_i64];omega
       clear f hK
       go_simp
       try rfl
     refine Rp.Jr.cons (λa W K Q f hK=>?_) ?_
     . have e120:a.tmps[120]?.getD undef=.bool (!z):=Rp.QL f 2 3 120 (by kernel_rfl)
       refine Rp.XG z (.bool true) rfl (Rp.Je rfl rfl (Nat.lt_of_lt_of_eq (show 120<143 by decide) f.sz.symm) e120 (by cases z<;>rfl)) (λhz=>?_) (λ_=>rfl) hK
       have e124:a.tmps[124]?.getD undef=.int .i64 (Ed.QS d.x).length:=(Rp.QL f 2 7 124 (by kernel_rfl)).1 hz;have e128:a.tmps[128]?.getD undef=.int .i64 (d.nxt-at_):=(Rp.QL f 2 11 128 (by kernel_rfl)).1 hz;have hdc:decide (((Ed.QS d.x).length:Int)<=d.nxt-at_)=true:=decide_eq_true (hdz hz).1;clear f hK
       go_simp
       try rfl
     refine Rp.Jr.cons (λa W K Q f hK=>?_) ?_
     . have e120:a.tmps[120]?.getD undef=.bool (!z):=Rp.QL f 2 3 120 (by kernel_rfl);have e129:=Rp.QL f 2 12 129 (by kernel_rfl)
       refine Rp.J6 (.bool true) (Rp.JS rfl) (Below.refl _ _) ?_ rfl hK
       cases z with
       |false=>clear f hK;go_simp;try rfl
       |true=>have e129:a.tmps[129]?.getD undef=.bool true:=e129.1 rfl;clear f hK;go_simp;try rfl
     refine Rp.Jr.cons (λa W K Q f hK=>?_) ?_
     . have e130:a.tmps[130]?.getD undef=.bool true:=Rp.QL f 2 13 130 (by kernel_rfl)
       refine Rp.J6 (.bool true) (Rp.JS rfl) (Below.refl _ _) ?_ rfl hK
       clear f hK
       go_simp
       try rfl
     refine Rp.Jr.cons (λa W K Q f hK=>?_) ?_
     . have e15:a.tmps[15]?.getD undef=.pointer (some ⟨g9,0,none⟩):=(Rp.fx_sm f 15 (by kernel_rfl)).trans rfl;have e131:a.tmps[131]?.getD undef=.bool true:=Rp.QL f 2 14 131 (by kernel_rfl)
       refine Rp.J6 (.pointer (some ⟨g9,0,none⟩)) (Rp.Je rfl rfl (Nat.lt_of_lt_of_eq (show 131<143 by decide) f.sz.symm) e131 rfl) (Below.refl _ _) ?_ rfl hK
       clear f hK
       go_simp
       try rfl
     refine Rp.Jr.cons (λa W K Q f hK=>?_) ?_
     . have e132:a.tmps[132]?.getD undef=.pointer (some ⟨g9,0,none⟩):=Rp.QL f 2 15 132 (by kernel_rfl);have e131:a.tmps[131]?.getD undef=.bool true:=Rp.QL f 2 14 131 (by kernel_rfl);have hbW:Below wc.heap.size wc W:=f.kp;have c:=(H.o.1.keep hbW).2.1 0 _ rfl
       refine Rp.J6 (.bool ok) (Rp.Je rfl rfl (Nat.lt_of_lt_of_eq (show 131<143 by decide) f.sz.symm) e131 rfl) (Below.refl _ _) ?_ rfl hK
       clear f hK
       go_simp
       try rfl
     refine Rp.Jr.cons (λa W K Q f hK=>?_) ?_
     . have e133:a.tmps[133]?.getD undef=.bool ok:=Rp.QL f 2 16 133 (by kernel_rfl);have e131:a.tmps[131]?.getD undef=.bool true:=Rp.QL f 2 14 131 (by kernel_rfl)
       refine Rp.J6 (.bool (!ok)) (Rp.Je rfl rfl (Nat.lt_of_lt_of_eq (show 131<143 by decide) f.sz.symm) e131 rfl) (Below.refl _ _) ?_ rfl hK
       clear f hK
       go_simp
       try rfl
     refine Rp.Jr.cons (λa W K Q f hK=>?_) ?_
     . have e134:a.tmps[134]?.getD undef=.bool (!ok):=Rp.QL f 2 17 134 (by kernel_rfl);have e131:a.tmps[131]?.getD undef=.bool true:=Rp.QL f 2 14 131 (by kernel_rfl)
       refine Rp.J6 (.bool (!ok)) (Rp.Je rfl rfl (Nat.lt_of_lt_of_eq (show 131<143 by decide) f.sz.symm) e131 rfl) (Below.refl _ _) ?_ rfl hK
       clear f hK
       go_simp
       try rfl
     refine Rp.Jr.cons (λa W K Q f hK=>?_) ?_
     . have e135:a.tmps[135]?.getD undef=.bool (!ok):=Rp.QL f 2 18 135 (by kernel_rfl)
       refine Rp.XG ok (.pointer (some ⟨g9,1,none⟩)) rfl (Rp.Je rfl rfl (Nat.lt_of_lt_of_eq (show 135<143 by decide) f.sz.symm) e135 (by cases ok<;>rfl)) (λhz=>?_) (λ_=>rfl) hK
       have e15:a.tmps[15]?.getD undef=.pointer (some ⟨g9,0,none⟩):=(Rp.fx_sm f 15 (by kernel_rfl)).trans rfl;clear f hK
       go_simp
       try rfl
     refine Rp.Jr.cons (λa W K Q f hK=>?_) ?_
     . have e135:a.tmps[135]?.getD undef=.bool (!ok):=Rp.QL f 2 18 135 (by kernel_rfl)
       refine Rp.XG ok (.agg #[.int .i64 y.op,.int .i64 y.a,.int .i64 y.b,.int .u64 y.v,.slice la9 y.l.length lc9]) rfl (Rp.Je rfl rfl (Nat.lt_of_lt_of_eq (show 135<143 by decide) f.sz.symm) e135 (by cases ok<;>rfl)) (λhz=>?_) (λ_=>rfl) hK
       have e136:a.tmps[136]?.getD undef=.pointer (some ⟨g9,1,none⟩):=(Rp.QL f 2 19 136 (by kernel_rfl)).1 hz;have hbW:Below wc.heap.size wc W:=f.kp;have c1:=(H.o.1.keep hbW).2.1 1 _ rfl;have c2:=(H.o.1.keep hbW).2.1 2 _ rfl;have c3:=(H.o.1.keep hbW).2.1 3 _ rfl;have c4:=(H.o.1.keep hbW).2.1 4 _ rfl;have c5:=(H.o.1.keep hbW).2.1 5 _ rfl;clear f hK
       go_simp
       try rfl
     refine Rp.Jr.cons (λa W K Q f hK=>?_) ?_
     . have e135:a.tmps[135]?.getD undef=.bool (!ok):=Rp.QL f 2 18 135 (by kernel_rfl)
       refine Rp.st_optc ok (p:=λW v=>∃ B,W.ownsRow B 5 1 v ts.length (U ts)) (fn:=6) (args:=#[.agg #[.int .i64 y.op,.int .i64 y.a,.int .i64 y.b,.int .u64 y.v,.slice la9 y.l.length lc9]]) rfl (Rp.Je rfl rfl (Nat.lt_of_lt_of_eq (show 135<143 by decide) f.sz.symm) e135 (by cases ok<;>rfl)) (λhz=>?_) (λhz=>?_) hK
       . have e137:a.tmps[137]?.getD undef=.agg #[.int .i64 y.op,.int .i64 y.a,.int .i64 y.b,.int .u64 y.v,.slice la9 y.l.length lc9]:=(Rp.QL f 2 20 137 (by kernel_rfl)).1 hz;clear f hK
         go_simp
         try rfl
       . have e137:a.tmps[137]?.getD undef=.agg #[.int .i64 y.op,.int .i64 y.a,.int .i64 y.b,.int .u64 y.v,.slice la9 y.l.length lc9]:=(Rp.QL f 2 20 137 (by kernel_rfl)).1 hz
         exact (KP.o W f.kp hz).mono (by rintro e w' ⟨v,rfl,o,b⟩;exact ⟨_,rfl,b,o⟩)
     refine Rp.Jr.cons (λa W K Q f hK=>?_) ?_
     . have e135:a.tmps[135]?.getD undef=.bool (!ok):=Rp.QL f 2 18 135 (by kernel_rfl)
       refine Rp.XG ok (.slice ta8 ts.length tc8) rfl (Rp.Je rfl rfl (Nat.lt_of_lt_of_eq (show 135<143 by decide) f.sz.symm) e135 (by cases ok<;>rfl)) (λhz=>?_) (λ_=>rfl) hK
       have e14:a.tmps[14]?.getD undef=.slice ta8 ts.length tc8:=(Rp.fx_sm f 14 (by kernel_rfl)).trans rfl;clear f hK
       go_simp
       try rfl
     refine Rp.Jr.cons (λa W K Q f hK=>?_) ?_
     . have e135:a.tmps[135]?.getD undef=.bool (!ok):=Rp.QL f 2 18 135 (by kernel_rfl)
       refine Rp.st_optc ok (p:=Rp.is (.bool true)) (fn:=15) (args:=#[a.tmps[138]?.getD undef,.slice ta8 ts.length tc8]) rfl (Rp.Je rfl rfl (Nat.lt_of_lt_of_eq (show 135<143 by decide) f.sz.symm) e135 (by cases ok<;>rfl)) (λhz=>?_) (λhz=>?_) hK
       . have e138:=(Rp.QL f 2 21 138 (by kernel_rfl)).1 hz;obtain ⟨B138,o138⟩:∃ B,W.ownsRow B 5 1 (a.tmps[138]?.getD undef) ts.length (U ts):=e138;have e139:a.tmps[139]?.getD undef=.slice ta8 ts.length tc8:=(Rp.QL f 2 22 139 (by kernel_rfl)).1 hz;clear f hK
         go_simp
         try rfl
       . have e138:=(Rp.QL f 2 21 138 (by kernel_rfl)).1 hz;obtain ⟨B138,o138⟩:∃ B,W.ownsRow B 5 1 (a.tmps[138]?.getD undef) ts.length (U ts):=e138;have e139:a.tmps[139]?.getD undef=.slice ta8 ts.length tc8:=(Rp.QL f 2 22 139 (by kernel_rfl)).1 hz
         exact (lwB_c (a.tmps[138]?.getD undef) (.slice ta8 ts.length tc8) ts W (conv_own o138) (conv_has (HS8.o W f.kp))).mono (by rintro e w' ⟨rfl,rfl⟩;exact ⟨_,rfl,Below.refl _ _,rfl⟩)
     refine Rp.Jr.cons (λa W K Q f hK=>?_) ?_
     . have e131:a.tmps[131]?.getD undef=.bool true:=Rp.QL f 2 14 131 (by kernel_rfl);have e135:a.tmps[135]?.getD undef=.bool (!ok):=Rp.QL f 2 18 135 (by kernel_rfl);have e140:=Rp.QL f 2 23 140 (by kernel_rfl)
       refine Rp.J6 (.bool true) (Rp.Je rfl rfl (Nat.lt_of_lt_of_eq (show 131<143 by decide) f.sz.symm) e131 rfl) (Below.refl _ _) ?_ rfl hK
       cases ok with
       |false=>clear f hK;go_simp;try rfl
       |true=>have e140:a.tmps[140]?.getD undef=.bool true:=e140.1 rfl;clear f hK;go_simp;try rfl
     refine Rp.Jr.cons (λa W K Q f hK=>?_) ?_
     . have e131:a.tmps[131]?.getD undef=.bool true:=Rp.QL f 2 14 131 (by kernel_rfl);have e141:a.tmps[141]?.getD undef=.bool true:=Rp.QL f 2 24 141 (by kernel_rfl)
       refine Rp.J6 (.bool true) (Rp.JS rfl) (Below.refl _ _) ?_ rfl hK
       clear f hK
       go_simp
       try rfl
     refine Rp.Jr.cons (λa W K Q f hK=>?_) ?_
     . have e142:a.tmps[142]?.getD undef=.bool true:=Rp.QL f 2 25 142 (by kernel_rfl)
       refine Rp.J6 (.bool true) (Rp.JS rfl) (Below.refl _ _) ?_ rfl hK
       clear f hK
       go_simp
       try rfl
     exact Rp.Jr.nil
   . intro a V F
     have kp:Below _ _ V:=F.kp;have df:a.defers=_:=F.df;have sz:a.tmps.size=_:=F.sz;have e4:a.tmps[4]?.getD undef=.bool true:=(Rp.ev_tmp a 4).symm.trans (Rp.fin_va F 26 4 (by kernel_rfl));clear F
     go_wp2
     exact bodyPost_ret (v:=.bool true) (by simp [results,Tryz.results3,go_sem,e4]) df ⟨rfl,H.o.2.2.2.2.2.trans (kp.mono H.o.2.2.2.2.2.size)⟩
end Go.Proofs.YtipfjdogokanbaaGreatDoor.An
