import Derived.Test.YtipfjdogokanbaaGreatDoorGaa
import Derived.Test.YtipfjdogokanbaaGreatDoorGbj
import Derived.Test.YtipfjdogokanbaaGreatDoorGax
import Derived.Test.YtipfjdogokanbaaGreatDoorGbk
import Derived.Test.YtipfjdogokanbaaGreatDoorGbl
import Derived.Test.YtipfjdogokanbaaGreatDoorGbm
import Derived.Test.YtipfjdogokanbaaGreatDoorGbg
import Derived.Deep.Cut
import Derived.Test.YtipfjdogokanbaaGreatDoorGaf
import Derived.Laws.OwnMore
import Derived.OpenShut
import Derived.Test.YtipfjdogokanbaaGreatDoorGbh
set_option linter.all false
set_option maxHeartbeats 400000000
set_option maxRecDepth 100000
set_option linter.all false
namespace Go.Proofs.YtipfjdogokanbaaGreatDoor.Ed
open Go.RowKit Go.Sort
theorem s5_c (x:In)(la:Option Addr)(lc:Nat)(w:World)(hg:gd x=true)(hv0:0<=x.v)(hv1:x.v<=18446744073709551615)(hn:x.l.length<=1048576)(hH:Has w la x.l) :
    Calls Tryz.prog 22 #[inV x la lc] w λe w'=>∃ u,e=.returned u/\Out w w' u (Gw x):=by
 obtain ⟨op,a,b,v,l⟩:=x
 simp only [gd,Gw] at *
 rcases QA op with h|h|h|h|h|h|h|h|h|h|h|h
 . rw [h] at hg;simp [Qg] at hg
 . rw [h];exact s5_0 op a b v l la lc w h
 . rw [h];exact s5_1 op a b v l la lc w h
 . rw [h] at hg⊢
   simp [Qg,QK] at hg
   exact s5_2 op a b v l la lc w h (by omega) (by omega)
 . rw [h] at hg⊢
   simp [Qg,QK] at hg
   refine s5_3 op a b v l la lc w h (by omega) (by omega) hn (λi hi=>?_) hH
   have:=hg.1.1.1 (l.getD i 0) (by simp [List.getD,hi])
   exact this
 . rw [h] at hg⊢
   simp [Qg,QK] at hg
   exact s5_4 op a b v l la lc w h (by omega) (by omega)
 . rw [h] at hg⊢
   simp [Qg,QK] at hg
   exact s5_5 op a b v l la lc w h (by omega) (by omega) (by omega) (by omega)
 . rw [h];exact s5_6 op a b v l la lc w h
 . rw [h] at hg⊢
   simp [Qg,QK] at hg
   exact s5_7 op a b v l la lc w h hv0 (by omega)
 . rw [h];exact s5_8 op a b v l la lc w h hv0 hv1
 . rw [h];exact s5_9 op a b v l la lc w h hv0 hv1
 . rw [h];exact s5_10 op a b v l la lc w h hv0 hv1
theorem senc_c (x:In)(la:Option Addr)(lc:Nat)(w:World)(hv0:0<=x.v)(hv1:x.v<=18446744073709551615)(hn:x.l.length<=1048576)(hH:Has w la x.l) :
    Calls Tryz.prog 7 #[inV x la lc] w λe w'=>∃ v,e=.returned v/\w'.ownsRow w.heap.size 5 1 v (QS x).length (U (QS x))/\Below w.heap.size w w':=by
 have b0:∀ o,Below w.heap.size w (w.alloc o):=λo=>(Below.refl _ _).alloc (Nat.le_refl _) o;have KG:Hid (∀ o,Calls Tryz.prog 21 #[inV x la lc] (w.alloc o) λe w'=>e=.returned (.bool (gd x))/\Below (w.alloc o).heap.size (w.alloc o) w'):=λo=>Pr.good_c x la lc (w.alloc o) hv0 (by omega) (hH.keep (b0 o));have HC:=Hm (C5.new (w:=w) (a:=.int .i64 x.op) (b:=.int .i64 x.a) (c:=.int .i64 x.b) (d:=.int .u64 x.v) (e:=.slice la x.l.length lc) (t:=26));have HHH:=Hm hH;have B0:=Hm b0
 cases hg:gd x
 . have HE:Hid (QS x=[]):=by show _=_;simp [QS,hg]
   rw [hg] at KG;clear hg hH b0
   go_enter Tryz.func7,Tryz.ntmps7
   go_wp2_with fail
   refine (KG.o _).mono ?_
   rintro e w1 ⟨rfl,hb⟩;have HB:=Hm ((B0.o _).trans (hb.mono (by simp)));clear hb KG HC
   go_wp2
   go_ret
   refine ⟨_,rfl,?_,?_⟩
   . rw [HE.o]
     exact World.ownsRow_lit w1 #[] 0 HB.o.size (Nat.zero_le _) rfl
   . exact HB.o.alloc HB.o.size _
 . have HE:Hid (QS x=Gw x):=by show _=_;simp [QS,hg]
   have HG:=Hm hg;rw [hg] at KG;clear hg hH b0
   go_enter Tryz.func7,Tryz.ntmps7
   go_wp2_with fail
   refine (KG.o _).mono ?_
   rintro e w1 ⟨rfl,hb⟩;have HB:=Hm ((B0.o _).trans (hb.mono (by simp)));obtain ⟨⟨d0,d1,d2,d3,d4⟩,df⟩:=HC.o.keep hb;have KW:=Hm (s5_c x la lc w1 HG.o hv0 hv1 hn (HHH.o.keep HB.o));clear hb KG HC df
   go_wp2_with fail
   refine (KW.o).mono ?_
   rintro e w2 ⟨v,rfl,own,hk⟩;have HO:=Hm own;have HK:=Hm hk;clear KW d0 d1 d2 d3 d4 own hk
   go_wp2
   go_ret
   refine ⟨_,rfl,?_,HB.o.trans (HK.o.mono HB.o.size)⟩
   rw [HE.o]
   exact Q8 HO.o HB.o.size
end Go.Proofs.YtipfjdogokanbaaGreatDoor.Ed
set_option linter.all false
namespace Go.Proofs.YtipfjdogokanbaaGreatDoor.Ed
open Go.RowKit Go.Sort
theorem sins_c (s:Nat)(ba:Option Addr)(bc:BC)(bs:List Int)(p:Nat)(op:Int)(w:World)(hf:0<=Qd (Qb op))(hev:bc.ev=.slice none 0 0)(h:Sr w s ba bc bs p 0 0)(hA:Qt bs)(hl:bs.length<=1099511627776) :
    Calls Tryz.prog 39 #[.pointer (some ⟨s,0,none⟩),.int .i64 op,.int .i64 0] w (SiP (Q4 (Qd (Qb op)) op bs p) w s ba bc.n bs):=by
 rcases QA op with e|e|e|e|e|e|e|e|e|e|e|e
 . omega
 . rw [e];exact sins_0 s ba bc bs p op 0 w e h hA hl
 . rw [e];exact sins_1 s ba bc bs p op w e hev h hA hl
 . rw [e];exact sins_2 s ba bc bs p op 0 w e h hA hl
 . rw [e];exact sins_3 s ba bc bs p op w e hev h hA hl
 . rw [e];exact sins_4 s ba bc bs p op 0 w e h hA hl
 . rw [e];exact sins_5 s ba bc bs p op 0 w e h hA hl
 . rw [e];exact sins_6 s ba bc bs p op 0 w e h hA hl
 . rw [e];exact sins_7 s ba bc bs p op 0 w e h hA hl
 . rw [e];exact sins_8 s ba bc bs p op 0 w e h hA hl
 . rw [e];exact sins_9 s ba bc bs p op 0 w e h hA hl
 . rw [e];exact sins_10 s ba bc bs p op 0 w e h hA hl
theorem sdec_out (ba:Option Addr)(bc:Nat)(bs:List Int)(at_:Int)(w:World)(hl:bs.length<=1099511627776)(h:¬ (0<=at_/\at_<=bs.length)) :
    Calls Tryz.prog 12 #[.slice ba bs.length bc,.int .i64 at_] w (DrP ⟨2,bs.length,I0⟩ w):=by
 have KI:=Hm (λV=>Xb at_ 0 bs.length V h)
 go_enter Tryz.func12,Tryz.ntmps12
 go_wp2_with (refine (KI.o _).mono ?_;rintro e w1 ⟨rfl,rfl⟩)
 exact bodyPost_ret (v:=drV ⟨2,bs.length,I0⟩ none 0) (by simp [results,Tryz.results12,go_sem,I0]) rfl ⟨none,0,rfl,World.ownsRow_nil _ _ _ _,(Below.refl _ _).alloc (Nat.le_refl _) _⟩
theorem QB (w:World)(o1:Obj)(cs:Array Value)(t:TypeId)(i:Nat)(u:Value)(hu:cs[i]?=some u):((w.alloc o1).alloc (.cells cs t)).cell? ⟨w.heap.size+1,i,none⟩=some u:=Qi (by simp) hu
theorem Gp (w:World)(o1:Obj)(cs:Array Value)(t:TypeId)(i:Nat):((w.alloc o1).alloc (.cells cs t)).frozen? ⟨w.heap.size+1,i,none⟩=false:=by
 have:=World.frozen?_alloc_new (w.alloc o1) cs t i
 simpa using this
theorem op0:Qd (Qb 0)=0:=by decide +kernel
end Go.Proofs.YtipfjdogokanbaaGreatDoor.Ed
namespace Go.Proofs.YtipfjdogokanbaaGreatDoor.Ed
open Go.RowKit Go.Sort
theorem Xr {W:World}{g:Nat}{a b c d e f h:Value}(H:Seven W g a b c d e f h):Seven W.drew g a b c d e f h:=H
theorem Xw {B:Nat}{w U:World}(h:Below B w U):Below B w U.drew:=⟨h.os,h.tape,h.output,h.size,h.block⟩
theorem own_undrew {U:World}{B e n:Nat}{v:Value}{zs:List Value}(h:U.ownsRow B e 1 v n zs):U.drew.ownsRow B e 1 v n zs:=h
theorem Xt {w w1:World}{B g0:Nat}(h:w.grownBy w1 (some g0))(hB:B<=g0)(hs:B<=w.heap.size):Below B w w1:=⟨h.os,h.tape,h.output,h.size,λk hk=>h.block k (by omega) (by simp;omega)⟩
theorem z7_grown {W w3:World}{g s:Nat}{cs:Array Value}{t:TypeId}(hZ:W.heap[g]?=some (.cells cs t))(hg:W.grownBy w3 (some s))(hne:g≠s)(i:Nat)(u:Value)(hu:cs[i]?=some u):w3.cell? ⟨g,i,none⟩=some u/\w3.frozen? ⟨g,i,none⟩=false:=by
 have hl:g<W.heap.size:=(Array.getElem?_eq_some_iff.1 hZ).1;have h3:w3.heap[g]?=some (.cells cs t):=(hg.block g hl (by simpa using hne)).trans hZ
 exact ⟨by simp only [World.cell?,h3];exact hu,by simp [World.frozen?,h3]⟩
end Go.Proofs.YtipfjdogokanbaaGreatDoor.Ed
namespace Go.Proofs.YtipfjdogokanbaaGreatDoor.Ed.By
open Go.RowKit
end Go.Proofs.YtipfjdogokanbaaGreatDoor.Ed.By
namespace Go.Proofs.YtipfjdogokanbaaGreatDoor.Ed
open Go.RowKit Go.Sort
end Go.Proofs.YtipfjdogokanbaaGreatDoor.Ed
set_option linter.all false
namespace Go.Proofs.YtipfjdogokanbaaGreatDoor.Ed
open Go.RowKit Go.Sort
theorem sdec_A (ba:Option Addr)(bc:Nat)(bs:List Int)(P:Nat)(w:World)(hA:Qt bs)(hl:bs.length<=1099511627776)(hP:P<=bs.length)(hH:By.Has w ba bs)(hba:∀ a,ba=some a->a.block<w.heap.size)(er a:Int)(hM:Qy bs P=.bad er a) :
    Calls Tryz.prog 12 #[.slice ba bs.length bc,.int .i64 P] w (DrP (drOf (Jl bs P)) w):=by
 obtain ⟨W,hW⟩:∃ W,W=(w.alloc (.cells #[.int .i64 0,.int .i64 0,.int .i64 0,.int .i64 0,.int .i64 0,.int .u64 0,.slice none 0 0] 30)).alloc (.cells #[.slice ba bs.length bc,.int .i64 P,.slice none 0 0,.int .i64 0,.int .i64 0,.slice none 0 0,.slice none 0 0,.slice none 0 0,.slice none 0 0,.slice none 0 0,.slice none 0 0,.slice none 0 0,.bool false,.int .i64 0,.slice none 0 0,.slice none 0 0,.slice none 0 0,.slice none 0 0,.slice none 0 0,.int .i64 0,.int .i64 0,.int .i64 0] 85):=⟨_,rfl⟩;have hb:Below w.heap.size w W:=by rw [hW];exact ((Below.refl _ _).alloc (Nat.le_refl _) _).alloc (by simp) _
 have hws:W.heap.size=w.heap.size+2:=by rw [hW];simp
 have hR:Sr W (w.heap.size+1) ba ⟨bc,.slice none 0 0⟩ bs P 0 0:=by
  refine ⟨?_,?_,?_,?_,?_,?_,?_,λi=>?_,hH.keep hb,λa ha=>by have:=hba a ha;omega,hP⟩
  . rw [hW];exact QB _ _ _ _ 0 _ rfl
  . rw [hW];exact QB _ _ _ _ 1 _ rfl
  . rw [hW];exact QB _ _ _ _ 2 _ rfl
  . rw [hW];exact QB _ _ _ _ 3 _ rfl
  . rw [hW];exact QB _ _ _ _ 4 _ rfl
  . rw [hW];exact QB _ _ _ _ 18 _ rfl
  . rw [hW];exact QB _ _ _ _ 19 _ rfl
  . rw [hW];exact Gp _ _ _ _ i
 have hZ:W.heap[w.heap.size]?=some (.cells #[.int .i64 0,.int .i64 0,.int .i64 0,.int .i64 0,.int .i64 0,.int .u64 0,.slice none 0 0] 30):=by
  rw [hW,QC _ _ _ (by simp)];exact J1 w _
 have KI:=Hm (λV=>JM (P:Int) 0 bs.length V (by omega));have KB:=Hm (Xe (w.heap.size+1) ba ⟨bc,.slice none 0 0⟩ bs P W hR hl);have HW:=Hm hW;have HB:=Hm hb;have HZ:=Hm hZ;have hnz:=nz_take bs P
 have HI:Hid (Jl bs P=(Qy bs P).bind (λx p1=>if Qd (Qb x)<0 then .bad 10 p1 else Q4 (Qd (Qb x)) x bs p1)):=by
  show _=_
  unfold Jl opM
  cases Qy bs P with
  |bad er a=>rfl
  |ok x p1 =>
   by_cases h:Qd (Qb x)<0<;>simp [Rs.bind,h]
 clear hR hW hb hH hA hZ hba hP;have hne:=hnz er a hM;have hne3:(er==0)=false:=by simpa using hne
 rw [hM] at KB;have HM:Hid (drOf (Jl bs P)=⟨er,a,I0⟩):=by show _=_;rw [HI.o,hM];rfl
 have KR:=Hm (λV q (hV:Sr V (w.heap.size+1) ba ⟨bc,.slice none 0 0⟩ bs q er a)=>sinse_0 (w.heap.size+1) ba ⟨bc,.slice none 0 0⟩ bs q er a 0 0 V op0 hne hV);clear hM HI hnz
 go_enter Tryz.func12,Tryz.ntmps12
 go_wp2_with (refine (KI.o _).mono ?_;rintro e w0 ⟨rfl,rfl⟩)
 rw [<- HW.o]
 refine (KB.o).mono ?_
 rintro e w1 ⟨hg1,u,q,rfl,rfl,hr1⟩;have HGV:=Hm hg1;have HR1:=Hm hr1;have c3:=hr1.c3;clear hg1 hr1 KB HW KI
 go_wp2_with fail
 refine (KR.o _ _ HR1.o).mono ?_
 rintro e w3 ⟨hg3,x,la,lc,rfl,hne',q',ev,hr3⟩;have HG3:=Hm (Qa HGV.o hg3);have hz3:=HG3.o.size;have hlt2:w.heap.size<w3.heap.size:=by omega
 have HZ3:=Hm (λi u hu=>z7_grown HZ.o HG3.o (show w.heap.size≠w.heap.size+1 by omega) i u hu);clear hg3
 go_upto_region 9 with fail
 refine Qj (λU=>C5 U w3.heap.size 0 (.int .i64 x.op) (.int .i64 x.a) (.int .i64 x.b) (.int .u64 x.v) (.slice la x.l.length lc)/\Below w3.heap.size w3 U) ⟨C5.new,(Below.refl _ _).alloc (Nat.le_refl _) _⟩ ?_
 rintro U ⟨⟨⟨x0,x1,x2,x3,x4⟩,xf⟩,hU⟩;have q:∀ i u,#[Value.int .i64 0,.int .i64 0,.int .i64 0,.int .i64 0,.int .i64 0,.int .u64 0,.slice none 0 0][i]?=some u->U.cell? ⟨w.heap.size,i,none⟩=some u/\U.frozen? ⟨w.heap.size,i,none⟩=false:=λi u hu=>⟨(hU.cell (p:=⟨w.heap.size,i,none⟩) hlt2).trans (HZ3.o i u hu).1,(hU.frozen (p:=⟨w.heap.size,i,none⟩) hlt2).trans (HZ3.o i u hu).2⟩;obtain ⟨q0,s0⟩:=q 0 _ rfl;obtain ⟨q1,s1⟩:=q 1 _ rfl;obtain ⟨q2,s2⟩:=q 2 _ rfl;obtain ⟨q3,s3⟩:=q 3 _ rfl;obtain ⟨q4,s4⟩:=q 4 _ rfl;obtain ⟨q5,s5⟩:=q 5 _ rfl;obtain ⟨q6,s6⟩:=q 6 _ rfl;have HBU:=Hm ((HB.o.trans (Xt HG3.o (show w.heap.size<=w.heap.size+1 by omega) (by omega))).trans (hU.mono (by omega)));have e3:=(hr3.keep hU).c3;have e4:=(hr3.keep hU).c4;have hne2:(er != 0)=true:=by simpa using hne
 clear hU q xf hr3 HZ3 HG3
 go_wp2_with fail
 go_big_region
 all_goals
  go_wp2_with fail
  refine Qf (λV=>Seven V w.heap.size (.int .i64 er) (.int .i64 a) (.int .i64 0) (.int .i64 0) (.int .i64 0) (.int .u64 0) (.slice none 0 0)/\Below w.heap.size w V) ⟨Xr (Xy q0 q1 q2 q3 q4 q5 q6),Xw (bel7 HBU.o)⟩ ?_
  rintro V ⟨⟨t0,t1,t2,t3,t4,t5,t6⟩,hV⟩;have HV:=Hm hV;clear hV q0 q1 q2 q3 q4 q5 q6 s0 s1 s2 s3 s4 s5 s6 x0 x1 x2 x3 x4 e3 e4
  exact bodyPost_ret (v:=drV ⟨er,a,I0⟩ none 0) (by simp [results,Tryz.results12,go_sem,I0,t0,t1,t2,t3,t4,t5,t6]) rfl (by
   rw [HM.o]
   exact ⟨none,0,rfl,World.ownsRow_nil _ _ _ _,HV.o⟩)
end Go.Proofs.YtipfjdogokanbaaGreatDoor.Ed
set_option linter.all false
namespace Go.Proofs.YtipfjdogokanbaaGreatDoor.Ed
open Go.RowKit Go.Sort
theorem sdec_B (ba:Option Addr)(bc:Nat)(bs:List Int)(P:Nat)(w:World)(hA:Qt bs)(hl:bs.length<=1099511627776)(hP:P<=bs.length)(hH:By.Has w ba bs)(hba:∀ a,ba=some a->a.block<w.heap.size)(c:Int)(p1:Nat)(hM:Qy bs P=.ok c p1)(hf:Qd (Qb c)<0) :
    Calls Tryz.prog 12 #[.slice ba bs.length bc,.int .i64 P] w (DrP (drOf (Jl bs P)) w):=by
 obtain ⟨W,hW⟩:∃ W,W=(w.alloc (.cells #[.int .i64 0,.int .i64 0,.int .i64 0,.int .i64 0,.int .i64 0,.int .u64 0,.slice none 0 0] 30)).alloc (.cells #[.slice ba bs.length bc,.int .i64 P,.slice none 0 0,.int .i64 0,.int .i64 0,.slice none 0 0,.slice none 0 0,.slice none 0 0,.slice none 0 0,.slice none 0 0,.slice none 0 0,.slice none 0 0,.bool false,.int .i64 0,.slice none 0 0,.slice none 0 0,.slice none 0 0,.slice none 0 0,.slice none 0 0,.int .i64 0,.int .i64 0,.int .i64 0] 85):=⟨_,rfl⟩;have hb:Below w.heap.size w W:=by rw [hW];exact ((Below.refl _ _).alloc (Nat.le_refl _) _).alloc (by simp) _
 have hws:W.heap.size=w.heap.size+2:=by rw [hW];simp
 have hR:Sr W (w.heap.size+1) ba ⟨bc,.slice none 0 0⟩ bs P 0 0:=by
  refine ⟨?_,?_,?_,?_,?_,?_,?_,λi=>?_,hH.keep hb,λa ha=>by have:=hba a ha;omega,hP⟩
  . rw [hW];exact QB _ _ _ _ 0 _ rfl
  . rw [hW];exact QB _ _ _ _ 1 _ rfl
  . rw [hW];exact QB _ _ _ _ 2 _ rfl
  . rw [hW];exact QB _ _ _ _ 3 _ rfl
  . rw [hW];exact QB _ _ _ _ 4 _ rfl
  . rw [hW];exact QB _ _ _ _ 18 _ rfl
  . rw [hW];exact QB _ _ _ _ 19 _ rfl
  . rw [hW];exact Gp _ _ _ _ i
 have hZ:W.heap[w.heap.size]?=some (.cells #[.int .i64 0,.int .i64 0,.int .i64 0,.int .i64 0,.int .i64 0,.int .u64 0,.slice none 0 0] 30):=by
  rw [hW,QC _ _ _ (by simp)];exact J1 w _
 have KI:=Hm (λV=>JM (P:Int) 0 bs.length V (by omega));have KB:=Hm (Xe (w.heap.size+1) ba ⟨bc,.slice none 0 0⟩ bs P W hR hl);have HW:=Hm hW;have HB:=Hm hb;have HZ:=Hm hZ;have hbd:=λv p1=>XF (p:=P) (p1:=p1) (v:=v) hA
 have HI:Hid (Jl bs P=(Qy bs P).bind (λx p1=>if Qd (Qb x)<0 then .bad 10 p1 else Q4 (Qd (Qb x)) x bs p1)):=by
  show _=_
  unfold Jl opM
  cases Qy bs P with
  |bad er a=>rfl
  |ok x p1 =>
   by_cases h:Qd (Qb x)<0<;>simp [Rs.bind,h]
 clear hR hW hb hH hA hZ hba hP;obtain ⟨hc0,hc1⟩:=hbd c p1 hM;rw [hM] at KB;have KO:=Hm (Qr c);have hfm:Qd (Qb c)=-1:=by rcases QA c with e|e|e|e|e|e|e|e|e|e|e|e<;>omega
 have hne:(10:Int)≠0:=by decide
 obtain ⟨er,her⟩:∃ er:Int,er=10:=⟨_,rfl⟩;obtain ⟨a,ha⟩:∃ a:Int,a=(p1:Int):=⟨_,rfl⟩;have HM:Hid (drOf (Jl bs P)=⟨er,a,I0⟩):=by show _=_;rw [HI.o,hM,her,ha];simp only [Rs.bind,hf,if_true,drOf]
 have KR:=Hm (λV q (hV:Sr V (w.heap.size+1) ba ⟨bc,.slice none 0 0⟩ bs q er a)=>sinse_m1 (w.heap.size+1) ba ⟨bc,.slice none 0 0⟩ bs q er a c 0 V hfm (by rw [her];decide) hV);have KF:=Hm (λV (hV:Sr V (w.heap.size+1) ba ⟨bc,.slice none 0 0⟩ bs p1 0 0)=>QY (w.heap.size+1) ba ⟨bc,.slice none 0 0⟩ bs p1 10 p1 V hV);have HER:=Hm (And.intro her ha);generalize Qd (Qb c)=f at *;clear hM HI hbd hfm her ha
 go_enter Tryz.func12,Tryz.ntmps12
 go_wp2_with (refine (KI.o _).mono ?_;rintro e w0 ⟨rfl,rfl⟩)
 rw [<- HW.o]
 refine (KB.o).mono ?_
 rintro e w1 ⟨hg1,rfl,hr1⟩;have HGV:=Hm hg1;have c3:=hr1.c3;have c1:=hr1.c1;have KF1:=Hm (KF.o _ hr1);clear hg1 hr1 KB HW KI
 go_wp2_with (refine (KO.o _).mono ?_;rintro e w5 ⟨rfl,rfl⟩)
 refine (KF1.o).mono ?_
 rintro e w2 ⟨rfl,hr2,hg2⟩;have HGV2:=Hm (Qa HGV.o hg2);clear HGV;have HGV:=HGV2;have HR2:Hid (Sr w2 (w.heap.size+1) ba ⟨bc,.slice none 0 0⟩ bs p1 er a):=by rw [HER.o.1,HER.o.2];exact hr2
 clear hr2 hg2 KF KF1 HGV2
 go_wp2_with fail
 refine (KR.o _ _ HR2.o).mono ?_
 rintro e w3 ⟨hg3,x,la,lc,rfl,hne',q',ev,hr3⟩;replace hne:=hne';have HG3:=Hm (Qa HGV.o hg3);have hz3:=HG3.o.size;have hlt2:w.heap.size<w3.heap.size:=by omega
 have HZ3:=Hm (λi u hu=>z7_grown HZ.o HG3.o (show w.heap.size≠w.heap.size+1 by omega) i u hu);clear hg3
 go_upto_region 9 with fail
 refine Qj (λU=>C5 U w3.heap.size 0 (.int .i64 x.op) (.int .i64 x.a) (.int .i64 x.b) (.int .u64 x.v) (.slice la x.l.length lc)/\Below w3.heap.size w3 U) ⟨C5.new,(Below.refl _ _).alloc (Nat.le_refl _) _⟩ ?_
 rintro U ⟨⟨⟨x0,x1,x2,x3,x4⟩,xf⟩,hU⟩;have q:∀ i u,#[Value.int .i64 0,.int .i64 0,.int .i64 0,.int .i64 0,.int .i64 0,.int .u64 0,.slice none 0 0][i]?=some u->U.cell? ⟨w.heap.size,i,none⟩=some u/\U.frozen? ⟨w.heap.size,i,none⟩=false:=λi u hu=>⟨(hU.cell (p:=⟨w.heap.size,i,none⟩) hlt2).trans (HZ3.o i u hu).1,(hU.frozen (p:=⟨w.heap.size,i,none⟩) hlt2).trans (HZ3.o i u hu).2⟩;obtain ⟨q0,s0⟩:=q 0 _ rfl;obtain ⟨q1,s1⟩:=q 1 _ rfl;obtain ⟨q2,s2⟩:=q 2 _ rfl;obtain ⟨q3,s3⟩:=q 3 _ rfl;obtain ⟨q4,s4⟩:=q 4 _ rfl;obtain ⟨q5,s5⟩:=q 5 _ rfl;obtain ⟨q6,s6⟩:=q 6 _ rfl;have HBU:=Hm ((HB.o.trans (Xt HG3.o (show w.heap.size<=w.heap.size+1 by omega) (by omega))).trans (hU.mono (by omega)));have e3:=(hr3.keep hU).c3;have e4:=(hr3.keep hU).c4;have hne2:(er != 0)=true:=by simpa using hne
 clear hU q xf hr3 HZ3 HG3
 go_wp2_with fail
 go_big_region
 all_goals
  go_wp2_with fail
  refine Qf (λV=>Seven V w.heap.size (.int .i64 er) (.int .i64 a) (.int .i64 0) (.int .i64 0) (.int .i64 0) (.int .u64 0) (.slice none 0 0)/\Below w.heap.size w V) ⟨Xr (Xy q0 q1 q2 q3 q4 q5 q6),Xw (bel7 HBU.o)⟩ ?_
  rintro V ⟨⟨t0,t1,t2,t3,t4,t5,t6⟩,hV⟩;have HV:=Hm hV;clear hV q0 q1 q2 q3 q4 q5 q6 s0 s1 s2 s3 s4 s5 s6 x0 x1 x2 x3 x4 e3 e4
  exact bodyPost_ret (v:=drV ⟨er,a,I0⟩ none 0) (by simp [results,Tryz.results12,go_sem,I0,t0,t1,t2,t3,t4,t5,t6]) rfl (by
   rw [HM.o]
   exact ⟨none,0,rfl,World.ownsRow_nil _ _ _ _,HV.o⟩)
end Go.Proofs.YtipfjdogokanbaaGreatDoor.Ed
set_option linter.all false
namespace Go.Proofs.YtipfjdogokanbaaGreatDoor.Ed
open Go.RowKit Go.Sort
theorem sdec_C (ba:Option Addr)(bc:Nat)(bs:List Int)(P:Nat)(w:World)(hA:Qt bs)(hl:bs.length<=1099511627776)(hP:P<=bs.length)(hH:By.Has w ba bs)(hba:∀ a,ba=some a->a.block<w.heap.size)(c:Int)(p1:Nat)(hM:Qy bs P=.ok c p1)(hf:¬ Qd (Qb c)<0)(er a:Int)(hD:Q4 (Qd (Qb c)) c bs p1=.bad er a) :
    Calls Tryz.prog 12 #[.slice ba bs.length bc,.int .i64 P] w (DrP (drOf (Jl bs P)) w):=by
 obtain ⟨W,hW⟩:∃ W,W=(w.alloc (.cells #[.int .i64 0,.int .i64 0,.int .i64 0,.int .i64 0,.int .i64 0,.int .u64 0,.slice none 0 0] 30)).alloc (.cells #[.slice ba bs.length bc,.int .i64 P,.slice none 0 0,.int .i64 0,.int .i64 0,.slice none 0 0,.slice none 0 0,.slice none 0 0,.slice none 0 0,.slice none 0 0,.slice none 0 0,.slice none 0 0,.bool false,.int .i64 0,.slice none 0 0,.slice none 0 0,.slice none 0 0,.slice none 0 0,.slice none 0 0,.int .i64 0,.int .i64 0,.int .i64 0] 85):=⟨_,rfl⟩;have hb:Below w.heap.size w W:=by rw [hW];exact ((Below.refl _ _).alloc (Nat.le_refl _) _).alloc (by simp) _
 have hws:W.heap.size=w.heap.size+2:=by rw [hW];simp
 have hR:Sr W (w.heap.size+1) ba ⟨bc,.slice none 0 0⟩ bs P 0 0:=by
  refine ⟨?_,?_,?_,?_,?_,?_,?_,λi=>?_,hH.keep hb,λa ha=>by have:=hba a ha;omega,hP⟩
  . rw [hW];exact QB _ _ _ _ 0 _ rfl
  . rw [hW];exact QB _ _ _ _ 1 _ rfl
  . rw [hW];exact QB _ _ _ _ 2 _ rfl
  . rw [hW];exact QB _ _ _ _ 3 _ rfl
  . rw [hW];exact QB _ _ _ _ 4 _ rfl
  . rw [hW];exact QB _ _ _ _ 18 _ rfl
  . rw [hW];exact QB _ _ _ _ 19 _ rfl
  . rw [hW];exact Gp _ _ _ _ i
 have hZ:W.heap[w.heap.size]?=some (.cells #[.int .i64 0,.int .i64 0,.int .i64 0,.int .i64 0,.int .i64 0,.int .u64 0,.slice none 0 0] 30):=by
  rw [hW,QC _ _ _ (by simp)];exact J1 w _
 have KI:=Hm (λV=>JM (P:Int) 0 bs.length V (by omega));have KB:=Hm (Xe (w.heap.size+1) ba ⟨bc,.slice none 0 0⟩ bs P W hR hl);have HA:=Hm hA;have HW:=Hm hW;have HB:=Hm hb;have HZ:=Hm hZ;have hbd:=λv p1=>XF (p:=P) (p1:=p1) (v:=v) hA
 have HI:Hid (Jl bs P=(Qy bs P).bind (λx p1=>if Qd (Qb x)<0 then .bad 10 p1 else Q4 (Qd (Qb x)) x bs p1)):=by
  show _=_
  unfold Jl opM
  cases Qy bs P with
  |bad er a=>rfl
  |ok x p1 =>
   by_cases h:Qd (Qb x)<0<;>simp [Rs.bind,h]
 clear hR hW hb hH hA hZ hba hP;obtain ⟨hc0,hc1⟩:=hbd c p1 hM;rw [hM] at KB;have KO:=Hm (Qr c);have KR:=Hm (λV (hV:Sr V (w.heap.size+1) ba ⟨bc,.slice none 0 0⟩ bs p1 0 0)=>sins_c (w.heap.size+1) ba ⟨bc,.slice none 0 0⟩ bs p1 c V (by omega) rfl hV HA.o hl);have HM0:Hid (Jl bs P=Q4 (Qd (Qb c)) c bs p1):=by show _=_;rw [HI.o,hM];simp only [Rs.bind,hf,if_false]
 rw [hD] at HM0;generalize Qd (Qb c)=f at *;clear hM HI hbd;rw [hD] at KR;clear hD;have HM:Hid (drOf (Jl bs P)=⟨er,a,I0⟩):=by show _=_;rw [HM0.o];rfl
 clear HM0
 go_enter Tryz.func12,Tryz.ntmps12
 go_wp2_with (refine (KI.o _).mono ?_;rintro e w0 ⟨rfl,rfl⟩)
 rw [<- HW.o]
 refine (KB.o).mono ?_
 rintro e w1 ⟨hg1,rfl,hr1⟩;have HGV:=Hm hg1;have HR1:=Hm hr1;have c3:=hr1.c3;clear hg1 hr1 KB HW KI
 go_wp2_with (first|(go_at_call 37;refine (KO.o _).mono ?_;rintro e w5 ⟨rfl,rfl⟩))
 refine (KR.o _ HR1.o).mono ?_
 rintro e w3 ⟨hg3,x,la,lc,rfl,hne,q',ev,hr3⟩;have HG3:=Hm (Qa HGV.o hg3);have hz3:=HG3.o.size;have hlt2:w.heap.size<w3.heap.size:=by omega
 have HZ3:=Hm (λi u hu=>z7_grown HZ.o HG3.o (show w.heap.size≠w.heap.size+1 by omega) i u hu);clear hg3
 go_upto_region 9 with fail
 refine Qj (λU=>C5 U w3.heap.size 0 (.int .i64 x.op) (.int .i64 x.a) (.int .i64 x.b) (.int .u64 x.v) (.slice la x.l.length lc)/\Below w3.heap.size w3 U) ⟨C5.new,(Below.refl _ _).alloc (Nat.le_refl _) _⟩ ?_
 rintro U ⟨⟨⟨x0,x1,x2,x3,x4⟩,xf⟩,hU⟩;have q:∀ i u,#[Value.int .i64 0,.int .i64 0,.int .i64 0,.int .i64 0,.int .i64 0,.int .u64 0,.slice none 0 0][i]?=some u->U.cell? ⟨w.heap.size,i,none⟩=some u/\U.frozen? ⟨w.heap.size,i,none⟩=false:=λi u hu=>⟨(hU.cell (p:=⟨w.heap.size,i,none⟩) hlt2).trans (HZ3.o i u hu).1,(hU.frozen (p:=⟨w.heap.size,i,none⟩) hlt2).trans (HZ3.o i u hu).2⟩;obtain ⟨q0,s0⟩:=q 0 _ rfl;obtain ⟨q1,s1⟩:=q 1 _ rfl;obtain ⟨q2,s2⟩:=q 2 _ rfl;obtain ⟨q3,s3⟩:=q 3 _ rfl;obtain ⟨q4,s4⟩:=q 4 _ rfl;obtain ⟨q5,s5⟩:=q 5 _ rfl;obtain ⟨q6,s6⟩:=q 6 _ rfl;have HBU:=Hm ((HB.o.trans (Xt HG3.o (show w.heap.size<=w.heap.size+1 by omega) (by omega))).trans (hU.mono (by omega)));have e3:=(hr3.keep hU).c3;have e4:=(hr3.keep hU).c4;have hne2:(er != 0)=true:=by simpa using hne
 clear hU q xf hr3 HZ3 HG3
 go_wp2_with fail
 go_big_region
 all_goals
  go_wp2_with fail
  refine Qf (λV=>Seven V w.heap.size (.int .i64 er) (.int .i64 a) (.int .i64 0) (.int .i64 0) (.int .i64 0) (.int .u64 0) (.slice none 0 0)/\Below w.heap.size w V) ⟨Xr (Xy q0 q1 q2 q3 q4 q5 q6),Xw (bel7 HBU.o)⟩ ?_
  rintro V ⟨⟨t0,t1,t2,t3,t4,t5,t6⟩,hV⟩;have HV:=Hm hV;clear hV q0 q1 q2 q3 q4 q5 q6 s0 s1 s2 s3 s4 s5 s6 x0 x1 x2 x3 x4 e3 e4
  exact bodyPost_ret (v:=drV ⟨er,a,I0⟩ none 0) (by simp [results,Tryz.results12,go_sem,I0,t0,t1,t2,t3,t4,t5,t6]) rfl (by
   rw [HM.o]
   exact ⟨none,0,rfl,World.ownsRow_nil _ _ _ _,HV.o⟩)
end Go.Proofs.YtipfjdogokanbaaGreatDoor.Ed
set_option linter.all false
namespace Go.Proofs.YtipfjdogokanbaaGreatDoor.Ed
open Go.RowKit Go.Sort
theorem sdec_D (ba:Option Addr)(bc:Nat)(bs:List Int)(P:Nat)(w:World)(hA:Qt bs)(hl:bs.length<=1099511627776)(hP:P<=bs.length)(hH:By.Has w ba bs)(hba:∀ a,ba=some a->a.block<w.heap.size)(c:Int)(p1:Nat)(hM:Qy bs P=.ok c p1)(hf:¬ Qd (Qb c)<0)(xx:In)(p':Nat)(hD:Q4 (Qd (Qb c)) c bs p1=.ok xx p') :
    Calls Tryz.prog 12 #[.slice ba bs.length bc,.int .i64 P] w (DrP (drOf (Jl bs P)) w):=by
 obtain ⟨W,hW⟩:∃ W,W=(w.alloc (.cells #[.int .i64 0,.int .i64 0,.int .i64 0,.int .i64 0,.int .i64 0,.int .u64 0,.slice none 0 0] 30)).alloc (.cells #[.slice ba bs.length bc,.int .i64 P,.slice none 0 0,.int .i64 0,.int .i64 0,.slice none 0 0,.slice none 0 0,.slice none 0 0,.slice none 0 0,.slice none 0 0,.slice none 0 0,.slice none 0 0,.bool false,.int .i64 0,.slice none 0 0,.slice none 0 0,.slice none 0 0,.slice none 0 0,.slice none 0 0,.int .i64 0,.int .i64 0,.int .i64 0] 85):=⟨_,rfl⟩;have hb:Below w.heap.size w W:=by rw [hW];exact ((Below.refl _ _).alloc (Nat.le_refl _) _).alloc (by simp) _
 have hws:W.heap.size=w.heap.size+2:=by rw [hW];simp
 have hR:Sr W (w.heap.size+1) ba ⟨bc,.slice none 0 0⟩ bs P 0 0:=by
  refine ⟨?_,?_,?_,?_,?_,?_,?_,λi=>?_,hH.keep hb,λa ha=>by have:=hba a ha;omega,hP⟩
  . rw [hW];exact QB _ _ _ _ 0 _ rfl
  . rw [hW];exact QB _ _ _ _ 1 _ rfl
  . rw [hW];exact QB _ _ _ _ 2 _ rfl
  . rw [hW];exact QB _ _ _ _ 3 _ rfl
  . rw [hW];exact QB _ _ _ _ 4 _ rfl
  . rw [hW];exact QB _ _ _ _ 18 _ rfl
  . rw [hW];exact QB _ _ _ _ 19 _ rfl
  . rw [hW];exact Gp _ _ _ _ i
 have hZ:W.heap[w.heap.size]?=some (.cells #[.int .i64 0,.int .i64 0,.int .i64 0,.int .i64 0,.int .i64 0,.int .u64 0,.slice none 0 0] 30):=by
  rw [hW,QC _ _ _ (by simp)];exact J1 w _
 have KI:=Hm (λV=>JM (P:Int) 0 bs.length V (by omega));have KB:=Hm (Xe (w.heap.size+1) ba ⟨bc,.slice none 0 0⟩ bs P W hR hl);have HA:=Hm hA;have HW:=Hm hW;have HB:=Hm hb;have HZ:=Hm hZ;have hbd:=λv p1=>XF (p:=P) (p1:=p1) (v:=v) hA
 have HI:Hid (Jl bs P=(Qy bs P).bind (λx p1=>if Qd (Qb x)<0 then .bad 10 p1 else Q4 (Qd (Qb x)) x bs p1)):=by
  show _=_
  unfold Jl opM
  cases Qy bs P with
  |bad er a=>rfl
  |ok x p1 =>
   by_cases h:Qd (Qb x)<0<;>simp [Rs.bind,h]
 clear hR hW hb hH hA hZ hba hP;obtain ⟨hc0,hc1⟩:=hbd c p1 hM;rw [hM] at KB;have KO:=Hm (Qr c);have KR:=Hm (λV (hV:Sr V (w.heap.size+1) ba ⟨bc,.slice none 0 0⟩ bs p1 0 0)=>sins_c (w.heap.size+1) ba ⟨bc,.slice none 0 0⟩ bs p1 c V (by omega) rfl hV HA.o hl);have HM0:Hid (Jl bs P=Q4 (Qd (Qb c)) c bs p1):=by show _=_;rw [HI.o,hM];simp only [Rs.bind,hf,if_false]
 rw [hD] at HM0;generalize Qd (Qb c)=f at *;clear hM HI hbd;rw [hD] at KR;clear hD;have HM:Hid (drOf (Jl bs P)=⟨0,p',xx⟩):=by show _=_;rw [HM0.o];rfl
 clear HM0
 go_enter Tryz.func12,Tryz.ntmps12
 go_wp2_with (refine (KI.o _).mono ?_;rintro e w0 ⟨rfl,rfl⟩)
 rw [<- HW.o]
 refine (KB.o).mono ?_
 rintro e w1 ⟨hg1,rfl,hr1⟩;have HGV:=Hm hg1;have HR1:=Hm hr1;have c3:=hr1.c3;clear hg1 hr1 KB HW KI
 go_wp2_with (first|(go_at_call 37;refine (KO.o _).mono ?_;rintro e w5 ⟨rfl,rfl⟩))
 refine (KR.o _ HR1.o).mono ?_
 rintro e w3 ⟨hg3,x,la,lc,rfl,hxx,ho3,ev,hr3⟩;subst hxx;have HG3:=Hm (Qa HGV.o hg3);have hz3:=HG3.o.size;have hlt2:w.heap.size<w3.heap.size:=by omega
 have HZ3:=Hm (λi u hu=>z7_grown HZ.o HG3.o (show w.heap.size≠w.heap.size+1 by omega) i u hu);clear hg3
 go_upto_region 9 with fail
 refine Qj (λU=>C5 U w3.heap.size 0 (.int .i64 x.op) (.int .i64 x.a) (.int .i64 x.b) (.int .u64 x.v) (.slice la x.l.length lc)/\Below w3.heap.size w3 U) ⟨C5.new,(Below.refl _ _).alloc (Nat.le_refl _) _⟩ ?_
 rintro U ⟨⟨⟨x0,x1,x2,x3,x4⟩,xf⟩,hU⟩;have q:∀ i u,#[Value.int .i64 0,.int .i64 0,.int .i64 0,.int .i64 0,.int .i64 0,.int .u64 0,.slice none 0 0][i]?=some u->U.cell? ⟨w.heap.size,i,none⟩=some u/\U.frozen? ⟨w.heap.size,i,none⟩=false:=λi u hu=>⟨(hU.cell (p:=⟨w.heap.size,i,none⟩) hlt2).trans (HZ3.o i u hu).1,(hU.frozen (p:=⟨w.heap.size,i,none⟩) hlt2).trans (HZ3.o i u hu).2⟩;obtain ⟨q0,s0⟩:=q 0 _ rfl;obtain ⟨q1,s1⟩:=q 1 _ rfl;obtain ⟨q2,s2⟩:=q 2 _ rfl;obtain ⟨q3,s3⟩:=q 3 _ rfl;obtain ⟨q4,s4⟩:=q 4 _ rfl;obtain ⟨q5,s5⟩:=q 5 _ rfl;obtain ⟨q6,s6⟩:=q 6 _ rfl;have HBU:=Hm ((HB.o.trans (Xt HG3.o (show w.heap.size<=w.heap.size+1 by omega) (by omega))).trans (hU.mono (by omega)));have e1:=(hr3.keep hU).c1;have e3:=(hr3.keep hU).c3;have HO:=Hm (Qx (Q8 ho3 (show w.heap.size<=_ by have:=HGV.o.size;omega)) hU (Nat.le_refl _));have HN:Hid ((Value.slice la x.l.length lc).ownBlock≠some w.heap.size):=λe=>by have h1:=(ho3.lt _ e).1;have:=HGV.o.size;omega
 clear hU q xf hr3 HZ3 HG3 ho3
 go_wp2_with fail
 go_big_region
 all_goals
  go_wp2_with fail
  refine Qf (λV=>Seven V w.heap.size (.int .i64 0) (.int .i64 p') (.int .i64 x.op) (.int .i64 x.a) (.int .i64 x.b) (.int .u64 x.v) (.slice la x.l.length lc)/\Below w.heap.size w V/\V.ownsRow w.heap.size 2 1 (.slice la x.l.length lc) x.l.length (I x.l)) ⟨Xr (Xy q0 q1 q2 q3 q4 q5 q6),Xw (bel7 HBU.o),own_undrew (own7 HO.o HN.o)⟩ ?_
  rintro V ⟨⟨t0,t1,t2,t3,t4,t5,t6⟩,hV,hOV⟩;have HV:=Hm hV;have HOV:=Hm hOV;clear hV hOV q0 q1 q2 q3 q4 q5 q6 s0 s1 s2 s3 s4 s5 s6 x0 x1 x2 x3 x4 e1 e3
  exact bodyPost_ret (v:=drV ⟨0,p',x⟩ la lc) (by simp [results,Tryz.results12,go_sem,t0,t1,t2,t3,t4,t5,t6]) rfl (by
   rw [HM.o]
   exact ⟨la,lc,rfl,HOV.o,HV.o⟩)
end Go.Proofs.YtipfjdogokanbaaGreatDoor.Ed
set_option linter.all false
namespace Go.Proofs.YtipfjdogokanbaaGreatDoor.Ed
open Go.RowKit Go.Sort
theorem sdec_in (ba:Option Addr)(bc:Nat)(bs:List Int)(P:Nat)(w:World)(hA:Qt bs)(hl:bs.length<=1099511627776)(hP:P<=bs.length)(hH:By.Has w ba bs)(hba:∀ a,ba=some a->a.block<w.heap.size) :
    Calls Tryz.prog 12 #[.slice ba bs.length bc,.int .i64 P] w (DrP (drOf (Jl bs P)) w):=by
 cases hM:Qy bs P with
 |bad er a=>exact sdec_A ba bc bs P w hA hl hP hH hba er a hM
 |ok c p1 =>
  by_cases hf:Qd (Qb c)<0
  . exact sdec_B ba bc bs P w hA hl hP hH hba c p1 hM hf
  . cases hD:Q4 (Qd (Qb c)) c bs p1 with
    |bad er a=>exact sdec_C ba bc bs P w hA hl hP hH hba c p1 hM hf er a hD
    |ok xx p'=>exact sdec_D ba bc bs P w hA hl hP hH hba c p1 hM hf xx p' hD
theorem sdec_c (ba:Option Addr)(bc:Nat)(bs:List Int)(at_:Int)(w:World)(hA:Qt bs)(hl:bs.length<=1099511627776)(hH:By.Has w ba bs)(hba:∀ a,ba=some a->a.block<w.heap.size) :
    Calls Tryz.prog 12 #[.slice ba bs.length bc,.int .i64 at_] w (DrP (Jx bs at_) w):=by
 unfold Jx
 by_cases h:0<=at_/\at_<=bs.length
 . rw [if_pos h];obtain ⟨P,rfl⟩:=Int.eq_ofNat_of_zero_le h.1;rw [Int.toNat_natCast]
   show Calls _ _ _ _ (DrP (drOf (Jl bs P)) w)
   exact sdec_in ba bc bs P w hA hl (by omega) hH hba
 . rw [if_neg h]
   exact sdec_out ba bc bs at_ w hl h
end Go.Proofs.YtipfjdogokanbaaGreatDoor.Ed
set_option linter.all false
set_option linter.all false
namespace Go.Proofs.YtipfjdogokanbaaGreatDoor.Ed
open Go.RowKit Go.Sort
theorem getR_in (s:Bool)(bs:List Int)(p:Nat)(B:Int):∀ (f k:Nat) (acc:Int),(By.QR s bs p B f k acc).1=0->(By.QR s bs p B f k acc).2.2<=bs.length:=by
 intro f
 induction f with
 |zero=>intro k acc h;simp [By.QR]
 |succ f ih =>
  intro k acc hz
  simp only [By.QR] at hz⊢
  by_cases c0:bs.length<=p+k
  . rw [if_pos c0] at hz;simp at hz
  rw [if_neg c0] at hz⊢
  by_cases c1:B-7*(k:Int)<=7/\128<=bs.getD (p+k) 0
  . rw [if_pos c1] at hz;simp at hz
  rw [if_neg c1] at hz⊢
  by_cases c2:B-7*(k:Int)<=7/\By.rok s (bs.getD (p+k) 0) (B-7*(k:Int))=false
  . rw [if_pos c2] at hz;simp at hz
  rw [if_neg c2] at hz⊢
  by_cases c3:bs.getD (p+k) 0<128
  . rw [if_pos c3];show (p:Int)+k+1<=_;omega
  . rw [if_neg c3] at hz⊢;exact ih _ _ hz
theorem num_in {s:Bool}{B:Int}{bs:List Int}{p p1:Nat}{v:Int}(hB:B<=64)(h:Qp s B bs p=.ok v p1):p+1<=p1/\p1<=bs.length:=by
 unfold Qp at h
 split at h
 . cases h
 . split at h
   . rename_i h1 h2
     have a:=getR_in s bs p B 10 0 0 h2;have b:=getR_next s bs p B 10 0 0 (by decide) (by omega) h2
     injection h with _ h
     omega
   . cases h
theorem rep_in (bs:List Int):∀ (n:Nat) (acc:List Int) (p:Nat) (l:List Int) (p':Nat),JK bs n acc p=.ok l p'->l.length=acc.length+n/\(n=0\/p+n<=bs.length):=by
 intro n
 induction n with
 |zero=>intro acc p l p' h;simp only [JK] at h;cases h;exact ⟨rfl,.inl rfl⟩
 |succ n ih =>
  intro acc p l p' h
  simp only [JK] at h
  obtain ⟨v,q,h1,h2⟩:=Qk h;obtain ⟨a,b⟩:=num_in (by decide) h1;obtain ⟨c,d⟩:=ih _ _ _ _ h2
  refine ⟨by rw [c];simp;omega,.inr ?_⟩
  omega
theorem dec_in (f op:Int)(bs:List Int)(p p1:Nat)(x:In)(h:Q4 f op bs p=.ok x p1):x.l.length<=bs.length:=by
 unfold Q4 at h
 by_cases f1:f=1
 . rw [if_pos f1] at h;obtain ⟨a,q,_,h⟩:=Qk h
   cases h;simp
 rw [if_neg f1] at h
 by_cases f2:f=2
 . rw [if_pos f2] at h;obtain ⟨a,q,_,h⟩:=Qk h
   cases h;simp
 rw [if_neg f2] at h
 by_cases f3:f=3
 . rw [if_pos f3] at h;obtain ⟨l,q,h1,h⟩:=Qk h;obtain ⟨a,q2,_,h⟩:=Qk h
   cases h
   unfold vecM at h1;obtain ⟨n,q3,_,h1⟩:=Qk h1;obtain ⟨a,b⟩:=rep_in _ _ _ _ _ _ h1
   simp at a
   show l.length<=_
   omega
 rw [if_neg f3] at h
 by_cases f4:f=4
 . rw [if_pos f4] at h;obtain ⟨a,q,_,h⟩:=Qk h;obtain ⟨a,q2,_,h⟩:=Qk h
   cases h;simp
 rw [if_neg f4] at h
 by_cases f5:f=5
 . rw [if_pos f5] at h;obtain ⟨a,q,_,h⟩:=Qk h;obtain ⟨a,q2,_,h⟩:=Qk h
   cases h;simp
 rw [if_neg f5] at h
 by_cases f6:f=6
 . rw [if_pos f6] at h;obtain ⟨a,q,_,h⟩:=Qk h
   cases h;simp
 rw [if_neg f6] at h
 by_cases f7:f=7
 . rw [if_pos f7] at h;obtain ⟨a,q,_,h⟩:=Qk h
   cases h;simp
 rw [if_neg f7] at h
 by_cases f8:f=8
 . rw [if_pos f8] at h;obtain ⟨a,q,_,h⟩:=Qk h
   cases h;simp
 rw [if_neg f8] at h
 by_cases f9:f=9
 . rw [if_pos f9] at h;obtain ⟨a,q,_,h⟩:=Qk h
   cases h;simp
 rw [if_neg f9] at h
 by_cases f10:f=10
 . rw [if_pos f10] at h;obtain ⟨a,q,_,h⟩:=Qk h
   cases h;simp
 rw [if_neg f10] at h
 cases h;simp
theorem dres_in (bs:List Int)(at_:Int):(Jx bs at_).x.l.length<=bs.length:=by
 unfold Jx
 split
 . cases hM:Jl bs at_.toNat with
   |bad er a=>simp [I0]
   |ok x p =>
    unfold Jl at hM;obtain ⟨op,q,_,h⟩:=Qk hM
    exact dec_in _ _ _ _ _ _ h
 . simp [I0]
theorem dres_short (bs:List Int)(hA:Qt bs)(at_:Int)(h:(Jx bs at_).err=0):((QS (Jx bs at_).x).length:Int)<=(Jx bs at_).nxt-at_:=by
 unfold Jx at h⊢
 split at h
 . rename_i hat
   rw [if_pos hat]
   cases hM:Jl bs at_.toNat with
   |bad er a =>
    rw [hM] at h
    exact absurd h (nz_ins _ _ _ _ hM)
   |ok x p =>
    have:=ins_long bs hA _ _ x hM
    have he:(QS x).length<=(Gw x).length:=by
     unfold QS;split<;>simp
    show ((QS x).length:Int)<=(p:Int)-at_
    omega
 . cases h
theorem dec_v (f op:Int)(bs:List Int)(hA:Qt bs)(p p1:Nat)(x:In)(h:Q4 f op bs p=.ok x p1):0<=x.v/\x.v<=18446744073709551615:=by
 unfold Q4 at h
 by_cases f1:f=1
 . rw [if_pos f1] at h;obtain ⟨a,q,_,h⟩:=Qk h
   cases h;simp
 rw [if_neg f1] at h
 by_cases f2:f=2
 . rw [if_pos f2] at h;obtain ⟨a,q,_,h⟩:=Qk h
   cases h;simp
 rw [if_neg f2] at h
 by_cases f3:f=3
 . rw [if_pos f3] at h;obtain ⟨l,q,h1,h⟩:=Qk h;obtain ⟨a,q2,_,h⟩:=Qk h
   cases h;simp
 rw [if_neg f3] at h
 by_cases f4:f=4
 . rw [if_pos f4] at h;obtain ⟨a,q,_,h⟩:=Qk h;obtain ⟨a,q2,_,h⟩:=Qk h
   cases h;simp
 rw [if_neg f4] at h
 by_cases f5:f=5
 . rw [if_pos f5] at h;obtain ⟨a,q,_,h⟩:=Qk h;obtain ⟨a,q2,_,h⟩:=Qk h
   cases h;simp
 rw [if_neg f5] at h
 by_cases f6:f=6
 . rw [if_pos f6] at h;obtain ⟨a,q,_,h⟩:=Qk h
   cases h;simp
 rw [if_neg f6] at h
 by_cases f7:f=7
 . rw [if_pos f7] at h;obtain ⟨a,q,_,h⟩:=Qk h
   cases h
   show 0<=a%4294967296/\a%4294967296<=_
   omega
 rw [if_neg f7] at h
 by_cases f8:f=8
 . rw [if_pos f8] at h;obtain ⟨a,q,h1,h⟩:=Qk h
   cases h
   exact num_bd h1
 rw [if_neg f8] at h
 have fx:∀ n v q,(n=4\/n=8)->JN bs p n=.ok v q->0<=v/\v<=18446744073709551615:=by
  intro n v q hn h
  unfold JN at h
  split at h
  . cases h
    have:=sumB_bd bs hA p n
    have h2:(2:Int) ^ (8*n)<=18446744073709551616:=by rcases hn with rfl|rfl<;>decide
    omega
  . cases h
 by_cases f9:f=9
 . rw [if_pos f9] at h;obtain ⟨a,q,h1,h⟩:=Qk h
   cases h
   exact fx 4 _ _ (.inl rfl) h1
 rw [if_neg f9] at h
 by_cases f10:f=10
 . rw [if_pos f10] at h;obtain ⟨a,q,h1,h⟩:=Qk h
   cases h
   exact fx 8 _ _ (.inr rfl) h1
 rw [if_neg f10] at h
 cases h;simp
theorem dres_v (bs:List Int)(hA:Qt bs)(at_:Int):0<=(Jx bs at_).x.v/\(Jx bs at_).x.v<=18446744073709551615:=by
 unfold Jx
 split
 . cases hM:Jl bs at_.toNat with
   |bad er a=>simp [I0]
   |ok x p =>
    unfold Jl at hM;obtain ⟨op,q,_,h⟩:=Qk hM
    exact dec_v _ _ _ hA _ _ _ h
 . simp [I0]
theorem take_end {bs:List Int}{p q:Nat}{v:Int}(h:Qy bs p=.ok v q):q<=bs.length:=by
 unfold Qy at h
 split at h
 . cases h
 . cases h;omega
theorem only_end {bs:List Int}{p q:Nat}{v:Int}(h:onlyM bs p=.ok v q):q<=bs.length:=by
 unfold onlyM at h;obtain ⟨c,q2,h1,h2⟩:=Qk h
 split at h2
 . cases h2;exact take_end h1
 . cases h2
theorem mark_end {bs:List Int}{p q:Nat}{v:Unit}(h:JA bs p=.ok v q):q<=bs.length:=by
 unfold JA at h;obtain ⟨c,q2,h1,h2⟩:=Qk h
 split at h2
 . cases h2;exact take_end h1
 . cases h2
theorem fix_end {bs:List Int}{p n q:Nat}{v:Int}(h:JN bs p n=.ok v q):q<=bs.length:=by
 unfold JN at h
 split at h
 . cases h;assumption
 . cases h
theorem dec_end (f op:Int)(bs:List Int)(p p1:Nat)(x:In)(hp:p<=bs.length)(h:Q4 f op bs p=.ok x p1):p1<=bs.length:=by
 unfold Q4 at h
 by_cases f1:f=1
 . rw [if_pos f1] at h;obtain ⟨a,q,h1,h⟩:=Qk h
   cases h;exact only_end h1
 rw [if_neg f1] at h
 by_cases f2:f=2
 . rw [if_pos f2] at h;obtain ⟨a,q,h1,h⟩:=Qk h
   cases h;exact (num_in (by decide) h1).2
 rw [if_neg f2] at h
 by_cases f3:f=3
 . rw [if_pos f3] at h;obtain ⟨l,q,h1,h⟩:=Qk h;obtain ⟨a,q2,h2,h⟩:=Qk h
   cases h;exact (num_in (by decide) h2).2
 rw [if_neg f3] at h
 by_cases f4:f=4
 . rw [if_pos f4] at h;obtain ⟨a,q,h1,h⟩:=Qk h;obtain ⟨a,q2,h2,h⟩:=Qk h
   cases h;exact mark_end h2
 rw [if_neg f4] at h
 by_cases f5:f=5
 . rw [if_pos f5] at h;obtain ⟨a,q,h1,h⟩:=Qk h;obtain ⟨a,q2,h2,h⟩:=Qk h
   cases h;exact (num_in (by decide) h2).2
 rw [if_neg f5] at h
 by_cases f6:f=6
 . rw [if_pos f6] at h;obtain ⟨a,q,h1,h⟩:=Qk h
   cases h;exact mark_end h1
 rw [if_neg f6] at h
 by_cases f7:f=7
 . rw [if_pos f7] at h;obtain ⟨a,q,h1,h⟩:=Qk h
   cases h;exact (num_in (by decide) h1).2
 rw [if_neg f7] at h
 by_cases f8:f=8
 . rw [if_pos f8] at h;obtain ⟨a,q,h1,h⟩:=Qk h
   cases h;exact (num_in (by decide) h1).2
 rw [if_neg f8] at h
 by_cases f9:f=9
 . rw [if_pos f9] at h;obtain ⟨a,q,h1,h⟩:=Qk h
   cases h;exact fix_end h1
 rw [if_neg f9] at h
 by_cases f10:f=10
 . rw [if_pos f10] at h;obtain ⟨a,q,h1,h⟩:=Qk h
   cases h;exact fix_end h1
 rw [if_neg f10] at h
 cases h;exact hp
theorem dres_n (bs:List Int)(at_:Int)(h:(Jx bs at_).err=0):0<=at_/\at_<=bs.length/\0<=(Jx bs at_).nxt/\(Jx bs at_).nxt<=bs.length:=by
 unfold Jx at h⊢
 split at h
 . rename_i hat
   rw [if_pos hat]
   refine ⟨hat.1,hat.2,?_⟩
   cases hM:Jl bs at_.toNat with
   |bad er a =>
    rw [hM] at h
    exact absurd h (nz_ins _ _ _ _ hM)
   |ok x p =>
    unfold Jl at hM;obtain ⟨op,q,h1,h2⟩:=Qk hM;unfold opM at h1;obtain ⟨c,q2,h4,h5⟩:=Qk h1
    split at h5
    . cases h5
    . cases h5
      have:=dec_end _ _ _ _ _ _ (take_end h4) h2
      show 0<=(p:Int)/\(p:Int)<=_
      omega
 . cases h
theorem dres_back (x:In)(hg:gd x=true)(hv0:0<=x.v)(hv1:x.v<=18446744073709551615)(hn:x.l.length<=4294967295):Jx (5::QS x++[9]) 1=⟨0,(QS x).length+1,x⟩:=by
 have he:QS x=Gw x:=by unfold QS;rw [if_pos hg]
 rw [he];unfold Jx;rw [if_pos ⟨by decide,by simp;omega⟩];rw [show ((1:Int).toNat)=1 from rfl,ins_back x hg hv0 hv1 hn (5::Gw x++[9]) [9] 1 rfl]
 show (⟨0,((1+(Gw x).length:Nat):Int),x⟩:DR)=_
 congr 1
 omega
end Go.Proofs.YtipfjdogokanbaaGreatDoor.Ed
