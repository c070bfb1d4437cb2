import Derived.Test.YtipfjdogokanbaaGreatDoorGaa
import Derived.Test.YtipfjdogokanbaaGreatDoorGbv
import Derived.Test.YtipfjdogokanbaaGreatDoorGbw
import Derived.Lib.IndexLaws
set_option linter.all false
set_option maxHeartbeats 400000000
set_option maxRecDepth 100000
set_option linter.all false
namespace Go.Proofs.YtipfjdogokanbaaGreatDoor.Yz
open Go.RowKit Go.Sort
theorem ownE_take {w:World}{B e g cap n:Nat}{zs:List Value}(h:w.ownsRow B e 1 (.slice (some ⟨g,0,none⟩) (n+1) cap) (n+1) zs):w.ownsRow B e 1 (.slice (some ⟨g,0,none⟩) n cap) n (zs.take n):=by
 rcases h.2 with ⟨h',_⟩|⟨g',cap',cur,h',hb,hg,hnc,hcm,hcs,htake⟩
 . simp at h'
 . simp only [Value.slice.injEq,Option.some.injEq,Addr.mk.injEq,and_true,true_and] at h'
   obtain ⟨rfl,rfl⟩:=h';have hl:=h.1
   refine ⟨by simp;omega,.inr ⟨g,cap,cur,rfl,hb,hg,by omega,hcm,hcs,?_⟩⟩
   rw [<- htake,List.take_take]
   congr 1
   omega
theorem own_hasI {w:World}{B:Nat}{g cap:Nat}{vs:List Int}(h:w.ownsRow B 2 1 (.slice (some ⟨g,0,none⟩) vs.length cap) vs.length (I vs)):Has w (some ⟨g,0,none⟩) vs:=by
 refine .inr ⟨g,0,rfl,λi hi=>?_⟩
 rw [Nat.zero_add,h.cellAt i (by omega)]
 simp [I,List.getD,hi]
theorem own_hz {w:World}{B n:Nat}{g cap:Nat}{vs:List Int}(hn:n<=B)(h:w.ownsRow B 2 1 (.slice (some ⟨g,0,none⟩) vs.length cap) vs.length (I vs)):Hz n w (some ⟨g,0,none⟩) vs:=by
 refine ⟨own_hasI h,λp e=>?_⟩
 cases e
 rcases h.2 with ⟨h',_⟩|⟨g',cap',cur,h',hb,_⟩
 . simp at h'
 . simp only [Value.slice.injEq,Option.some.injEq,Addr.mk.injEq,and_true,true_and] at h'
   obtain ⟨rfl,rfl⟩:=h'
   show n<=g
   omega
theorem nms_split:∀ (r:List Wd) (vs:List Int) (v:Int),Nms r (vs++[v])->∃ ss s,r=ss++[s]/\Nms ss vs/\Nm 0 4294967295 s v
 |[],[],v,g=>g.elim
 |[],_::_,v,g=>g.elim
 |s::r,[],v,g=>by
  match r,g with
  |[],g=>exact ⟨[],s,rfl,trivial,g.1⟩
 |s::r,u::vs,v,g=>by
  obtain ⟨ss,t,e,h1,h2⟩:=nms_split r vs v g.2
  exact ⟨s::ss,t,by rw [e];rfl,⟨g.1,h1⟩,h2⟩
theorem sri_3 (p b o c:Nat)(s:Wd)(r:List Wd)(w:World)(h:Pb w p false)(hb:b<p)(hc:∀ i,i<(s::r).length->w.cell? ⟨b,o+i,none⟩=some (.string (S ((s::r).getD i []))))(hcap:(s::r).length<=c)(hl:∀ x ∈ s::r,x.length<=1099511627776)(hrl:r.length<=1099511627776)(hf:Qd (Qb (Qz s))=3) :
    Calls Tryz.prog 42 #[.pointer (some ⟨p,0,none⟩),.slice (some ⟨b,o,none⟩) (s::r).length c] w (SiP 3 (Qz s) r w p):=by
 have cx:=hc 0 (by simp)
 simp only [Nat.add_zero,List.getD_cons_zero] at cx
 obtain ⟨W,hW⟩:∃ W,W=w.alloc (.cells #[.int .i64 0,.int .i64 0,.int .i64 0,.int .u64 0,.slice none 0 0] 26):=⟨_,rfl⟩;have hbW:Below w.heap.size w W:=by rw [hW];exact (Below.refl _ _).alloc (Nat.le_refl _) _
 have hsW:Hid (W.heap.size=w.heap.size+1):=by show _=_;rw [hW];simp
 have hzW:C5 W w.heap.size 0 (.int .i64 0) (.int .i64 0) (.int .i64 0) (.int .u64 0) (.slice none 0 0):=by rw [hW];exact C5.new
 have cxW:W.cell? ⟨b,o,none⟩=some (.string (S s)):=(hbW.cell (p:=⟨b,o,none⟩) (World.block_lt_of_cell? w _ cx)).trans cx;have KC:=Hm (scode_c (S s) W);rw [QO] at KC;have HW:=Hm hW
 simp only [List.length_cons] at hcap⊢
 have HWV:=Hm (wv_rest hb hc hcap);have hlr:∀ x ∈ r,x.length<=1099511627776:=λx hx=>hl x (by simp [hx]);have HL:=Hm hlr;have HPB:=Hm h;have hplt:=h.lt;have KF:=Hm (λU=>Qr (Qz s) U);rw [hf] at KF;clear cx hW hc hl hlr h hf;generalize Qz s=op at *
 go_enter Tryz.func42,Tryz.ntmps42
 go_upto_region 1 with fail
 rw [<- HW.o]
 go_wp2_with fail
 refine KC.o.mono ?_
 rintro e w1 ⟨rfl,hb1⟩
 go_upto_region 3 with fail
 generalize (if c=1 then (some ⟨b,o,none⟩:Option Addr) else some ⟨b,o+1,none⟩)=ra at *;generalize c-1=rc at *;have hx1:w.heap.size<w1.heap.size:=by have:=hb1.size;have:=hsW.o;omega
 have hbU:Below w.heap.size w w1:=hbW.trans (hb1.mono (by have:=hsW.o;omega));have hz1:C5 w1 w.heap.size 0 (.int .i64 0) (.int .i64 0) (.int .i64 0) (.int .u64 0) (.slice none 0 0):=hzW.keep hb1
 refine Qj (λU=>Sx w p w1.heap.size ra r false (.int .i64 op) (.int .i64 0) (.int .i64 0) (.int .u64 0) (.slice none 0 0) U) ⟨C5.new,hz1.past,HPB.o.keep (hbU.alloc hbU.size _),QD (hbU.alloc hbU.size _),HWV.o.keep (hbU.alloc hbU.size _) hplt,hplt,hx1⟩ ?_
 rintro U SU0;have SU:=Hm SU0;have x0:=SU0.x.1.1;clear SU0 HWV HPB hbW hsW hzW cxW KC HW hcap hb1 hbU hz1 hx1
 go_wp2_with fail
 refine (KF.o _).mono ?_
 rintro e w2 ⟨rfl,rfl⟩;clear KF x0;have KR:=Hm (srn_c p ra rc r false _ SU.o.pb SU.o.wv HL.o hrl)
 go_wp2_with fail
 refine KR.o.mono ?_
 rintro e w3 ⟨vv,us,b2,rfl,hown,hvl,hpb,hgb,A1,A2⟩;have S3:=Hm (SU.o.call hgb hpb);have HA:=Hm (And.intro hvl (And.intro A1 A2));have hXU:w1.heap.size<U.heap.size:=World.block_lt_of_cell? U _ SU.o.x.1.1;have hwU:w.heap.size<w1.heap.size:=SU.o.hX;have hul:us.length<=1099511627776:=by omega
 clear hpb hgb A1 A2 KR SU hvl
 by_cases h2:us=[]
 . subst h2;obtain ⟨va,vc,rfl⟩:=Qw hown
   simp only [List.length_nil]
   clear hown;have KB:=Hm (JP p _ _ S3.o.pb)
   go_wp2_with fail
   refine KB.o.mono ?_
   rintro e w9 ⟨rfl,hpb,hgb⟩;have S9:=Hm (S3.o.call hgb hpb);clear hpb hgb KB S3;obtain ⟨⟨x0,x1,x2,x3,x4⟩,-⟩:=S9.o.x;obtain ⟨⟨z0,z1,z2,z3,z4⟩,zf⟩:=S9.o.z
   simp only [Nat.zero_add] at x0 x1 x2 x3 x4 z0 z1 z2 z3 z4
   have zf0:=zf 0;have zf1:=zf 1;have zf2:=zf 2;have zf3:=zf 3;have zf4:=zf 4;clear zf
   go_wp2
   refine Qf (λV=>C5 V w.heap.size 0 (.int .i64 op) (.int .i64 0) (.int .i64 0) (.int .u64 0) (.slice none 0 0)/\Pb V p true/\w.grownBy V (some p)) (S9.o.fin _ _ _ _ _) ?_
   rintro V ⟨⟨⟨t0,t1,t2,t3,t4⟩,-⟩,tU,gU⟩
   simp only [Nat.zero_add] at t0 t1 t2 t3 t4
   have HU:=Hm (And.intro tU gU);clear tU gU x0 x1 x2 x3 x4 z0 z1 z2 z3 z4 zf0 zf1 zf2 zf3 zf4
   exact bodyPost_ret (v := inV ⟨op, 0, 0, 0, []⟩ none 0) (by simp [results, Tryz.results42, go_sem, t0, t1, t2, t3, t4]) rfl ⟨⟨op, 0, 0, 0, []⟩, none, 0, true, rfl, rfl, QI _, HU.o.1, HU.o.2, fun h => absurd h (by decide), fun _ ⟨y, hy⟩ => by
         rw [arg_3] at hy;obtain ⟨ss,s1,us,u,rfl,-⟩:=hy
         have:=HA.o.1
         simp at this⟩
 . obtain ⟨vs,v,rfl⟩:∃ vs v,us=vs++[v]:=⟨us.dropLast,us.getLast h2,(List.dropLast_concat_getLast h2).symm⟩;obtain ⟨g,cap,rfl,hg,hcap2,hcc⟩:=own_cells hown (by simp);have dl:=hcc vs.length (by simp);have hgl:(vs++[v]).getD vs.length 0=v:=by simp [List.getD]
   rw [hgl] at dl;have hn1:(vs++[v]).length=vs.length+1:=by simp
   rw [hn1] at hown hcap2⊢
   have OT:Hid (w3.ownsRow U.heap.size 2 1 (.slice (some ⟨g,0,none⟩) vs.length cap) vs.length (I vs)):=by
    show World.ownsRow _ _ _ _ _ _ _
    have:=ownE_take hown
    simpa [I] using this
   have hul2:vs.length<=1099511627776:=by rw [hn1] at hul;omega
   have wr1:IntKind.i64.wrap ((vs.length:Int)+1-1)=(vs.length:Int):=by rw [IntKind.wrap_i64];omega
   have x4:=S3.o.x.1.2.2.2.2;have xf4:=S3.o.x.2 4
   simp only [Nat.zero_add] at x4 xf4
   have hng:w1.heap.size≠g:=by omega
   clear hcc hown h2 hgl hn1 hul
   go_upto_region 27 with fail
   refine Qj (λV=>Sx w p w1.heap.size ra r b2 (.int .i64 op) (.int .i64 0) (.int .i64 0) (.int .u64 0) (.slice (some ⟨g,0,none⟩) vs.length cap) V/\V.cell? ⟨g,vs.length,none⟩=some (.int .i64 v)/\V.ownsRow U.heap.size 2 1 (.slice (some ⟨g,0,none⟩) vs.length cap) vs.length (I vs)) ⟨S3.o.set4,by rw [World.cell?_setCell_other _ _ _ _ (λe=>hng (congrArg Addr.block e))];exact dl,ownsRow_setCell_below OT.o (show w1.heap.size<_ from hXU) _⟩ ?_
   rintro V4 ⟨SV0,e1,oV⟩;have SV:=Hm SV0;have OV:=Hm oV;have y1:=SV0.x.1.2.1;have yf1:=SV0.x.2 1
   simp only [Nat.zero_add] at y1 yf1
   clear SV0 oV x4 xf4 dl S3 OT
   go_upto_region 46 with fail
   refine Qj (λV=>Sx w p w1.heap.size ra r b2 (.int .i64 op) (.int .i64 v) (.int .i64 0) (.int .u64 0) (.slice (some ⟨g,0,none⟩) vs.length cap) V/\V.ownsRow U.heap.size 2 1 (.slice (some ⟨g,0,none⟩) vs.length cap) vs.length (I vs)) ⟨SV.o.set1,ownsRow_setCell_below OV.o (show w1.heap.size<_ from hXU) _⟩ ?_
   rintro V6 ⟨SY0,oY⟩;have SY:=Hm SY0;have OY:=Hm oY;clear SY0 oY y1 yf1 e1 SV OV;obtain ⟨⟨x0,x1,x2,x3,x4⟩,-⟩:=SY.o.x;obtain ⟨⟨z0,z1,z2,z3,z4⟩,zf⟩:=SY.o.z
   simp only [Nat.zero_add] at x0 x1 x2 x3 x4 z0 z1 z2 z3 z4
   have zf0:=zf 0;have zf1:=zf 1;have zf2:=zf 2;have zf3:=zf 3;have zf4:=zf 4;clear zf
   go_wp2
   refine Qf (λV=>(C5 V w.heap.size 0 (.int .i64 op) (.int .i64 v) (.int .i64 0) (.int .u64 0) (.slice (some ⟨g,0,none⟩) vs.length cap)/\Pb V p b2/\w.grownBy V (some p))/\Hz w.heap.size V (some ⟨g,0,none⟩) vs) ⟨SY.o.fin _ _ _ _ _,own_hz (show w.heap.size<=U.heap.size by omega) (ownsRow_setCell_below (ownsRow_setCell_below (ownsRow_setCell_below (ownsRow_setCell_below (ownsRow_setCell_below OY.o (show w.heap.size<_ by omega) _) (show w.heap.size<_ by omega) _) (show w.heap.size<_ by omega) _) (show w.heap.size<_ by omega) _) (show w.heap.size<_ by omega) _)⟩ ?_
   rintro V ⟨⟨⟨⟨t0,t1,t2,t3,t4⟩,-⟩,tU,gU⟩,hV⟩
   simp only [Nat.zero_add] at t0 t1 t2 t3 t4
   have HU:=Hm (And.intro tU (And.intro gU hV));clear tU gU hV x0 x1 x2 x3 x4 z0 z1 z2 z3 z4 zf0 zf1 zf2 zf3 zf4
   exact bodyPost_ret (v:=inV ⟨op,v,0,0,vs⟩ (some ⟨g,0,none⟩) cap) (by simp [results,Tryz.results42,go_sem,t0,t1,t2,t3,t4]) rfl ⟨⟨op,v,0,0,vs⟩,some ⟨g,0,none⟩,cap,b2,rfl,rfl,HU.o.2.2,HU.o.1,HU.o.2.1,fun h=>⟨by decide,by
    rw [arg_3];obtain ⟨ss,s1,e,n1,n2⟩:=nms_split _ _ _ (HA.o.2.1 h).2
    exact ⟨ss,s1,vs,v,e,n1,n2,rfl⟩⟩,fun _ ⟨y,hy⟩=>by
    rw [arg_3] at hy;obtain ⟨ss,s1,us,u,rfl,n1,n2,-⟩:=hy
    exact HA.o.2.2 trivial (fun t ht=>by
     rcases List.mem_append.1 ht with ht|ht
     . exact nms_ok _ _ n1 t ht
     . simp at ht;subst ht;exact n2.1)⟩
theorem sri_c (p b o c:Nat)(s:Wd)(r:List Wd)(w:World)(h:Pb w p false)(hb:b<p)(hc:∀ i,i<(s::r).length->w.cell? ⟨b,o+i,none⟩=some (.string (S ((s::r).getD i []))))(hcap:(s::r).length<=c)(hl:∀ x ∈ s::r,x.length<=1099511627776)(hrl:r.length<=1099511627776) :
    Calls Tryz.prog 42 #[.pointer (some ⟨p,0,none⟩),.slice (some ⟨b,o,none⟩) (s::r).length c] w (SiP (Qd (Qb (Qz s))) (Qz s) r w p):=by
 rcases QA (Qz s) with e|e|e|e|e|e|e|e|e|e|e|e
 . rw [e];exact sri_m1 p b o c s r w h hb hc hcap hl hrl e
 . rw [e];exact sri_0 p b o c s r w h hb hc hcap hl hrl e
 . rw [e];exact sri_1 p b o c s r w h hb hc hcap hl hrl e
 . rw [e];exact sri_2 p b o c s r w h hb hc hcap hl hrl e
 . rw [e];exact sri_3 p b o c s r w h hb hc hcap hl hrl e
 . rw [e];exact sri_4 p b o c s r w h hb hc hcap hl hrl e
 . rw [e];exact sri_5 p b o c s r w h hb hc hcap hl hrl e
 . rw [e];exact sri_6 p b o c s r w h hb hc hcap hl hrl e
 . rw [e];exact sri_7 p b o c s r w h hb hc hcap hl hrl e
 . rw [e];exact sri_8 p b o c s r w h hb hc hcap hl hrl e
 . rw [e];exact sri_9 p b o c s r w h hb hc hcap hl hrl e
 . rw [e];exact sri_10 p b o c s r w h hb hc hcap hl hrl e
end Go.Proofs.YtipfjdogokanbaaGreatDoor.Yz
set_option linter.all false
namespace Go.Proofs.YtipfjdogokanbaaGreatDoor.Yz
open Go.RowKit Go.Sort
theorem XX {lo hi:Int}{s:Wd}{u v:Int}(h:Nm lo hi s u)(g:Nm lo hi s v):u=v:=by
 have:=h.2.symm.trans g.2
 simpa using this
theorem nms_uniq:∀ (ss:List Wd) (us vs:List Int),Nms ss us->Nms ss vs->us=vs
 |[],[],[],_,_=>rfl
 |[],[],_::_,_,g=>g.elim
 |[],_::_,_,h,_=>h.elim
 |_::_,[],_,h,_=>h.elim
 |_::_,_::_,[],_,g=>g.elim
 |s::ss,u::us,v::vs,h,g=>by rw [XX h.1 g.1,nms_uniq ss us vs h.2 g.2]
theorem bits_uniq {n u v:Nat}{s:Wd}(hu:u<16 ^ n)(hv:v<16 ^ n)(h:QF n u=s)(g:QF n v=s):u=v:=by
 have h1:=(Xm n s u).2 ⟨hu,h⟩;have h2:=(Xm n s v).2 ⟨hv,g⟩;rw [h1] at h2
 simpa using h2
theorem arg_uniq (op:Int)(r:List Wd)(x y:In)(h:Arg (Qd (Qb op)) r x)(g:Arg (Qd (Qb op)) r y)(e:x.op=y.op):x=y:=by
 have K:∀ {A B C:Int} {L:List Int},x=⟨x.op,A,B,C,L⟩->y=⟨y.op,A,B,C,L⟩->x=y:=λh1 h2=>by rw [h1,h2,e]
 rcases QA op with f|f|f|f|f|f|f|f|f|f|f|f<;>rw [f] at h g
 . simp [Arg] at h g;exact K h.2 g.2
 . simp [Arg] at h g;exact K h.2 g.2
 . rw [arg_1] at h g
   rcases h with ⟨e1,h⟩|⟨t,e1,_,h⟩<;>rcases g with ⟨e2,g⟩|⟨t2,e2,_,g⟩
   . exact K h g
   . rw [e1] at e2;cases e2
   . rw [e1] at e2;cases e2
   . rw [e1] at e2;cases e2;exact K h g
 . rw [arg_2] at h g;obtain ⟨s,v,e1,n1,h⟩:=h;obtain ⟨s2,v2,e2,n2,g⟩:=g;rw [e1] at e2;cases e2
   cases XX n1 n2
   exact K h g
 . rw [arg_3] at h g;obtain ⟨ss,s,vs,v,e1,n1,m1,h⟩:=h;obtain ⟨ss2,s2,vs2,v2,e2,n2,m2,g⟩:=g;rw [e1] at e2;obtain ⟨rfl,e3⟩:=List.append_inj' e2 rfl
   cases e3
   cases nms_uniq _ _ _ n1 n2
   cases XX m1 m2
   exact K h g
 . rw [arg_4] at h g;obtain ⟨s,v,e1,n1,h⟩:=h;obtain ⟨s2,v2,e2,n2,g⟩:=g;rw [e1] at e2;cases e2
   cases XX n1 n2
   exact K h g
 . rw [arg_5] at h g;obtain ⟨s,t,v,u,e1,n1,m1,h⟩:=h;obtain ⟨s2,t2,v2,u2,e2,n2,m2,g⟩:=g;rw [e1] at e2;cases e2
   cases XX n1 n2
   cases XX m1 m2
   exact K h g
 . simp [Arg] at h g;exact K h.2 g.2
 . rw [arg_7] at h g;obtain ⟨s,v,e1,n1,h⟩:=h;obtain ⟨s2,v2,e2,n2,g⟩:=g;rw [e1] at e2;cases e2
   cases XX n1 n2
   exact K h g
 . rw [arg_8] at h g;obtain ⟨s,v,e1,n1,h⟩:=h;obtain ⟨s2,v2,e2,n2,g⟩:=g;rw [e1] at e2;cases e2
   cases XX n1 n2
   exact K h g
 . rw [arg_9] at h g;obtain ⟨s,u,e1,_,b1,n1,h⟩:=h;obtain ⟨s2,u2,e2,_,b2,n2,g⟩:=g;rw [e1] at e2;cases e2
   cases bits_uniq (n:=8) (by show u<4294967296;omega) (by show u2<4294967296;omega) n1 n2
   exact K h g
 . rw [arg_10] at h g;obtain ⟨s,u,e1,_,b1,n1,h⟩:=h;obtain ⟨s2,u2,e2,_,b2,n2,g⟩:=g;rw [e1] at e2;cases e2
   cases bits_uniq (n:=16) (by show u<18446744073709551616;omega) (by show u2<18446744073709551616;omega) n1 n2
   exact K h g
theorem prs_uniq {ws:List Wd}{x y:In}(h:Prs ws x)(g:Prs ws y):x=y:=by
 obtain ⟨s,r,e1,_,c1,a1⟩:=h;obtain ⟨s2,r2,e2,_,c2,a2⟩:=g;rw [e1] at e2;cases e2;have e:x.op=y.op:=c1.symm.trans c2;rw [<- e] at a2
 exact arg_uniq x.op r x y a1 a2 e
theorem find_form:∀ (k:Nat) (s:List UInt8) (j:Nat),k<=192->Xu k s=some j->j<192/\(nm j).data.toList=s/\s≠[]
 |0,s,j,_,h=>by cases h
 |k+1,s,j,hk,h=>by
  simp only [Xu] at h
  split at h
  . rename_i hc;cases h;exact ⟨by omega,hc.1,hc.2⟩
  . exact find_form k s j (by omega) h
theorem named_form (j:Nat)(hj:j<192)(h:(nm j).data.toList≠[]):0<=Qd (Qb (j:Int)):=by
 have e:=of_decide_eq_true (rng 0 192 (λi=>decide ((tbl.getD i Z0).nm.data.toList≠[]->0<=Qd (tbl.getD i Z0))) (by decide +kernel) (j:Int) (by omega) (by omega));have er:Qb (j:Int)=tbl.getD j Z0:=by simp only [Qb,show (0:Int)<=j/\(j:Int)<192 by omega,and_self,if_true,Int.toNat_natCast]
 rw [nm_tbl j hj] at h;rw [er];rw [Int.toNat_natCast] at e
 exact e h
theorem code_form (s:Wd)(h:0<=Qz s):0<=Qd (Qb (Qz s))/\∃ j,Qz s=(j:Nat)/\j<192/\(nm j).data.toList=s/\s≠[]:=by
 unfold Qz at h⊢
 cases hf:Xu 192 s with
 |none=>rw [hf] at h;simp at h
 |some j =>
  obtain ⟨h1,h2,h3⟩:=find_form 192 s j (by omega) hf
  exact ⟨named_form j h1 (by rw [h2];exact h3),j,rfl,h1,h2,h3⟩
theorem form_code (op:Int)(h:0<=Qd (Qb op)):0<=op:=by
 by_cases hc:0<=op/\op<192
 . exact hc.1
 . have er:Qb op=Z0:=by simp only [Qb,hc,if_false]
   rw [er] at h
   exact absurd h (by decide)
theorem sip_prs {s:Wd}{r:List Wd}{x:In}{bd:Bool}(hx:x.op=Qz s)(h1:bd=false->0<=Qd (Qb (Qz s))/\Arg (Qd (Qb (Qz s))) r x)(h2:0<=Qd (Qb (Qz s))->(∃ y,Arg (Qd (Qb (Qz s))) r y)->bd=false):(bd=false->Prs (s::r) x)/\(bd=true->¬ ∃ y,Prs (s::r) y):=by
 refine ⟨λe=>?_,λe ⟨y,s2,r2,e2,h0,hc,ha⟩=>?_⟩
 . obtain ⟨a,b⟩:=h1 e
   exact ⟨s,r,rfl,by rw [hx];exact form_code _ a,hx.symm,by rw [hx];exact b⟩
 . cases e2
   rw [<- hc] at ha h0
   have:=h2 (code_form s h0).1 ⟨y,ha⟩
   rw [e] at this;cases this
end Go.Proofs.YtipfjdogokanbaaGreatDoor.Yz
set_option linter.all false
namespace Go.Proofs.YtipfjdogokanbaaGreatDoor.Yz
open Go.RowKit Go.Sort
def Cln (s:Wd):Prop:=s≠[]/\(34:UInt8) ∉ s
theorem decD_cln (u:Nat):Cln (Lib.decDigits u):=by
 refine ⟨XY u,?_⟩
 induction u using Nat.strongRecOn with
 |_ u ih =>
  have hd:∀ i,i<10->(34:UInt8)≠UInt8.ofNat (48+i):=by
   have:∀ i:Fin 10,(34:UInt8)≠UInt8.ofNat (48+i.val):=by decide
   exact λi hi=>this ⟨i,hi⟩
  rw [Lib.decDigits]
  split
  . rename_i h;simp only [List.mem_singleton];exact hd u h
  . rename_i h
    simp only [List.mem_append,List.mem_singleton,not_or]
    exact ⟨ih (u / 10) (by omega),hd _ (by omega)⟩
theorem itoa_cln (v:Int):Cln (Lib.itoa v):=by
 unfold Lib.itoa
 split
 . have:=decD_cln v.natAbs
   exact ⟨by simp,by simp;exact this.2⟩
 . exact decD_cln _
theorem nm_cln {lo hi:Int}{s:Wd}{v:Int}(h:Nm lo hi s v):Cln s:=by
 obtain ⟨h1,h2⟩:=h;unfold okN at h1;rw [h2] at h1
 simp at h1
 rw [<- h1.2.2]
 exact itoa_cln v
theorem nms_cln:∀ (ss:List Wd) (vs:List Int),Nms ss vs->∀ s ∈ ss,Cln s
 |[],_,_,s,hs=>by cases hs
 |_::_,[],g,_,_=>g.elim
 |a::ss,v::vs,g,s,hs=>by
  rcases List.mem_cons.1 hs with rfl|hs
  . exact nm_cln g.1
  . exact nms_cln ss vs g.2 s hs
theorem hexN_cln:∀ (n u:Nat),(34:UInt8) ∉ Jo n u
 |0,_=>by simp [Jo]
 |n+1,u=>by
  have hd:∀ i:Fin 16,(34:UInt8)≠hx i.val:=by decide
  rw [Jo]
  simp only [List.mem_append,List.mem_singleton,not_or]
  exact ⟨hexN_cln n _,hd ⟨u%16,by omega⟩⟩
theorem bits_cln (n u:Nat):Cln (QF n u):=⟨by simp [QF],by
 unfold QF
 simp only [List.mem_append,not_or]
 exact ⟨by decide,hexN_cln n u⟩⟩
theorem ty_cln {t:Wd}(h:tyN t≠0):Cln t:=by
 have:t=tyW 0\/t=tyW 1\/t=tyW 2\/t=tyW 3:=by
  unfold tyN at h
  by_cases h0:t=tyW 0
  . exact .inl h0
  . by_cases h1:t=tyW 1
    . exact .inr (.inl h1)
    . by_cases h2:t=tyW 2
      . exact .inr (.inr (.inl h2))
      . by_cases h3:t=tyW 3
        . exact .inr (.inr (.inr h3))
        . rw [if_neg h0,if_neg h1,if_neg h2,if_neg h3] at h;exact absurd rfl h
 rcases this with rfl|rfl|rfl|rfl<;>exact ⟨by decide,by decide⟩
theorem name_cln (j:Nat)(hj:j<192)(h:(nm j).data.toList≠[]):Cln (nm j).data.toList:=by
 refine ⟨h,?_⟩
 have e:=of_decide_eq_true (rng 0 192 (λi=>decide ((34:UInt8) ∉ (tbl.getD i Z0).nm.data.toList)) (by decide +kernel) (j:Int) (by omega) (by omega));rw [Int.toNat_natCast] at e;rw [nm_tbl j hj]
 exact e
theorem arg_cln (op:Int)(r:List Wd)(x:In)(h:Arg (Qd (Qb op)) r x):∀ t ∈ r,Cln t:=by
 rcases QA op with f|f|f|f|f|f|f|f|f|f|f|f<;>rw [f] at h
 . simp [Arg] at h;rw [h.1];simp
 . simp [Arg] at h;rw [h.1];simp
 . rw [arg_1] at h
   rcases h with ⟨e,_⟩|⟨t,e,hn,_⟩
   . rw [e];simp
   . rw [e];intro u hu;simp at hu;subst hu;exact ty_cln hn
 . rw [arg_2] at h;obtain ⟨s,v,e,n,_⟩:=h;rw [e];intro u hu;simp at hu;subst hu;exact nm_cln n
 . rw [arg_3] at h;obtain ⟨ss,s,vs,v,e,n,m,_⟩:=h;rw [e]
   intro u hu
   rcases List.mem_append.1 hu with hu|hu
   . exact nms_cln ss vs n u hu
   . simp at hu;subst hu;exact nm_cln m
 . rw [arg_4] at h;obtain ⟨s,v,e,n,_⟩:=h;rw [e];intro u hu;simp at hu;subst hu;exact nm_cln n
 . rw [arg_5] at h;obtain ⟨s,t,v,u,e,n,m,_⟩:=h;rw [e]
   intro y hy
   simp at hy
   rcases hy with rfl|rfl
   . exact nm_cln n
   . exact nm_cln m
 . simp [Arg] at h;rw [h.1];simp
 . rw [arg_7] at h;obtain ⟨s,v,e,n,_⟩:=h;rw [e];intro u hu;simp at hu;subst hu;exact nm_cln n
 . rw [arg_8] at h;obtain ⟨s,v,e,n,_⟩:=h;rw [e];intro u hu;simp at hu;subst hu;exact nm_cln n
 . rw [arg_9] at h;obtain ⟨s,u,e,_,_,n,_⟩:=h;rw [e];intro y hy;simp at hy;subst hy;rw [<- n];exact bits_cln 8 u
 . rw [arg_10] at h;obtain ⟨s,u,e,_,_,n,_⟩:=h;rw [e];intro y hy;simp at hy;subst hy;rw [<- n];exact bits_cln 16 u
theorem prs_cln {ws:List Wd}{x:In}(h:Prs ws x):∀ t ∈ ws,Cln t:=by
 obtain ⟨s,r,rfl,h0,hc,ha⟩:=h
 intro t ht
 rcases List.mem_cons.1 ht with rfl|ht
 . obtain ⟨_,j,_,hj,hn,hne⟩:=code_form t (by rw [hc];exact h0);rw [<- hn]
   exact name_cln j hj (by rw [hn];exact hne)
 . exact arg_cln x.op r x ha t ht
end Go.Proofs.YtipfjdogokanbaaGreatDoor.Yz
set_option linter.all false
namespace Go.Proofs.YtipfjdogokanbaaGreatDoor.Yz
open Go.RowKit Go.Sort
def run (f:UInt8->Bool)(l:Wd):Nat:=(l.takeWhile f).length
theorem run_le (f:UInt8->Bool)(l:Wd):run f l<=l.length:=(List.takeWhile_sublist f).length_le
theorem run_nil (f:UInt8->Bool):run f []=0:=rfl
theorem run_cons (f:UInt8->Bool)(c:UInt8)(l:Wd):run f (c::l)=if f c then run f l+1 else 0:=by
 unfold run;rw [List.takeWhile_cons];split<;>simp
theorem run_in:∀ (f:UInt8->Bool) (l:Wd) (i:Nat) (c:UInt8),i<run f l->l[i]?=some c->f c=true
 |f,[],i,c,h,e=>by simp [run_nil] at h
 |f,a::l,i,c,h,e=>by
  rw [run_cons] at h
  split at h
  . rename_i ha
    cases i with
    |zero=>simp at e;subst e;exact ha
    |succ i=>exact run_in f l i c (by omega) (by simpa using e)
  . omega
theorem run_at:∀ (f:UInt8->Bool) (l:Wd) (c:UInt8),l[run f l]?=some c->f c=false
 |f,[],c,e=>by simp at e
 |f,a::l,c,e=>by
  rw [run_cons] at e
  split at e
  . exact run_at f l c (by simpa using e)
  . rename_i ha;simp at e;subst e;simpa using ha
theorem run_eq {f:UInt8->Bool}{l:Wd}{k:Nat}(h:∀ i c,i<k->l[i]?=some c->f c=true)(hk:k=l.length\/∃ c,l[k]?=some c/\f c=false)(hl:k<=l.length):run f l=k:=by
 rcases Nat.lt_trichotomy (run f l) k with h1|h1|h1
 . have hlt:run f l<l.length:=by omega
   have e:=List.getElem?_eq_getElem hlt
   have:=run_at f l _ e
   rw [h _ _ h1 e] at this;cases this
 . exact h1
 . rcases hk with rfl|⟨c,e,hc⟩
   . have:=run_le f l;omega
   . have:=run_in f l k c h1 e
     rw [hc] at this;cases this
def nq (c:UInt8):Bool:=!(c==34)
def nw (c:UInt8):Bool:=!(c==32)&&!(c==34)
def wlen (l:Wd):Option Nat :=
 if l.head?=some 34 then (if run nq l.tail<l.tail.length then some (run nq l.tail+2) else none)
 else (if run nw l=0 then none else some (run nw l))
def Q5 (l:Wd):Option (List Wd) :=
 match wlen l with
 |none=>none
 |some j=>if h:j<l.length then (if l[j]?=some 32 then (Q5 (l.drop (j+1))).map (λr=>l.take j::r) else none) else some [l]
termination_by l.length
decreasing_by simp;omega
theorem from_plain {l:Wd}(h:l.head?≠some 34):Xk l=0:=by
 unfold Xk
 have:Lib.hasPrefix l [34]=false:=by
  cases l with
  |nil=>rfl
  |cons a l=>simp at h;simp [Lib.hasPrefix,List.isPrefixOf];first|exact h|exact (λe=>h (Eq.symm e))|(intro e;trace_state;exact absurd e h)
 rw [this];rfl
theorem end_plain {l:Wd}(h:l.head?≠some 34):(Jd l=l.length/\∀ k:Nat,l[k]?≠some 32)\/(l[Jd l]?=some 32/\∀ k:Nat,k<Jd l->l[k]?≠some 32):=by
 unfold Jd;rw [from_plain h]
 simp only [List.drop_zero,Nat.zero_add]
 rcases Gc l 32 with e|⟨o,e,ho,_⟩
 . left;rw [e];exact ⟨by simp,Lib.indexByte_none e⟩
 . right
   rw [e,if_pos (by omega),Int.toNat_natCast]
   exact Lib.indexByte_some e
theorem words_cln:∀ (n:Nat) (l:Wd),l.length<=n->(∀ t ∈ Q3 l,Cln t)->Q5 l=some (Q3 l)
 |n,l,hn,hc=>by
  have hfirst:∃ t,t ∈ Q3 l/\t=l.take (Jd l):=by
   by_cases h:Jd l<l.length
   . rw [Ju h];exact ⟨_,by simp,rfl⟩
   . rw [Jv h];exact ⟨l,by simp,(List.take_of_length_le (by omega)).symm⟩
  obtain ⟨t,ht,et⟩:=hfirst;have hct:=hc t ht;rw [et] at hct
  have hpos:0<Jd l:=by
   rcases Nat.eq_zero_or_pos (Jd l) with h|h
   . rw [h] at hct;exact absurd rfl hct.1
   . exact h
  have hin:∀ i c,i<Jd l->l[i]?=some c->c≠34:=by
   intro i c hi e e34
   subst e34
   apply hct.2
   have:(l.take (Jd l))[i]?=some 34:=by rw [List.getElem?_take,if_pos hi];exact e
   exact List.mem_of_getElem? this
  have hh:l.head?≠some 34:=by
   intro e
   have:l[0]?=some 34:=by rw [<- List.head?_eq_getElem?];exact e
   exact hin 0 34 hpos this rfl
  have hrun:run nw l=Jd l:=by
   refine run_eq (λi c hi e=>?_) ?_ (end_le l)
   . have h1:=hin i c hi e
     have h2:c≠32:=by
      rcases end_plain hh with ⟨_,k2⟩|⟨_,k2⟩
      . exact λec=>k2 i (by rw [<- ec];exact e)
      . exact λec=>k2 i hi (by rw [<- ec];exact e)
     simp [nw,h1,h2]
   . rcases end_plain hh with ⟨k1,_⟩|⟨k1,_⟩
     . exact .inl k1
     . exact .inr ⟨32,k1,by decide⟩
  have hw:wlen l=some (Jd l):=by
   unfold wlen;rw [if_neg hh,hrun,if_neg (by omega)]
  rw [Q5,hw]
  simp only
  by_cases h:Jd l<l.length
  . rw [dif_pos h,if_pos (end_at l h)];rw [Ju h] at hc⊢;rw [words_cln (n-1) (l.drop (Jd l+1)) (by simp;omega) (λt ht=>hc t (by simp [ht]))]
    rfl
  . rw [dif_neg h,Jv h]
termination_by n l=>l.length
decreasing_by simp;omega
theorem words_back:∀ (n:Nat) (l:Wd) (ws:List Wd),l.length<=n->Q5 l=some ws->(∀ t ∈ ws,Cln t)->Q3 l=ws
 |n,l,ws,hn,hw,hc=>by
  rw [Q5] at hw
  cases hj:wlen l with
  |none=>rw [hj] at hw;cases hw
  |some j =>
   rw [hj] at hw
   simp only at hw
   have hplain:Cln (l.take j)->l.head?≠some 34:=λhct e=>by
    have hp:0<j:=by
     rcases Nat.eq_zero_or_pos j with h|h
     . rw [h] at hct;exact absurd rfl hct.1
     . exact h
    cases l with
    |nil=>cases e
    |cons a l =>
     simp at e;subst e
     apply hct.2
     obtain ⟨k,rfl⟩:∃ k,j=k+1:=⟨j-1,by omega⟩
     simp
   have hend:l.head?≠some 34->(j=l.length\/l[j]?=some 32)->Jd l=j:=λhh hje=>by
    unfold wlen at hj;rw [if_neg hh] at hj
    split at hj
    . cases hj
    . simp at hj
      have hno:∀ i c,i<j->l[i]?=some c->c≠32:=λi c hi e ec=>by
       rw [<- hj] at hi
       have:=run_in nw l i c hi e
       rw [ec] at this;exact absurd this (by decide)
      have hjl:j<=l.length:=by rw [<- hj];exact run_le _ _
      rcases end_plain hh with ⟨k1,k2⟩|⟨k1,k2⟩
      . rcases hje with h|h
        . omega
        . exact absurd h (k2 j)
      . rcases Nat.lt_trichotomy (Jd l) j with h|h|h
        . exact absurd rfl (hno _ _ h k1)
        . exact h
        . rcases hje with h1|h1
          . have:=end_le l;omega
          . exact absurd h1 (k2 j h)
   by_cases h:j<l.length
   . rw [dif_pos h] at hw
     split at hw
     . rename_i h32
       cases hr:Q5 (l.drop (j+1)) with
       |none=>rw [hr] at hw;cases hw
       |some r =>
        rw [hr] at hw
        simp at hw
        subst hw;have e:=hend (hplain (hc _ (by simp))) (.inr h32);rw [Ju (by omega),e,words_back (n-1) (l.drop (j+1)) r (by simp;omega) hr (λt ht=>hc t (by simp [ht]))]
     . cases hw
   . rw [dif_neg h] at hw
     simp at hw
     subst hw;have hcl:=hc l (by simp);have ht:l.take j=l:=List.take_of_length_le (by omega)
     have hjl:j=l.length:=by
      have hh:=hplain (by rw [ht];exact hcl);unfold wlen at hj;rw [if_neg hh] at hj
      split at hj
      . cases hj
      . simp at hj;have:=run_le nw l;omega
     have e:=hend (hplain (by rw [ht];exact hcl)) (.inl hjl);rw [Jv (by omega)]
termination_by n l=>l.length
decreasing_by simp;omega
end Go.Proofs.YtipfjdogokanbaaGreatDoor.Yz
