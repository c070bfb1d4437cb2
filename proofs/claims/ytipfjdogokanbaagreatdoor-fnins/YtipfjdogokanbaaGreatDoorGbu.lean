import Derived.Test.YtipfjdogokanbaaGreatDoorGaa
import Derived.Test.YtipfjdogokanbaaGreatDoorGbt
set_option linter.all false
set_option maxHeartbeats 400000000
set_option maxRecDepth 100000
set_option linter.all false
namespace Go.Proofs.YtipfjdogokanbaaGreatDoor.Yz
open Go.RowKit Go.Sort
structure Sx (w:World)(p X:Nat)(ra:Option Addr)(r:List Wd)(bd:Bool)(a b c d e:Value)(V:World):Prop where
 x:C5 V X 0 a b c d e
 z:C5 V w.heap.size 0 (.int .i64 0) (.int .i64 0) (.int .i64 0) (.int .u64 0) (.slice none 0 0)
 pb:Pb V p bd
 g:w.grownBy V (some p)
 wv:Wv V ra p r
 lt:p<w.heap.size
 hX:w.heap.size<X
theorem Sx.call {w:World}{p X:Nat}{ra:Option Addr}{r:List Wd}{bd bd':Bool}{a b c d e:Value}{V V':World}(h:Sx w p X ra r bd a b c d e V)(hg:V.grownBy V' (some p))(hp:Pb V' p bd'):Sx w p X ra r bd' a b c d e V' :=
 have:=h.lt
 have:=h.hX
 ⟨Qe h.x hg (by omega),Qe h.z hg (by omega),hp,Qa h.g hg,h.wv.grown hg h.pb.lt,h.lt,h.hX⟩
theorem Wv.far {w:World}{a:Option Addr}{p X o:Nat}{v:Value}{ws:List Wd}(h:Wv w a p ws)(hX:p<X):Wv (w.setCell ⟨X,o,none⟩ v) a p ws:=by
 rcases h with h|⟨b,q,e,hlt,hc⟩
 . exact .inl h
 . exact .inr ⟨b,q,e,hlt,λi hi=>by rw [World.cell?_setCell_other _ _ _ _ (λe=>by have e2:X=b:=congrArg Addr.block e;omega)];exact hc i hi⟩
theorem Pb.far {w:World}{p X o:Nat}{v:Value}{bd:Bool}(h:Pb w p bd)(hX:p<X):Pb (w.setCell ⟨X,o,none⟩ v) p bd :=
 ⟨by rw [World.cell?_setCell_other _ _ _ _ (λe=>by have e2:X=p:=congrArg Addr.block e;omega)];exact h.c,by rw [World.frozen?_setCell];exact h.f⟩
theorem Sx.set1 {w:World}{p X:Nat}{ra:Option Addr}{r:List Wd}{bd:Bool}{a b c d e u:Value}{V:World}(h:Sx w p X ra r bd a b c d e V):Sx w p X ra r bd a u c d e (V.setCell ⟨X,1,none⟩ u) :=
 have h1:=h.lt;have h2:=h.hX
 ⟨Jp h.x,Ja h.z (by omega),h.pb.far (by omega),Q6 h.g (by omega) _ _,h.wv.far (by omega),h.lt,h.hX⟩
theorem Sx.set2 {w:World}{p X:Nat}{ra:Option Addr}{r:List Wd}{bd:Bool}{a b c d e u:Value}{V:World}(h:Sx w p X ra r bd a b c d e V):Sx w p X ra r bd a b u d e (V.setCell ⟨X,2,none⟩ u) :=
 have h1:=h.lt;have h2:=h.hX
 ⟨c5_set2 h.x,Ja h.z (by omega),h.pb.far (by omega),Q6 h.g (by omega) _ _,h.wv.far (by omega),h.lt,h.hX⟩
theorem Sx.set3 {w:World}{p X:Nat}{ra:Option Addr}{r:List Wd}{bd:Bool}{a b c d e u:Value}{V:World}(h:Sx w p X ra r bd a b c d e V):Sx w p X ra r bd a b c u e (V.setCell ⟨X,3,none⟩ u) :=
 have h1:=h.lt;have h2:=h.hX
 ⟨c5_set3 h.x,Ja h.z (by omega),h.pb.far (by omega),Q6 h.g (by omega) _ _,h.wv.far (by omega),h.lt,h.hX⟩
theorem Sx.set4 {w:World}{p X:Nat}{ra:Option Addr}{r:List Wd}{bd:Bool}{a b c d e u:Value}{V:World}(h:Sx w p X ra r bd a b c d e V):Sx w p X ra r bd a b c d u (V.setCell ⟨X,4,none⟩ u) :=
 have h1:=h.lt;have h2:=h.hX
 ⟨c5_set4 h.x,Ja h.z (by omega),h.pb.far (by omega),Q6 h.g (by omega) _ _,h.wv.far (by omega),h.lt,h.hX⟩
theorem Sx.fin {w:World}{p X:Nat}{ra:Option Addr}{r:List Wd}{bd:Bool}{a b c d e:Value}{V:World}(h:Sx w p X ra r bd a b c d e V)(u0 u1 u2 u3 u4:Value):C5 (((((V.setCell ⟨w.heap.size,0,none⟩ u0).setCell ⟨w.heap.size,1,none⟩ u1).setCell ⟨w.heap.size,2,none⟩ u2).setCell ⟨w.heap.size,3,none⟩ u3).setCell ⟨w.heap.size,4,none⟩ u4) w.heap.size 0 u0 u1 u2 u3 u4/\Pb (((((V.setCell ⟨w.heap.size,0,none⟩ u0).setCell ⟨w.heap.size,1,none⟩ u1).setCell ⟨w.heap.size,2,none⟩ u2).setCell ⟨w.heap.size,3,none⟩ u3).setCell ⟨w.heap.size,4,none⟩ u4) p bd/\w.grownBy (((((V.setCell ⟨w.heap.size,0,none⟩ u0).setCell ⟨w.heap.size,1,none⟩ u1).setCell ⟨w.heap.size,2,none⟩ u2).setCell ⟨w.heap.size,3,none⟩ u3).setCell ⟨w.heap.size,4,none⟩ u4) (some p):=by
 have hq:=h.lt;obtain ⟨⟨z0,z1,z2,z3,z4⟩,zf⟩:=h.z
 simp only [Nat.zero_add] at z0 z1 z2 z3 z4
 have T0:=h.pb.far (o:=0) (v:=u0) hq;have T1:=T0.far (o:=1) (v:=u1) hq;have T2:=T1.far (o:=2) (v:=u2) hq;have T3:=T2.far (o:=3) (v:=u3) hq;have T4:=T3.far (o:=4) (v:=u4) hq;have g0:=Q6 h.g (Nat.le_refl _) 0 u0;have g1:=Q6 g0 (Nat.le_refl _) 1 u1;have g2:=Q6 g1 (Nat.le_refl _) 2 u2;have g3:=Q6 g2 (Nat.le_refl _) 3 u3;have g4:=Q6 g3 (Nat.le_refl _) 4 u4
 refine ⟨⟨⟨?_,?_,?_,?_,?_⟩,λi=>by simp only [World.frozen?_setCell];exact zf i⟩,T4,g4⟩
 . exact Qc (Qc (Qc (Qc (Qh z0) (by decide)) (by decide)) (by decide)) (by decide)
 . exact Qc (Qc (Qc (Qh (Qc z1 (by decide))) (by decide)) (by decide)) (by decide)
 . exact Qc (Qc (Qh (Qc (Qc z2 (by decide)) (by decide))) (by decide)) (by decide)
 . exact Qc (Qh (Qc (Qc (Qc z3 (by decide)) (by decide)) (by decide))) (by decide)
 . exact Qh (Qc (Qc (Qc (Qc z4 (by decide)) (by decide)) (by decide)) (by decide))
def Hz (n:Nat)(w:World)(a:Option Addr)(xs:List Int):Prop:=Has w a xs/\∀ p,a=some p->n<=p.block
def SiP (f op:Int)(r:List Wd)(w:World)(p:Nat)(e:Ending)(w':World):Prop:=∃ (x:In) (la:Option Addr) (lc:Nat) (bd:Bool),e=.returned (inV x la lc)/\x.op=op/\Hz w.heap.size w' la x.l/\Pb w' p bd/\w.grownBy w' (some p)/\(bd=false->0<=f/\Arg f r x)/\(0<=f->(∃ y,Arg f r y)->bd=false)
theorem wv_rest {w:World}{p b o c:Nat}{s:Wd}{r:List Wd}(hb:b<p)(hc:∀ i,i<(s::r).length->w.cell? ⟨b,o+i,none⟩=some (.string (S ((s::r).getD i []))))(hcap:r.length+1<=c):Wv w (if c=1 then some ⟨b,o,none⟩ else some ⟨b,o+1,none⟩) p r:=by
 by_cases hr:r=[]
 . exact .inl hr
 . have:0<r.length:=List.length_pos_iff.2 hr
   rw [if_neg (by omega)]
   refine .inr ⟨b,o+1,rfl,hb,λi hi=>?_⟩
   have:=hc (i+1) (by simp;omega)
   rw [show o+1+i=o+(i+1) by omega,this]
   simp
theorem QI {n:Nat}(w:World):Hz n w none []:=⟨.inl rfl,λp h=>by cases h⟩
theorem sri_m1 (p b o c:Nat)(s:Wd)(r:List Wd)(w:World)(h:Pb w p false)(hb:b<p)(hc:∀ i,i<(s::r).length->w.cell? ⟨b,o+i,none⟩=some (.string (S ((s::r).getD i []))))(hcap:(s::r).length<=c)(hl:∀ x ∈ s::r,x.length<=1099511627776)(hrl:r.length<=1099511627776)(hf:Qd (Qb (Qz s))=(-1)) :
    Calls Tryz.prog 42 #[.pointer (some ⟨p,0,none⟩),.slice (some ⟨b,o,none⟩) (s::r).length c] w (SiP (-1) (Qz s) r w p):=by
 have cx:=hc 0 (by simp)
 simp only [Nat.add_zero,List.getD_cons_zero] at cx
 obtain ⟨W,hW⟩:∃ W,W=w.alloc (.cells #[.int .i64 0,.int .i64 0,.int .i64 0,.int .u64 0,.slice none 0 0] 26):=⟨_,rfl⟩;have hbW:Below w.heap.size w W:=by rw [hW];exact (Below.refl _ _).alloc (Nat.le_refl _) _
 have hsW:Hid (W.heap.size=w.heap.size+1):=by show _=_;rw [hW];simp
 have hzW:C5 W w.heap.size 0 (.int .i64 0) (.int .i64 0) (.int .i64 0) (.int .u64 0) (.slice none 0 0):=by rw [hW];exact C5.new
 have cxW:W.cell? ⟨b,o,none⟩=some (.string (S s)):=(hbW.cell (p:=⟨b,o,none⟩) (World.block_lt_of_cell? w _ cx)).trans cx;have KC:=Hm (scode_c (S s) W);rw [QO] at KC;have HW:=Hm hW
 simp only [List.length_cons] at hcap⊢
 have HWV:=Hm (wv_rest hb hc hcap);have hlr:∀ x ∈ r,x.length<=1099511627776:=λx hx=>hl x (by simp [hx]);have HPB:=Hm h;have hplt:=h.lt;have KF:=Hm (λU=>Qr (Qz s) U);rw [hf] at KF;clear cx hW hc hl hlr h hf;generalize Qz s=op at *
 go_enter Tryz.func42,Tryz.ntmps42
 go_upto_region 1 with fail
 rw [<- HW.o]
 go_wp2_with fail
 refine KC.o.mono ?_
 rintro e w1 ⟨rfl,hb1⟩
 go_upto_region 3 with fail
 generalize (if c=1 then (some ⟨b,o,none⟩:Option Addr) else some ⟨b,o+1,none⟩)=ra at *;generalize c-1=rc at *;have hx1:w.heap.size<w1.heap.size:=by have:=hb1.size;have:=hsW.o;omega
 have hbU:Below w.heap.size w w1:=hbW.trans (hb1.mono (by have:=hsW.o;omega));have hz1:C5 w1 w.heap.size 0 (.int .i64 0) (.int .i64 0) (.int .i64 0) (.int .u64 0) (.slice none 0 0):=hzW.keep hb1
 refine Qj (λU=>Sx w p w1.heap.size ra r false (.int .i64 op) (.int .i64 0) (.int .i64 0) (.int .u64 0) (.slice none 0 0) U) ⟨C5.new,hz1.past,HPB.o.keep (hbU.alloc hbU.size _),QD (hbU.alloc hbU.size _),HWV.o.keep (hbU.alloc hbU.size _) hplt,hplt,hx1⟩ ?_
 rintro U SU0;have SU:=Hm SU0;have x0:=SU0.x.1.1;clear SU0 HWV HPB hbW hsW hzW cxW KC HW hcap hb1 hbU hz1 hx1
 go_wp2_with fail
 refine (KF.o _).mono ?_
 rintro e w2 ⟨rfl,rfl⟩;clear KF x0;have KB:=Hm (JP p _ _ SU.o.pb)
 go_wp2_with fail
 refine KB.o.mono ?_
 rintro e w5 ⟨rfl,hpb,hgb⟩;have S5:=Hm (SU.o.call hgb hpb);clear hpb hgb KB SU;obtain ⟨⟨x0,x1,x2,x3,x4⟩,-⟩:=S5.o.x;obtain ⟨⟨z0,z1,z2,z3,z4⟩,zf⟩:=S5.o.z
 simp only [Nat.zero_add] at x0 x1 x2 x3 x4 z0 z1 z2 z3 z4
 have zf0:=zf 0;have zf1:=zf 1;have zf2:=zf 2;have zf3:=zf 3;have zf4:=zf 4;clear zf
 go_wp2
 refine Qf (λV=>C5 V w.heap.size 0 (.int .i64 op) (.int .i64 0) (.int .i64 0) (.int .u64 0) (.slice none 0 0)/\Pb V p true/\w.grownBy V (some p)) (S5.o.fin _ _ _ _ _) ?_
 rintro V ⟨⟨⟨t0,t1,t2,t3,t4⟩,-⟩,tU,gU⟩
 simp only [Nat.zero_add] at t0 t1 t2 t3 t4
 have HU:=Hm (And.intro tU gU);clear tU gU x0 x1 x2 x3 x4 z0 z1 z2 z3 z4 zf0 zf1 zf2 zf3 zf4
 exact bodyPost_ret (v:=inV ⟨op,0,0,0,[]⟩ none 0) (by simp [results,Tryz.results42,go_sem,t0,t1,t2,t3,t4]) rfl ⟨⟨op,0,0,0,[]⟩,none,0,true,rfl,rfl,QI _,HU.o.1,HU.o.2,λh=>absurd h (by decide),λh=>absurd h (by decide)⟩
theorem sri_x (p b o c:Nat)(s:Wd)(r:List Wd)(w:World)(h:Pb w p false)(hb:b<p)(hc:∀ i,i<(s::r).length->w.cell? ⟨b,o+i,none⟩=some (.string (S ((s::r).getD i []))))(hcap:(s::r).length<=c)(hl:∀ x ∈ s::r,x.length<=1099511627776)(hrl:r.length<=1099511627776)(kk_:Int)(hk_:kk_=0\/kk_=6\/kk_=2\/kk_=4)(hf:Qd (Qb (Qz s))=kk_) :
    Calls Tryz.prog 42 #[.pointer (some ⟨p,0,none⟩),.slice (some ⟨b,o,none⟩) (s::r).length c] w (SiP kk_ (Qz s) r w p):=by
 have cx:=hc 0 (by simp)
 simp only [Nat.add_zero,List.getD_cons_zero] at cx
 obtain ⟨W,hW⟩:∃ W,W=w.alloc (.cells #[.int .i64 0,.int .i64 0,.int .i64 0,.int .u64 0,.slice none 0 0] 26):=⟨_,rfl⟩;have hbW:Below w.heap.size w W:=by rw [hW];exact (Below.refl _ _).alloc (Nat.le_refl _) _
 have hsW:Hid (W.heap.size=w.heap.size+1):=by show _=_;rw [hW];simp
 have hzW:C5 W w.heap.size 0 (.int .i64 0) (.int .i64 0) (.int .i64 0) (.int .u64 0) (.slice none 0 0):=by rw [hW];exact C5.new
 have cxW:W.cell? ⟨b,o,none⟩=some (.string (S s)):=(hbW.cell (p:=⟨b,o,none⟩) (World.block_lt_of_cell? w _ cx)).trans cx;have KC:=Hm (scode_c (S s) W);rw [QO] at KC;have HW:=Hm hW
 simp only [List.length_cons] at hcap⊢
 have HWV:=Hm (wv_rest hb hc hcap);have hlr:∀ x ∈ r,x.length<=1099511627776:=λx hx=>hl x (by simp [hx]);have HL:=Hm hlr;have HPB:=Hm h;have hplt:=h.lt;have KF:=Hm (λU=>Qr (Qz s) U);rw [hf] at KF;clear cx hW hc hl hlr h hf;generalize Qz s=op at *
 go_enter Tryz.func42,Tryz.ntmps42
 go_upto_region 1 with fail
 rw [<- HW.o]
 go_wp2_with fail
 refine KC.o.mono ?_
 rintro e w1 ⟨rfl,hb1⟩
 go_upto_region 3 with fail
 generalize (if c=1 then (some ⟨b,o,none⟩:Option Addr) else some ⟨b,o+1,none⟩)=ra at *;generalize c-1=rc at *;have hx1:w.heap.size<w1.heap.size:=by have:=hb1.size;have:=hsW.o;omega
 have hbU:Below w.heap.size w w1:=hbW.trans (hb1.mono (by have:=hsW.o;omega));have hz1:C5 w1 w.heap.size 0 (.int .i64 0) (.int .i64 0) (.int .i64 0) (.int .u64 0) (.slice none 0 0):=hzW.keep hb1
 refine Qj (λU=>Sx w p w1.heap.size ra r false (.int .i64 op) (.int .i64 0) (.int .i64 0) (.int .u64 0) (.slice none 0 0) U) ⟨C5.new,hz1.past,HPB.o.keep (hbU.alloc hbU.size _),QD (hbU.alloc hbU.size _),HWV.o.keep (hbU.alloc hbU.size _) hplt,hplt,hx1⟩ ?_
 rintro U SU0;have SU:=Hm SU0;have x0:=SU0.x.1.1;clear SU0 HWV HPB hbW hsW hzW cxW KC HW hcap hb1 hbU hz1 hx1
 go_wp2_with fail
 refine (KF.o _).mono ?_
 rintro e w2 ⟨rfl,rfl⟩;clear KF x0
 rcases hk_ with rfl|rfl|rfl|rfl
 . cases r with
   |nil =>
    obtain ⟨⟨x0,x1,x2,x3,x4⟩,-⟩:=SU.o.x;obtain ⟨⟨z0,z1,z2,z3,z4⟩,zf⟩:=SU.o.z
    simp only [Nat.zero_add] at x0 x1 x2 x3 x4 z0 z1 z2 z3 z4
    have zf0:=zf 0;have zf1:=zf 1;have zf2:=zf 2;have zf3:=zf 3;have zf4:=zf 4;clear zf
    go_wp2
    refine Qf (λV=>C5 V w.heap.size 0 (.int .i64 op) (.int .i64 0) (.int .i64 0) (.int .u64 0) (.slice none 0 0)/\Pb V p false/\w.grownBy V (some p)) (SU.o.fin _ _ _ _ _) ?_
    rintro V ⟨⟨⟨t0,t1,t2,t3,t4⟩,-⟩,tU,gU⟩
    simp only [Nat.zero_add] at t0 t1 t2 t3 t4
    have HU:=Hm (And.intro tU gU);clear tU gU x0 x1 x2 x3 x4 z0 z1 z2 z3 z4 zf0 zf1 zf2 zf3 zf4
    exact bodyPost_ret (v:=inV ⟨op,0,0,0,[]⟩ none 0) (by simp [results,Tryz.results42,go_sem,t0,t1,t2,t3,t4]) rfl ⟨⟨op,0,0,0,[]⟩,none,0,false,rfl,rfl,QI _,HU.o.1,HU.o.2,λ_=>⟨by decide,by simp [Arg]⟩,λ_ _=>rfl⟩
   |cons t r =>
    have hpp:(0:Int)<(r.length:Int)+1:=by omega
    simp only [List.length_cons]
    have KB:=Hm (JP p _ _ SU.o.pb)
    go_wp2_with fail
    refine KB.o.mono ?_
    rintro e w5 ⟨rfl,hpb,hgb⟩;have S5:=Hm (SU.o.call hgb hpb);clear hpb hgb KB SU;obtain ⟨⟨x0,x1,x2,x3,x4⟩,-⟩:=S5.o.x;obtain ⟨⟨z0,z1,z2,z3,z4⟩,zf⟩:=S5.o.z
    simp only [Nat.zero_add] at x0 x1 x2 x3 x4 z0 z1 z2 z3 z4
    have zf0:=zf 0;have zf1:=zf 1;have zf2:=zf 2;have zf3:=zf 3;have zf4:=zf 4;clear zf
    go_wp2
    refine Qf (λV=>C5 V w.heap.size 0 (.int .i64 op) (.int .i64 0) (.int .i64 0) (.int .u64 0) (.slice none 0 0)/\Pb V p true/\w.grownBy V (some p)) (S5.o.fin _ _ _ _ _) ?_
    rintro V ⟨⟨⟨t0,t1,t2,t3,t4⟩,-⟩,tU,gU⟩
    simp only [Nat.zero_add] at t0 t1 t2 t3 t4
    have HU:=Hm (And.intro tU gU);clear tU gU x0 x1 x2 x3 x4 z0 z1 z2 z3 z4 zf0 zf1 zf2 zf3 zf4
    exact bodyPost_ret (v:=inV ⟨op,0,0,0,[]⟩ none 0) (by simp [results,Tryz.results42,go_sem,t0,t1,t2,t3,t4]) rfl ⟨⟨op,0,0,0,[]⟩,none,0,true,rfl,rfl,QI _,HU.o.1,HU.o.2,λh=>absurd h (by decide),λ_ ⟨y,hy⟩=>by simp [Arg] at hy⟩
 . cases r with
   |nil =>
    obtain ⟨⟨x0,x1,x2,x3,x4⟩,-⟩:=SU.o.x;obtain ⟨⟨z0,z1,z2,z3,z4⟩,zf⟩:=SU.o.z
    simp only [Nat.zero_add] at x0 x1 x2 x3 x4 z0 z1 z2 z3 z4
    have zf0:=zf 0;have zf1:=zf 1;have zf2:=zf 2;have zf3:=zf 3;have zf4:=zf 4;clear zf
    go_wp2
    refine Qf (λV=>C5 V w.heap.size 0 (.int .i64 op) (.int .i64 0) (.int .i64 0) (.int .u64 0) (.slice none 0 0)/\Pb V p false/\w.grownBy V (some p)) (SU.o.fin _ _ _ _ _) ?_
    rintro V ⟨⟨⟨t0,t1,t2,t3,t4⟩,-⟩,tU,gU⟩
    simp only [Nat.zero_add] at t0 t1 t2 t3 t4
    have HU:=Hm (And.intro tU gU);clear tU gU x0 x1 x2 x3 x4 z0 z1 z2 z3 z4 zf0 zf1 zf2 zf3 zf4
    exact bodyPost_ret (v:=inV ⟨op,0,0,0,[]⟩ none 0) (by simp [results,Tryz.results42,go_sem,t0,t1,t2,t3,t4]) rfl ⟨⟨op,0,0,0,[]⟩,none,0,false,rfl,rfl,QI _,HU.o.1,HU.o.2,λ_=>⟨by decide,by simp [Arg]⟩,λ_ _=>rfl⟩
   |cons t r =>
    have hpp:(0:Int)<(r.length:Int)+1:=by omega
    simp only [List.length_cons]
    have KB:=Hm (JP p _ _ SU.o.pb)
    go_wp2_with fail
    refine KB.o.mono ?_
    rintro e w5 ⟨rfl,hpb,hgb⟩;have S5:=Hm (SU.o.call hgb hpb);clear hpb hgb KB SU;obtain ⟨⟨x0,x1,x2,x3,x4⟩,-⟩:=S5.o.x;obtain ⟨⟨z0,z1,z2,z3,z4⟩,zf⟩:=S5.o.z
    simp only [Nat.zero_add] at x0 x1 x2 x3 x4 z0 z1 z2 z3 z4
    have zf0:=zf 0;have zf1:=zf 1;have zf2:=zf 2;have zf3:=zf 3;have zf4:=zf 4;clear zf
    go_wp2
    refine Qf (λV=>C5 V w.heap.size 0 (.int .i64 op) (.int .i64 0) (.int .i64 0) (.int .u64 0) (.slice none 0 0)/\Pb V p true/\w.grownBy V (some p)) (S5.o.fin _ _ _ _ _) ?_
    rintro V ⟨⟨⟨t0,t1,t2,t3,t4⟩,-⟩,tU,gU⟩
    simp only [Nat.zero_add] at t0 t1 t2 t3 t4
    have HU:=Hm (And.intro tU gU);clear tU gU x0 x1 x2 x3 x4 z0 z1 z2 z3 z4 zf0 zf1 zf2 zf3 zf4
    exact bodyPost_ret (v:=inV ⟨op,0,0,0,[]⟩ none 0) (by simp [results,Tryz.results42,go_sem,t0,t1,t2,t3,t4]) rfl ⟨⟨op,0,0,0,[]⟩,none,0,true,rfl,rfl,QI _,HU.o.1,HU.o.2,λh=>absurd h (by decide),λ_ ⟨y,hy⟩=>by simp [Arg] at hy⟩
 . have KR:=Hm (sru_c p ra rc r false _ SU.o.pb SU.o.wv HL.o)
   go_wp2_with fail
   refine KR.o.mono ?_
   rintro e w3 ⟨v,b2,rfl,hpb,hgb,A1,A2⟩;have S3:=Hm (SU.o.call hgb hpb);have HA:=Hm (And.intro A1 A2);have x1:=S3.o.x.1.2.1;have xf1:=S3.o.x.2 1
   simp only [Nat.zero_add] at x1 xf1
   clear hpb hgb A1 A2 KR SU
   go_upto_region 46 with fail
   refine Qj (λV=>Sx w p w1.heap.size ra r b2 (.int .i64 op) (.int .i64 v) (.int .i64 0) (.int .u64 0) (.slice none 0 0) V) S3.o.set1 ?_
   rintro V4 SV0;have SV:=Hm SV0;clear SV0 x1 xf1 S3;obtain ⟨⟨x0,x1,x2,x3,x4⟩,-⟩:=SV.o.x;obtain ⟨⟨z0,z1,z2,z3,z4⟩,zf⟩:=SV.o.z
   simp only [Nat.zero_add] at x0 x1 x2 x3 x4 z0 z1 z2 z3 z4
   have zf0:=zf 0;have zf1:=zf 1;have zf2:=zf 2;have zf3:=zf 3;have zf4:=zf 4;clear zf
   go_wp2
   refine Qf (λV=>C5 V w.heap.size 0 (.int .i64 op) (.int .i64 v) (.int .i64 0) (.int .u64 0) (.slice none 0 0)/\Pb V p b2/\w.grownBy V (some p)) (SV.o.fin _ _ _ _ _) ?_
   rintro V ⟨⟨⟨t0,t1,t2,t3,t4⟩,-⟩,tU,gU⟩
   simp only [Nat.zero_add] at t0 t1 t2 t3 t4
   have HU:=Hm (And.intro tU gU);clear tU gU x0 x1 x2 x3 x4 z0 z1 z2 z3 z4 zf0 zf1 zf2 zf3 zf4
   exact bodyPost_ret (v:=inV ⟨op,v,0,0,[]⟩ none 0) (by simp [results,Tryz.results42,go_sem,t0,t1,t2,t3,t4]) rfl ⟨⟨op,v,0,0,[]⟩,none,0,b2,rfl,rfl,QI _,HU.o.1,HU.o.2,λh=>⟨by decide,by rw [arg_2];obtain ⟨_,s2,e2,hn⟩:=HA.o.1 h;exact ⟨s2,v,e2,hn,rfl⟩⟩,λ_ ⟨y,hy⟩=>by rw [arg_2] at hy;obtain ⟨s2,v2,e2,hn,-⟩:=hy;exact HA.o.2 trivial ⟨s2,v2,e2,hn⟩⟩
 . have KR:=Hm (sru_c p ra rc r false _ SU.o.pb SU.o.wv HL.o)
   go_wp2_with fail
   refine KR.o.mono ?_
   rintro e w3 ⟨v,b2,rfl,hpb,hgb,A1,A2⟩;have S3:=Hm (SU.o.call hgb hpb);have HA:=Hm (And.intro A1 A2);have x1:=S3.o.x.1.2.1;have xf1:=S3.o.x.2 1
   simp only [Nat.zero_add] at x1 xf1
   clear hpb hgb A1 A2 KR SU
   go_upto_region 46 with fail
   refine Qj (λV=>Sx w p w1.heap.size ra r b2 (.int .i64 op) (.int .i64 v) (.int .i64 0) (.int .u64 0) (.slice none 0 0) V) S3.o.set1 ?_
   rintro V4 SV0;have SV:=Hm SV0;clear SV0 x1 xf1 S3;obtain ⟨⟨x0,x1,x2,x3,x4⟩,-⟩:=SV.o.x;obtain ⟨⟨z0,z1,z2,z3,z4⟩,zf⟩:=SV.o.z
   simp only [Nat.zero_add] at x0 x1 x2 x3 x4 z0 z1 z2 z3 z4
   have zf0:=zf 0;have zf1:=zf 1;have zf2:=zf 2;have zf3:=zf 3;have zf4:=zf 4;clear zf
   go_wp2
   refine Qf (λV=>C5 V w.heap.size 0 (.int .i64 op) (.int .i64 v) (.int .i64 0) (.int .u64 0) (.slice none 0 0)/\Pb V p b2/\w.grownBy V (some p)) (SV.o.fin _ _ _ _ _) ?_
   rintro V ⟨⟨⟨t0,t1,t2,t3,t4⟩,-⟩,tU,gU⟩
   simp only [Nat.zero_add] at t0 t1 t2 t3 t4
   have HU:=Hm (And.intro tU gU);clear tU gU x0 x1 x2 x3 x4 z0 z1 z2 z3 z4 zf0 zf1 zf2 zf3 zf4
   exact bodyPost_ret (v:=inV ⟨op,v,0,0,[]⟩ none 0) (by simp [results,Tryz.results42,go_sem,t0,t1,t2,t3,t4]) rfl ⟨⟨op,v,0,0,[]⟩,none,0,b2,rfl,rfl,QI _,HU.o.1,HU.o.2,λh=>⟨by decide,by rw [arg_4];obtain ⟨_,s2,e2,hn⟩:=HA.o.1 h;exact ⟨s2,v,e2,hn,rfl⟩⟩,λ_ ⟨y,hy⟩=>by rw [arg_4] at hy;obtain ⟨s2,v2,e2,hn,-⟩:=hy;exact HA.o.2 trivial ⟨s2,v2,e2,hn⟩⟩
def sri_0:=λp b o c s r w h hb hc hcap hl hrl hf=>sri_x p b o c s r w h hb hc hcap hl hrl (0) (.inl rfl) hf
def sri_6:=λp b o c s r w h hb hc hcap hl hrl hf=>sri_x p b o c s r w h hb hc hcap hl hrl (6) (.inr (.inl rfl)) hf
def sri_2:=λp b o c s r w h hb hc hcap hl hrl hf=>sri_x p b o c s r w h hb hc hcap hl hrl (2) (.inr (.inr (.inl rfl))) hf
def sri_4:=λp b o c s r w h hb hc hcap hl hrl hf=>sri_x p b o c s r w h hb hc hcap hl hrl (4) (.inr (.inr (.inr (rfl)))) hf
end Go.Proofs.YtipfjdogokanbaaGreatDoor.Yz
