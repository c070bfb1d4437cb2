import Derived.Test.YtipfjdogokanbaaGreatDoorGaa
import Derived.Test.YtipfjdogokanbaaGreatDoorGbj
set_option linter.all false
set_option maxHeartbeats 400000000
set_option maxRecDepth 100000
set_option linter.all false
namespace Go.Proofs.YtipfjdogokanbaaGreatDoor.Ed
open Go.RowKit Go.Sort
end Go.Proofs.YtipfjdogokanbaaGreatDoor.Ed
namespace Go.Proofs.YtipfjdogokanbaaGreatDoor.Ed
open Go.RowKit Go.Sort
end Go.Proofs.YtipfjdogokanbaaGreatDoor.Ed
namespace Go.Proofs.YtipfjdogokanbaaGreatDoor.Ed
open Go.RowKit Go.Sort
theorem sins_y (s:Nat)(ba:Option Addr)(bc:BC)(bs:List Int)(p:Nat)(op dep:Int)(w:World)(kk_:Int)(hk_:kk_=4\/kk_=5\/kk_=9\/kk_=10)(hf:Qd (Qb op)=kk_)(h:Sr w s ba bc bs p 0 0)(hA:Qt bs)(hl:bs.length<=1099511627776) :
    Calls Tryz.prog 39 #[.pointer (some ⟨s,0,none⟩),.int .i64 op,.int .i64 dep] w (SiP (Q4 kk_ op bs p) w s ba bc.n bs):=by
 have HF:=Hm (Qr op);rw [hf] at HF;obtain ⟨W,hW,hz,hx,hb⟩:=Gm w op;have hsl:s<w.heap.size:=h.lt;have HW:=Hm hW;have HZ:=Hm hz;have HX:=Hm hx;have HRW:=Hm (h.keep hb);have HGW:=Hm (show w.grownBy W (some s) from Qo hb);clear hf hW hz hx hb h
 rcases hk_ with rfl|rfl|rfl|rfl
 . show Calls _ _ _ _ (SiP ((Qp false 32 bs p).bind λv1 p1=>(JA bs p1).bind λv2 p2=>.ok ⟨op,v1,0,0,[]⟩ p2) _ _ _ _ _)
   have K1:=Hm (λV (hV:Sr V s ba bc bs p 0 0)=>u32_sc s ba bc bs p V hV hA hl);have hnz1:(Qp false 32 bs p).nz:=JL _ _ _ _;generalize Qp false 32 bs p=M1 at *
   cases M1 with
   |bad er a =>
    have hne:=hnz1 er a rfl;clear hnz1
    go_enter Tryz.func39,Tryz.ntmps39
    go_wp2_with fail
    rw [<- HW.o]
    refine (HF.o _).mono ?_
    rintro e w2 ⟨rfl,rfl⟩;have HR2:=HRW;have HX2:=HX;have HZ2:=HZ;have HG2:=HGW;obtain ⟨⟨y0,y1,y2,y3,y4⟩,yf⟩:=HX2.o;have yf1:=yf 1;obtain ⟨⟨z0,z1,z2,z3,z4⟩,zf⟩:=HZ2.o;have zf0:=zf 0;have zf1:=zf 1;have zf2:=zf 2;have zf3:=zf 3;have zf4:=zf 4;clear HF HW yf zf
    go_wp2_with fail
    refine (K1.o _ HR2.o).mono ?_
    rintro e w3 ⟨hg,u,q,rfl,⟨v0,rfl⟩,hr⟩;have ha2:=Hm (Qe HX2.o hg (by omega));have hb2:=Hm (Qe HZ2.o hg (by omega));have hc2:=Hm (Qa HG2.o hg);have hd2:=Hm hr;clear y0 y1 y2 y3 y4 yf1 z0 z1 z2 z3 z4 zf0 zf1 zf2 zf3 zf4;obtain ⟨⟨y0,y1,y2,y3,y4⟩,yf⟩:=ha2.o;have yf1:=yf 1;obtain ⟨⟨z0,z1,z2,z3,z4⟩,zf⟩:=hb2.o;have zf0:=zf 0;have zf1:=zf 1;have zf2:=zf 2;have zf3:=zf 3;have zf4:=zf 4;clear hg hr yf zf;have HX3:=Hm (Jp (v:=.int .i64 v0) ha2.o);have HZ3:=Hm (Ja (X:=w.heap.size+1) (i:=1) (v:=.int .i64 v0) hb2.o (by omega));have HG3:=Hm (QT hc2.o (show w.heap.size<=w.heap.size+1 by omega) 1 (.int .i64 v0));have HR3:=Hm (hd2.o.far (show s<w.heap.size+1 by omega) 1 (.int .i64 v0));have KE1:=Hm (λ(V:World) q (hV:Sr V s ba bc bs q er a)=>one_se s ba bc bs q er a V hV hne)
    go_wp2_with fail
    refine (KE1.o _ _ HR3.o).mono ?_
    rintro e w4 ⟨rfl,rfl⟩;have HG4:=HG3;have HR4:=HR3
    go_wp2_with fail
    exact bodyPost_ret (v:=inV (⟨op,v0,0,0,[]⟩:In) none 0) (by simp [results,Tryz.results39,go_sem,y0,y1,y2,y3,y4,z0,z1,z2,z3,z4]) rfl (by
     obtain ⟨t1,t2⟩:=QZ HR4.o HG4.o hsl
     exact ⟨t1,_,_,_,rfl,hne,_,_,t2⟩)
   |ok v1 p1 =>
    show Calls _ _ _ _ (SiP ((JA bs p1).bind λv2 p2=>.ok ⟨op,v1,0,0,[]⟩ p2) _ _ _ _ _)
    clear hnz1;have K2:=Hm (λV (hV:Sr V s ba bc bs p1 0 0)=>one_sc s ba bc bs p1 V hV hA hl);have hnz2:(JA bs p1).nz:=nz_mark _ _;generalize JA bs p1=M2 at *
    cases M2 with
    |bad er a =>
     have hne:=hnz2 er a rfl;clear hnz2
     go_enter Tryz.func39,Tryz.ntmps39
     go_wp2_with fail
     rw [<- HW.o]
     refine (HF.o _).mono ?_
     rintro e w2 ⟨rfl,rfl⟩;have HR2:=HRW;have HX2:=HX;have HZ2:=HZ;have HG2:=HGW;obtain ⟨⟨y0,y1,y2,y3,y4⟩,yf⟩:=HX2.o;have yf1:=yf 1;obtain ⟨⟨z0,z1,z2,z3,z4⟩,zf⟩:=HZ2.o;have zf0:=zf 0;have zf1:=zf 1;have zf2:=zf 2;have zf3:=zf 3;have zf4:=zf 4;clear HF HW yf zf
     go_wp2_with fail
     refine (K1.o _ HR2.o).mono ?_
     rintro e w3 ⟨hg,rfl,hr⟩;have ha2:=Hm (Qe HX2.o hg (by omega));have hb2:=Hm (Qe HZ2.o hg (by omega));have hc2:=Hm (Qa HG2.o hg);have hd2:=Hm hr;clear y0 y1 y2 y3 y4 yf1 z0 z1 z2 z3 z4 zf0 zf1 zf2 zf3 zf4;obtain ⟨⟨y0,y1,y2,y3,y4⟩,yf⟩:=ha2.o;have yf1:=yf 1;obtain ⟨⟨z0,z1,z2,z3,z4⟩,zf⟩:=hb2.o;have zf0:=zf 0;have zf1:=zf 1;have zf2:=zf 2;have zf3:=zf 3;have zf4:=zf 4;clear hg hr yf zf;have HX3:=Hm (Jp (v:=.int .i64 v1) ha2.o);have HZ3:=Hm (Ja (X:=w.heap.size+1) (i:=1) (v:=.int .i64 v1) hb2.o (by omega));have HG3:=Hm (QT hc2.o (show w.heap.size<=w.heap.size+1 by omega) 1 (.int .i64 v1));have HR3:=Hm (hd2.o.far (show s<w.heap.size+1 by omega) 1 (.int .i64 v1))
     go_wp2_with fail
     refine (K2.o _ HR3.o).mono ?_
     rintro e w4 ⟨hg,u,q,rfl,⟨v0,rfl⟩,hr⟩;have ha3:=Hm (Qe HX3.o hg (by omega));have hb3:=Hm (Qe HZ3.o hg (by omega));have hc3:=Hm (Qa HG3.o hg);have hd3:=Hm hr;clear y0 y1 y2 y3 y4 yf1 z0 z1 z2 z3 z4 zf0 zf1 zf2 zf3 zf4;obtain ⟨⟨y0,y1,y2,y3,y4⟩,yf⟩:=ha3.o;have yf1:=yf 1;obtain ⟨⟨z0,z1,z2,z3,z4⟩,zf⟩:=hb3.o;have zf0:=zf 0;have zf1:=zf 1;have zf2:=zf 2;have zf3:=zf 3;have zf4:=zf 4;clear hg hr yf zf;have HG4:=hc3;have HR4:=hd3
     go_wp2_with fail
     exact bodyPost_ret (v:=inV (⟨op,v1,0,0,[]⟩:In) none 0) (by simp [results,Tryz.results39,go_sem,y0,y1,y2,y3,y4,z0,z1,z2,z3,z4]) rfl (by
      obtain ⟨t1,t2⟩:=QZ HR4.o HG4.o hsl
      exact ⟨t1,_,_,_,rfl,hne,_,_,t2⟩)
    |ok v2 p2 =>
     show Calls _ _ _ _ (SiP (.ok ⟨op,v1,0,0,[]⟩ p2) _ _ _ _ _)
     clear hnz2
     go_enter Tryz.func39,Tryz.ntmps39
     go_wp2_with fail
     rw [<- HW.o]
     refine (HF.o _).mono ?_
     rintro e w2 ⟨rfl,rfl⟩;have HR2:=HRW;have HX2:=HX;have HZ2:=HZ;have HG2:=HGW;obtain ⟨⟨y0,y1,y2,y3,y4⟩,yf⟩:=HX2.o;have yf1:=yf 1;obtain ⟨⟨z0,z1,z2,z3,z4⟩,zf⟩:=HZ2.o;have zf0:=zf 0;have zf1:=zf 1;have zf2:=zf 2;have zf3:=zf 3;have zf4:=zf 4;clear HF HW yf zf
     go_wp2_with fail
     refine (K1.o _ HR2.o).mono ?_
     rintro e w3 ⟨hg,rfl,hr⟩;have ha2:=Hm (Qe HX2.o hg (by omega));have hb2:=Hm (Qe HZ2.o hg (by omega));have hc2:=Hm (Qa HG2.o hg);have hd2:=Hm hr;clear y0 y1 y2 y3 y4 yf1 z0 z1 z2 z3 z4 zf0 zf1 zf2 zf3 zf4;obtain ⟨⟨y0,y1,y2,y3,y4⟩,yf⟩:=ha2.o;have yf1:=yf 1;obtain ⟨⟨z0,z1,z2,z3,z4⟩,zf⟩:=hb2.o;have zf0:=zf 0;have zf1:=zf 1;have zf2:=zf 2;have zf3:=zf 3;have zf4:=zf 4;clear hg hr yf zf;have HX3:=Hm (Jp (v:=.int .i64 v1) ha2.o);have HZ3:=Hm (Ja (X:=w.heap.size+1) (i:=1) (v:=.int .i64 v1) hb2.o (by omega));have HG3:=Hm (QT hc2.o (show w.heap.size<=w.heap.size+1 by omega) 1 (.int .i64 v1));have HR3:=Hm (hd2.o.far (show s<w.heap.size+1 by omega) 1 (.int .i64 v1))
     go_wp2_with fail
     refine (K2.o _ HR3.o).mono ?_
     rintro e w4 ⟨hg,rfl,hr⟩;have ha3:=Hm (Qe HX3.o hg (by omega));have hb3:=Hm (Qe HZ3.o hg (by omega));have hc3:=Hm (Qa HG3.o hg);have hd3:=Hm hr;clear y0 y1 y2 y3 y4 yf1 z0 z1 z2 z3 z4 zf0 zf1 zf2 zf3 zf4;obtain ⟨⟨y0,y1,y2,y3,y4⟩,yf⟩:=ha3.o;have yf1:=yf 1;obtain ⟨⟨z0,z1,z2,z3,z4⟩,zf⟩:=hb3.o;have zf0:=zf 0;have zf1:=zf 1;have zf2:=zf 2;have zf3:=zf 3;have zf4:=zf 4;clear hg hr yf zf;have HG4:=hc3;have HR4:=hd3
     go_wp2_with fail
     exact bodyPost_ret (v:=inV (⟨op,v1,0,0,[]⟩:In) none 0) (by simp [results,Tryz.results39,go_sem,y0,y1,y2,y3,y4,z0,z1,z2,z3,z4]) rfl (by
      obtain ⟨t1,t2⟩:=QZ HR4.o HG4.o hsl
      exact ⟨t1,_,_,_,rfl,rfl,World.ownsRow_nil _ _ _ _,_,t2⟩)
 . show Calls _ _ _ _ (SiP ((Qp false 32 bs p).bind λv1 p1=>(Qp false 32 bs p1).bind λv2 p2=>.ok ⟨op,v1,v2,0,[]⟩ p2) _ _ _ _ _)
   have K1:=Hm (λV (hV:Sr V s ba bc bs p 0 0)=>u32_sc s ba bc bs p V hV hA hl);have hnz1:(Qp false 32 bs p).nz:=JL _ _ _ _;generalize Qp false 32 bs p=M1 at *
   cases M1 with
   |bad er a =>
    have hne:=hnz1 er a rfl;clear hnz1
    go_enter Tryz.func39,Tryz.ntmps39
    go_wp2_with fail
    rw [<- HW.o]
    refine (HF.o _).mono ?_
    rintro e w2 ⟨rfl,rfl⟩;have HR2:=HRW;have HX2:=HX;have HZ2:=HZ;have HG2:=HGW;obtain ⟨⟨y0,y1,y2,y3,y4⟩,yf⟩:=HX2.o;have yf1:=yf 1;have yf2:=yf 2;obtain ⟨⟨z0,z1,z2,z3,z4⟩,zf⟩:=HZ2.o;have zf0:=zf 0;have zf1:=zf 1;have zf2:=zf 2;have zf3:=zf 3;have zf4:=zf 4;clear HF HW yf zf
    go_wp2_with fail
    refine (K1.o _ HR2.o).mono ?_
    rintro e w3 ⟨hg,u,q,rfl,⟨v0,rfl⟩,hr⟩;have ha2:=Hm (Qe HX2.o hg (by omega));have hb2:=Hm (Qe HZ2.o hg (by omega));have hc2:=Hm (Qa HG2.o hg);have hd2:=Hm hr;clear y0 y1 y2 y3 y4 yf1 yf2 z0 z1 z2 z3 z4 zf0 zf1 zf2 zf3 zf4;obtain ⟨⟨y0,y1,y2,y3,y4⟩,yf⟩:=ha2.o;have yf1:=yf 1;have yf2:=yf 2;obtain ⟨⟨z0,z1,z2,z3,z4⟩,zf⟩:=hb2.o;have zf0:=zf 0;have zf1:=zf 1;have zf2:=zf 2;have zf3:=zf 3;have zf4:=zf 4;clear hg hr yf zf;have HX3:=Hm (Jp (v:=.int .i64 v0) ha2.o);have HZ3:=Hm (Ja (X:=w.heap.size+1) (i:=1) (v:=.int .i64 v0) hb2.o (by omega));have HG3:=Hm (QT hc2.o (show w.heap.size<=w.heap.size+1 by omega) 1 (.int .i64 v0));have HR3:=Hm (hd2.o.far (show s<w.heap.size+1 by omega) 1 (.int .i64 v0));have KE1:=Hm (λ(V:World) q (hV:Sr V s ba bc bs q er a)=>u32_se s ba bc bs q er a V hV hne)
    go_wp2_with fail
    refine (KE1.o _ _ HR3.o).mono ?_
    rintro e w4 ⟨rfl,rfl⟩;have HG4:=Hm (QT HG3.o (show w.heap.size<=w.heap.size+1 by omega) 2 (.int .i64 0));have HR4:=Hm (HR3.o.far (show s<w.heap.size+1 by omega) 2 (.int .i64 0))
    go_wp2_with fail
    exact bodyPost_ret (v:=inV (⟨op,v0,0,0,[]⟩:In) none 0) (by simp [results,Tryz.results39,go_sem,y0,y1,y2,y3,y4,z0,z1,z2,z3,z4]) rfl (by
     obtain ⟨t1,t2⟩:=QZ HR4.o HG4.o hsl
     exact ⟨t1,_,_,_,rfl,hne,_,_,t2⟩)
   |ok v1 p1 =>
    show Calls _ _ _ _ (SiP ((Qp false 32 bs p1).bind λv2 p2=>.ok ⟨op,v1,v2,0,[]⟩ p2) _ _ _ _ _)
    clear hnz1;have K2:=Hm (λV (hV:Sr V s ba bc bs p1 0 0)=>u32_sc s ba bc bs p1 V hV hA hl);have hnz2:(Qp false 32 bs p1).nz:=JL _ _ _ _;generalize Qp false 32 bs p1=M2 at *
    cases M2 with
    |bad er a =>
     have hne:=hnz2 er a rfl;clear hnz2
     go_enter Tryz.func39,Tryz.ntmps39
     go_wp2_with fail
     rw [<- HW.o]
     refine (HF.o _).mono ?_
     rintro e w2 ⟨rfl,rfl⟩;have HR2:=HRW;have HX2:=HX;have HZ2:=HZ;have HG2:=HGW;obtain ⟨⟨y0,y1,y2,y3,y4⟩,yf⟩:=HX2.o;have yf1:=yf 1;have yf2:=yf 2;obtain ⟨⟨z0,z1,z2,z3,z4⟩,zf⟩:=HZ2.o;have zf0:=zf 0;have zf1:=zf 1;have zf2:=zf 2;have zf3:=zf 3;have zf4:=zf 4;clear HF HW yf zf
     go_wp2_with fail
     refine (K1.o _ HR2.o).mono ?_
     rintro e w3 ⟨hg,rfl,hr⟩;have ha2:=Hm (Qe HX2.o hg (by omega));have hb2:=Hm (Qe HZ2.o hg (by omega));have hc2:=Hm (Qa HG2.o hg);have hd2:=Hm hr;clear y0 y1 y2 y3 y4 yf1 yf2 z0 z1 z2 z3 z4 zf0 zf1 zf2 zf3 zf4;obtain ⟨⟨y0,y1,y2,y3,y4⟩,yf⟩:=ha2.o;have yf1:=yf 1;have yf2:=yf 2;obtain ⟨⟨z0,z1,z2,z3,z4⟩,zf⟩:=hb2.o;have zf0:=zf 0;have zf1:=zf 1;have zf2:=zf 2;have zf3:=zf 3;have zf4:=zf 4;clear hg hr yf zf;have HX3:=Hm (Jp (v:=.int .i64 v1) ha2.o);have HZ3:=Hm (Ja (X:=w.heap.size+1) (i:=1) (v:=.int .i64 v1) hb2.o (by omega));have HG3:=Hm (QT hc2.o (show w.heap.size<=w.heap.size+1 by omega) 1 (.int .i64 v1));have HR3:=Hm (hd2.o.far (show s<w.heap.size+1 by omega) 1 (.int .i64 v1))
     go_wp2_with fail
     refine (K2.o _ HR3.o).mono ?_
     rintro e w4 ⟨hg,u,q,rfl,⟨v0,rfl⟩,hr⟩;have ha3:=Hm (Qe HX3.o hg (by omega));have hb3:=Hm (Qe HZ3.o hg (by omega));have hc3:=Hm (Qa HG3.o hg);have hd3:=Hm hr;clear y0 y1 y2 y3 y4 yf1 yf2 z0 z1 z2 z3 z4 zf0 zf1 zf2 zf3 zf4;obtain ⟨⟨y0,y1,y2,y3,y4⟩,yf⟩:=ha3.o;have yf1:=yf 1;have yf2:=yf 2;obtain ⟨⟨z0,z1,z2,z3,z4⟩,zf⟩:=hb3.o;have zf0:=zf 0;have zf1:=zf 1;have zf2:=zf 2;have zf3:=zf 3;have zf4:=zf 4;clear hg hr yf zf;have HG4:=Hm (QT hc3.o (show w.heap.size<=w.heap.size+1 by omega) 2 (.int .i64 v0));have HR4:=Hm (hd3.o.far (show s<w.heap.size+1 by omega) 2 (.int .i64 v0))
     go_wp2_with fail
     exact bodyPost_ret (v:=inV (⟨op,v1,v0,0,[]⟩:In) none 0) (by simp [results,Tryz.results39,go_sem,y0,y1,y2,y3,y4,z0,z1,z2,z3,z4]) rfl (by
      obtain ⟨t1,t2⟩:=QZ HR4.o HG4.o hsl
      exact ⟨t1,_,_,_,rfl,hne,_,_,t2⟩)
    |ok v2 p2 =>
     show Calls _ _ _ _ (SiP (.ok ⟨op,v1,v2,0,[]⟩ p2) _ _ _ _ _)
     clear hnz2
     go_enter Tryz.func39,Tryz.ntmps39
     go_wp2_with fail
     rw [<- HW.o]
     refine (HF.o _).mono ?_
     rintro e w2 ⟨rfl,rfl⟩;have HR2:=HRW;have HX2:=HX;have HZ2:=HZ;have HG2:=HGW;obtain ⟨⟨y0,y1,y2,y3,y4⟩,yf⟩:=HX2.o;have yf1:=yf 1;have yf2:=yf 2;obtain ⟨⟨z0,z1,z2,z3,z4⟩,zf⟩:=HZ2.o;have zf0:=zf 0;have zf1:=zf 1;have zf2:=zf 2;have zf3:=zf 3;have zf4:=zf 4;clear HF HW yf zf
     go_wp2_with fail
     refine (K1.o _ HR2.o).mono ?_
     rintro e w3 ⟨hg,rfl,hr⟩;have ha2:=Hm (Qe HX2.o hg (by omega));have hb2:=Hm (Qe HZ2.o hg (by omega));have hc2:=Hm (Qa HG2.o hg);have hd2:=Hm hr;clear y0 y1 y2 y3 y4 yf1 yf2 z0 z1 z2 z3 z4 zf0 zf1 zf2 zf3 zf4;obtain ⟨⟨y0,y1,y2,y3,y4⟩,yf⟩:=ha2.o;have yf1:=yf 1;have yf2:=yf 2;obtain ⟨⟨z0,z1,z2,z3,z4⟩,zf⟩:=hb2.o;have zf0:=zf 0;have zf1:=zf 1;have zf2:=zf 2;have zf3:=zf 3;have zf4:=zf 4;clear hg hr yf zf;have HX3:=Hm (Jp (v:=.int .i64 v1) ha2.o);have HZ3:=Hm (Ja (X:=w.heap.size+1) (i:=1) (v:=.int .i64 v1) hb2.o (by omega));have HG3:=Hm (QT hc2.o (show w.heap.size<=w.heap.size+1 by omega) 1 (.int .i64 v1));have HR3:=Hm (hd2.o.far (show s<w.heap.size+1 by omega) 1 (.int .i64 v1))
     go_wp2_with fail
     refine (K2.o _ HR3.o).mono ?_
     rintro e w4 ⟨hg,rfl,hr⟩;have ha3:=Hm (Qe HX3.o hg (by omega));have hb3:=Hm (Qe HZ3.o hg (by omega));have hc3:=Hm (Qa HG3.o hg);have hd3:=Hm hr;clear y0 y1 y2 y3 y4 yf1 yf2 z0 z1 z2 z3 z4 zf0 zf1 zf2 zf3 zf4;obtain ⟨⟨y0,y1,y2,y3,y4⟩,yf⟩:=ha3.o;have yf1:=yf 1;have yf2:=yf 2;obtain ⟨⟨z0,z1,z2,z3,z4⟩,zf⟩:=hb3.o;have zf0:=zf 0;have zf1:=zf 1;have zf2:=zf 2;have zf3:=zf 3;have zf4:=zf 4;clear hg hr yf zf;have HG4:=Hm (QT hc3.o (show w.heap.size<=w.heap.size+1 by omega) 2 (.int .i64 v2));have HR4:=Hm (hd3.o.far (show s<w.heap.size+1 by omega) 2 (.int .i64 v2))
     go_wp2_with fail
     exact bodyPost_ret (v:=inV (⟨op,v1,v2,0,[]⟩:In) none 0) (by simp [results,Tryz.results39,go_sem,y0,y1,y2,y3,y4,z0,z1,z2,z3,z4]) rfl (by
      obtain ⟨t1,t2⟩:=QZ HR4.o HG4.o hsl
      exact ⟨t1,_,_,_,rfl,rfl,World.ownsRow_nil _ _ _ _,_,t2⟩)
 . show Calls _ _ _ _ (SiP ((JN bs p 4).bind λv1 p1=>.ok ⟨op,0,0,v1,[]⟩ p1) _ _ _ _ _)
   have K1:=Hm (λV (hV:Sr V s ba bc bs p 0 0)=>fix_sc s ba bc bs p 4 V hV hA hl (by omega));have hnz1:(JN bs p 4).nz:=nz_fix _ _ _;generalize JN bs p 4=M1 at *
   cases M1 with
   |bad er a =>
    have hne:=hnz1 er a rfl;clear hnz1
    go_enter Tryz.func39,Tryz.ntmps39
    go_wp2_with fail
    rw [<- HW.o]
    refine (HF.o _).mono ?_
    rintro e w2 ⟨rfl,rfl⟩;have HR2:=HRW;have HX2:=HX;have HZ2:=HZ;have HG2:=HGW;obtain ⟨⟨y0,y1,y2,y3,y4⟩,yf⟩:=HX2.o;have yf3:=yf 3;obtain ⟨⟨z0,z1,z2,z3,z4⟩,zf⟩:=HZ2.o;have zf0:=zf 0;have zf1:=zf 1;have zf2:=zf 2;have zf3:=zf 3;have zf4:=zf 4;clear HF HW yf zf
    go_wp2_with fail
    refine (K1.o _ HR2.o).mono ?_
    rintro e w3 ⟨hg,u,q,rfl,⟨v0,rfl⟩,hr⟩;have ha2:=Hm (Qe HX2.o hg (by omega));have hb2:=Hm (Qe HZ2.o hg (by omega));have hc2:=Hm (Qa HG2.o hg);have hd2:=Hm hr;clear y0 y1 y2 y3 y4 yf3 z0 z1 z2 z3 z4 zf0 zf1 zf2 zf3 zf4;obtain ⟨⟨y0,y1,y2,y3,y4⟩,yf⟩:=ha2.o;have yf3:=yf 3;obtain ⟨⟨z0,z1,z2,z3,z4⟩,zf⟩:=hb2.o;have zf0:=zf 0;have zf1:=zf 1;have zf2:=zf 2;have zf3:=zf 3;have zf4:=zf 4;clear hg hr yf zf;have HG3:=Hm (QT hc2.o (show w.heap.size<=w.heap.size+1 by omega) 3 (.int .u64 v0));have HR3:=Hm (hd2.o.far (show s<w.heap.size+1 by omega) 3 (.int .u64 v0))
    go_wp2_with fail
    exact bodyPost_ret (v:=inV (⟨op,0,0,v0,[]⟩:In) none 0) (by simp [results,Tryz.results39,go_sem,y0,y1,y2,y3,y4,z0,z1,z2,z3,z4]) rfl (by
     obtain ⟨t1,t2⟩:=QZ HR3.o HG3.o hsl
     exact ⟨t1,_,_,_,rfl,hne,_,_,t2⟩)
   |ok v1 p1 =>
    show Calls _ _ _ _ (SiP (.ok ⟨op,0,0,v1,[]⟩ p1) _ _ _ _ _)
    clear hnz1
    go_enter Tryz.func39,Tryz.ntmps39
    go_wp2_with fail
    rw [<- HW.o]
    refine (HF.o _).mono ?_
    rintro e w2 ⟨rfl,rfl⟩;have HR2:=HRW;have HX2:=HX;have HZ2:=HZ;have HG2:=HGW;obtain ⟨⟨y0,y1,y2,y3,y4⟩,yf⟩:=HX2.o;have yf3:=yf 3;obtain ⟨⟨z0,z1,z2,z3,z4⟩,zf⟩:=HZ2.o;have zf0:=zf 0;have zf1:=zf 1;have zf2:=zf 2;have zf3:=zf 3;have zf4:=zf 4;clear HF HW yf zf
    go_wp2_with fail
    refine (K1.o _ HR2.o).mono ?_
    rintro e w3 ⟨hg,rfl,hr⟩;have ha2:=Hm (Qe HX2.o hg (by omega));have hb2:=Hm (Qe HZ2.o hg (by omega));have hc2:=Hm (Qa HG2.o hg);have hd2:=Hm hr;clear y0 y1 y2 y3 y4 yf3 z0 z1 z2 z3 z4 zf0 zf1 zf2 zf3 zf4;obtain ⟨⟨y0,y1,y2,y3,y4⟩,yf⟩:=ha2.o;have yf3:=yf 3;obtain ⟨⟨z0,z1,z2,z3,z4⟩,zf⟩:=hb2.o;have zf0:=zf 0;have zf1:=zf 1;have zf2:=zf 2;have zf3:=zf 3;have zf4:=zf 4;clear hg hr yf zf;have HG3:=Hm (QT hc2.o (show w.heap.size<=w.heap.size+1 by omega) 3 (.int .u64 v1));have HR3:=Hm (hd2.o.far (show s<w.heap.size+1 by omega) 3 (.int .u64 v1))
    go_wp2_with fail
    exact bodyPost_ret (v:=inV (⟨op,0,0,v1,[]⟩:In) none 0) (by simp [results,Tryz.results39,go_sem,y0,y1,y2,y3,y4,z0,z1,z2,z3,z4]) rfl (by
     obtain ⟨t1,t2⟩:=QZ HR3.o HG3.o hsl
     exact ⟨t1,_,_,_,rfl,rfl,World.ownsRow_nil _ _ _ _,_,t2⟩)
 . show Calls _ _ _ _ (SiP ((JN bs p 8).bind λv1 p1=>.ok ⟨op,0,0,v1,[]⟩ p1) _ _ _ _ _)
   have K1:=Hm (λV (hV:Sr V s ba bc bs p 0 0)=>fix_sc s ba bc bs p 8 V hV hA hl (by omega));have hnz1:(JN bs p 8).nz:=nz_fix _ _ _;generalize JN bs p 8=M1 at *
   cases M1 with
   |bad er a =>
    have hne:=hnz1 er a rfl;clear hnz1
    go_enter Tryz.func39,Tryz.ntmps39
    go_wp2_with fail
    rw [<- HW.o]
    refine (HF.o _).mono ?_
    rintro e w2 ⟨rfl,rfl⟩;have HR2:=HRW;have HX2:=HX;have HZ2:=HZ;have HG2:=HGW;obtain ⟨⟨y0,y1,y2,y3,y4⟩,yf⟩:=HX2.o;have yf3:=yf 3;obtain ⟨⟨z0,z1,z2,z3,z4⟩,zf⟩:=HZ2.o;have zf0:=zf 0;have zf1:=zf 1;have zf2:=zf 2;have zf3:=zf 3;have zf4:=zf 4;clear HF HW yf zf
    go_wp2_with fail
    refine (K1.o _ HR2.o).mono ?_
    rintro e w3 ⟨hg,u,q,rfl,⟨v0,rfl⟩,hr⟩;have ha2:=Hm (Qe HX2.o hg (by omega));have hb2:=Hm (Qe HZ2.o hg (by omega));have hc2:=Hm (Qa HG2.o hg);have hd2:=Hm hr;clear y0 y1 y2 y3 y4 yf3 z0 z1 z2 z3 z4 zf0 zf1 zf2 zf3 zf4;obtain ⟨⟨y0,y1,y2,y3,y4⟩,yf⟩:=ha2.o;have yf3:=yf 3;obtain ⟨⟨z0,z1,z2,z3,z4⟩,zf⟩:=hb2.o;have zf0:=zf 0;have zf1:=zf 1;have zf2:=zf 2;have zf3:=zf 3;have zf4:=zf 4;clear hg hr yf zf;have HG3:=Hm (QT hc2.o (show w.heap.size<=w.heap.size+1 by omega) 3 (.int .u64 v0));have HR3:=Hm (hd2.o.far (show s<w.heap.size+1 by omega) 3 (.int .u64 v0))
    go_wp2_with fail
    exact bodyPost_ret (v:=inV (⟨op,0,0,v0,[]⟩:In) none 0) (by simp [results,Tryz.results39,go_sem,y0,y1,y2,y3,y4,z0,z1,z2,z3,z4]) rfl (by
     obtain ⟨t1,t2⟩:=QZ HR3.o HG3.o hsl
     exact ⟨t1,_,_,_,rfl,hne,_,_,t2⟩)
   |ok v1 p1 =>
    show Calls _ _ _ _ (SiP (.ok ⟨op,0,0,v1,[]⟩ p1) _ _ _ _ _)
    clear hnz1
    go_enter Tryz.func39,Tryz.ntmps39
    go_wp2_with fail
    rw [<- HW.o]
    refine (HF.o _).mono ?_
    rintro e w2 ⟨rfl,rfl⟩;have HR2:=HRW;have HX2:=HX;have HZ2:=HZ;have HG2:=HGW;obtain ⟨⟨y0,y1,y2,y3,y4⟩,yf⟩:=HX2.o;have yf3:=yf 3;obtain ⟨⟨z0,z1,z2,z3,z4⟩,zf⟩:=HZ2.o;have zf0:=zf 0;have zf1:=zf 1;have zf2:=zf 2;have zf3:=zf 3;have zf4:=zf 4;clear HF HW yf zf
    go_wp2_with fail
    refine (K1.o _ HR2.o).mono ?_
    rintro e w3 ⟨hg,rfl,hr⟩;have ha2:=Hm (Qe HX2.o hg (by omega));have hb2:=Hm (Qe HZ2.o hg (by omega));have hc2:=Hm (Qa HG2.o hg);have hd2:=Hm hr;clear y0 y1 y2 y3 y4 yf3 z0 z1 z2 z3 z4 zf0 zf1 zf2 zf3 zf4;obtain ⟨⟨y0,y1,y2,y3,y4⟩,yf⟩:=ha2.o;have yf3:=yf 3;obtain ⟨⟨z0,z1,z2,z3,z4⟩,zf⟩:=hb2.o;have zf0:=zf 0;have zf1:=zf 1;have zf2:=zf 2;have zf3:=zf 3;have zf4:=zf 4;clear hg hr yf zf;have HG3:=Hm (QT hc2.o (show w.heap.size<=w.heap.size+1 by omega) 3 (.int .u64 v1));have HR3:=Hm (hd2.o.far (show s<w.heap.size+1 by omega) 3 (.int .u64 v1))
    go_wp2_with fail
    exact bodyPost_ret (v:=inV (⟨op,0,0,v1,[]⟩:In) none 0) (by simp [results,Tryz.results39,go_sem,y0,y1,y2,y3,y4,z0,z1,z2,z3,z4]) rfl (by
     obtain ⟨t1,t2⟩:=QZ HR3.o HG3.o hsl
     exact ⟨t1,_,_,_,rfl,rfl,World.ownsRow_nil _ _ _ _,_,t2⟩)
def sins_4:=λs ba bc bs p op dep w hf h hA hl=>sins_y s ba bc bs p op dep w (4) (.inl rfl) hf h hA hl
def sins_5:=λs ba bc bs p op dep w hf h hA hl=>sins_y s ba bc bs p op dep w (5) (.inr (.inl rfl)) hf h hA hl
def sins_9:=λs ba bc bs p op dep w hf h hA hl=>sins_y s ba bc bs p op dep w (9) (.inr (.inr (.inl rfl))) hf h hA hl
def sins_10:=λs ba bc bs p op dep w hf h hA hl=>sins_y s ba bc bs p op dep w (10) (.inr (.inr (.inr (rfl)))) hf h hA hl
end Go.Proofs.YtipfjdogokanbaaGreatDoor.Ed
