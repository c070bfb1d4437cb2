import Derived.Test.YtipfjdogokanbaaGreatDoorGaa
import Derived.Test.YtipfjdogokanbaaGreatDoorGbj
set_option linter.all false
set_option maxHeartbeats 400000000
set_option maxRecDepth 100000
set_option linter.all false
namespace Go.Proofs.YtipfjdogokanbaaGreatDoor.Ed
open Go.RowKit Go.Sort
end Go.Proofs.YtipfjdogokanbaaGreatDoor.Ed
namespace Go.Proofs.YtipfjdogokanbaaGreatDoor.Ed
open Go.RowKit Go.Sort
theorem sins_x (s:Nat)(ba:Option Addr)(bc:BC)(bs:List Int)(p:Nat)(op dep:Int)(w:World)(kk_:Int)(hk_:kk_=0\/kk_=2\/kk_=6\/kk_=7\/kk_=8)(hf:Qd (Qb op)=kk_)(h:Sr w s ba bc bs p 0 0)(hA:Qt bs)(hl:bs.length<=1099511627776) :
    Calls Tryz.prog 39 #[.pointer (some ⟨s,0,none⟩),.int .i64 op,.int .i64 dep] w (SiP (Q4 kk_ op bs p) w s ba bc.n bs):=by
 have HF:=Hm (Qr op);rw [hf] at HF;obtain ⟨W,hW,hz,hx,hb⟩:=Gm w op;have hsl:s<w.heap.size:=h.lt;have HW:=Hm hW;have HZ:=Hm hz;have HX:=Hm hx;have HRW:=Hm (h.keep hb);have HGW:=Hm (show w.grownBy W (some s) from Qo hb);clear hf hW hz hx hb h
 rcases hk_ with rfl|rfl|rfl|rfl|rfl
 . show Calls _ _ _ _ (SiP (.ok ⟨op,0,0,0,[]⟩ p) _ _ _ _ _)
   go_enter Tryz.func39,Tryz.ntmps39
   go_wp2_with fail
   rw [<- HW.o]
   refine (HF.o _).mono ?_
   rintro e w2 ⟨rfl,rfl⟩;have HR2:=HRW;have HX2:=HX;have HZ2:=HZ;have HG2:=HGW;obtain ⟨⟨y0,y1,y2,y3,y4⟩,yf⟩:=HX2.o;obtain ⟨⟨z0,z1,z2,z3,z4⟩,zf⟩:=HZ2.o;have zf0:=zf 0;have zf1:=zf 1;have zf2:=zf 2;have zf3:=zf 3;have zf4:=zf 4;clear HF HW yf zf
   go_wp2_with fail
   exact bodyPost_ret (v:=inV (⟨op,0,0,0,[]⟩:In) none 0) (by simp [results,Tryz.results39,go_sem,y0,y1,y2,y3,y4,z0,z1,z2,z3,z4]) rfl (by
    obtain ⟨t1,t2⟩:=QZ HR2.o HG2.o hsl
    exact ⟨t1,_,_,_,rfl,rfl,World.ownsRow_nil _ _ _ _,_,t2⟩)
 . show Calls _ _ _ _ (SiP ((Qp false 32 bs p).bind λv1 p1=>.ok ⟨op,v1,0,0,[]⟩ p1) _ _ _ _ _)
   have K1:=Hm (λV (hV:Sr V s ba bc bs p 0 0)=>u32_sc s ba bc bs p V hV hA hl);have hnz1:(Qp false 32 bs p).nz:=JL _ _ _ _;generalize Qp false 32 bs p=M1 at *
   cases M1 with
   |bad er a =>
    have hne:=hnz1 er a rfl;clear hnz1
    go_enter Tryz.func39,Tryz.ntmps39
    go_wp2_with fail
    rw [<- HW.o]
    refine (HF.o _).mono ?_
    rintro e w2 ⟨rfl,rfl⟩;have HR2:=HRW;have HX2:=HX;have HZ2:=HZ;have HG2:=HGW;obtain ⟨⟨y0,y1,y2,y3,y4⟩,yf⟩:=HX2.o;have yf1:=yf 1;obtain ⟨⟨z0,z1,z2,z3,z4⟩,zf⟩:=HZ2.o;have zf0:=zf 0;have zf1:=zf 1;have zf2:=zf 2;have zf3:=zf 3;have zf4:=zf 4;clear HF HW yf zf
    go_wp2_with fail
    refine (K1.o _ HR2.o).mono ?_
    rintro e w3 ⟨hg,u,q,rfl,⟨v0,rfl⟩,hr⟩;have ha2:=Hm (Qe HX2.o hg (by omega));have hb2:=Hm (Qe HZ2.o hg (by omega));have hc2:=Hm (Qa HG2.o hg);have hd2:=Hm hr;clear y0 y1 y2 y3 y4 yf1 z0 z1 z2 z3 z4 zf0 zf1 zf2 zf3 zf4;obtain ⟨⟨y0,y1,y2,y3,y4⟩,yf⟩:=ha2.o;have yf1:=yf 1;obtain ⟨⟨z0,z1,z2,z3,z4⟩,zf⟩:=hb2.o;have zf0:=zf 0;have zf1:=zf 1;have zf2:=zf 2;have zf3:=zf 3;have zf4:=zf 4;clear hg hr yf zf;have HG3:=Hm (QT hc2.o (show w.heap.size<=w.heap.size+1 by omega) 1 (.int .i64 v0));have HR3:=Hm (hd2.o.far (show s<w.heap.size+1 by omega) 1 (.int .i64 v0))
    go_wp2_with fail
    exact bodyPost_ret (v:=inV (⟨op,v0,0,0,[]⟩:In) none 0) (by simp [results,Tryz.results39,go_sem,y0,y1,y2,y3,y4,z0,z1,z2,z3,z4]) rfl (by
     obtain ⟨t1,t2⟩:=QZ HR3.o HG3.o hsl
     exact ⟨t1,_,_,_,rfl,hne,_,_,t2⟩)
   |ok v1 p1 =>
    show Calls _ _ _ _ (SiP (.ok ⟨op,v1,0,0,[]⟩ p1) _ _ _ _ _)
    clear hnz1
    go_enter Tryz.func39,Tryz.ntmps39
    go_wp2_with fail
    rw [<- HW.o]
    refine (HF.o _).mono ?_
    rintro e w2 ⟨rfl,rfl⟩;have HR2:=HRW;have HX2:=HX;have HZ2:=HZ;have HG2:=HGW;obtain ⟨⟨y0,y1,y2,y3,y4⟩,yf⟩:=HX2.o;have yf1:=yf 1;obtain ⟨⟨z0,z1,z2,z3,z4⟩,zf⟩:=HZ2.o;have zf0:=zf 0;have zf1:=zf 1;have zf2:=zf 2;have zf3:=zf 3;have zf4:=zf 4;clear HF HW yf zf
    go_wp2_with fail
    refine (K1.o _ HR2.o).mono ?_
    rintro e w3 ⟨hg,rfl,hr⟩;have ha2:=Hm (Qe HX2.o hg (by omega));have hb2:=Hm (Qe HZ2.o hg (by omega));have hc2:=Hm (Qa HG2.o hg);have hd2:=Hm hr;clear y0 y1 y2 y3 y4 yf1 z0 z1 z2 z3 z4 zf0 zf1 zf2 zf3 zf4;obtain ⟨⟨y0,y1,y2,y3,y4⟩,yf⟩:=ha2.o;have yf1:=yf 1;obtain ⟨⟨z0,z1,z2,z3,z4⟩,zf⟩:=hb2.o;have zf0:=zf 0;have zf1:=zf 1;have zf2:=zf 2;have zf3:=zf 3;have zf4:=zf 4;clear hg hr yf zf;have HG3:=Hm (QT hc2.o (show w.heap.size<=w.heap.size+1 by omega) 1 (.int .i64 v1));have HR3:=Hm (hd2.o.far (show s<w.heap.size+1 by omega) 1 (.int .i64 v1))
    go_wp2_with fail
    exact bodyPost_ret (v:=inV (⟨op,v1,0,0,[]⟩:In) none 0) (by simp [results,Tryz.results39,go_sem,y0,y1,y2,y3,y4,z0,z1,z2,z3,z4]) rfl (by
     obtain ⟨t1,t2⟩:=QZ HR3.o HG3.o hsl
     exact ⟨t1,_,_,_,rfl,rfl,World.ownsRow_nil _ _ _ _,_,t2⟩)
 . show Calls _ _ _ _ (SiP ((JA bs p).bind λv1 p1=>.ok ⟨op,0,0,0,[]⟩ p1) _ _ _ _ _)
   have K1:=Hm (λV (hV:Sr V s ba bc bs p 0 0)=>one_sc s ba bc bs p V hV hA hl);have hnz1:(JA bs p).nz:=nz_mark _ _;generalize JA bs p=M1 at *
   cases M1 with
   |bad er a =>
    have hne:=hnz1 er a rfl;clear hnz1
    go_enter Tryz.func39,Tryz.ntmps39
    go_wp2_with fail
    rw [<- HW.o]
    refine (HF.o _).mono ?_
    rintro e w2 ⟨rfl,rfl⟩;have HR2:=HRW;have HX2:=HX;have HZ2:=HZ;have HG2:=HGW;obtain ⟨⟨y0,y1,y2,y3,y4⟩,yf⟩:=HX2.o;obtain ⟨⟨z0,z1,z2,z3,z4⟩,zf⟩:=HZ2.o;have zf0:=zf 0;have zf1:=zf 1;have zf2:=zf 2;have zf3:=zf 3;have zf4:=zf 4;clear HF HW yf zf
    go_wp2_with fail
    refine (K1.o _ HR2.o).mono ?_
    rintro e w3 ⟨hg,u,q,rfl,⟨v0,rfl⟩,hr⟩;have ha2:=Hm (Qe HX2.o hg (by omega));have hb2:=Hm (Qe HZ2.o hg (by omega));have hc2:=Hm (Qa HG2.o hg);have hd2:=Hm hr;clear y0 y1 y2 y3 y4 z0 z1 z2 z3 z4 zf0 zf1 zf2 zf3 zf4;obtain ⟨⟨y0,y1,y2,y3,y4⟩,yf⟩:=ha2.o;obtain ⟨⟨z0,z1,z2,z3,z4⟩,zf⟩:=hb2.o;have zf0:=zf 0;have zf1:=zf 1;have zf2:=zf 2;have zf3:=zf 3;have zf4:=zf 4;clear hg hr yf zf;have HG3:=hc2;have HR3:=hd2
    go_wp2_with fail
    exact bodyPost_ret (v:=inV (⟨op,0,0,0,[]⟩:In) none 0) (by simp [results,Tryz.results39,go_sem,y0,y1,y2,y3,y4,z0,z1,z2,z3,z4]) rfl (by
     obtain ⟨t1,t2⟩:=QZ HR3.o HG3.o hsl
     exact ⟨t1,_,_,_,rfl,hne,_,_,t2⟩)
   |ok v1 p1 =>
    show Calls _ _ _ _ (SiP (.ok ⟨op,0,0,0,[]⟩ p1) _ _ _ _ _)
    clear hnz1
    go_enter Tryz.func39,Tryz.ntmps39
    go_wp2_with fail
    rw [<- HW.o]
    refine (HF.o _).mono ?_
    rintro e w2 ⟨rfl,rfl⟩;have HR2:=HRW;have HX2:=HX;have HZ2:=HZ;have HG2:=HGW;obtain ⟨⟨y0,y1,y2,y3,y4⟩,yf⟩:=HX2.o;obtain ⟨⟨z0,z1,z2,z3,z4⟩,zf⟩:=HZ2.o;have zf0:=zf 0;have zf1:=zf 1;have zf2:=zf 2;have zf3:=zf 3;have zf4:=zf 4;clear HF HW yf zf
    go_wp2_with fail
    refine (K1.o _ HR2.o).mono ?_
    rintro e w3 ⟨hg,rfl,hr⟩;have ha2:=Hm (Qe HX2.o hg (by omega));have hb2:=Hm (Qe HZ2.o hg (by omega));have hc2:=Hm (Qa HG2.o hg);have hd2:=Hm hr;clear y0 y1 y2 y3 y4 z0 z1 z2 z3 z4 zf0 zf1 zf2 zf3 zf4;obtain ⟨⟨y0,y1,y2,y3,y4⟩,yf⟩:=ha2.o;obtain ⟨⟨z0,z1,z2,z3,z4⟩,zf⟩:=hb2.o;have zf0:=zf 0;have zf1:=zf 1;have zf2:=zf 2;have zf3:=zf 3;have zf4:=zf 4;clear hg hr yf zf;have HG3:=hc2;have HR3:=hd2
    go_wp2_with fail
    exact bodyPost_ret (v:=inV (⟨op,0,0,0,[]⟩:In) none 0) (by simp [results,Tryz.results39,go_sem,y0,y1,y2,y3,y4,z0,z1,z2,z3,z4]) rfl (by
     obtain ⟨t1,t2⟩:=QZ HR3.o HG3.o hsl
     exact ⟨t1,_,_,_,rfl,rfl,World.ownsRow_nil _ _ _ _,_,t2⟩)
 . show Calls _ _ _ _ (SiP ((Qp true 32 bs p).bind λv1 p1=>.ok ⟨op,0,0,v1%4294967296,[]⟩ p1) _ _ _ _ _)
   have K1:=Hm (λV (hV:Sr V s ba bc bs p 0 0)=>lebS_sc s ba bc bs p V hV hA hl);have hnz1:(Qp true 32 bs p).nz:=JL _ _ _ _;have hbd1:=λv p1=>num_bd (s:=true) (B:=32) (bs:=bs) (p:=p) (p1:=p1) (v:=v);generalize Qp true 32 bs p=M1 at *
   cases M1 with
   |bad er a =>
    have hne:=hnz1 er a rfl;clear hnz1;clear hbd1
    go_enter Tryz.func39,Tryz.ntmps39
    go_wp2_with fail
    rw [<- HW.o]
    refine (HF.o _).mono ?_
    rintro e w2 ⟨rfl,rfl⟩;have HR2:=HRW;have HX2:=HX;have HZ2:=HZ;have HG2:=HGW;obtain ⟨⟨y0,y1,y2,y3,y4⟩,yf⟩:=HX2.o;have yf3:=yf 3;obtain ⟨⟨z0,z1,z2,z3,z4⟩,zf⟩:=HZ2.o;have zf0:=zf 0;have zf1:=zf 1;have zf2:=zf 2;have zf3:=zf 3;have zf4:=zf 4;clear HF HW yf zf
    go_wp2_with fail
    refine (K1.o _ HR2.o).mono ?_
    rintro e w3 ⟨hg,u,q,rfl,⟨v0,rfl,hu0,hu1⟩,hr⟩;have ha2:=Hm (Qe HX2.o hg (by omega));have hb2:=Hm (Qe HZ2.o hg (by omega));have hc2:=Hm (Qa HG2.o hg);have hd2:=Hm hr;clear y0 y1 y2 y3 y4 yf3 z0 z1 z2 z3 z4 zf0 zf1 zf2 zf3 zf4;obtain ⟨⟨y0,y1,y2,y3,y4⟩,yf⟩:=ha2.o;have yf3:=yf 3;obtain ⟨⟨z0,z1,z2,z3,z4⟩,zf⟩:=hb2.o;have zf0:=zf 0;have zf1:=zf 1;have zf2:=zf 2;have zf3:=zf 3;have zf4:=zf 4;clear hg hr yf zf;have KL:=Hm (λV=>slow32 v0 V hu0 hu1)
    go_wp2_with fail
    refine (KL.o _).mono ?_
    rintro e w9 ⟨rfl,rfl⟩;have HG3:=Hm (QT hc2.o (show w.heap.size<=w.heap.size+1 by omega) 3 (.int .u64 (v0%4294967296)));have HR3:=Hm (hd2.o.far (show s<w.heap.size+1 by omega) 3 (.int .u64 (v0%4294967296)))
    go_wp2_with fail
    exact bodyPost_ret (v:=inV (⟨op,0,0,v0%4294967296,[]⟩:In) none 0) (by simp [results,Tryz.results39,go_sem,y0,y1,y2,y3,y4,z0,z1,z2,z3,z4]) rfl (by
     obtain ⟨t1,t2⟩:=QZ HR3.o HG3.o hsl
     exact ⟨t1,_,_,_,rfl,hne,_,_,t2⟩)
   |ok v1 p1 =>
    show Calls _ _ _ _ (SiP (.ok ⟨op,0,0,v1%4294967296,[]⟩ p1) _ _ _ _ _)
    clear hnz1;obtain ⟨hv0,hv1⟩:=hbd1 v1 p1 rfl;clear hbd1
    go_enter Tryz.func39,Tryz.ntmps39
    go_wp2_with fail
    rw [<- HW.o]
    refine (HF.o _).mono ?_
    rintro e w2 ⟨rfl,rfl⟩;have HR2:=HRW;have HX2:=HX;have HZ2:=HZ;have HG2:=HGW;obtain ⟨⟨y0,y1,y2,y3,y4⟩,yf⟩:=HX2.o;have yf3:=yf 3;obtain ⟨⟨z0,z1,z2,z3,z4⟩,zf⟩:=HZ2.o;have zf0:=zf 0;have zf1:=zf 1;have zf2:=zf 2;have zf3:=zf 3;have zf4:=zf 4;clear HF HW yf zf
    go_wp2_with fail
    refine (K1.o _ HR2.o).mono ?_
    rintro e w3 ⟨hg,rfl,hr⟩;have ha2:=Hm (Qe HX2.o hg (by omega));have hb2:=Hm (Qe HZ2.o hg (by omega));have hc2:=Hm (Qa HG2.o hg);have hd2:=Hm hr;clear y0 y1 y2 y3 y4 yf3 z0 z1 z2 z3 z4 zf0 zf1 zf2 zf3 zf4;obtain ⟨⟨y0,y1,y2,y3,y4⟩,yf⟩:=ha2.o;have yf3:=yf 3;obtain ⟨⟨z0,z1,z2,z3,z4⟩,zf⟩:=hb2.o;have zf0:=zf 0;have zf1:=zf 1;have zf2:=zf 2;have zf3:=zf 3;have zf4:=zf 4;clear hg hr yf zf;have KL:=Hm (λV=>slow32 v1 V hv0 hv1)
    go_wp2_with fail
    refine (KL.o _).mono ?_
    rintro e w9 ⟨rfl,rfl⟩;have HG3:=Hm (QT hc2.o (show w.heap.size<=w.heap.size+1 by omega) 3 (.int .u64 (v1%4294967296)));have HR3:=Hm (hd2.o.far (show s<w.heap.size+1 by omega) 3 (.int .u64 (v1%4294967296)))
    go_wp2_with fail
    exact bodyPost_ret (v:=inV (⟨op,0,0,v1%4294967296,[]⟩:In) none 0) (by simp [results,Tryz.results39,go_sem,y0,y1,y2,y3,y4,z0,z1,z2,z3,z4]) rfl (by
     obtain ⟨t1,t2⟩:=QZ HR3.o HG3.o hsl
     exact ⟨t1,_,_,_,rfl,rfl,World.ownsRow_nil _ _ _ _,_,t2⟩)
 . show Calls _ _ _ _ (SiP ((Qp true 64 bs p).bind λv1 p1=>.ok ⟨op,0,0,v1,[]⟩ p1) _ _ _ _ _)
   have K1:=Hm (λV (hV:Sr V s ba bc bs p 0 0)=>lebL_sc s ba bc bs p V hV hA hl);have hnz1:(Qp true 64 bs p).nz:=JL _ _ _ _;have hbd1:=λv p1=>num_bd (s:=true) (B:=64) (bs:=bs) (p:=p) (p1:=p1) (v:=v);generalize Qp true 64 bs p=M1 at *
   cases M1 with
   |bad er a =>
    have hne:=hnz1 er a rfl;clear hnz1;clear hbd1
    go_enter Tryz.func39,Tryz.ntmps39
    go_wp2_with fail
    rw [<- HW.o]
    refine (HF.o _).mono ?_
    rintro e w2 ⟨rfl,rfl⟩;have HR2:=HRW;have HX2:=HX;have HZ2:=HZ;have HG2:=HGW;obtain ⟨⟨y0,y1,y2,y3,y4⟩,yf⟩:=HX2.o;have yf3:=yf 3;obtain ⟨⟨z0,z1,z2,z3,z4⟩,zf⟩:=HZ2.o;have zf0:=zf 0;have zf1:=zf 1;have zf2:=zf 2;have zf3:=zf 3;have zf4:=zf 4;clear HF HW yf zf
    go_wp2_with fail
    refine (K1.o _ HR2.o).mono ?_
    rintro e w3 ⟨hg,u,q,rfl,⟨v0,rfl,hu0,hu1⟩,hr⟩;have ha2:=Hm (Qe HX2.o hg (by omega));have hb2:=Hm (Qe HZ2.o hg (by omega));have hc2:=Hm (Qa HG2.o hg);have hd2:=Hm hr;clear y0 y1 y2 y3 y4 yf3 z0 z1 z2 z3 z4 zf0 zf1 zf2 zf3 zf4;obtain ⟨⟨y0,y1,y2,y3,y4⟩,yf⟩:=ha2.o;have yf3:=yf 3;obtain ⟨⟨z0,z1,z2,z3,z4⟩,zf⟩:=hb2.o;have zf0:=zf 0;have zf1:=zf 1;have zf2:=zf 2;have zf3:=zf 3;have zf4:=zf 4;clear hg hr yf zf;have HG3:=Hm (QT hc2.o (show w.heap.size<=w.heap.size+1 by omega) 3 (.int .u64 v0));have HR3:=Hm (hd2.o.far (show s<w.heap.size+1 by omega) 3 (.int .u64 v0))
    go_wp2_with fail
    exact bodyPost_ret (v:=inV (⟨op,0,0,v0,[]⟩:In) none 0) (by simp [results,Tryz.results39,go_sem,y0,y1,y2,y3,y4,z0,z1,z2,z3,z4]) rfl (by
     obtain ⟨t1,t2⟩:=QZ HR3.o HG3.o hsl
     exact ⟨t1,_,_,_,rfl,hne,_,_,t2⟩)
   |ok v1 p1 =>
    show Calls _ _ _ _ (SiP (.ok ⟨op,0,0,v1,[]⟩ p1) _ _ _ _ _)
    clear hnz1;obtain ⟨hv0,hv1⟩:=hbd1 v1 p1 rfl;clear hbd1
    go_enter Tryz.func39,Tryz.ntmps39
    go_wp2_with fail
    rw [<- HW.o]
    refine (HF.o _).mono ?_
    rintro e w2 ⟨rfl,rfl⟩;have HR2:=HRW;have HX2:=HX;have HZ2:=HZ;have HG2:=HGW;obtain ⟨⟨y0,y1,y2,y3,y4⟩,yf⟩:=HX2.o;have yf3:=yf 3;obtain ⟨⟨z0,z1,z2,z3,z4⟩,zf⟩:=HZ2.o;have zf0:=zf 0;have zf1:=zf 1;have zf2:=zf 2;have zf3:=zf 3;have zf4:=zf 4;clear HF HW yf zf
    go_wp2_with fail
    refine (K1.o _ HR2.o).mono ?_
    rintro e w3 ⟨hg,rfl,hr⟩;have ha2:=Hm (Qe HX2.o hg (by omega));have hb2:=Hm (Qe HZ2.o hg (by omega));have hc2:=Hm (Qa HG2.o hg);have hd2:=Hm hr;clear y0 y1 y2 y3 y4 yf3 z0 z1 z2 z3 z4 zf0 zf1 zf2 zf3 zf4;obtain ⟨⟨y0,y1,y2,y3,y4⟩,yf⟩:=ha2.o;have yf3:=yf 3;obtain ⟨⟨z0,z1,z2,z3,z4⟩,zf⟩:=hb2.o;have zf0:=zf 0;have zf1:=zf 1;have zf2:=zf 2;have zf3:=zf 3;have zf4:=zf 4;clear hg hr yf zf;have HG3:=Hm (QT hc2.o (show w.heap.size<=w.heap.size+1 by omega) 3 (.int .u64 v1));have HR3:=Hm (hd2.o.far (show s<w.heap.size+1 by omega) 3 (.int .u64 v1))
    go_wp2_with fail
    exact bodyPost_ret (v:=inV (⟨op,0,0,v1,[]⟩:In) none 0) (by simp [results,Tryz.results39,go_sem,y0,y1,y2,y3,y4,z0,z1,z2,z3,z4]) rfl (by
     obtain ⟨t1,t2⟩:=QZ HR3.o HG3.o hsl
     exact ⟨t1,_,_,_,rfl,rfl,World.ownsRow_nil _ _ _ _,_,t2⟩)
def sins_0:=λs ba bc bs p op dep w hf h hA hl=>sins_x s ba bc bs p op dep w (0) (.inl rfl) hf h hA hl
def sins_2:=λs ba bc bs p op dep w hf h hA hl=>sins_x s ba bc bs p op dep w (2) (.inr (.inl rfl)) hf h hA hl
def sins_6:=λs ba bc bs p op dep w hf h hA hl=>sins_x s ba bc bs p op dep w (6) (.inr (.inr (.inl rfl))) hf h hA hl
def sins_7:=λs ba bc bs p op dep w hf h hA hl=>sins_x s ba bc bs p op dep w (7) (.inr (.inr (.inr (.inl rfl)))) hf h hA hl
def sins_8:=λs ba bc bs p op dep w hf h hA hl=>sins_x s ba bc bs p op dep w (8) (.inr (.inr (.inr (.inr (rfl))))) hf h hA hl
end Go.Proofs.YtipfjdogokanbaaGreatDoor.Ed
namespace Go.Proofs.YtipfjdogokanbaaGreatDoor.Ed
open Go.RowKit Go.Sort
theorem sinse_0 (s:Nat)(ba:Option Addr)(bc:BC)(bs:List Int)(p:Nat)(er a op dep:Int)(w:World)(hf:Qd (Qb op)=0)(hne:er≠0)(h:Sr w s ba bc bs p er a) :
    Calls Tryz.prog 39 #[.pointer (some ⟨s,0,none⟩),.int .i64 op,.int .i64 dep] w (SiP (.bad er a) w s ba bc.n bs):=by
 have HF:=Hm (Qr op);rw [hf] at HF;obtain ⟨W,hW,hz,hx,hb⟩:=Gm w op;have hsl:s<w.heap.size:=h.lt;have HW:=Hm hW;have HZ:=Hm hz;have HX:=Hm hx;have HRW:=Hm (h.keep hb);have HGW:=Hm (show w.grownBy W (some s) from Qo hb);clear hf hW hz hx hb h
 go_enter Tryz.func39,Tryz.ntmps39
 go_wp2_with fail
 rw [<- HW.o]
 refine (HF.o _).mono ?_
 rintro e w2 ⟨rfl,rfl⟩;have HR2:=HRW;have HX2:=HX;have HZ2:=HZ;have HG2:=HGW;obtain ⟨⟨y0,y1,y2,y3,y4⟩,yf⟩:=HX2.o;obtain ⟨⟨z0,z1,z2,z3,z4⟩,zf⟩:=HZ2.o;have zf0:=zf 0;have zf1:=zf 1;have zf2:=zf 2;have zf3:=zf 3;have zf4:=zf 4;clear HF HW yf zf
 go_wp2_with fail
 exact bodyPost_ret (v:=inV (⟨op,0,0,0,[]⟩:In) none 0) (by simp [results,Tryz.results39,go_sem,y0,y1,y2,y3,y4,z0,z1,z2,z3,z4]) rfl (by
  obtain ⟨t1,t2⟩:=QZ HR2.o HG2.o hsl
  exact ⟨t1,_,_,_,rfl,hne,_,_,t2⟩)
theorem sinse_m1 (s:Nat)(ba:Option Addr)(bc:BC)(bs:List Int)(p:Nat)(er a op dep:Int)(w:World)(hf:Qd (Qb op)=-1)(hne:er≠0)(h:Sr w s ba bc bs p er a) :
    Calls Tryz.prog 39 #[.pointer (some ⟨s,0,none⟩),.int .i64 op,.int .i64 dep] w (SiP (.bad er a) w s ba bc.n bs):=by
 have HF:=Hm (Qr op);rw [hf] at HF;obtain ⟨W,hW,hz,hx,hb⟩:=Gm w op;have hsl:s<w.heap.size:=h.lt;have HW:=Hm hW;have HZ:=Hm hz;have HX:=Hm hx;have HRW:=Hm (h.keep hb);have HGW:=Hm (show w.grownBy W (some s) from Qo hb);clear hf hW hz hx hb h
 go_enter Tryz.func39,Tryz.ntmps39
 go_wp2_with fail
 rw [<- HW.o]
 refine (HF.o _).mono ?_
 rintro e w2 ⟨rfl,rfl⟩;have HR2:=HRW;have HX2:=HX;have HZ2:=HZ;have HG2:=HGW;obtain ⟨⟨y0,y1,y2,y3,y4⟩,yf⟩:=HX2.o;obtain ⟨⟨z0,z1,z2,z3,z4⟩,zf⟩:=HZ2.o;have zf0:=zf 0;have zf1:=zf 1;have zf2:=zf 2;have zf3:=zf 3;have zf4:=zf 4;clear HF HW yf zf
 go_wp2_with fail
 exact bodyPost_ret (v:=inV (⟨op,0,0,0,[]⟩:In) none 0) (by simp [results,Tryz.results39,go_sem,y0,y1,y2,y3,y4,z0,z1,z2,z3,z4]) rfl (by
  obtain ⟨t1,t2⟩:=QZ HR2.o HG2.o hsl
  exact ⟨t1,_,_,_,rfl,hne,_,_,t2⟩)
end Go.Proofs.YtipfjdogokanbaaGreatDoor.Ed
