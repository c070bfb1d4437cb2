import Derived.Test.YtipfjdogokanbaaGreatDoorGaa
import Derived.Test.YtipfjdogokanbaaGreatDoorGbe
set_option linter.all false
set_option maxHeartbeats 400000000
set_option maxRecDepth 100000
set_option linter.all false
namespace Go.Proofs.YtipfjdogokanbaaGreatDoor.Ed
open Go.RowKit Go.Sort
theorem X1 (q:Nat)(ba:Option Addr)(bc:Nat)(bs:List Int)(p:Nat)(op:Int)(w:World)(kk_:Int)(hk_:kk_=0\/kk_=1\/kk_=2\/kk_=4\/kk_=5\/kk_=6\/kk_=7\/kk_=8\/kk_=9\/kk_=10)(hf:Qd (Qb op)=kk_)(h:Rd w q ba bc bs p)(hA:Qt bs)(hl:bs.length<=1099511627776) :
    Calls Tryz.prog 25 #[.pointer (some ⟨q,0,none⟩),.int .i64 op] w (RiP (Q4 kk_ op bs p) w q ba bc bs):=by
 have HF:=Hm (Qu op);rw [hf] at HF;obtain ⟨W,hW,hz,hx,hb⟩:=Gm w op;have HW:=Hm hW;have HZ:=Hm hz;have HX:=Hm hx;have HRW:=Hm (h.keep hb);have HGW:=Hm (show w.grownBy W (some q) from Qo hb);have LR:=Hm (lies_of h (Nat.le_refl _));have LX:=Hm (lies_of h (show w.heap.size<=w.heap.size+1 by omega));clear hf hW hz hx hb h
 go_enter Tryz.func25,Tryz.ntmps25
 go_wp2_with fail
 rw [<- HW.o]
 refine (HF.o _).mono ?_
 rintro e w2 ⟨rfl,hb2⟩;have HR2:=Hm (HRW.o.keep hb2);have HX2:=Hm (HX.o.keep hb2);have HZ2:=Hm (HZ.o.keep hb2);have HG2:=Hm (Qa HGW.o (Qo (r:=some q) hb2));clear hb2 HF HW HRW HX HZ HGW
 rcases hk_ with rfl|rfl|rfl|rfl|rfl|rfl|rfl|rfl|rfl|rfl
 . have HD:Hid (Q4 0 op bs p=.ok ⟨op,0,0,0,[]⟩ p):=rfl;obtain ⟨⟨y0,y1,y2,y3,y4⟩,yf⟩:=HX2.o;obtain ⟨⟨z0,z1,z2,z3,z4⟩,zf⟩:=HZ2.o;have zf0:=zf 0;have zf1:=zf 1;have zf2:=zf 2;have zf3:=zf 3;have zf4:=zf 4;clear zf yf
   go_wp2_with fail
   exact bodyPost_ret (v:=inV (⟨op,0,0,0,[]⟩:In) none 0) (by simp [results,Tryz.results25,go_sem,y0,y1,y2,y3,y4,z0,z1,z2,z3,z4]) rfl (by
    obtain ⟨t1,t2,t3⟩:=XH (x:=(⟨op,0,0,0,[]⟩:In)) (la:=none) (lc:=0) HR2.o HG2.o LR.o (World.ownsRow_nil _ _ _ _) (by simp [Value.ownBlock])
    refine ⟨t1,?_⟩
    rw [HD.o]
    exact ⟨none,0,rfl,t2,t3,(Nat.zero_le _)⟩)
 . have HD:Hid (Q4 1 op bs p=(onlyM bs p).bind λv1 p1=>.ok ⟨op,v1,0,0,[]⟩ p1):=rfl;have K1:=Hm (λV p_ (hV:Rd V q ba bc bs p_)=>only_c q ba bc bs p_ V hV hA hl)
   go_wp2_with fail
   refine (K1.o _ _ HR2.o).mono ?_
   rintro e w3 ⟨hg,hm⟩
   rcases hM:onlyM bs p with ⟨er,at_⟩|⟨v1,p1⟩
   . rw [hM] at hm;subst hm
     refine ⟨rfl,Qa HG2.o hg,?_⟩
     rw [HD.o]
     simp only [hM,Rs.bind]
   have HM1:=Hm hM;rw [hM] at hm;obtain ⟨rfl,hr⟩:=hm;clear hM;have ha2:=Hm (Qe HX2.o hg LX.o.ne);have hb2:=Hm (Qe HZ2.o hg LR.o.ne);have hc2:=Hm (Qa HG2.o hg);have hd2:=Hm hr;obtain ⟨⟨y0,y1,y2,y3,y4⟩,yf⟩:=ha2.o;have yf1:=yf 1;obtain ⟨⟨z0,z1,z2,z3,z4⟩,zf⟩:=hb2.o;have zf0:=zf 0;have zf1:=zf 1;have zf2:=zf 2;have zf3:=zf 3;have zf4:=zf 4;clear yf zf;clear hg hr HX2 HZ2 HG2 HR2;have HG3:=Hm (Q2 hc2.o LX.o 1 (.int .i64 v1));have HR3:=Hm (hd2.o.far LX.o 1 (.int .i64 v1))
   go_wp2_with fail
   exact bodyPost_ret (v:=inV (⟨op,v1,0,0,[]⟩:In) none 0) (by simp [results,Tryz.results25,go_sem,y0,y1,y2,y3,y4,z0,z1,z2,z3,z4]) rfl (by
    obtain ⟨t1,t2,t3⟩:=XH (x:=(⟨op,v1,0,0,[]⟩:In)) (la:=none) (lc:=0) HR3.o HG3.o LR.o (World.ownsRow_nil _ _ _ _) (by simp [Value.ownBlock])
    refine ⟨t1,?_⟩
    rw [HD.o]
    simp only [HM1.o,Rs.bind]
    exact ⟨none,0,rfl,t2,t3,(Nat.zero_le _)⟩)
 . have HD:Hid (Q4 2 op bs p=(Qp false 32 bs p).bind λv1 p1=>.ok ⟨op,v1,0,0,[]⟩ p1):=rfl;have K1:=Hm (λV p_ (hV:Rd V q ba bc bs p_)=>u32_rc q ba bc bs p_ V hV hA hl)
   go_wp2_with fail
   refine (K1.o _ _ HR2.o).mono ?_
   rintro e w3 ⟨hg,hm⟩
   rcases hM:Qp false 32 bs p with ⟨er,at_⟩|⟨v1,p1⟩
   . rw [hM] at hm;subst hm
     refine ⟨rfl,Qa HG2.o hg,?_⟩
     rw [HD.o]
     simp only [hM,Rs.bind]
   have HM1:=Hm hM;rw [hM] at hm;obtain ⟨rfl,hr⟩:=hm;clear hM;have ha2:=Hm (Qe HX2.o hg LX.o.ne);have hb2:=Hm (Qe HZ2.o hg LR.o.ne);have hc2:=Hm (Qa HG2.o hg);have hd2:=Hm hr;obtain ⟨⟨y0,y1,y2,y3,y4⟩,yf⟩:=ha2.o;have yf1:=yf 1;obtain ⟨⟨z0,z1,z2,z3,z4⟩,zf⟩:=hb2.o;have zf0:=zf 0;have zf1:=zf 1;have zf2:=zf 2;have zf3:=zf 3;have zf4:=zf 4;clear yf zf;clear hg hr HX2 HZ2 HG2 HR2;have HG3:=Hm (Q2 hc2.o LX.o 1 (.int .i64 v1));have HR3:=Hm (hd2.o.far LX.o 1 (.int .i64 v1))
   go_wp2_with fail
   exact bodyPost_ret (v:=inV (⟨op,v1,0,0,[]⟩:In) none 0) (by simp [results,Tryz.results25,go_sem,y0,y1,y2,y3,y4,z0,z1,z2,z3,z4]) rfl (by
    obtain ⟨t1,t2,t3⟩:=XH (x:=(⟨op,v1,0,0,[]⟩:In)) (la:=none) (lc:=0) HR3.o HG3.o LR.o (World.ownsRow_nil _ _ _ _) (by simp [Value.ownBlock])
    refine ⟨t1,?_⟩
    rw [HD.o]
    simp only [HM1.o,Rs.bind]
    exact ⟨none,0,rfl,t2,t3,(Nat.zero_le _)⟩)
 . have HD:Hid (Q4 4 op bs p=(Qp false 32 bs p).bind λv1 p1=>(JA bs p1).bind λv2 p2=>.ok ⟨op,v1,0,0,[]⟩ p2):=rfl;have K1:=Hm (λV p_ (hV:Rd V q ba bc bs p_)=>u32_rc q ba bc bs p_ V hV hA hl);have K2:=Hm (λV p_ (hV:Rd V q ba bc bs p_)=>mark_rc q ba bc bs p_ V hV hA hl)
   go_wp2_with fail
   refine (K1.o _ _ HR2.o).mono ?_
   rintro e w3 ⟨hg,hm⟩
   rcases hM:Qp false 32 bs p with ⟨er,at_⟩|⟨v1,p1⟩
   . rw [hM] at hm;subst hm
     refine ⟨rfl,Qa HG2.o hg,?_⟩
     rw [HD.o]
     simp only [hM,Rs.bind]
   have HM1:=Hm hM;rw [hM] at hm;obtain ⟨rfl,hr⟩:=hm;clear hM;have ha2:=Hm (Qe HX2.o hg LX.o.ne);have hb2:=Hm (Qe HZ2.o hg LR.o.ne);have hc2:=Hm (Qa HG2.o hg);have hd2:=Hm hr;have u1:=ha2.o.1.2.1;have uf1:=ha2.o.2 1;clear hg hr HX2 HZ2 HG2 HR2;have HX3:=Hm (Jp (v:=.int .i64 v1) ha2.o);have HZ3:=Hm (Ja (X:=w.heap.size+1) (i:=1) (v:=.int .i64 v1) hb2.o (by omega));have HG3:=Hm (Q2 hc2.o LX.o 1 (.int .i64 v1));have HR3:=Hm (hd2.o.far LX.o 1 (.int .i64 v1))
   go_wp2_with fail
   refine (K2.o _ _ HR3.o).mono ?_
   rintro e w4 ⟨hg,hm⟩
   rcases hM:JA bs p1 with ⟨er,at_⟩|⟨v2,p2⟩
   . rw [hM] at hm;subst hm
     refine ⟨rfl,Qa HG3.o hg,?_⟩
     rw [HD.o]
     simp only [HM1.o,hM,Rs.bind]
   have HM2:=Hm hM;rw [hM] at hm;obtain ⟨rfl,hr⟩:=hm;clear hM;have ha3:=Hm (Qe HX3.o hg LX.o.ne);have hb3:=Hm (Qe HZ3.o hg LR.o.ne);have hc3:=Hm (Qa HG3.o hg);have hd3:=Hm hr;obtain ⟨⟨y0,y1,y2,y3,y4⟩,yf⟩:=ha3.o;obtain ⟨⟨z0,z1,z2,z3,z4⟩,zf⟩:=hb3.o;have zf0:=zf 0;have zf1:=zf 1;have zf2:=zf 2;have zf3:=zf 3;have zf4:=zf 4;clear yf zf;clear hg hr HX3 HZ3 HG3 HR3;have HX4:=ha3;have HZ4:=hb3;have HG4:=hc3;have HR4:=hd3
   go_wp2_with fail
   exact bodyPost_ret (v:=inV (⟨op,v1,0,0,[]⟩:In) none 0) (by simp [results,Tryz.results25,go_sem,y0,y1,y2,y3,y4,z0,z1,z2,z3,z4]) rfl (by
    obtain ⟨t1,t2,t3⟩:=XH (x:=(⟨op,v1,0,0,[]⟩:In)) (la:=none) (lc:=0) HR4.o HG4.o LR.o (World.ownsRow_nil _ _ _ _) (by simp [Value.ownBlock])
    refine ⟨t1,?_⟩
    rw [HD.o]
    simp only [HM1.o,HM2.o,Rs.bind]
    exact ⟨none,0,rfl,t2,t3,(Nat.zero_le _)⟩)
 . have HD:Hid (Q4 5 op bs p=(Qp false 32 bs p).bind λv1 p1=>(Qp false 32 bs p1).bind λv2 p2=>.ok ⟨op,v1,v2,0,[]⟩ p2):=rfl;have K1:=Hm (λV p_ (hV:Rd V q ba bc bs p_)=>u32_rc q ba bc bs p_ V hV hA hl);have K2:=Hm (λV p_ (hV:Rd V q ba bc bs p_)=>u32_rc q ba bc bs p_ V hV hA hl)
   go_wp2_with fail
   refine (K1.o _ _ HR2.o).mono ?_
   rintro e w3 ⟨hg,hm⟩
   rcases hM:Qp false 32 bs p with ⟨er,at_⟩|⟨v1,p1⟩
   . rw [hM] at hm;subst hm
     refine ⟨rfl,Qa HG2.o hg,?_⟩
     rw [HD.o]
     simp only [hM,Rs.bind]
   have HM1:=Hm hM;rw [hM] at hm;obtain ⟨rfl,hr⟩:=hm;clear hM;have ha2:=Hm (Qe HX2.o hg LX.o.ne);have hb2:=Hm (Qe HZ2.o hg LR.o.ne);have hc2:=Hm (Qa HG2.o hg);have hd2:=Hm hr;have u1:=ha2.o.1.2.1;have uf1:=ha2.o.2 1;clear hg hr HX2 HZ2 HG2 HR2;have HX3:=Hm (Jp (v:=.int .i64 v1) ha2.o);have HZ3:=Hm (Ja (X:=w.heap.size+1) (i:=1) (v:=.int .i64 v1) hb2.o (by omega));have HG3:=Hm (Q2 hc2.o LX.o 1 (.int .i64 v1));have HR3:=Hm (hd2.o.far LX.o 1 (.int .i64 v1))
   go_wp2_with fail
   refine (K2.o _ _ HR3.o).mono ?_
   rintro e w4 ⟨hg,hm⟩
   rcases hM:Qp false 32 bs p1 with ⟨er,at_⟩|⟨v2,p2⟩
   . rw [hM] at hm;subst hm
     refine ⟨rfl,Qa HG3.o hg,?_⟩
     rw [HD.o]
     simp only [HM1.o,hM,Rs.bind]
   have HM2:=Hm hM;rw [hM] at hm;obtain ⟨rfl,hr⟩:=hm;clear hM;have ha3:=Hm (Qe HX3.o hg LX.o.ne);have hb3:=Hm (Qe HZ3.o hg LR.o.ne);have hc3:=Hm (Qa HG3.o hg);have hd3:=Hm hr;obtain ⟨⟨y0,y1,y2,y3,y4⟩,yf⟩:=ha3.o;have yf2:=yf 2;obtain ⟨⟨z0,z1,z2,z3,z4⟩,zf⟩:=hb3.o;have zf0:=zf 0;have zf1:=zf 1;have zf2:=zf 2;have zf3:=zf 3;have zf4:=zf 4;clear yf zf;clear hg hr HX3 HZ3 HG3 HR3;have HG4:=Hm (Q2 hc3.o LX.o 2 (.int .i64 v2));have HR4:=Hm (hd3.o.far LX.o 2 (.int .i64 v2))
   go_wp2_with fail
   exact bodyPost_ret (v:=inV (⟨op,v1,v2,0,[]⟩:In) none 0) (by simp [results,Tryz.results25,go_sem,y0,y1,y2,y3,y4,z0,z1,z2,z3,z4]) rfl (by
    obtain ⟨t1,t2,t3⟩:=XH (x:=(⟨op,v1,v2,0,[]⟩:In)) (la:=none) (lc:=0) HR4.o HG4.o LR.o (World.ownsRow_nil _ _ _ _) (by simp [Value.ownBlock])
    refine ⟨t1,?_⟩
    rw [HD.o]
    simp only [HM1.o,HM2.o,Rs.bind]
    exact ⟨none,0,rfl,t2,t3,(Nat.zero_le _)⟩)
 . have HD:Hid (Q4 6 op bs p=(JA bs p).bind λv1 p1=>.ok ⟨op,0,0,0,[]⟩ p1):=rfl;have K1:=Hm (λV p_ (hV:Rd V q ba bc bs p_)=>mark_rc q ba bc bs p_ V hV hA hl)
   go_wp2_with fail
   refine (K1.o _ _ HR2.o).mono ?_
   rintro e w3 ⟨hg,hm⟩
   rcases hM:JA bs p with ⟨er,at_⟩|⟨v1,p1⟩
   . rw [hM] at hm;subst hm
     refine ⟨rfl,Qa HG2.o hg,?_⟩
     rw [HD.o]
     simp only [hM,Rs.bind]
   have HM1:=Hm hM;rw [hM] at hm;obtain ⟨rfl,hr⟩:=hm;clear hM;have ha2:=Hm (Qe HX2.o hg LX.o.ne);have hb2:=Hm (Qe HZ2.o hg LR.o.ne);have hc2:=Hm (Qa HG2.o hg);have hd2:=Hm hr;obtain ⟨⟨y0,y1,y2,y3,y4⟩,yf⟩:=ha2.o;obtain ⟨⟨z0,z1,z2,z3,z4⟩,zf⟩:=hb2.o;have zf0:=zf 0;have zf1:=zf 1;have zf2:=zf 2;have zf3:=zf 3;have zf4:=zf 4;clear yf zf;clear hg hr HX2 HZ2 HG2 HR2;have HX3:=ha2;have HZ3:=hb2;have HG3:=hc2;have HR3:=hd2
   go_wp2_with fail
   exact bodyPost_ret (v:=inV (⟨op,0,0,0,[]⟩:In) none 0) (by simp [results,Tryz.results25,go_sem,y0,y1,y2,y3,y4,z0,z1,z2,z3,z4]) rfl (by
    obtain ⟨t1,t2,t3⟩:=XH (x:=(⟨op,0,0,0,[]⟩:In)) (la:=none) (lc:=0) HR3.o HG3.o LR.o (World.ownsRow_nil _ _ _ _) (by simp [Value.ownBlock])
    refine ⟨t1,?_⟩
    rw [HD.o]
    simp only [HM1.o,Rs.bind]
    exact ⟨none,0,rfl,t2,t3,(Nat.zero_le _)⟩)
 . have HD:Hid (Q4 7 op bs p=(Qp true 32 bs p).bind λv1 p1=>.ok ⟨op,0,0,v1%4294967296,[]⟩ p1):=rfl;have K1:=Hm (λV p_ (hV:Rd V q ba bc bs p_)=>numS_c q ba bc bs p_ 32 V hV hA hl (by omega) (by omega))
   go_wp2_with fail
   refine (K1.o _ _ HR2.o).mono ?_
   rintro e w3 ⟨hg,hm⟩;have hbd:=λv p1=>num_bd (s:=true) (B:=32) (bs:=bs) (p:=p) (p1:=p1) (v:=v)
   rcases hM:Qp true 32 bs p with ⟨er,at_⟩|⟨v1,p1⟩
   . rw [hM] at hm;subst hm
     refine ⟨rfl,Qa HG2.o hg,?_⟩
     rw [HD.o]
     simp only [hM,Rs.bind]
   have HM1:=Hm hM;rw [hM] at hm;obtain ⟨rfl,hr⟩:=hm;obtain ⟨hv0,hv1⟩:=hbd v1 p1 hM;clear hbd;clear hM;have ha2:=Hm (Qe HX2.o hg LX.o.ne);have hb2:=Hm (Qe HZ2.o hg LR.o.ne);have hc2:=Hm (Qa HG2.o hg);have hd2:=Hm hr;obtain ⟨⟨y0,y1,y2,y3,y4⟩,yf⟩:=ha2.o;have yf3:=yf 3;obtain ⟨⟨z0,z1,z2,z3,z4⟩,zf⟩:=hb2.o;have zf0:=zf 0;have zf1:=zf 1;have zf2:=zf 2;have zf3:=zf 3;have zf4:=zf 4;clear yf zf;clear hg hr HX2 HZ2 HG2 HR2;have HG3:=Hm (Q2 hc2.o LX.o 3 (.int .u64 (v1%4294967296)));have HR3:=Hm (hd2.o.far LX.o 3 (.int .u64 (v1%4294967296)))
   go_wp2_with fail
   exact bodyPost_ret (v:=inV (⟨op,0,0,v1%4294967296,[]⟩:In) none 0) (by simp [results,Tryz.results25,go_sem,y0,y1,y2,y3,y4,z0,z1,z2,z3,z4]) rfl (by
    obtain ⟨t1,t2,t3⟩:=XH (x:=(⟨op,0,0,v1%4294967296,[]⟩:In)) (la:=none) (lc:=0) HR3.o HG3.o LR.o (World.ownsRow_nil _ _ _ _) (by simp [Value.ownBlock])
    refine ⟨t1,?_⟩
    rw [HD.o]
    simp only [HM1.o,Rs.bind]
    exact ⟨none,0,rfl,t2,t3,(Nat.zero_le _)⟩)
 . have HD:Hid (Q4 8 op bs p=(Qp true 64 bs p).bind λv1 p1=>.ok ⟨op,0,0,v1,[]⟩ p1):=rfl;have K1:=Hm (λV p_ (hV:Rd V q ba bc bs p_)=>numS_c q ba bc bs p_ 64 V hV hA hl (by omega) (by omega))
   go_wp2_with fail
   refine (K1.o _ _ HR2.o).mono ?_
   rintro e w3 ⟨hg,hm⟩;have hbd:=λv p1=>num_bd (s:=true) (B:=64) (bs:=bs) (p:=p) (p1:=p1) (v:=v)
   rcases hM:Qp true 64 bs p with ⟨er,at_⟩|⟨v1,p1⟩
   . rw [hM] at hm;subst hm
     refine ⟨rfl,Qa HG2.o hg,?_⟩
     rw [HD.o]
     simp only [hM,Rs.bind]
   have HM1:=Hm hM;rw [hM] at hm;obtain ⟨rfl,hr⟩:=hm;obtain ⟨hv0,hv1⟩:=hbd v1 p1 hM;clear hbd;clear hM;have ha2:=Hm (Qe HX2.o hg LX.o.ne);have hb2:=Hm (Qe HZ2.o hg LR.o.ne);have hc2:=Hm (Qa HG2.o hg);have hd2:=Hm hr;obtain ⟨⟨y0,y1,y2,y3,y4⟩,yf⟩:=ha2.o;have yf3:=yf 3;obtain ⟨⟨z0,z1,z2,z3,z4⟩,zf⟩:=hb2.o;have zf0:=zf 0;have zf1:=zf 1;have zf2:=zf 2;have zf3:=zf 3;have zf4:=zf 4;clear yf zf;clear hg hr HX2 HZ2 HG2 HR2;have HG3:=Hm (Q2 hc2.o LX.o 3 (.int .u64 v1));have HR3:=Hm (hd2.o.far LX.o 3 (.int .u64 v1))
   go_wp2_with fail
   exact bodyPost_ret (v:=inV (⟨op,0,0,v1,[]⟩:In) none 0) (by simp [results,Tryz.results25,go_sem,y0,y1,y2,y3,y4,z0,z1,z2,z3,z4]) rfl (by
    obtain ⟨t1,t2,t3⟩:=XH (x:=(⟨op,0,0,v1,[]⟩:In)) (la:=none) (lc:=0) HR3.o HG3.o LR.o (World.ownsRow_nil _ _ _ _) (by simp [Value.ownBlock])
    refine ⟨t1,?_⟩
    rw [HD.o]
    simp only [HM1.o,Rs.bind]
    exact ⟨none,0,rfl,t2,t3,(Nat.zero_le _)⟩)
 . have HD:Hid (Q4 9 op bs p=(JN bs p 4).bind λv1 p1=>.ok ⟨op,0,0,v1,[]⟩ p1):=rfl;have K1:=Hm (λV p_ (hV:Rd V q ba bc bs p_)=>flt_rc q ba bc bs p_ 4 V hV hA hl (by omega))
   go_wp2_with fail
   refine (K1.o _ _ HR2.o).mono ?_
   rintro e w3 ⟨hg,hm⟩
   rcases hM:JN bs p 4 with ⟨er,at_⟩|⟨v1,p1⟩
   . rw [hM] at hm;subst hm
     refine ⟨rfl,Qa HG2.o hg,?_⟩
     rw [HD.o]
     simp only [hM,Rs.bind]
   have HM1:=Hm hM;rw [hM] at hm;obtain ⟨rfl,hr⟩:=hm;clear hM;have ha2:=Hm (Qe HX2.o hg LX.o.ne);have hb2:=Hm (Qe HZ2.o hg LR.o.ne);have hc2:=Hm (Qa HG2.o hg);have hd2:=Hm hr;obtain ⟨⟨y0,y1,y2,y3,y4⟩,yf⟩:=ha2.o;have yf3:=yf 3;obtain ⟨⟨z0,z1,z2,z3,z4⟩,zf⟩:=hb2.o;have zf0:=zf 0;have zf1:=zf 1;have zf2:=zf 2;have zf3:=zf 3;have zf4:=zf 4;clear yf zf;clear hg hr HX2 HZ2 HG2 HR2;have HG3:=Hm (Q2 hc2.o LX.o 3 (.int .u64 v1));have HR3:=Hm (hd2.o.far LX.o 3 (.int .u64 v1))
   go_wp2_with fail
   exact bodyPost_ret (v:=inV (⟨op,0,0,v1,[]⟩:In) none 0) (by simp [results,Tryz.results25,go_sem,y0,y1,y2,y3,y4,z0,z1,z2,z3,z4]) rfl (by
    obtain ⟨t1,t2,t3⟩:=XH (x:=(⟨op,0,0,v1,[]⟩:In)) (la:=none) (lc:=0) HR3.o HG3.o LR.o (World.ownsRow_nil _ _ _ _) (by simp [Value.ownBlock])
    refine ⟨t1,?_⟩
    rw [HD.o]
    simp only [HM1.o,Rs.bind]
    exact ⟨none,0,rfl,t2,t3,(Nat.zero_le _)⟩)
 . have HD:Hid (Q4 10 op bs p=(JN bs p 8).bind λv1 p1=>.ok ⟨op,0,0,v1,[]⟩ p1):=rfl;have K1:=Hm (λV p_ (hV:Rd V q ba bc bs p_)=>flt_rc q ba bc bs p_ 8 V hV hA hl (by omega))
   go_wp2_with fail
   refine (K1.o _ _ HR2.o).mono ?_
   rintro e w3 ⟨hg,hm⟩
   rcases hM:JN bs p 8 with ⟨er,at_⟩|⟨v1,p1⟩
   . rw [hM] at hm;subst hm
     refine ⟨rfl,Qa HG2.o hg,?_⟩
     rw [HD.o]
     simp only [hM,Rs.bind]
   have HM1:=Hm hM;rw [hM] at hm;obtain ⟨rfl,hr⟩:=hm;clear hM;have ha2:=Hm (Qe HX2.o hg LX.o.ne);have hb2:=Hm (Qe HZ2.o hg LR.o.ne);have hc2:=Hm (Qa HG2.o hg);have hd2:=Hm hr;obtain ⟨⟨y0,y1,y2,y3,y4⟩,yf⟩:=ha2.o;have yf3:=yf 3;obtain ⟨⟨z0,z1,z2,z3,z4⟩,zf⟩:=hb2.o;have zf0:=zf 0;have zf1:=zf 1;have zf2:=zf 2;have zf3:=zf 3;have zf4:=zf 4;clear yf zf;clear hg hr HX2 HZ2 HG2 HR2;have HG3:=Hm (Q2 hc2.o LX.o 3 (.int .u64 v1));have HR3:=Hm (hd2.o.far LX.o 3 (.int .u64 v1))
   go_wp2_with fail
   exact bodyPost_ret (v:=inV (⟨op,0,0,v1,[]⟩:In) none 0) (by simp [results,Tryz.results25,go_sem,y0,y1,y2,y3,y4,z0,z1,z2,z3,z4]) rfl (by
    obtain ⟨t1,t2,t3⟩:=XH (x:=(⟨op,0,0,v1,[]⟩:In)) (la:=none) (lc:=0) HR3.o HG3.o LR.o (World.ownsRow_nil _ _ _ _) (by simp [Value.ownBlock])
    refine ⟨t1,?_⟩
    rw [HD.o]
    simp only [HM1.o,Rs.bind]
    exact ⟨none,0,rfl,t2,t3,(Nat.zero_le _)⟩)
def rins_0:=λq ba bc bs p op w hf h hA hl=>X1 q ba bc bs p op w (0) (.inl rfl) hf h hA hl
def rins_1:=λq ba bc bs p op w hf h hA hl=>X1 q ba bc bs p op w (1) (.inr (.inl rfl)) hf h hA hl
def rins_2:=λq ba bc bs p op w hf h hA hl=>X1 q ba bc bs p op w (2) (.inr (.inr (.inl rfl))) hf h hA hl
def rins_4:=λq ba bc bs p op w hf h hA hl=>X1 q ba bc bs p op w (4) (.inr (.inr (.inr (.inl rfl)))) hf h hA hl
def rins_5:=λq ba bc bs p op w hf h hA hl=>X1 q ba bc bs p op w (5) (.inr (.inr (.inr (.inr (.inl rfl))))) hf h hA hl
def rins_6:=λq ba bc bs p op w hf h hA hl=>X1 q ba bc bs p op w (6) (.inr (.inr (.inr (.inr (.inr (.inl rfl)))))) hf h hA hl
def rins_7:=λq ba bc bs p op w hf h hA hl=>X1 q ba bc bs p op w (7) (.inr (.inr (.inr (.inr (.inr (.inr (.inl rfl))))))) hf h hA hl
def rins_8:=λq ba bc bs p op w hf h hA hl=>X1 q ba bc bs p op w (8) (.inr (.inr (.inr (.inr (.inr (.inr (.inr (.inl rfl)))))))) hf h hA hl
def rins_9:=λq ba bc bs p op w hf h hA hl=>X1 q ba bc bs p op w (9) (.inr (.inr (.inr (.inr (.inr (.inr (.inr (.inr (.inl rfl))))))))) hf h hA hl
def rins_10:=λq ba bc bs p op w hf h hA hl=>X1 q ba bc bs p op w (10) (.inr (.inr (.inr (.inr (.inr (.inr (.inr (.inr (.inr (rfl)))))))))) hf h hA hl
theorem rins_3k (n:Int)(p0:Nat)(n0:0<=n)(n1:n<=4294967295)(q:Nat)(ba:Option Addr)(bc:Nat)(bs:List Int)(p:Nat)(op:Int)(w:World)(hf:Qd (Qb op)=3)(h:Rd w q ba bc bs p)(hA:Qt bs)(hl:bs.length<=1099511627776)(K0:Hid (∀ V,Rd V q ba bc bs p->Calls Tryz.prog 70 #[.pointer (some ⟨q,0,none⟩)] V (RdP (.ok n p0) (λv=>.int .i64 v) V q ba bc bs))) :
    Calls Tryz.prog 25 #[.pointer (some ⟨q,0,none⟩),.int .i64 op] w (RiP ((JK bs n.toNat [] p0).bind λv1 p1=>(Qp false 32 bs p1).bind λv2 p2=>.ok ⟨op,v2,0,0,v1⟩ p2) w q ba bc bs):=by
 have HF:=Hm (Qu op);rw [hf] at HF;obtain ⟨W,hW,hz,hx,hb⟩:=Gm w op;have hws:w.heap.size+2=W.heap.size:=by rw [hW];simp
 have HW:=Hm hW;have HZ:=Hm hz;have HX:=Hm hx;have HRW:=Hm (h.keep hb);have HGW:=Hm (show w.grownBy W (some q) from Qo hb);have LR:=Hm (lies_of h (Nat.le_refl _));have LX:=Hm (lies_of h (show w.heap.size<=w.heap.size+1 by omega));have HQ:=Hm h.lt;clear hf hW hz hx hb h;have KT:=Hm (λV (hV:Rd V q ba bc bs p0)=>tellN_c q ba bc bs p0 2 n V hV);have K1:=Hm (λV (hV:Rd V q ba bc bs p0)=>ent_c q ba bc bs p0 n V hV hA hl n0 n1);generalize JK bs n.toNat [] p0=M1 at *
 cases M1 with
 |bad er at_ =>
  go_enter Tryz.func25,Tryz.ntmps25
  go_wp2_with fail
  rw [<- HW.o]
  refine (HF.o _).mono ?_
  rintro e w2 ⟨rfl,hb2⟩;have HR2:=Hm (HRW.o.keep hb2);have HX2:=Hm (HX.o.keep hb2);have HZ2:=Hm (HZ.o.keep hb2);have HG2:=Hm (Qa HGW.o (Qo (r:=some q) hb2));have hs2:=HG2.o.size;have hz2:w.heap.size+2<=w2.heap.size:=by have:=hb2.size;omega
  obtain ⟨⟨x0,x1,x2,x3,x4⟩,xf⟩:=HX2.o;have xf1:=xf 1;have xf2:=xf 2;have xf3:=xf 3;have xf4:=xf 4;clear hb2 HF HW HRW HX HZ HGW xf
  go_wp2_with fail
  refine (K0.o _ HR2.o).mono ?_
  rintro e wa ⟨hga,rfl,hra⟩;have HGA:=Hm hga;have HRA:=Hm hra;clear hga hra
  go_wp2_with fail
  refine (KT.o _ HRA.o).mono ?_
  rintro e wb ⟨rfl,hbb⟩;have HGB:=Hm (Qa HGA.o (Qo (r:=some q) hbb));have HRB:=Hm (HRA.o.keep hbb);have hsab:w2.heap.size<=wb.heap.size:=HGB.o.size;clear hbb HGA HRA
  go_wp2_with fail
  refine (K1.o _ HRB.o).mono ?_
  rintro e w3 ⟨hg',rfl⟩;have hg:=Qa HGB.o hg';clear hg' HGB HRB
  exact ⟨rfl,Qa HG2.o hg,rfl⟩
 |ok v1 p1 =>
  show Calls _ _ _ _ (RiP ((Qp false 32 bs p1).bind λv2 p2=>.ok ⟨op,v2,0,0,v1⟩ p2) _ _ _ _ _)
  have K2:=Hm (λV (hV:Rd V q ba bc bs p1)=>u32_rc q ba bc bs p1 V hV hA hl);generalize Qp false 32 bs p1=M2 at *
  cases M2 with
  |bad er at_ =>
   go_enter Tryz.func25,Tryz.ntmps25
   go_wp2_with fail
   rw [<- HW.o]
   refine (HF.o _).mono ?_
   rintro e w2 ⟨rfl,hb2⟩;have HR2:=Hm (HRW.o.keep hb2);have HX2:=Hm (HX.o.keep hb2);have HZ2:=Hm (HZ.o.keep hb2);have HG2:=Hm (Qa HGW.o (Qo (r:=some q) hb2));have hs2:=HG2.o.size;have hz2:w.heap.size+2<=w2.heap.size:=by have:=hb2.size;omega
   obtain ⟨⟨x0,x1,x2,x3,x4⟩,xf⟩:=HX2.o;have xf1:=xf 1;have xf2:=xf 2;have xf3:=xf 3;have xf4:=xf 4;clear hb2 HF HW HRW HX HZ HGW xf
   go_wp2_with fail
   refine (K0.o _ HR2.o).mono ?_
   rintro e wa ⟨hga,rfl,hra⟩;have HGA:=Hm hga;have HRA:=Hm hra;clear hga hra
   go_wp2_with fail
   refine (KT.o _ HRA.o).mono ?_
   rintro e wb ⟨rfl,hbb⟩;have HGB:=Hm (Qa HGA.o (Qo (r:=some q) hbb));have HRB:=Hm (HRA.o.keep hbb);have hsab:w2.heap.size<=wb.heap.size:=HGB.o.size;clear hbb HGA HRA
   go_wp2_with fail
   refine (K1.o _ HRB.o).mono ?_
   rintro e w3 ⟨hg',u1,rfl,ho',hr,hll⟩;have hg:=Qa HGB.o hg';have ho:=Q8 ho' hsab;clear hg' HGB HRB ho';obtain ⟨la,lc,rfl⟩:=Qw ho;have HOR:=Hm (Q8 ho (show w.heap.size<=_ from hs2));have HNR:Hid ((Value.slice la v1.length lc).ownBlock≠some w.heap.size/\(Value.slice la v1.length lc).ownBlock≠some (w.heap.size+1)):=⟨λe=>by have:=(ho.lt _ e).1;omega,λe=>by have:=(ho.lt _ e).1;omega⟩;have HLL:=Hm hll;clear ho hll;have ha2:=Hm (Qe HX2.o hg LX.o.ne);have hb2:=Hm (Qe HZ2.o hg LR.o.ne);have hc2:=Hm (Qa HG2.o hg);have hd2:=Hm hr;have hs3:=hc2.o.size;obtain ⟨⟨y00,y01,y02,y03,y04⟩,yf⟩:=ha2.o;have yf01:=yf 1;have yf02:=yf 2;have yf03:=yf 3;have yf04:=yf 4;obtain ⟨⟨z00,z01,z02,z03,z04⟩,zf⟩:=hb2.o;have zf00:=zf 0;have zf01:=zf 1;have zf02:=zf 2;have zf03:=zf 3;have zf04:=zf 4;clear hg hr yf zf HX2 HZ2 HG2 HR2 K1 K0 KT hsab;have HX3:=Hm (c5_set4 (v:=.slice la v1.length lc) ha2.o);have HZ3:=Hm (Ja (X:=w.heap.size+1) (i:=4) (v:=.slice la v1.length lc) hb2.o (by omega));have HG3:=Hm (Q2 hc2.o LX.o 4 (.slice la v1.length lc));have HR3:=Hm (hd2.o.far LX.o 4 (.slice la v1.length lc));replace HOR:=Hm (Qs (o:=4) (u:=.slice la v1.length lc) HOR.o HNR.o.2)
   go_wp2_with fail
   refine (K2.o _ HR3.o).mono ?_
   rintro e w4 ⟨hg,rfl⟩
   exact ⟨rfl,Qa HG3.o hg,rfl⟩
  |ok v2 p2 =>
   show Calls _ _ _ _ (RiP (.ok ⟨op,v2,0,0,v1⟩ p2) _ _ _ _ _)
   go_enter Tryz.func25,Tryz.ntmps25
   go_wp2_with fail
   rw [<- HW.o]
   refine (HF.o _).mono ?_
   rintro e w2 ⟨rfl,hb2⟩;have HR2:=Hm (HRW.o.keep hb2);have HX2:=Hm (HX.o.keep hb2);have HZ2:=Hm (HZ.o.keep hb2);have HG2:=Hm (Qa HGW.o (Qo (r:=some q) hb2));have hs2:=HG2.o.size;have hz2:w.heap.size+2<=w2.heap.size:=by have:=hb2.size;omega
   obtain ⟨⟨x0,x1,x2,x3,x4⟩,xf⟩:=HX2.o;have xf1:=xf 1;have xf2:=xf 2;have xf3:=xf 3;have xf4:=xf 4;clear hb2 HF HW HRW HX HZ HGW xf
   go_wp2_with fail
   refine (K0.o _ HR2.o).mono ?_
   rintro e wa ⟨hga,rfl,hra⟩;have HGA:=Hm hga;have HRA:=Hm hra;clear hga hra
   go_wp2_with fail
   refine (KT.o _ HRA.o).mono ?_
   rintro e wb ⟨rfl,hbb⟩;have HGB:=Hm (Qa HGA.o (Qo (r:=some q) hbb));have HRB:=Hm (HRA.o.keep hbb);have hsab:w2.heap.size<=wb.heap.size:=HGB.o.size;clear hbb HGA HRA
   go_wp2_with fail
   refine (K1.o _ HRB.o).mono ?_
   rintro e w3 ⟨hg',u1,rfl,ho',hr,hll⟩;have hg:=Qa HGB.o hg';have ho:=Q8 ho' hsab;clear hg' HGB HRB ho';obtain ⟨la,lc,rfl⟩:=Qw ho;have HOR:=Hm (Q8 ho (show w.heap.size<=_ from hs2));have HNR:Hid ((Value.slice la v1.length lc).ownBlock≠some w.heap.size/\(Value.slice la v1.length lc).ownBlock≠some (w.heap.size+1)):=⟨λe=>by have:=(ho.lt _ e).1;omega,λe=>by have:=(ho.lt _ e).1;omega⟩;have HLL:=Hm hll;clear ho hll;have ha2:=Hm (Qe HX2.o hg LX.o.ne);have hb2:=Hm (Qe HZ2.o hg LR.o.ne);have hc2:=Hm (Qa HG2.o hg);have hd2:=Hm hr;have hs3:=hc2.o.size;obtain ⟨⟨y00,y01,y02,y03,y04⟩,yf⟩:=ha2.o;have yf01:=yf 1;have yf02:=yf 2;have yf03:=yf 3;have yf04:=yf 4;obtain ⟨⟨z00,z01,z02,z03,z04⟩,zf⟩:=hb2.o;have zf00:=zf 0;have zf01:=zf 1;have zf02:=zf 2;have zf03:=zf 3;have zf04:=zf 4;clear hg hr yf zf HX2 HZ2 HG2 HR2 K1 K0 KT hsab;have HX3:=Hm (c5_set4 (v:=.slice la v1.length lc) ha2.o);have HZ3:=Hm (Ja (X:=w.heap.size+1) (i:=4) (v:=.slice la v1.length lc) hb2.o (by omega));have HG3:=Hm (Q2 hc2.o LX.o 4 (.slice la v1.length lc));have HR3:=Hm (hd2.o.far LX.o 4 (.slice la v1.length lc));replace HOR:=Hm (Qs (o:=4) (u:=.slice la v1.length lc) HOR.o HNR.o.2)
   go_wp2_with fail
   refine (K2.o _ HR3.o).mono ?_
   rintro e w4 ⟨hg,rfl,hr⟩;replace HOR:=Hm (JC HOR.o hg (λj hj=>by have:=(HOR.o.lt j hj).1;have:=LR.o.ne;intro e;simp at e;have:=HQ.o;omega));have ha3:=Hm (Qe HX3.o hg LX.o.ne);have hb3:=Hm (Qe HZ3.o hg LR.o.ne);have hc3:=Hm (Qa HG3.o hg);have hd3:=Hm hr;have hs4:=hc3.o.size;obtain ⟨⟨y10,y11,y12,y13,y14⟩,yf⟩:=ha3.o;have yf11:=yf 1;have yf12:=yf 2;have yf13:=yf 3;have yf14:=yf 4;obtain ⟨⟨z10,z11,z12,z13,z14⟩,zf⟩:=hb3.o;have zf10:=zf 0;have zf11:=zf 1;have zf12:=zf 2;have zf13:=zf 3;have zf14:=zf 4;clear hg hr yf zf HX3 HZ3 HG3 HR3 K2;have HX4:=Hm (Jp (v:=.int .i64 v2) ha3.o);have HZ4:=Hm (Ja (X:=w.heap.size+1) (i:=1) (v:=.int .i64 v2) hb3.o (by omega));have HG4:=Hm (Q2 hc3.o LX.o 1 (.int .i64 v2));have HR4:=Hm (hd3.o.far LX.o 1 (.int .i64 v2));replace HOR:=Hm (Qs (o:=1) (u:=.int .i64 v2) HOR.o HNR.o.2)
   go_wp2_with fail
   exact bodyPost_ret (v:=inV (⟨op,v2,0,0,v1⟩:In) la lc) (by simp [results,Tryz.results25,go_sem,y10,y11,y12,y13,y14,z10,z11,z12,z13,z14]) rfl (by
    obtain ⟨t1,t2,t3⟩:=XH (x:=(⟨op,v2,0,0,v1⟩:In)) (la:=la) (lc:=lc) HR4.o HG4.o LR.o HOR.o HNR.o.1
    exact ⟨t1,la,lc,rfl,t2,t3,HLL.o⟩)
theorem rins_3 (q:Nat)(ba:Option Addr)(bc:Nat)(bs:List Int)(p:Nat)(op:Int)(w:World)(hf:Qd (Qb op)=3)(h:Rd w q ba bc bs p)(hA:Qt bs)(hl:bs.length<=1099511627776) :
    Calls Tryz.prog 25 #[.pointer (some ⟨q,0,none⟩),.int .i64 op] w (RiP (Q4 3 op bs p) w q ba bc bs):=by
 have HFF:=Hm hf;have HH:=Hm h;have HF:=Hm (Qu op);rw [hf] at HF;obtain ⟨W,hW,hz,hx,hb⟩:=Gm w op;have hws:w.heap.size+2=W.heap.size:=by rw [hW];simp
 have HW:=Hm hW;have HZ:=Hm hz;have HX:=Hm hx;have HRW:=Hm (h.keep hb);have HGW:=Hm (show w.grownBy W (some q) from Qo hb);have LR:=Hm (lies_of h (Nat.le_refl _));have LX:=Hm (lies_of h (show w.heap.size<=w.heap.size+1 by omega));have HQ:=Hm h.lt;clear hf hW hz hx hb h
 show Calls _ _ _ _ (RiP (((Qp false 32 bs p).bind λn p0=>JK bs n.toNat [] p0).bind λv1 p1=>(Qp false 32 bs p1).bind λv2 p2=>.ok ⟨op,v2,0,0,v1⟩ p2) _ _ _ _ _)
 have K0:=Hm (λV (hV:Rd V q ba bc bs p)=>u32_rc q ba bc bs p V hV hA hl);have hbd:=λv p1=>numU_bd (p:=p) (p1:=p1) (v:=v) hA;generalize Qp false 32 bs p=M0 at *
 cases M0 with
 |bad er at_ =>
  go_enter Tryz.func25,Tryz.ntmps25
  go_wp2_with fail
  rw [<- HW.o]
  refine (HF.o _).mono ?_
  rintro e w2 ⟨rfl,hb2⟩;have HR2:=Hm (HRW.o.keep hb2);have HX2:=Hm (HX.o.keep hb2);have HZ2:=Hm (HZ.o.keep hb2);have HG2:=Hm (Qa HGW.o (Qo (r:=some q) hb2));have hs2:=HG2.o.size;have hz2:w.heap.size+2<=w2.heap.size:=by have:=hb2.size;omega
  obtain ⟨⟨x0,x1,x2,x3,x4⟩,xf⟩:=HX2.o;have xf1:=xf 1;have xf2:=xf 2;have xf3:=xf 3;have xf4:=xf 4;clear hb2 HF HW HRW HX HZ HGW xf
  go_wp2_with fail
  refine (K0.o _ HR2.o).mono ?_
  rintro e w3 ⟨hg,rfl⟩
  exact ⟨rfl,Qa HG2.o hg,rfl⟩
 |ok n p0 =>
  obtain ⟨n0,n1⟩:=hbd n p0 rfl
  exact rins_3k n p0 n0 n1 q ba bc bs p op w HFF.o HH.o hA hl K0
end Go.Proofs.YtipfjdogokanbaaGreatDoor.Ed
