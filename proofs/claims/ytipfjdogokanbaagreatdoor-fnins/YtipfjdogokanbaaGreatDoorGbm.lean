import Derived.Test.YtipfjdogokanbaaGreatDoorGaa
import Derived.Test.YtipfjdogokanbaaGreatDoorGbj
set_option linter.all false
set_option maxHeartbeats 400000000
set_option maxRecDepth 100000
set_option linter.all false
namespace Go.Proofs.YtipfjdogokanbaaGreatDoor.Ed
open Go.RowKit Go.Sort
theorem sins_1 (s:Nat)(ba:Option Addr)(bc:BC)(bs:List Int)(p:Nat)(op:Int)(w:World)(hf:Qd (Qb op)=1)(hev:bc.ev=.slice none 0 0)(h:Sr w s ba bc bs p 0 0)(hA:Qt bs)(hl:bs.length<=1099511627776) :
    Calls Tryz.prog 39 #[.pointer (some ⟨s,0,none⟩),.int .i64 op,.int .i64 0] w (SiP (Q4 1 op bs p) w s ba bc.n bs):=by
 have HF:=Hm (Qr op);rw [hf] at HF;obtain ⟨W,hW,hz,hx,hb⟩:=Gm w op;have hsl:s<w.heap.size:=h.lt;have HW:=Hm hW;have HZ2:=Hm hz;have HX2:=Hm hx;have HR2:=Hm (h.keep hb);have HG2:=Hm (show w.grownBy W (some s) from Qo hb);clear hf hW hz hx hb h;have KT:=Hm (λV (hV:Sr V s ba bc bs p 0 0)=>tell_sc s ba bc bs p 21 0 0 1 V hV hev);have KB:=Hm (λV ev (hV:Sr V s ba ⟨bc.n,ev⟩ bs p 0 0)=>Xe s ba ⟨bc.n,ev⟩ bs p V hV hl);have hbd:=λv p1=>XF (p:=p) (p1:=p1) (v:=v) hA;have hnz:=nz_take bs p
 show Calls _ _ _ _ (SiP (((Qy bs p).bind λx p1=>if (decide (x=64) || tyB x) then .ok x p1 else .bad 8 p1).bind λa p1=>.ok ⟨op,a,0,0,[]⟩ p1) _ _ _ _ _)
 generalize Qy bs p=M at *
 cases M with
 |bad er a =>
  have hne:=hnz er a rfl;have hne2:(er==0)=false:=by simpa using hne
  clear hnz hbd hev
  go_enter Tryz.func39,Tryz.ntmps39
  go_wp2_with fail
  rw [<- HW.o]
  refine (HF.o _).mono ?_
  rintro e w2 ⟨rfl,rfl⟩;clear HF HW
  go_wp2_with fail
  refine (KT.o _ HR2.o).mono ?_
  rintro e w3 ⟨ev,rfl,hr,hg⟩;have HX3:=Hm (Qe HX2.o hg (by omega));have HZ3:=Hm (Qe HZ2.o hg (by omega));have HG3:=Hm (Qa HG2.o hg);have HR3:=Hm hr;clear hr hg KT HX2 HZ2 HG2 HR2;obtain ⟨⟨y0,y1,y2,y3,y4⟩,yf⟩:=HX3.o;have yf1:=yf 1;obtain ⟨⟨z0,z1,z2,z3,z4⟩,zf⟩:=HZ3.o;have zf0:=zf 0;have zf1:=zf 1;have zf2:=zf 2;have zf3:=zf 3;have zf4:=zf 4;clear yf zf
  go_wp2_with fail
  refine (KB.o _ _ HR3.o).mono ?_
  rintro e w4 ⟨hg,u,q,rfl,rfl,hr⟩;clear y0 y1 y2 y3 y4 yf1 z0 z1 z2 z3 z4 zf0 zf1 zf2 zf3 zf4;have HX4:=Hm (Qe HX3.o hg (by omega));have HZ4:=Hm (Qe HZ3.o hg (by omega));have HG4:=Hm (Qa HG3.o hg);have HR4:=Hm hr;clear hr hg KB HX3 HZ3 HG3 HR3;obtain ⟨⟨y0,y1,y2,y3,y4⟩,yf⟩:=HX4.o;have yf1:=yf 1;obtain ⟨⟨z0,z1,z2,z3,z4⟩,zf⟩:=HZ4.o;have zf0:=zf 0;have zf1:=zf 1;have zf2:=zf 2;have zf3:=zf 3;have zf4:=zf 4;clear yf zf;have g3:(w4.setCell ⟨w.heap.size+1,1,none⟩ (.int .i64 0)).cell? ⟨s,3,none⟩=some (.int .i64 er):=(HR4.o.far (show s<w.heap.size+1 by omega) 1 (.int .i64 0)).c3;have HX5:=Hm (Jp (v:=.int .i64 0) HX4.o);have HZ5:=Hm (Ja (X:=w.heap.size+1) (i:=1) (v:=.int .i64 0) HZ4.o (by omega));have HG5:=Hm (QT HG4.o (show w.heap.size<=w.heap.size+1 by omega) 1 (.int .i64 0));have HR5:=Hm (HR4.o.far (show s<w.heap.size+1 by omega) 1 (.int .i64 0))
  go_wp2_with fail
  exact bodyPost_ret (v:=inV (⟨op,0,0,0,[]⟩:In) none 0) (by simp [results,Tryz.results39,go_sem,y0,y1,y2,y3,y4,z0,z1,z2,z3,z4]) rfl (by
   obtain ⟨t1,t2⟩:=QZ HR5.o HG5.o hsl
   exact ⟨t1,_,_,_,rfl,hne,_,_,t2⟩)
 |ok c p1 =>
  obtain ⟨hc0,hc1⟩:=hbd c p1 rfl;have KY:=Hm (ty_c c);clear hnz hbd hev
  show Calls _ _ _ _ (SiP ((if (decide (c=64) || tyB c) then Rs.ok c p1 else .bad 8 p1).bind λa p1=>.ok ⟨op,a,0,0,[]⟩ p1) _ _ _ _ _)
  by_cases h64:c=64
  . subst h64
    show Calls _ _ _ _ (SiP (.ok ⟨op,64,0,0,[]⟩ p1) _ _ _ _ _)
    go_enter Tryz.func39,Tryz.ntmps39
    go_wp2_with fail
    rw [<- HW.o]
    refine (HF.o _).mono ?_
    rintro e w2 ⟨rfl,rfl⟩;clear HF HW
    go_wp2_with fail
    refine (KT.o _ HR2.o).mono ?_
    rintro e w3 ⟨ev,rfl,hr,hg⟩;have HX3:=Hm (Qe HX2.o hg (by omega));have HZ3:=Hm (Qe HZ2.o hg (by omega));have HG3:=Hm (Qa HG2.o hg);have HR3:=Hm hr;clear hr hg KT HX2 HZ2 HG2 HR2;obtain ⟨⟨y0,y1,y2,y3,y4⟩,yf⟩:=HX3.o;have yf1:=yf 1;obtain ⟨⟨z0,z1,z2,z3,z4⟩,zf⟩:=HZ3.o;have zf0:=zf 0;have zf1:=zf 1;have zf2:=zf 2;have zf3:=zf 3;have zf4:=zf 4;clear yf zf
    go_wp2_with fail
    refine (KB.o _ _ HR3.o).mono ?_
    rintro e w4 ⟨hg,rfl,hr⟩;clear y0 y1 y2 y3 y4 yf1 z0 z1 z2 z3 z4 zf0 zf1 zf2 zf3 zf4;have HX4:=Hm (Qe HX3.o hg (by omega));have HZ4:=Hm (Qe HZ3.o hg (by omega));have HG4:=Hm (Qa HG3.o hg);have HR4:=Hm hr;clear hr hg KB HX3 HZ3 HG3 HR3;obtain ⟨⟨y0,y1,y2,y3,y4⟩,yf⟩:=HX4.o;have yf1:=yf 1;obtain ⟨⟨z0,z1,z2,z3,z4⟩,zf⟩:=HZ4.o;have zf0:=zf 0;have zf1:=zf 1;have zf2:=zf 2;have zf3:=zf 3;have zf4:=zf 4;clear yf zf;have g3:(w4.setCell ⟨w.heap.size+1,1,none⟩ (.int .i64 64)).cell? ⟨s,3,none⟩=some (.int .i64 0):=(HR4.o.far (show s<w.heap.size+1 by omega) 1 (.int .i64 64)).c3;have g1:(w4.setCell ⟨w.heap.size+1,1,none⟩ (.int .i64 64)).cell? ⟨s,1,none⟩=some (.int .i64 p1):=(HR4.o.far (show s<w.heap.size+1 by omega) 1 (.int .i64 64)).c1;have HX5:=Hm (Jp (v:=.int .i64 64) HX4.o);have HZ5:=Hm (Ja (X:=w.heap.size+1) (i:=1) (v:=.int .i64 64) HZ4.o (by omega));have HG5:=Hm (QT HG4.o (show w.heap.size<=w.heap.size+1 by omega) 1 (.int .i64 64));have HR5:=Hm (HR4.o.far (show s<w.heap.size+1 by omega) 1 (.int .i64 64))
    go_wp2_with fail
    exact bodyPost_ret (v:=inV (⟨op,64,0,0,[]⟩:In) none 0) (by simp [results,Tryz.results39,go_sem,y0,y1,y2,y3,y4,z0,z1,z2,z3,z4]) rfl (by
     obtain ⟨t1,t2⟩:=QZ HR5.o HG5.o hsl
     exact ⟨t1,_,_,_,rfl,rfl,World.ownsRow_nil _ _ _ _,_,t2⟩)
  . have h64b:(c != 64)=true:=by simpa using h64
    have h64d:decide (c=64)=false:=by simpa using h64
    rw [h64d,Bool.false_or];generalize tyB c=z at *;clear h64 h64d
    cases z
    . show Calls _ _ _ _ (SiP (.bad 8 p1) _ _ _ _ _)
      have hne:(8:Int)≠0:=by decide
      go_enter Tryz.func39,Tryz.ntmps39
      go_wp2_with fail
      rw [<- HW.o]
      refine (HF.o _).mono ?_
      rintro e w2 ⟨rfl,rfl⟩;clear HF HW
      go_wp2_with fail
      refine (KT.o _ HR2.o).mono ?_
      rintro e w3 ⟨ev,rfl,hr,hg⟩;have HX3:=Hm (Qe HX2.o hg (by omega));have HZ3:=Hm (Qe HZ2.o hg (by omega));have HG3:=Hm (Qa HG2.o hg);have HR3:=Hm hr;clear hr hg KT HX2 HZ2 HG2 HR2;obtain ⟨⟨y0,y1,y2,y3,y4⟩,yf⟩:=HX3.o;have yf1:=yf 1;obtain ⟨⟨z0,z1,z2,z3,z4⟩,zf⟩:=HZ3.o;have zf0:=zf 0;have zf1:=zf 1;have zf2:=zf 2;have zf3:=zf 3;have zf4:=zf 4;clear yf zf
      go_wp2_with fail
      refine (KB.o _ _ HR3.o).mono ?_
      rintro e w4 ⟨hg,rfl,hr⟩;clear y0 y1 y2 y3 y4 yf1 z0 z1 z2 z3 z4 zf0 zf1 zf2 zf3 zf4;have HX4:=Hm (Qe HX3.o hg (by omega));have HZ4:=Hm (Qe HZ3.o hg (by omega));have HG4:=Hm (Qa HG3.o hg);have HR4:=Hm hr;clear hr hg KB HX3 HZ3 HG3 HR3;obtain ⟨⟨y0,y1,y2,y3,y4⟩,yf⟩:=HX4.o;have yf1:=yf 1;obtain ⟨⟨z0,z1,z2,z3,z4⟩,zf⟩:=HZ4.o;have zf0:=zf 0;have zf1:=zf 1;have zf2:=zf 2;have zf3:=zf 3;have zf4:=zf 4;clear yf zf;have g3:(w4.setCell ⟨w.heap.size+1,1,none⟩ (.int .i64 c)).cell? ⟨s,3,none⟩=some (.int .i64 0):=(HR4.o.far (show s<w.heap.size+1 by omega) 1 (.int .i64 c)).c3;have g1:(w4.setCell ⟨w.heap.size+1,1,none⟩ (.int .i64 c)).cell? ⟨s,1,none⟩=some (.int .i64 p1):=(HR4.o.far (show s<w.heap.size+1 by omega) 1 (.int .i64 c)).c1;have HX5:=Hm (Jp (v:=.int .i64 c) HX4.o);have HZ5:=Hm (Ja (X:=w.heap.size+1) (i:=1) (v:=.int .i64 c) HZ4.o (by omega));have HG5:=Hm (QT HG4.o (show w.heap.size<=w.heap.size+1 by omega) 1 (.int .i64 c));have HR5:=Hm (HR4.o.far (show s<w.heap.size+1 by omega) 1 (.int .i64 c));have KF:=Hm (QY s ba ⟨bc.n,ev⟩ bs p1 8 p1 _ HR5.o)
      go_wp2_with (refine (KY.o _).mono ?_;rintro e w5 ⟨rfl,rfl⟩)
      refine (KF.o).mono ?_
      rintro e w6 ⟨rfl,hr,hg⟩;clear y0 y1 y2 y3 y4 yf1 z0 z1 z2 z3 z4 zf0 zf1 zf2 zf3 zf4;have HX6:=Hm (Qe HX5.o hg (by omega));have HZ6:=Hm (Qe HZ5.o hg (by omega));have HG6:=Hm (Qa HG5.o hg);have HR6:=Hm hr;clear hr hg;obtain ⟨⟨y0,y1,y2,y3,y4⟩,yf⟩:=HX6.o;have yf1:=yf 1;obtain ⟨⟨z0,z1,z2,z3,z4⟩,zf⟩:=HZ6.o;have zf0:=zf 0;have zf1:=zf 1;have zf2:=zf 2;have zf3:=zf 3;have zf4:=zf 4;clear yf zf
      go_wp2_with fail
      exact bodyPost_ret (v:=inV (⟨op,c,0,0,[]⟩:In) none 0) (by simp [results,Tryz.results39,go_sem,y0,y1,y2,y3,y4,z0,z1,z2,z3,z4]) rfl (by
       obtain ⟨t1,t2⟩:=QZ HR6.o HG6.o hsl
       exact ⟨t1,_,_,_,rfl,hne,_,_,t2⟩)
    . show Calls _ _ _ _ (SiP (.ok ⟨op,c,0,0,[]⟩ p1) _ _ _ _ _)
      go_enter Tryz.func39,Tryz.ntmps39
      go_wp2_with fail
      rw [<- HW.o]
      refine (HF.o _).mono ?_
      rintro e w2 ⟨rfl,rfl⟩;clear HF HW
      go_wp2_with fail
      refine (KT.o _ HR2.o).mono ?_
      rintro e w3 ⟨ev,rfl,hr,hg⟩;have HX3:=Hm (Qe HX2.o hg (by omega));have HZ3:=Hm (Qe HZ2.o hg (by omega));have HG3:=Hm (Qa HG2.o hg);have HR3:=Hm hr;clear hr hg KT HX2 HZ2 HG2 HR2;obtain ⟨⟨y0,y1,y2,y3,y4⟩,yf⟩:=HX3.o;have yf1:=yf 1;obtain ⟨⟨z0,z1,z2,z3,z4⟩,zf⟩:=HZ3.o;have zf0:=zf 0;have zf1:=zf 1;have zf2:=zf 2;have zf3:=zf 3;have zf4:=zf 4;clear yf zf
      go_wp2_with fail
      refine (KB.o _ _ HR3.o).mono ?_
      rintro e w4 ⟨hg,rfl,hr⟩;clear y0 y1 y2 y3 y4 yf1 z0 z1 z2 z3 z4 zf0 zf1 zf2 zf3 zf4;have HX4:=Hm (Qe HX3.o hg (by omega));have HZ4:=Hm (Qe HZ3.o hg (by omega));have HG4:=Hm (Qa HG3.o hg);have HR4:=Hm hr;clear hr hg KB HX3 HZ3 HG3 HR3;obtain ⟨⟨y0,y1,y2,y3,y4⟩,yf⟩:=HX4.o;have yf1:=yf 1;obtain ⟨⟨z0,z1,z2,z3,z4⟩,zf⟩:=HZ4.o;have zf0:=zf 0;have zf1:=zf 1;have zf2:=zf 2;have zf3:=zf 3;have zf4:=zf 4;clear yf zf;have g3:(w4.setCell ⟨w.heap.size+1,1,none⟩ (.int .i64 c)).cell? ⟨s,3,none⟩=some (.int .i64 0):=(HR4.o.far (show s<w.heap.size+1 by omega) 1 (.int .i64 c)).c3;have g1:(w4.setCell ⟨w.heap.size+1,1,none⟩ (.int .i64 c)).cell? ⟨s,1,none⟩=some (.int .i64 p1):=(HR4.o.far (show s<w.heap.size+1 by omega) 1 (.int .i64 c)).c1;have HX5:=Hm (Jp (v:=.int .i64 c) HX4.o);have HZ5:=Hm (Ja (X:=w.heap.size+1) (i:=1) (v:=.int .i64 c) HZ4.o (by omega));have HG5:=Hm (QT HG4.o (show w.heap.size<=w.heap.size+1 by omega) 1 (.int .i64 c));have HR5:=Hm (HR4.o.far (show s<w.heap.size+1 by omega) 1 (.int .i64 c))
      go_wp2_with (refine (KY.o _).mono ?_;rintro e w5 ⟨rfl,rfl⟩)
      exact bodyPost_ret (v:=inV (⟨op,c,0,0,[]⟩:In) none 0) (by simp [results,Tryz.results39,go_sem,y0,y1,y2,y3,y4,z0,z1,z2,z3,z4]) rfl (by
       obtain ⟨t1,t2⟩:=QZ HR5.o HG5.o hsl
       exact ⟨t1,_,_,_,rfl,rfl,World.ownsRow_nil _ _ _ _,_,t2⟩)
end Go.Proofs.YtipfjdogokanbaaGreatDoor.Ed
namespace Go.Proofs.YtipfjdogokanbaaGreatDoor.Ed
open Go.RowKit Go.Sort
theorem own5s {w W:World}{v:Value}{n:Nat}{zs:List Value}{v0 v1 v2 v3 v4:Value}(h:W.ownsRow (w.heap.size+2) 2 1 v n zs):(((((W.setCell ⟨w.heap.size,0,none⟩ v0).setCell ⟨w.heap.size,1,none⟩ v1).setCell ⟨w.heap.size,2,none⟩ v2).setCell ⟨w.heap.size,3,none⟩ v3).setCell ⟨w.heap.size,4,none⟩ v4).ownsRow (w.heap.size+2) 2 1 v n zs:=by
 have hn:v.ownBlock≠some w.heap.size:=λe=>by have:=(h.lt _ e).1;omega
 exact Qs (Qs (Qs (Qs (Qs h hn) hn) hn) hn) hn
theorem ownX {w W:World}{v u:Value}{n o:Nat}{zs:List Value}(h:W.ownsRow (w.heap.size+2) 2 1 v n zs):(W.setCell ⟨w.heap.size+1,o,none⟩ u).ownsRow (w.heap.size+2) 2 1 v n zs :=
 Qs h (λe=>by have:=(h.lt _ e).1;omega)
structure Lp (w wr:World)(s:Nat)(op:Int)(acc:List Int)(la:Option Addr)(lc:Nat):Prop where
 x:C5 wr (w.heap.size+1) 0 (.int .i64 op) (.int .i64 0) (.int .i64 0) (.int .u64 0) (.slice la acc.length lc)
 z:C5 wr w.heap.size 0 (.int .i64 0) (.int .i64 0) (.int .i64 0) (.int .u64 0) (.slice none 0 0)
 o:wr.ownsRow (w.heap.size+2) 2 1 (.slice la acc.length lc) acc.length (I acc)
 g:w.grownBy wr (some s)
 sz:w.heap.size+2<=wr.heap.size
theorem Lp.grown {w wr w1:World}{s:Nat}{op:Int}{acc:List Int}{la:Option Addr}{lc:Nat}(h:Lp w wr s op acc la lc)(hs:s<w.heap.size)(hg:wr.grownBy w1 (some s)):Lp w w1 s op acc la lc :=
 ⟨Qe h.x hg (by omega),Qe h.z hg (by omega),JC h.o hg (λj hj=>by have:=(h.o.lt j hj).1;simp;omega),Qa h.g hg,Nat.le_trans h.sz hg.size⟩
theorem Lp.push {w wr w3:World}{s:Nat}{op v:Int}{acc:List Int}{la:Option Addr}{lc:Nat}{va:Option Addr}{vc:Nat}{o:Obj}(h:Lp w wr s op acc la lc)(hs:s<w.heap.size)(ho:w3.ownsRow (w.heap.size+2) 2 1 (.slice va (acc.length+1) vc) (acc.length+1) (I acc++[.int .i64 v]))(hg:(wr.alloc o).grownBy w3 (Value.slice la acc.length lc).ownBlock) :
    Lp w (w3.setCell ⟨w.heap.size+1,4,none⟩ (.slice va (acc.length+1) vc)) s op (acc++[v]) va vc/\C5 w3 (w.heap.size+1) 0 (.int .i64 op) (.int .i64 0) (.int .i64 0) (.int .u64 0) (.slice la acc.length lc):=by
 have sz:=h.sz;have hne:∀ k,k<w.heap.size+2->some k≠(Value.slice la acc.length lc).ownBlock:=λk hk e=>by have:=(h.o.lt k e.symm).1;omega
 have hb:∀ k,k<w.heap.size+2->w3.heap[k]?=wr.heap[k]?:=λk hk=>(hg.block k (by simp;omega) (hne k hk)).trans (QC wr o k (by omega))
 have cx:∀ {g oo:Nat} {a b c d e:Value},g<w.heap.size+2->C5 wr g oo a b c d e->C5 w3 g oo a b c d e:=λhgl hc=>by
  obtain ⟨⟨h0,h1,h2,h3,h4⟩,f⟩:=hc
  exact ⟨⟨(World.cell?_of_block (hb _ hgl)).trans h0,(World.cell?_of_block (hb _ hgl)).trans h1,(World.cell?_of_block (hb _ hgl)).trans h2,(World.cell?_of_block (hb _ hgl)).trans h3,(World.cell?_of_block (hb _ hgl)).trans h4⟩,λi=>(World.frozen?_of_block (hb _ hgl)).trans (f i)⟩
 have x3:=cx (by omega) h.x;have g3:w.grownBy w3 (some s):=⟨hg.os.trans h.g.os,hg.tape.trans h.g.tape,hg.output.trans h.g.output,by have:=hg.size;have:=h.g.size;simp at *;omega,λk hk hn=>(hb k (by omega)).trans (h.g.block k hk hn)⟩
 refine ⟨⟨?_,Ja (cx (by omega) h.z) (by omega),?_,QT g3 (by omega) 4 _,by have:=hg.size;simp [World.setCell] at *;omega⟩,x3⟩
 . have:=c5_set4 (v:=.slice va (acc.length+1) vc) x3
   simpa using this
 . have:=ownX (w:=w) (u:=.slice va (acc.length+1) vc) (o:=4) ho
   simpa using this
theorem Sr.push {w wr w3:World}{s:Nat}{ba:Option Addr}{bc:BC}{bs:List Int}{p:Nat}{er at_:Int}{v:Value}{o:Obj}{n:Nat}{zs:List Value}(h:Sr wr s ba bc bs p er at_)(hs:s<w.heap.size)(hO:wr.ownsRow (w.heap.size+2) 2 1 v n zs)(hg:(wr.alloc o).grownBy w3 v.ownBlock)(u:Value):Sr (w3.setCell ⟨w.heap.size+1,4,none⟩ u) s ba bc bs p er at_ :=
 ((h.keep ((Below.refl _ _).alloc (Nat.le_refl _) _)).grown hg (λe=>by have:=(hO.lt s e.symm).1;omega) (λk hk=>by have:=(hO.lt k hk).1;omega)).far (by omega) 4 u
theorem sins_3 (s:Nat)(ba:Option Addr)(bc:BC)(bs:List Int)(p:Nat)(op:Int)(w:World)(hf:Qd (Qb op)=3)(hev:bc.ev=.slice none 0 0)(h:Sr w s ba bc bs p 0 0)(hA:Qt bs)(hl:bs.length<=1099511627776) :
    Calls Tryz.prog 39 #[.pointer (some ⟨s,0,none⟩),.int .i64 op,.int .i64 0] w (SiP (Q4 3 op bs p) w s ba bc.n bs):=by
 have HF:=Hm (Qr op);rw [hf] at HF;obtain ⟨W,hW,hz,hx,hb⟩:=Gm w op;have hsl:s<w.heap.size:=h.lt;have HW:=Hm hW;have HZ2:=Hm hz;have HX2:=Hm hx;have HR2:=Hm (h.keep hb);have HG2:=Hm (show w.grownBy W (some s) from Qo hb);clear hf hW hz hx hb h;obtain ⟨i0,hi,hz0,hz1,hz2⟩:=info_parts Tryz.info2;have HDF:Hid (Q4 3 op bs p=(vecM bs p).bind λl p1=>(Qp false 32 bs p1).bind λa p2=>.ok ⟨op,a,0,0,l⟩ p2):=rfl;have K1:=Hm (λV (hV:Sr V s ba bc bs p 0 0)=>u32_sc s ba bc bs p V hV hA hl);have KN:=Hm (λV ev q (hV:Sr V s ba ⟨bc.n,ev⟩ bs q 0 0)=>u32_sc s ba ⟨bc.n,ev⟩ bs q V hV hA hl);have KE:=Hm (λV bc' q er a (hV:Sr V s ba bc' bs q er a) (hne:er≠0)=>u32_se s ba bc' bs q er a V hV hne);have HNZ:=Hm (λq=>JL false 32 bs q)
 cases hM1:Qp false 32 bs p with
 |bad er a =>
  have hne:=HNZ.o p er a hM1;have hne2:(er==0)=false:=by simpa using hne
  have HD:Hid (Q4 3 op bs p=.bad er a):=by show _=_;rw [HDF.o];simp only [vecM,hM1,Rs.bind]
  rw [hM1] at K1;have KT:=Hm (λV q x (hV:Sr V s ba bc bs q er a)=>tell_se s ba bc bs q er a 22 0 0 x V hV hne);clear hM1 hev HDF KN HNZ
  go_enter Tryz.func39,Tryz.ntmps39
  go_wp2_with fail
  rw [<- HW.o]
  refine (HF.o _).mono ?_
  rintro e w2 ⟨rfl,rfl⟩;clear HF HW
  go_wp2_with fail
  refine (K1.o _ HR2.o).mono ?_
  rintro e w3 ⟨hg,u,q,rfl,⟨v0,rfl⟩,hr⟩;have HX3:=Hm (Qe HX2.o hg (by omega));have HZ3:=Hm (Qe HZ2.o hg (by omega));have HG3:=Hm (Qa HG2.o hg);have HR3:=Hm hr;clear hr hg K1 HX2 HZ2 HG2 HR2;obtain ⟨⟨y0,y1,y2,y3,y4⟩,yf⟩:=HX3.o;have yf1:=yf 1;obtain ⟨⟨z0,z1,z2,z3,z4⟩,zf⟩:=HZ3.o;have zf0:=zf 0;have zf1:=zf 1;have zf2:=zf 2;have zf3:=zf 3;have zf4:=zf 4;clear yf zf;have e3:=HR3.o.c3
  go_wp2_with fail
  refine (KT.o _ _ _ HR3.o).mono ?_
  rintro e w4 ⟨rfl,rfl⟩;have KE1:=Hm (KE.o _ _ _ _ _ HR3.o hne);have HX4:=Hm (Jp (v:=.int .i64 0) HX3.o);have HZ4:=Hm (Ja (X:=w.heap.size+1) (i:=1) (v:=.int .i64 0) HZ3.o (by omega));have HG4:=Hm (QT HG3.o (show w.heap.size<=w.heap.size+1 by omega) 1 (.int .i64 0));have HR4:=Hm (HR3.o.far (show s<w.heap.size+1 by omega) 1 (.int .i64 0))
  by_cases hv0:0<v0
  . go_wp2_with fail
    refine wp_loop_rounds 1 ?_
    rw [rounds_succ]
    go_wp2_with fail
    refine (KE1.o).mono ?_
    rintro e w5 ⟨rfl,rfl⟩
    go_wp2_with fail
    exact bodyPost_ret (v:=inV (⟨op,0,0,0,[]⟩:In) none 0) (by simp [results,Tryz.results39,go_sem,y0,y1,y2,y3,y4,z0,z1,z2,z3,z4]) rfl (by
     rw [HD.o];obtain ⟨t1,t2⟩:=QZ HR4.o HG4.o hsl
     exact ⟨t1,_,_,_,rfl,hne,_,_,t2⟩)
  . have hd0:decide (0<v0)=false:=decide_eq_false hv0
    go_wp2_with fail
    refine wp_loop_rounds 1 ?_
    rw [rounds_succ]
    go_wp2_with fail
    refine (KE1.o).mono ?_
    rintro e w5 ⟨rfl,rfl⟩
    go_wp2_with fail
    exact bodyPost_ret (v:=inV (⟨op,0,0,0,[]⟩:In) none 0) (by simp [results,Tryz.results39,go_sem,y0,y1,y2,y3,y4,z0,z1,z2,z3,z4]) rfl (by
     rw [HD.o];obtain ⟨t1,t2⟩:=QZ HR4.o HG4.o hsl
     exact ⟨t1,_,_,_,rfl,hne,_,_,t2⟩)
 |ok n p1 =>
  obtain ⟨hn0,hn1⟩:=numU_bd hA hM1;obtain ⟨N,rfl⟩:=Int.eq_ofNat_of_zero_le hn0;have HVM:Hid (vecM bs p=JK bs N [] p1):=by show _=_;simp only [vecM,hM1,Rs.bind,Int.toNat_natCast]
  rw [hM1] at K1;have KT:=Hm (λV (hV:Sr V s ba bc bs p1 0 0)=>tell_sc s ba bc bs p1 22 0 0 N V hV hev);clear hM1 hev hn0
  go_enter Tryz.func39,Tryz.ntmps39
  go_wp2_with fail
  rw [<- HW.o]
  refine (HF.o _).mono ?_
  rintro e w2 ⟨rfl,rfl⟩;clear HF HW
  go_wp2_with fail
  refine (K1.o _ HR2.o).mono ?_
  rintro e w3 ⟨hg,rfl,hr⟩;have HX3:=Hm (Qe HX2.o hg (by omega));have HZ3:=Hm (Qe HZ2.o hg (by omega));have HG3:=Hm (Qa HG2.o hg);have HR3:=Hm hr;clear hr hg K1 HX2 HZ2 HG2 HR2
  go_wp2_with fail
  refine (KT.o _ HR3.o).mono ?_
  rintro e w4 ⟨ev,rfl,hr,hg⟩;have HX4:=Hm (Qe HX3.o hg (by omega));have HZ4:=Hm (Qe HZ3.o hg (by omega));have HG4:=Hm (Qa HG3.o hg);have HR4:=Hm hr;clear hr hg KT HX3 HZ3 HG3 HR3;have HL4:Hid (Lp w w4 s op [] none 0):=⟨HX4.o,HZ4.o,World.ownsRow_nil _ _ _ _,HG4.o,by have:=HX4.o.lt;omega⟩;clear HX4 HZ4 HG4
  go_wp2_with fail
  go_loopw [10] (λi wr=>∃ (k:Nat) (acc:List Int) (la:Option Addr) (lc:Nat),k<=N/\i=.int .i64 (k:Int)/\acc.length<=bs.length+1/\Lp w wr s op acc la lc/\((∃ q,JK bs N [] p1=JK bs (N-k) acc q/\acc.length<=q/\Sr wr s ba ⟨bc.n,ev⟩ bs q 0 0)\/(∃ er a q,er≠0/\JK bs N [] p1=.bad er a/\Sr wr s ba ⟨bc.n,ev⟩ bs q er a))) (λi _=>N-(intOf i).toNat)
  case atStart=>exact ⟨0,[],none,0,Nat.zero_le _,rfl,by simp,HL4.o,.inl ⟨p1,rfl,by simp,HR4.o⟩⟩
  case round =>
   obtain ⟨k,acc,la,lc,hk,rfl,hal,hL,hst⟩:=hrel;have HL:=Hm hL;obtain ⟨⟨y0,y1,y2,y3,y4⟩,yf⟩:=hL.x;obtain ⟨⟨z0,z1,z2,z3,z4⟩,zf⟩:=hL.z;have yf1:=yf 1;have zf0:=zf 0;have zf1:=zf 1;have zf2:=zf 2;have zf3:=zf 3;have zf4:=zf 4;clear hL HL4 HR4 yf zf
   rcases hst with ⟨q,hM,haq,hr⟩|⟨er,a,q,hne,hM,hr⟩
   . have hql:=hr.le;have c3:=hr.c3;have HM:=Hm hM;have KQ:=Hm (KN.o _ _ _ hr);have hnzq:=HNZ.o q;have hbq:=λv q2=>num_next (s:=false) (B:=32) (bs:=bs) (p:=q) (p1:=q2) (v:=v) (by omega);clear hr hM
     by_cases hlt:k<N
     . have hki:(k:Int)<(N:Int):=by omega
       have HMS:Hid (JK bs N [] p1=(Qp false 32 bs q).bind λv q2=>JK bs (N-(k+1)) (acc++[v]) q2):=by show _=_;rw [HM.o,show N-k=(N-(k+1))+1 by omega];rfl
       clear HM y0 y1 y2 y3 y4 yf1 z0 z1 z2 z3 z4 zf0 zf1 zf2 zf3 zf4;generalize Qp false 32 bs q=M at *
       cases M with
       |bad er a =>
        have hne:=hnzq er a rfl;clear hnzq hbq
        go_wp2_with (first
         |(go_at_call 90;refine (KQ.o).mono ?_;rintro e w5 ⟨hg,u,q',rfl,⟨v0,rfl⟩,hr⟩;have HL5:=Hm (HL.o.grown hsl hg);have HR5:=Hm hr;obtain ⟨⟨x0,x1,x2,x3,x4⟩,xf⟩:=HL5.o.x;have hz5:=HL5.o.sz;clear hg hr xf KQ)
         | (at_builtin;refine wpList_append_own _ rfl _ _ 24 rfl (w.heap.size+2) 2 i0 (.int .i64 0) 1 8 Tryz.underlying24 hi hz0 hz1 hz2 rfl (by decide) _ _ _ rfl (HL5.o.o.alloc _) ⟨w5.heap.size,0,none⟩ 1 1 [.int .i64 v0] rfl rfl (cell_one_new _ _ _) (oneI _) (by unfold maxLen;omega) (by omega) (by simp;omega) ?_;intro v6 w6 o6 g6 hnn;obtain ⟨va,vc,rfl⟩:=Qw o6;have HL6:=Hm (HL5.o.push hsl o6 g6);have HR6:=Hm (Sr.push (w:=w) HR5.o hsl HL5.o.o g6 (.slice va (acc.length+1) vc));obtain ⟨⟨x0,x1,x2,x3,x4⟩,xf⟩:=HL6.o.2;have xf4:=xf 4;clear o6 g6 hnn xf))
        go_roundw
        case rel=>exact ⟨k+1,acc++[v0],va,vc,by omega,by go_num,by simp;omega,HL6.o.1,.inr ⟨er,a,q',hne,by rw [HMS.o];rfl,HR6.o⟩⟩
        case measure=>simp [intOf];omega
       |ok v q2 =>
        have hq2:=hbq v q2 rfl;clear hnzq hbq
        go_wp2_with (first
         |(go_at_call 90;refine (KQ.o).mono ?_;rintro e w5 ⟨hg,rfl,hr⟩;have hq3:=hr.le;have HL5:=Hm (HL.o.grown hsl hg);have HR5:=Hm hr;obtain ⟨⟨x0,x1,x2,x3,x4⟩,xf⟩:=HL5.o.x;have hz5:=HL5.o.sz;clear hg hr xf KQ)
         | (at_builtin;refine wpList_append_own _ rfl _ _ 24 rfl (w.heap.size+2) 2 i0 (.int .i64 0) 1 8 Tryz.underlying24 hi hz0 hz1 hz2 rfl (by decide) _ _ _ rfl (HL5.o.o.alloc _) ⟨w5.heap.size,0,none⟩ 1 1 [.int .i64 v] rfl rfl (cell_one_new _ _ _) (oneI _) (by unfold maxLen;omega) (by omega) (by simp;omega) ?_;intro v6 w6 o6 g6 hnn;obtain ⟨va,vc,rfl⟩:=Qw o6;have HL6:=Hm (HL5.o.push hsl o6 g6);have HR6:=Hm (Sr.push (w:=w) HR5.o hsl HL5.o.o g6 (.slice va (acc.length+1) vc));obtain ⟨⟨x0,x1,x2,x3,x4⟩,xf⟩:=HL6.o.2;have xf4:=xf 4;clear o6 g6 hnn xf))
        go_roundw
        case rel=>exact ⟨k+1,acc++[v],va,vc,by omega,by go_num,by simp;omega,HL6.o.1,.inl ⟨q2,by rw [HMS.o];rfl,by simp;omega,HR6.o⟩⟩
        case measure=>simp [intOf];omega
     . have hki:¬ (k:Int)<(N:Int):=by omega
       have HV:Hid (vecM bs p=.ok acc q):=by show _=_;rw [HVM.o,HM.o,show N-k=0 by omega];rfl
       have HD0:Hid (Q4 3 op bs p=(Qp false 32 bs q).bind λa p2=>.ok ⟨op,a,0,0,acc⟩ p2):=by show _=_;rw [HDF.o,HV.o];rfl
       clear HM HV y0 y1 y2 y3 y4 yf1 z0 z1 z2 z3 z4 zf0 zf1 zf2 zf3 zf4;generalize Qp false 32 bs q=M at *
       cases M with
       |bad er a =>
        have hne:=hnzq er a rfl;have HD:Hid (Q4 3 op bs p=.bad er a):=HD0.o;clear hnzq hbq HD0
        go_wp2_with (go_at_call 90;refine (KQ.o).mono ?_;rintro e w5 ⟨hg,u,q',rfl,⟨v0,rfl⟩,hr⟩;have HL5:=Hm (HL.o.grown hsl hg);have HR5:=Hm (hr.far (X:=w.heap.size+1) (by omega) 1 (.int .i64 v0));have HG5:=Hm (QT HL5.o.g (show w.heap.size<=w.heap.size+1 by omega) 1 (.int .i64 v0));obtain ⟨⟨y0,y1,y2,y3,y4⟩,yf⟩:=HL5.o.x;obtain ⟨⟨z0,z1,z2,z3,z4⟩,zf⟩:=HL5.o.z;have yf1:=yf 1;have zf0:=zf 0;have zf1:=zf 1;have zf2:=zf 2;have zf3:=zf 3;have zf4:=zf 4;clear hg hr yf zf KQ)
        exact bodyPost_ret (v:=inV (⟨op,v0,0,0,acc⟩:In) la lc) (by simp [results,Tryz.results39,go_sem,y0,y1,y2,y3,y4,z0,z1,z2,z3,z4]) rfl (by
         obtain ⟨t1,t2⟩:=QZ HR5.o HG5.o hsl;rw [HD.o]
         exact ⟨t1,_,_,_,rfl,hne,_,_,t2⟩)
       |ok v q2 =>
        have HD:Hid (Q4 3 op bs p=.ok ⟨op,v,0,0,acc⟩ q2):=HD0.o;clear hnzq hbq HD0
        go_wp2_with (go_at_call 90;refine (KQ.o).mono ?_;rintro e w5 ⟨hg,rfl,hr⟩;have HL5:=Hm (HL.o.grown hsl hg);have HR5:=Hm (hr.far (X:=w.heap.size+1) (by omega) 1 (.int .i64 v));have HG5:=Hm (QT HL5.o.g (show w.heap.size<=w.heap.size+1 by omega) 1 (.int .i64 v));have HO5:=Hm (ownX (w:=w) (u:=.int .i64 v) (o:=1) HL5.o.o);obtain ⟨⟨y0,y1,y2,y3,y4⟩,yf⟩:=HL5.o.x;obtain ⟨⟨z0,z1,z2,z3,z4⟩,zf⟩:=HL5.o.z;have yf1:=yf 1;have zf0:=zf 0;have zf1:=zf 1;have zf2:=zf 2;have zf3:=zf 3;have zf4:=zf 4;clear hg hr yf zf KQ)
        exact bodyPost_ret (v:=inV (⟨op,v,0,0,acc⟩:In) la lc) (by simp [results,Tryz.results39,go_sem,y0,y1,y2,y3,y4,z0,z1,z2,z3,z4]) rfl (by
         obtain ⟨t1,t2⟩:=QZ HR5.o HG5.o hsl;rw [HD.o]
         refine ⟨t1,_,_,_,rfl,rfl,?_,_,t2⟩
         exact Q8 (own5s HO5.o) (by omega))
   . have c3:=hr.c3;have hne2:(er==0)=false:=by simpa using hne
     have HD:Hid (Q4 3 op bs p=.bad er a):=by show _=_;rw [HDF.o,HVM.o,hM];rfl
     have KE1:=Hm (KE.o _ _ _ _ _ hr hne);have HR5:=Hm (hr.far (X:=w.heap.size+1) (by omega) 1 (.int .i64 0));have HG5:=Hm (QT HL.o.g (show w.heap.size<=w.heap.size+1 by omega) 1 (.int .i64 0));clear hM hr
     by_cases hlt:k<N
     . have hki:(k:Int)<(N:Int):=by omega
       go_wp2_with (go_at_call 90;refine (KE1.o).mono ?_;rintro e w5 ⟨rfl,rfl⟩)
       exact bodyPost_ret (v:=inV (⟨op,0,0,0,acc⟩:In) la lc) (by simp [results,Tryz.results39,go_sem,y0,y1,y2,y3,y4,z0,z1,z2,z3,z4]) rfl (by
        obtain ⟨t1,t2⟩:=QZ HR5.o HG5.o hsl;rw [HD.o]
        exact ⟨t1,_,_,_,rfl,hne,_,_,t2⟩)
     . have hki:¬ (k:Int)<(N:Int):=by omega
       go_wp2_with (go_at_call 90;refine (KE1.o).mono ?_;rintro e w5 ⟨rfl,rfl⟩)
       exact bodyPost_ret (v:=inV (⟨op,0,0,0,acc⟩:In) la lc) (by simp [results,Tryz.results39,go_sem,y0,y1,y2,y3,y4,z0,z1,z2,z3,z4]) rfl (by
        obtain ⟨t1,t2⟩:=QZ HR5.o HG5.o hsl;rw [HD.o]
        exact ⟨t1,_,_,_,rfl,hne,_,_,t2⟩)
end Go.Proofs.YtipfjdogokanbaaGreatDoor.Ed
