import Derived.Test.YtipfjdogokanbaaGreatDoorGaa
import Derived.Test.YtipfjdogokanbaaGreatDoorGar
import Derived.Test.YtipfjdogokanbaaGreatDoorGaf
import Derived.Deep.CutBlock
set_option linter.all false
set_option maxHeartbeats 400000000
set_option maxRecDepth 100000
set_option linter.all false
namespace Go.Proofs.YtipfjdogokanbaaGreatDoor.An
open Go.RowKit Go.Sort
structure Ax (w:World)(g:Nat)(a:Option Addr)(cap:Nat)(xs:List Int)(R0 G X:Nat)(x:In)(lv:Value)(V:World):Prop where
 r0:Bk V R0 [.int .i64 0,.int .i64 0,.int .i64 0,.int .u64 0,.slice none 0 0]
 gp:Bk V G [.pointer (some ⟨g,0,none⟩)]
 bx:Bk V X (cI x lv)
 c:L3.Cur V g a cap xs
 gr:w.grownBy V (some g)
 lv:LV V (λk=>k<w.heap.size\/k=R0\/k=G\/k=X) lv x.l
 ib:IB x
 hg:g<w.heap.size
 hR:w.heap.size<=R0
 hG:R0<G
 hX:G<X
theorem Ax.step {w:World}{g:Nat}{a:Option Addr}{cap:Nat}{xs:List Int}{R0 G X:Nat}{x:In}{lv:Value}{V V':World}(h:Ax w g a cap xs R0 G X x lv V)(hc:L3.Cur V' g a cap xs)(hg:V.grownBy V' (some g)):Ax w g a cap xs R0 G X x lv V':=by
 have h1:=h.hg;have h2:=h.hR;have h3:=h.hG;have h4:=h.hX
 exact ⟨h.r0.grown hg (by simp;omega),h.gp.grown hg (by simp;omega),h.bx.grown hg (by simp;omega),hc,L3.Qa h.gr hg,h.lv.keep hg.size (λb hb hs=>⟨hg.block b hs (λe=>hb (.inl (by injection e with e;omega))),hb⟩),h.ib,h1,h2,h3,h4⟩
theorem Ax.below {w:World}{g:Nat}{a:Option Addr}{cap:Nat}{xs:List Int}{R0 G X:Nat}{x:In}{lv:Value}{V V':World}(h:Ax w g a cap xs R0 G X x lv V)(hb:Below V.heap.size V V'):Ax w g a cap xs R0 G X x lv V':=by
 have h1:=h.hg;have h2:=h.gr.size
 exact h.step (h.c.below hb (by omega)) ⟨hb.os,hb.tape,hb.output,hb.size,λk hk _=>hb.block k hk⟩
theorem Ax.put {w:World}{g:Nat}{a:Option Addr}{cap:Nat}{xs:List Int}{R0 G X:Nat}{x y:In}{lv:Value}{V:World}(h:Ax w g a cap xs R0 G X x lv V)(j:Nat)(u:Value)(he:(cI x lv).set j u=cI y lv)(el:y.l=x.l)(ib:IB y):Ax w g a cap xs R0 G X y lv (V.setCell ⟨X,j,none⟩ u):=by
 have h1:=h.hg;have h2:=h.hR;have h3:=h.hG;have h4:=h.hX;have hk:∀ b,b≠X->(V.setCell ⟨X,j,none⟩ u).heap[b]?=V.heap[b]?:=λb hb=>Below.heap_setCell _ _ _ _ hb;have hb:=h.bx.set (j:=j) (v:=u);rw [he] at hb
 exact ⟨h.r0.of (by simp) (hk _ (by omega)),h.gp.of (by simp) (hk _ (by omega)),hb,h.c.below ((Below.refl w.heap.size V).setCell (by show _<=X;omega) u) h1,Q6 h.gr (by omega) j u,by rw [el];exact h.lv.keep (by simp) (λb hb hs=>⟨hk b (λe=>hb (.inr (.inr (.inr e)))),hb⟩),ib,h1,h2,h3,h4⟩
theorem Ax.lst {w:World}{g:Nat}{a:Option Addr}{cap:Nat}{xs:List Int}{R0 G X:Nat}{x y:In}{lv lu:Value}{V:World}(h:Ax w g a cap xs R0 G X x lv V)(ho:y.op=x.op)(ea:y.a=x.a)(eb:y.b=x.b)(ev:y.v=x.v)(hl:LV V (λk=>k<w.heap.size\/k=R0\/k=G\/k=X) lu y.l)(ib:IB y):Ax w g a cap xs R0 G X y lu (V.setCell ⟨X,4,none⟩ lu):=by
 have h1:=h.hg;have h2:=h.hR;have h3:=h.hG;have h4:=h.hX;have hk:∀ b,b≠X->(V.setCell ⟨X,4,none⟩ lu).heap[b]?=V.heap[b]?:=λb hb=>Below.heap_setCell _ _ _ _ hb;have hb:=h.bx.set (j:=4) (v:=lu);rw [show (cI x lv).set 4 lu=cI y lu by simp [cI,ho,ea,eb,ev]] at hb
 exact ⟨h.r0.of (by simp) (hk _ (by omega)),h.gp.of (by simp) (hk _ (by omega)),hb,h.c.below ((Below.refl w.heap.size V).setCell (by show _<=X;omega) lu) h1,Q6 h.gr (by omega) 4 lu,hl.keep (by simp) (λb hb hs=>⟨hk b (λe=>hb (.inr (.inr (.inr e)))),hb⟩),ib,h1,h2,h3,h4⟩
theorem Ax.app {w:World}{g:Nat}{a:Option Addr}{cap:Nat}{xs:List Int}{R0 G X:Nat}{x y:In}{lv lu:Value}{V U W:World}{o:Option Nat}(h:Ax w g a cap xs R0 G X x lv V)(hb:Below V.heap.size V U)(hg:U.grownBy W o)(hq:∀ q,o=some q->X<q)(ho:y.op=x.op)(ea:y.a=x.a)(eb:y.b=x.b)(ev:y.v=x.v)(hl:LV W (λk=>k<w.heap.size\/k=R0\/k=G\/k=X) lu y.l)(ib:IB y):Bk W X (cI x lv)/\Ax w g a cap xs R0 G X y lu (W.setCell ⟨X,4,none⟩ lu):=by
 have h1:=h.hg;have h2:=h.hR;have h3:=h.hG;have h4:=h.hX;have s1:=h.bx.1;have s2:=hb.size;have hw:∀ k,k<=X->W.heap[k]?=V.heap[k]?:=λk hk=>(hg.block k (by omega) (λe=>by have:=hq k e.symm;omega)).trans (hb.block k (by omega));have hs:V.heap.size<=W.heap.size:=by have:=hg.size;omega
 have hk:∀ b,b≠X->(W.setCell ⟨X,4,none⟩ lu).heap[b]?=W.heap[b]?:=λb hb=>Below.heap_setCell _ _ _ _ hb;have hbX:=h.bx.of hs (hw X (Nat.le_refl _));have hb4:=hbX.set (j:=4) (v:=lu);rw [show (cI x lv).set 4 lu=cI y lu by simp [cI,ho,ea,eb,ev]] at hb4;have hbel:Below w.heap.size V W:=⟨hg.os.trans hb.os,hg.tape.trans hb.tape,hg.output.trans hb.output,hs,λk hk=>hw k (by omega)⟩
 refine ⟨hbX,(h.r0.of hs (hw _ (by omega))).of (by simp) (hk _ (by omega)),(h.gp.of hs (hw _ (by omega))).of (by simp) (hk _ (by omega)),hb4,(h.c.below hbel h1).below ((Below.refl w.heap.size W).setCell (by show _<=X;omega) lu) h1,Q6 ⟨hbel.os.trans h.gr.os,hbel.tape.trans h.gr.tape,hbel.output.trans h.gr.output,Nat.le_trans h.gr.size hs,λk hk hne=>(hbel.block k hk).trans (h.gr.block k hk hne)⟩ (by omega) 4 lu,hl.keep (by simp) (λb hb hs=>⟨hk b (λe=>hb (.inr (.inr (.inr e)))),hb⟩),ib,h1,h2,h3,h4⟩
theorem Ax.all {w:World}{g:Nat}{a:Option Addr}{cap:Nat}{xs:List Int}{R0 G X:Nat}{x y:In}{lv lu:Value}{V:World}(h:Ax w g a cap xs R0 G X x lv V)(hl:LV V (λk=>k<w.heap.size\/k=R0\/k=G\/k=X) lu y.l)(ib:IB y):Ax w g a cap xs R0 G X y lu (((((V.setCell ⟨X,0,none⟩ (.int .i64 y.op)).setCell ⟨X,1,none⟩ (.int .i64 y.a)).setCell ⟨X,2,none⟩ (.int .i64 y.b)).setCell ⟨X,3,none⟩ (.int .u64 y.v)).setCell ⟨X,4,none⟩ lu):=by
 have i0:IB ⟨y.op,y.a,y.b,y.v,x.l⟩:=⟨ib.1,ib.2.1,h.ib.2.2⟩;have h0:=h.put (y:=⟨y.op,x.a,x.b,x.v,x.l⟩) 0 (.int .i64 y.op) rfl rfl h.ib;have h1:=h0.put (y:=⟨y.op,y.a,x.b,x.v,x.l⟩) 1 (.int .i64 y.a) rfl rfl h.ib;have h2:=h1.put (y:=⟨y.op,y.a,y.b,x.v,x.l⟩) 2 (.int .i64 y.b) rfl rfl h.ib;have h3:=h2.put (y:=⟨y.op,y.a,y.b,y.v,x.l⟩) 3 (.int .u64 y.v) rfl rfl i0
 refine h3.lst rfl rfl rfl rfl (hl.keep (by simp) (λb hb hs=>⟨?_,hb⟩)) ib
 have hne:b≠X:=λe=>hb (.inr (.inr (.inr e)));rw [Below.heap_setCell _ _ _ _ hne,Below.heap_setCell _ _ _ _ hne,Below.heap_setCell _ _ _ _ hne,Below.heap_setCell _ _ _ _ hne]
theorem Ax.fin {w:World}{g:Nat}{a:Option Addr}{cap:Nat}{xs:List Int}{R0 G X:Nat}{x:In}{lv:Value}{V:World}(h:Ax w g a cap xs R0 G X x lv V):(λU=>Bk U R0 (cI x lv)/\LV U (λk=>k<w.heap.size) lv x.l/\L3.Cur U g a cap xs/\w.grownBy U (some g)) (((((V.setCell ⟨R0,0,none⟩ (.int .i64 x.op)).setCell ⟨R0,1,none⟩ (.int .i64 x.a)).setCell ⟨R0,2,none⟩ (.int .i64 x.b)).setCell ⟨R0,3,none⟩ (.int .u64 x.v)).setCell ⟨R0,4,none⟩ lv):=by
 have h1:=h.hg;have h2:=h.hR;have hbl:∀ (j:Nat) (u:Value) (W:World),L3.Cur W g a cap xs->L3.Cur (W.setCell ⟨R0,j,none⟩ u) g a cap xs:=λj u W hc=>hc.below ((Below.refl w.heap.size W).setCell (by show _<=R0;omega) u) h1
 refine ⟨h.r0.set.set.set.set.set,h.lv.keep (by simp) (λb hb hs=>⟨?_,λe=>hb (.inl e)⟩),hbl _ _ _ (hbl _ _ _ (hbl _ _ _ (hbl _ _ _ (hbl _ _ _ h.c)))),Q6 (Q6 (Q6 (Q6 (Q6 h.gr h2 _ _) h2 _ _) h2 _ _) h2 _ _) h2 _ _⟩
 have hne:b≠R0:=λe=>hb (.inr (.inl e));rw [Below.heap_setCell _ _ _ _ hne,Below.heap_setCell _ _ _ _ hne,Below.heap_setCell _ _ _ _ hne,Below.heap_setCell _ _ _ _ hne,Below.heap_setCell _ _ _ _ hne]
def AnP (w:World)(g:Nat)(a:Option Addr)(cap:Nat)(xs:List Int)(e:Ending)(w':World):Prop:=∃ (x:In) (la:Option Addr) (lc:Nat),e=.returned (inV x la lc)/\IB x/\LV w' (λk=>k<w.heap.size) (.slice la x.l.length lc) x.l/\L3.Cur w' g a cap xs/\w.grownBy w' (some g)
theorem form7 (op:Int)(h:Qd (Qb op)=7\/Qd (Qb op)=8\/Qd (Qb op)=9\/Qd (Qb op)=10)(h0:0<=op)(h1:op<192):op=65\/op=66\/op=67\/op=68:=by
 have e:=of_decide_eq_true (rng 0 192 (λi=>decide ((Qd (tbl.getD i Z0)=7\/Qd (tbl.getD i Z0)=8\/Qd (tbl.getD i Z0)=9\/Qd (tbl.getD i Z0)=10)->(i=65\/i=66\/i=67\/i=68))) (by decide +kernel) op (by omega) (by omega));obtain ⟨n,rfl⟩:∃ n:Nat,op=(n:Int):=⟨op.toNat,by omega⟩
 have hr:Qb (n:Int)=tbl.getD n Z0:=by
  unfold Qb;rw [if_pos (by omega)]
  simp
 rw [hr] at h
 simp only [Int.toNat_natCast] at e
 have:=e h
 omega
theorem any_c (g:Nat)(a:Option Addr)(cap:Nat)(xs:List Int)(w:World)(hl:xs.length<=1099511627776)(hB:L3.Qt xs)(hC:L3.Cur w g a cap xs) :
    Calls Tryz.prog 17 #[.pointer (some ⟨g,0,none⟩)] w (AnP w g a cap xs):=by
 obtain ⟨i2,hi2,ht0,ht1,ht2⟩:=info_parts Tryz.info2;have KB:=Hm (λ(n:Int) (h1:1<=n) (h2:n<=256) W (hC:L3.Cur W g a cap xs)=>L3.JX g a cap xs n W hl hB hC h1 h2);have KD:=Hm (λW (hC:L3.Cur W g a cap xs)=>L3.Xl g a cap xs W hl hB hC);have KO:=Hm (λW (hC:L3.Cur W g a cap xs)=>L3.once_any g a cap xs 8 W hl hB hC (by decide) (by decide));have KS:=Hm (λ(b c:Nat) (x0 x1:In) (m0 m1:Value) (W:World) (hC:L3.Cur W g a cap xs)=>spoil_c g b c a cap xs x0 x1 m0 m1 W hl hB hC);have KC:=Hm (λ(t:Int) (ht:t=127\/t=126\/t=125\/t=124) (G:Nat) (W:World) (hC:L3.Cur W g a cap xs) (hp:W.cell? ⟨G,0,none⟩=some (.pointer (some ⟨g,0,none⟩))) (ne:G≠g)=>const_c t ht G g a cap xs W hl hB hC hp ne);have hgw:=L3.Cur.lt hC;obtain ⟨R0,hR0⟩:∃ R0,R0=w.heap.size:=⟨_,rfl⟩;obtain ⟨G,hG⟩:∃ G,G=w.heap.size+1:=⟨_,rfl⟩;have HR:=Hm (And.intro hR0 hG)
 have HST:Hid (∀ t1 t2,(λV=>Bk V R0 [.int .i64 0,.int .i64 0,.int .i64 0,.int .u64 0,.slice none 0 0]/\Bk V G [.pointer (some ⟨g,0,none⟩)]/\L3.Cur V g a cap xs/\w.grownBy V (some g)) ((w.alloc (.cells #[.int .i64 0,.int .i64 0,.int .i64 0,.int .u64 0,.slice none 0 0] t1)).alloc (.cells #[.pointer (some ⟨g,0,none⟩),.slice none 0 0,.slice none 0 0,.slice none 0 0,.slice none 0 0,.int .i64 0,.bool false,.bool false,.slice none 0 0,.slice none 0 0,.int .i64 0,.int .i64 0] t2))):=by
  intro t1 t2
  have e1:(w.alloc (.cells #[.int .i64 0,.int .i64 0,.int .i64 0,.int .u64 0,.slice none 0 0] t1)).heap.size=w.heap.size+1:=by simp
  have hb:Below w.heap.size w ((w.alloc (.cells #[.int .i64 0,.int .i64 0,.int .i64 0,.int .u64 0,.slice none 0 0] t1)).alloc (.cells #[.pointer (some ⟨g,0,none⟩),.slice none 0 0,.slice none 0 0,.slice none 0 0,.slice none 0 0,.int .i64 0,.bool false,.bool false,.slice none 0 0,.slice none 0 0,.int .i64 0,.int .i64 0] t2)):=((Below.refl _ _).alloc (Nat.le_refl _) _).alloc (by simp) _
  refine ⟨by rw [hR0];exact Bk.new.past,?_,hC.below hb hgw,⟨hb.os,hb.tape,hb.output,hb.size,λk hk _=>hb.block k hk⟩⟩
  have:=Bk.new (w:=w.alloc (.cells #[.int .i64 0,.int .i64 0,.int .i64 0,.int .u64 0,.slice none 0 0] t1)) (cs:=[.pointer (some ⟨g,0,none⟩),.slice none 0 0,.slice none 0 0,.slice none 0 0,.slice none 0 0,.int .i64 0,.bool false,.bool false,.slice none 0 0,.slice none 0 0,.int .i64 0,.int .i64 0]) (t:=t2)
  rw [e1,<- hG] at this
  exact ⟨this.1,fun j v hv=>this.2.1 j v (by
   match j,hv with
   | 0,hv=>exact hv),this.2.2⟩
 clear hC hB
 go_enter Tryz.func17,Tryz.ntmps17
 go_upto_region 2 with fail
 rw [<- hG,<- hR0]
 refine Qj (λV=>Bk V R0 [.int .i64 0,.int .i64 0,.int .i64 0,.int .u64 0,.slice none 0 0]/\Bk V G [.pointer (some ⟨g,0,none⟩)]/\L3.Cur V g a cap xs/\w.grownBy V (some g)) (HST.o _ _) ?_
 rintro V0 ⟨q0,q1,q2,q3⟩;have HQ:=Hm (And.intro q0 (And.intro q1 (And.intro q2 q3)));clear q0 q1 q2 q3 HST hR0 hG
 go_wp2_with fail
 refine (KB.o 192 (by decide) (by decide) _ HQ.o.2.2.1).mono ?_
 rintro e V1 ⟨op,rfl,ho0,ho1,hc,hg⟩;obtain ⟨X,hX⟩:∃ X,X=V1.heap.size:=⟨_,rfl⟩
 have HAX:Hid (∀ t,Ax w g a cap xs R0 G X ⟨op,0,0,0,[]⟩ (.slice none 0 0) (V1.alloc (.cells #[.int .i64 op,.int .i64 0,.int .i64 0,.int .u64 0,.slice none 0 0] t))):=by
  intro t
  obtain ⟨q0,q1,q2,q3⟩:=HQ.o;obtain ⟨r1,r2⟩:=HR.o;have b0:=q0.grown hg (by simp;omega);have b1:=q1.grown hg (by simp;omega);have hb:Below V1.heap.size V1 (V1.alloc (.cells #[.int .i64 op,.int .i64 0,.int .i64 0,.int .u64 0,.slice none 0 0] t)):=(Below.refl _ _).alloc (Nat.le_refl _) _;have gr:=L3.Qa q3 hg
  exact ⟨b0.past,b1.past,by rw [hX];exact Bk.new,hc.below hb (by have:=gr.size;omega),⟨hb.os.trans gr.os,hb.tape.trans gr.tape,hb.output.trans gr.output,Nat.le_trans gr.size hb.size,λk hk hne=>(hb.block k (by have:=gr.size;omega)).trans (gr.block k hk hne)⟩,.inl ⟨rfl,rfl⟩,(by refine ⟨?_,?_,?_⟩<;>simp),hgw,by omega,by omega,by have:=b1.1;omega⟩
 clear hc hg HQ
 go_upto_region 4 with fail
 rw [<- hX]
 refine Qj (λV=>Ax w g a cap xs R0 G X ⟨op,0,0,0,[]⟩ (.slice none 0 0) V) (HAX.o _) ?_
 rintro V2 hA;have HA:=Hm hA;clear hA HAX hX
 go_wp2_with fail
 refine (KD.o _ HA.o.c).mono ?_
 rintro e V3 ⟨da,rfl,da0,da1,hc,hg⟩;have HA:=Hm (HA.o.step hc hg);clear hc hg
 go_wp2_with fail
 refine (KD.o _ HA.o.c).mono ?_
 rintro e V4 ⟨db,rfl,db0,db1,hc,hg⟩;have HA:=Hm (HA.o.step hc hg);clear hc hg;have KF:=Hm (λW=>Qr op W);have HFR:=Hm (And.intro (QA op) (λh=>form7 op h ho0 ho1));generalize Qd (Qb op)=f at *
 go_wp2_with fail
 refine (KF.o _).mono ?_
 rintro e V5 ⟨rfl,rfl⟩;clear KF
 go_upto_block 0 with fail
 go_cut [8] from 22 to 77 (λi8 wc=>∃ x lv,Ax w g a cap xs R0 G X x lv wc)
 case first =>
  rcases HFR.o.1 with rfl|rfl|rfl|rfl|rfl|rfl|rfl|rfl|rfl|rfl|rfl|rfl
  . go_wp2
    go_meet
    case rel=>exact ⟨_,_,HA.o⟩
  . go_wp2
    go_meet
    case rel=>exact ⟨_,_,HA.o⟩
  . obtain ⟨lb,hlb⟩:∃ lb,lb=V4.heap.size:=⟨_,rfl⟩;have HLT:Hid (∀ t,(λV=>Bk V lb [.int .i64 64,.int .i64 127,.int .i64 126,.int .i64 125,.int .i64 124,.int .i64 65]/\Ax w g a cap xs R0 G X ⟨op,0,0,0,[]⟩ (.slice none 0 0) V) (V4.alloc (.cells #[.int .i64 64,.int .i64 127,.int .i64 126,.int .i64 125,.int .i64 124,.int .i64 65] t))):=λt=>⟨by rw [hlb];exact Bk.new,HA.o.below ((Below.refl _ _).alloc (Nat.le_refl _) _)⟩;have hlg:g<lb:=by have:=HA.o.gr.size;have:=HA.o.hg;omega
    go_wp2_with fail
    refine (KB.o 6 (by decide) (by decide) _ (HLT.o _).2.c).mono ?_
    rintro e V5 ⟨y,rfl,hy0,hy1,hc,hg⟩;have hB5:=(HLT.o _).1.grown hg (by simp;omega);have HA:=Hm ((HLT.o _).2.step hc hg);obtain ⟨yn,rfl⟩:∃ yn:Nat,y=(yn:Int):=⟨y.toNat,by omega⟩;have hyi:(yn:Int)<6:=hy1
    obtain ⟨z,hz⟩:∃ z:Int,V5.cell? ⟨lb,yn,none⟩=some (.int .i64 z):=by
     rcases (by omega:yn=0\/yn=1\/yn=2\/yn=3\/yn=4\/yn=5) with rfl|rfl|rfl|rfl|rfl|rfl
     . exact ⟨_,hB5.2.1 0 _ rfl⟩
     . exact ⟨_,hB5.2.1 1 _ rfl⟩
     . exact ⟨_,hB5.2.1 2 _ rfl⟩
     . exact ⟨_,hB5.2.1 3 _ rfl⟩
     . exact ⟨_,hB5.2.1 4 _ rfl⟩
     . exact ⟨_,hB5.2.1 5 _ rfl⟩
    have f1:=HA.o.bx.2.1 1 _ rfl;have z1:=HA.o.bx.2.2 1;have HP:=Hm (λu=>HA.o.put (y:=⟨op,u,0,0,[]⟩) 1 (.int .i64 u) rfl rfl HA.o.ib);rw [hlb] at hz;clear hc hg hB5 hy0 hy1 HLT HA hlb
    go_wp2
    go_meet
    case rel=>exact ⟨_,_,HP.o _⟩
  . go_wp2_with fail
    refine (L3.Xh da _ da0 da1).mono ?_
    rintro e V6 ⟨rfl,rfl⟩;have f1:=HA.o.bx.2.1 1 _ rfl;have z1:=HA.o.bx.2.2 1;have HP:=Hm (λu=>HA.o.put (y:=⟨op,u,0,0,[]⟩) 1 (.int .i64 u) rfl rfl HA.o.ib);clear HA
    go_wp2
    go_meet
    case rel=>exact ⟨_,_,HP.o _⟩
  . go_wp2_with fail
    refine (L3.Xh da _ da0 da1).mono ?_
    rintro e V6 ⟨rfl,rfl⟩;have f1:=HA.o.bx.2.1 1 _ rfl;have z1:=HA.o.bx.2.2 1;have HP:=Hm (λu=>HA.o.put (y:=⟨op,u,0,0,[]⟩) 1 (.int .i64 u) rfl rfl HA.o.ib);clear HA
    go_upto_region 14 with fail
    refine Qj (λV=>∃ u,Ax w g a cap xs R0 G X ⟨op,u,0,0,[]⟩ (.slice none 0 0) V) ⟨_,HP.o _⟩ ?_
    rintro V7 ⟨da',hA⟩;have HA:=Hm hA;have hXB:X<V7.heap.size:=hA.bx.1;have hgB:g<V7.heap.size:=by have:=hA.hg;have:=hA.gr.size;omega
    clear hA HP f1 z1 KC KS KO KD HFR
    go_wp2
    go_loopw [8] (λi wr=>∃ (l:List Int) (lv:Value),i=.int .i64 (l.length:Int)/\l.length<=4/\Ax w g a cap xs R0 G X ⟨op,da',0,0,l⟩ lv wr/\wr.ownsRow V7.heap.size 2 1 lv l.length (I l)/\V7.heap.size<=wr.heap.size) (λi _=>5-(intOf i).toNat)
    case atStart=>exact ⟨[],_,rfl,by simp,HA.o,⟨rfl,.inl ⟨rfl,rfl⟩⟩,Nat.le_refl _⟩
    case round =>
     obtain ⟨l,lv,rfl,hle,hA,hO,hV⟩:=hrel;clear HA;have HA:=Hm hA;have HO:=Hm hO;clear hA hO
     go_wp2_with fail
     refine (KB.o 5 (by decide) (by decide) _ HA.o.c).mono ?_
     rintro e W1 ⟨y,rfl,hy0,hy1,hc,hg⟩;have HO:=Hm (Js HO.o (λk hk=>hg.block k (HO.o.lt k hk).2 (λe=>by injection e with e;have:=(HO.o.lt k hk).1;omega)));have HA:=Hm (HA.o.step hc hg);have hVl:V7.heap.size<=W1.heap.size:=Nat.le_trans hV hg.size;clear hc hg hV;obtain ⟨va,vc,rfl⟩:=Ql HO.o
     by_cases hlt:(l.length:Int)<y
     . have f4:=HA.o.bx.2.1 4 _ rfl;have hwc:IntKind.i64.wrap (db%4294967296)=db%4294967296:=by rw [IntKind.wrap_i64];omega
       have hXl:=HA.o.bx.1
       have HNX:Hid (∀ (U W3:World) (v3:Value),Below W1.heap.size W1 U->U.grownBy W3 (Value.slice va l.length vc).ownBlock->W3.ownsRow V7.heap.size 2 1 v3 (l.length+1) (I l++[.int .i64 (db%4294967296)])->W3.cell? ⟨X,4,none⟩=some (.slice va l.length vc)/\W3.frozen? ⟨X,4,none⟩=false/\(Ax w g a cap xs R0 G X ⟨op,da',0,0,l++[db%4294967296]⟩ v3 (W3.setCell ⟨X,4,none⟩ v3)/\(W3.setCell ⟨X,4,none⟩ v3).ownsRow V7.heap.size 2 1 v3 (l++[db%4294967296]).length (I (l++[db%4294967296]))/\V7.heap.size<=(W3.setCell ⟨X,4,none⟩ v3).heap.size)/\∃ a c,v3=.slice a (l.length+1) c):=by
        intro U W3 v3 k1 k2 k3
        have k4:W3.ownsRow V7.heap.size 2 1 v3 (l++[db%4294967296]).length (I (l++[db%4294967296])):=by simpa [I] using k3
        have hR:=HA.o.hR;have hG:=HA.o.hG;have hX:=HA.o.hX;have hlv:LV W3 (λk=>k<w.heap.size\/k=R0\/k=G\/k=X) v3 (l++[db%4294967296]):=own_lv k4 (λq hq=>by have:=(k4.lt q hq).1;omega);obtain ⟨q1,q2⟩:=HA.o.app (y:=⟨op,da',0,0,l++[db%4294967296]⟩) k1 k2 (λq hq=>by have:=(HO.o.lt q hq).1;omega) rfl rfl rfl rfl hlv ⟨HA.o.ib.1,HA.o.ib.2.1,by show (l++[db%4294967296]).length<=4;simp;omega⟩
        exact ⟨q1.2.1 4 _ rfl,q1.2.2 4,⟨q2,Js k4 (λq hq=>Below.heap_setCell _ _ _ _ (λe=>by have e':q=X:=e;have:=(k4.lt q hq).1;omega)),by have:=k1.size;have:=k2.size;simp;omega⟩,Ql k3⟩
       have HOW:=Hm HO.o;clear HA HO KB
       go_upto_region 17 with fail
       go_region_law (first
       |(refine QX rfl (.tmp 50) (.tmp 54) 24 rfl V7.heap.size 2 i2 (.int .i64 0) 1 8 Tryz.underlying24 hi2 ht0 ht1 ht2 rfl (by decide) (.slice va l.length vc) l.length (I l) (by simp [Act.eval,Act.put]) (show World.ownsRow _ _ _ _ _ _ _ from HOW.o.alloc _) ⟨W1.heap.size,0,none⟩ 1 1 [.int .i64 (db%4294967296)] (by simp [Act.eval,Act.put]) rfl ?hcl (by simp [Value.oneCell']) (by simp [maxLen];omega) (by omega) (by simp;omega) ?_;(case hcl=>intro j u hu;exact lit1 _ [.int .i64 (db%4294967296)] _ j u hu);intro v3 W3 own2 gr2 hloc;have hh:=HNX.o _ W3 v3 (by first|exact ((Below.refl _ _).alloc (Nat.le_refl _) _).drew|exact (Below.refl _ _).alloc (Nat.le_refl _) _|exact ((Below.refl _ _).drew).alloc (Nat.le_refl _) _) gr2 own2;have f4':=hh.1;have z4':=hh.2.1;have HR:=Hm hh.2.2.1;obtain ⟨v3a,v3c,rfl⟩:=hh.2.2.2;clear own2 gr2 hloc hh)
        | (go_simp;refine (L3.Xh db _ db0 db1).mono ?_;rintro e W ⟨rfl,rfl⟩))
       all_goals
        go_simp
        go_wp2
        go_roundw
        case rel=>exact ⟨l++[db%4294967296],_,by simp,by simp;omega,HR.o.1,HR.o.2.1,HR.o.2.2⟩
        case measure=>simp [intOf];omega
     . go_wp2
       go_meet
       case rel=>exact ⟨_,_,HA.o⟩
  . go_wp2_with fail
    refine (L3.Xh da _ da0 da1).mono ?_
    rintro e V6 ⟨rfl,rfl⟩;have f1:=HA.o.bx.2.1 1 _ rfl;have z1:=HA.o.bx.2.2 1;have HP:=Hm (λu=>HA.o.put (y:=⟨op,u,0,0,[]⟩) 1 (.int .i64 u) rfl rfl HA.o.ib);clear HA
    go_wp2
    go_meet
    case rel=>exact ⟨_,_,HP.o _⟩
  . go_wp2_with fail
    refine (KB.o 5 (by decide) (by decide) _ HA.o.c).mono ?_
    rintro e V6 ⟨y,rfl,hy0,hy1,hc,hg⟩;have HA:=Hm (HA.o.step hc hg);have f1:=HA.o.bx.2.1 1 _ rfl;have z1:=HA.o.bx.2.2 1;have HP:=Hm (HA.o.put (y:=⟨op,y,0,0,[]⟩) 1 (.int .i64 y) rfl rfl HA.o.ib);clear hc hg HA
    go_upto_region 20 with fail
    refine Qj (λV=>Ax w g a cap xs R0 G X ⟨op,y,0,0,[]⟩ (.slice none 0 0) V) HP.o ?_
    rintro V7 hA;have HA:=Hm hA;clear hA HP f1 z1
    go_wp2_with fail
    refine (L3.Xh db _ db0 db1).mono ?_
    rintro e V8 ⟨rfl,rfl⟩;have f2:=HA.o.bx.2.1 2 _ rfl;have z2:=HA.o.bx.2.2 2;have HP:=Hm (λu=>HA.o.put (y:=⟨op,y,u,0,[]⟩) 2 (.int .i64 u) rfl rfl HA.o.ib);clear HA
    go_wp2
    go_meet
    case rel=>exact ⟨_,_,HP.o _⟩
  . go_wp2
    go_meet
    case rel=>exact ⟨_,_,HA.o⟩
  . have h65:op=65\/op=66\/op=67\/op=68:=HFR.o.2 (by omega);clear HFR KS KO KD KB ho0 ho1
    rcases h65 with rfl|rfl|rfl|rfl
    . obtain ⟨lb,hlb⟩:∃ lb,lb=V4.heap.size:=⟨_,rfl⟩;have HLT:Hid (∀ t,(λV=>Bk V lb [.int .i64 127,.int .i64 126,.int .i64 125,.int .i64 124]/\Ax w g a cap xs R0 G X ⟨65,0,0,0,[]⟩ (.slice none 0 0) V) (V4.alloc (.cells #[.int .i64 127,.int .i64 126,.int .i64 125,.int .i64 124] t))):=λt=>⟨by rw [hlb];exact Bk.new,HA.o.below ((Below.refl _ _).alloc (Nat.le_refl _) _)⟩;have hGg:G≠g:=by have:=HA.o.hg;have:=HA.o.hR;have:=HA.o.hG;omega
      have hXl:X<V4.heap.size:=HA.o.bx.1;clear HA
      go_wp2_with fail
      refine (KC.o 127 (by decide) G _ (HLT.o _).2.c ((HLT.o _).2.gp.2.1 0 _ rfl) hGg).mono ?_
      rintro e V6 ⟨op',v',rfl,hv0,hv1,hc,hg⟩;have HA:=Hm ((HLT.o _).2.step hc hg);have f0:=HA.o.bx.2.1 0 _ rfl;have f1:=HA.o.bx.2.1 1 _ rfl;have f2:=HA.o.bx.2.1 2 _ rfl;have f3:=HA.o.bx.2.1 3 _ rfl;have f4:=HA.o.bx.2.1 4 _ rfl;have zz:=HA.o.bx.2.2;have HP:=Hm (HA.o.all (y:=⟨op',0,0,v',[]⟩) (lu:=.slice none 0 0) (.inl ⟨rfl,rfl⟩) ⟨hv0,hv1,by simp⟩);clear hc hg HLT HA
      go_wp2
      go_meet
      case rel=>exact ⟨_,_,HP.o⟩
    . obtain ⟨lb,hlb⟩:∃ lb,lb=V4.heap.size:=⟨_,rfl⟩;have HLT:Hid (∀ t,(λV=>Bk V lb [.int .i64 127,.int .i64 126,.int .i64 125,.int .i64 124]/\Ax w g a cap xs R0 G X ⟨66,0,0,0,[]⟩ (.slice none 0 0) V) (V4.alloc (.cells #[.int .i64 127,.int .i64 126,.int .i64 125,.int .i64 124] t))):=λt=>⟨by rw [hlb];exact Bk.new,HA.o.below ((Below.refl _ _).alloc (Nat.le_refl _) _)⟩;have hGg:G≠g:=by have:=HA.o.hg;have:=HA.o.hR;have:=HA.o.hG;omega
      have hXl:X<V4.heap.size:=HA.o.bx.1;clear HA
      go_wp2_with fail
      refine (KC.o 126 (by decide) G _ (HLT.o _).2.c ((HLT.o _).2.gp.2.1 0 _ rfl) hGg).mono ?_
      rintro e V6 ⟨op',v',rfl,hv0,hv1,hc,hg⟩;have HA:=Hm ((HLT.o _).2.step hc hg);have f0:=HA.o.bx.2.1 0 _ rfl;have f1:=HA.o.bx.2.1 1 _ rfl;have f2:=HA.o.bx.2.1 2 _ rfl;have f3:=HA.o.bx.2.1 3 _ rfl;have f4:=HA.o.bx.2.1 4 _ rfl;have zz:=HA.o.bx.2.2;have HP:=Hm (HA.o.all (y:=⟨op',0,0,v',[]⟩) (lu:=.slice none 0 0) (.inl ⟨rfl,rfl⟩) ⟨hv0,hv1,by simp⟩);clear hc hg HLT HA
      go_wp2
      go_meet
      case rel=>exact ⟨_,_,HP.o⟩
    . obtain ⟨lb,hlb⟩:∃ lb,lb=V4.heap.size:=⟨_,rfl⟩;have HLT:Hid (∀ t,(λV=>Bk V lb [.int .i64 127,.int .i64 126,.int .i64 125,.int .i64 124]/\Ax w g a cap xs R0 G X ⟨67,0,0,0,[]⟩ (.slice none 0 0) V) (V4.alloc (.cells #[.int .i64 127,.int .i64 126,.int .i64 125,.int .i64 124] t))):=λt=>⟨by rw [hlb];exact Bk.new,HA.o.below ((Below.refl _ _).alloc (Nat.le_refl _) _)⟩;have hGg:G≠g:=by have:=HA.o.hg;have:=HA.o.hR;have:=HA.o.hG;omega
      have hXl:X<V4.heap.size:=HA.o.bx.1;clear HA
      go_wp2_with fail
      refine (KC.o 125 (by decide) G _ (HLT.o _).2.c ((HLT.o _).2.gp.2.1 0 _ rfl) hGg).mono ?_
      rintro e V6 ⟨op',v',rfl,hv0,hv1,hc,hg⟩;have HA:=Hm ((HLT.o _).2.step hc hg);have f0:=HA.o.bx.2.1 0 _ rfl;have f1:=HA.o.bx.2.1 1 _ rfl;have f2:=HA.o.bx.2.1 2 _ rfl;have f3:=HA.o.bx.2.1 3 _ rfl;have f4:=HA.o.bx.2.1 4 _ rfl;have zz:=HA.o.bx.2.2;have HP:=Hm (HA.o.all (y:=⟨op',0,0,v',[]⟩) (lu:=.slice none 0 0) (.inl ⟨rfl,rfl⟩) ⟨hv0,hv1,by simp⟩);clear hc hg HLT HA
      go_wp2
      go_meet
      case rel=>exact ⟨_,_,HP.o⟩
    . obtain ⟨lb,hlb⟩:∃ lb,lb=V4.heap.size:=⟨_,rfl⟩;have HLT:Hid (∀ t,(λV=>Bk V lb [.int .i64 127,.int .i64 126,.int .i64 125,.int .i64 124]/\Ax w g a cap xs R0 G X ⟨68,0,0,0,[]⟩ (.slice none 0 0) V) (V4.alloc (.cells #[.int .i64 127,.int .i64 126,.int .i64 125,.int .i64 124] t))):=λt=>⟨by rw [hlb];exact Bk.new,HA.o.below ((Below.refl _ _).alloc (Nat.le_refl _) _)⟩;have hGg:G≠g:=by have:=HA.o.hg;have:=HA.o.hR;have:=HA.o.hG;omega
      have hXl:X<V4.heap.size:=HA.o.bx.1;clear HA
      go_wp2_with fail
      refine (KC.o 124 (by decide) G _ (HLT.o _).2.c ((HLT.o _).2.gp.2.1 0 _ rfl) hGg).mono ?_
      rintro e V6 ⟨op',v',rfl,hv0,hv1,hc,hg⟩;have HA:=Hm ((HLT.o _).2.step hc hg);have f0:=HA.o.bx.2.1 0 _ rfl;have f1:=HA.o.bx.2.1 1 _ rfl;have f2:=HA.o.bx.2.1 2 _ rfl;have f3:=HA.o.bx.2.1 3 _ rfl;have f4:=HA.o.bx.2.1 4 _ rfl;have zz:=HA.o.bx.2.2;have HP:=Hm (HA.o.all (y:=⟨op',0,0,v',[]⟩) (lu:=.slice none 0 0) (.inl ⟨rfl,rfl⟩) ⟨hv0,hv1,by simp⟩);clear hc hg HLT HA
      go_wp2
      go_meet
      case rel=>exact ⟨_,_,HP.o⟩
  . have h65:op=65\/op=66\/op=67\/op=68:=HFR.o.2 (by omega);clear HFR KS KO KD KB ho0 ho1
    rcases h65 with rfl|rfl|rfl|rfl
    . obtain ⟨lb,hlb⟩:∃ lb,lb=V4.heap.size:=⟨_,rfl⟩;have HLT:Hid (∀ t,(λV=>Bk V lb [.int .i64 127,.int .i64 126,.int .i64 125,.int .i64 124]/\Ax w g a cap xs R0 G X ⟨65,0,0,0,[]⟩ (.slice none 0 0) V) (V4.alloc (.cells #[.int .i64 127,.int .i64 126,.int .i64 125,.int .i64 124] t))):=λt=>⟨by rw [hlb];exact Bk.new,HA.o.below ((Below.refl _ _).alloc (Nat.le_refl _) _)⟩;have hGg:G≠g:=by have:=HA.o.hg;have:=HA.o.hR;have:=HA.o.hG;omega
      have hXl:X<V4.heap.size:=HA.o.bx.1;clear HA
      go_wp2_with fail
      refine (KC.o 127 (by decide) G _ (HLT.o _).2.c ((HLT.o _).2.gp.2.1 0 _ rfl) hGg).mono ?_
      rintro e V6 ⟨op',v',rfl,hv0,hv1,hc,hg⟩;have HA:=Hm ((HLT.o _).2.step hc hg);have f0:=HA.o.bx.2.1 0 _ rfl;have f1:=HA.o.bx.2.1 1 _ rfl;have f2:=HA.o.bx.2.1 2 _ rfl;have f3:=HA.o.bx.2.1 3 _ rfl;have f4:=HA.o.bx.2.1 4 _ rfl;have zz:=HA.o.bx.2.2;have HP:=Hm (HA.o.all (y:=⟨op',0,0,v',[]⟩) (lu:=.slice none 0 0) (.inl ⟨rfl,rfl⟩) ⟨hv0,hv1,by simp⟩);clear hc hg HLT HA
      go_wp2
      go_meet
      case rel=>exact ⟨_,_,HP.o⟩
    . obtain ⟨lb,hlb⟩:∃ lb,lb=V4.heap.size:=⟨_,rfl⟩;have HLT:Hid (∀ t,(λV=>Bk V lb [.int .i64 127,.int .i64 126,.int .i64 125,.int .i64 124]/\Ax w g a cap xs R0 G X ⟨66,0,0,0,[]⟩ (.slice none 0 0) V) (V4.alloc (.cells #[.int .i64 127,.int .i64 126,.int .i64 125,.int .i64 124] t))):=λt=>⟨by rw [hlb];exact Bk.new,HA.o.below ((Below.refl _ _).alloc (Nat.le_refl _) _)⟩;have hGg:G≠g:=by have:=HA.o.hg;have:=HA.o.hR;have:=HA.o.hG;omega
      have hXl:X<V4.heap.size:=HA.o.bx.1;clear HA
      go_wp2_with fail
      refine (KC.o 126 (by decide) G _ (HLT.o _).2.c ((HLT.o _).2.gp.2.1 0 _ rfl) hGg).mono ?_
      rintro e V6 ⟨op',v',rfl,hv0,hv1,hc,hg⟩;have HA:=Hm ((HLT.o _).2.step hc hg);have f0:=HA.o.bx.2.1 0 _ rfl;have f1:=HA.o.bx.2.1 1 _ rfl;have f2:=HA.o.bx.2.1 2 _ rfl;have f3:=HA.o.bx.2.1 3 _ rfl;have f4:=HA.o.bx.2.1 4 _ rfl;have zz:=HA.o.bx.2.2;have HP:=Hm (HA.o.all (y:=⟨op',0,0,v',[]⟩) (lu:=.slice none 0 0) (.inl ⟨rfl,rfl⟩) ⟨hv0,hv1,by simp⟩);clear hc hg HLT HA
      go_wp2
      go_meet
      case rel=>exact ⟨_,_,HP.o⟩
    . obtain ⟨lb,hlb⟩:∃ lb,lb=V4.heap.size:=⟨_,rfl⟩;have HLT:Hid (∀ t,(λV=>Bk V lb [.int .i64 127,.int .i64 126,.int .i64 125,.int .i64 124]/\Ax w g a cap xs R0 G X ⟨67,0,0,0,[]⟩ (.slice none 0 0) V) (V4.alloc (.cells #[.int .i64 127,.int .i64 126,.int .i64 125,.int .i64 124] t))):=λt=>⟨by rw [hlb];exact Bk.new,HA.o.below ((Below.refl _ _).alloc (Nat.le_refl _) _)⟩;have hGg:G≠g:=by have:=HA.o.hg;have:=HA.o.hR;have:=HA.o.hG;omega
      have hXl:X<V4.heap.size:=HA.o.bx.1;clear HA
      go_wp2_with fail
      refine (KC.o 125 (by decide) G _ (HLT.o _).2.c ((HLT.o _).2.gp.2.1 0 _ rfl) hGg).mono ?_
      rintro e V6 ⟨op',v',rfl,hv0,hv1,hc,hg⟩;have HA:=Hm ((HLT.o _).2.step hc hg);have f0:=HA.o.bx.2.1 0 _ rfl;have f1:=HA.o.bx.2.1 1 _ rfl;have f2:=HA.o.bx.2.1 2 _ rfl;have f3:=HA.o.bx.2.1 3 _ rfl;have f4:=HA.o.bx.2.1 4 _ rfl;have zz:=HA.o.bx.2.2;have HP:=Hm (HA.o.all (y:=⟨op',0,0,v',[]⟩) (lu:=.slice none 0 0) (.inl ⟨rfl,rfl⟩) ⟨hv0,hv1,by simp⟩);clear hc hg HLT HA
      go_wp2
      go_meet
      case rel=>exact ⟨_,_,HP.o⟩
    . obtain ⟨lb,hlb⟩:∃ lb,lb=V4.heap.size:=⟨_,rfl⟩;have HLT:Hid (∀ t,(λV=>Bk V lb [.int .i64 127,.int .i64 126,.int .i64 125,.int .i64 124]/\Ax w g a cap xs R0 G X ⟨68,0,0,0,[]⟩ (.slice none 0 0) V) (V4.alloc (.cells #[.int .i64 127,.int .i64 126,.int .i64 125,.int .i64 124] t))):=λt=>⟨by rw [hlb];exact Bk.new,HA.o.below ((Below.refl _ _).alloc (Nat.le_refl _) _)⟩;have hGg:G≠g:=by have:=HA.o.hg;have:=HA.o.hR;have:=HA.o.hG;omega
      have hXl:X<V4.heap.size:=HA.o.bx.1;clear HA
      go_wp2_with fail
      refine (KC.o 124 (by decide) G _ (HLT.o _).2.c ((HLT.o _).2.gp.2.1 0 _ rfl) hGg).mono ?_
      rintro e V6 ⟨op',v',rfl,hv0,hv1,hc,hg⟩;have HA:=Hm ((HLT.o _).2.step hc hg);have f0:=HA.o.bx.2.1 0 _ rfl;have f1:=HA.o.bx.2.1 1 _ rfl;have f2:=HA.o.bx.2.1 2 _ rfl;have f3:=HA.o.bx.2.1 3 _ rfl;have f4:=HA.o.bx.2.1 4 _ rfl;have zz:=HA.o.bx.2.2;have HP:=Hm (HA.o.all (y:=⟨op',0,0,v',[]⟩) (lu:=.slice none 0 0) (.inl ⟨rfl,rfl⟩) ⟨hv0,hv1,by simp⟩);clear hc hg HLT HA
      go_wp2
      go_meet
      case rel=>exact ⟨_,_,HP.o⟩
  . have h65:op=65\/op=66\/op=67\/op=68:=HFR.o.2 (by omega);clear HFR KS KO KD KB ho0 ho1
    rcases h65 with rfl|rfl|rfl|rfl
    . obtain ⟨lb,hlb⟩:∃ lb,lb=V4.heap.size:=⟨_,rfl⟩;have HLT:Hid (∀ t,(λV=>Bk V lb [.int .i64 127,.int .i64 126,.int .i64 125,.int .i64 124]/\Ax w g a cap xs R0 G X ⟨65,0,0,0,[]⟩ (.slice none 0 0) V) (V4.alloc (.cells #[.int .i64 127,.int .i64 126,.int .i64 125,.int .i64 124] t))):=λt=>⟨by rw [hlb];exact Bk.new,HA.o.below ((Below.refl _ _).alloc (Nat.le_refl _) _)⟩;have hGg:G≠g:=by have:=HA.o.hg;have:=HA.o.hR;have:=HA.o.hG;omega
      have hXl:X<V4.heap.size:=HA.o.bx.1;clear HA
      go_wp2_with fail
      refine (KC.o 127 (by decide) G _ (HLT.o _).2.c ((HLT.o _).2.gp.2.1 0 _ rfl) hGg).mono ?_
      rintro e V6 ⟨op',v',rfl,hv0,hv1,hc,hg⟩;have HA:=Hm ((HLT.o _).2.step hc hg);have f0:=HA.o.bx.2.1 0 _ rfl;have f1:=HA.o.bx.2.1 1 _ rfl;have f2:=HA.o.bx.2.1 2 _ rfl;have f3:=HA.o.bx.2.1 3 _ rfl;have f4:=HA.o.bx.2.1 4 _ rfl;have zz:=HA.o.bx.2.2;have HP:=Hm (HA.o.all (y:=⟨op',0,0,v',[]⟩) (lu:=.slice none 0 0) (.inl ⟨rfl,rfl⟩) ⟨hv0,hv1,by simp⟩);clear hc hg HLT HA
      go_wp2
      go_meet
      case rel=>exact ⟨_,_,HP.o⟩
    . obtain ⟨lb,hlb⟩:∃ lb,lb=V4.heap.size:=⟨_,rfl⟩;have HLT:Hid (∀ t,(λV=>Bk V lb [.int .i64 127,.int .i64 126,.int .i64 125,.int .i64 124]/\Ax w g a cap xs R0 G X ⟨66,0,0,0,[]⟩ (.slice none 0 0) V) (V4.alloc (.cells #[.int .i64 127,.int .i64 126,.int .i64 125,.int .i64 124] t))):=λt=>⟨by rw [hlb];exact Bk.new,HA.o.below ((Below.refl _ _).alloc (Nat.le_refl _) _)⟩;have hGg:G≠g:=by have:=HA.o.hg;have:=HA.o.hR;have:=HA.o.hG;omega
      have hXl:X<V4.heap.size:=HA.o.bx.1;clear HA
      go_wp2_with fail
      refine (KC.o 126 (by decide) G _ (HLT.o _).2.c ((HLT.o _).2.gp.2.1 0 _ rfl) hGg).mono ?_
      rintro e V6 ⟨op',v',rfl,hv0,hv1,hc,hg⟩;have HA:=Hm ((HLT.o _).2.step hc hg);have f0:=HA.o.bx.2.1 0 _ rfl;have f1:=HA.o.bx.2.1 1 _ rfl;have f2:=HA.o.bx.2.1 2 _ rfl;have f3:=HA.o.bx.2.1 3 _ rfl;have f4:=HA.o.bx.2.1 4 _ rfl;have zz:=HA.o.bx.2.2;have HP:=Hm (HA.o.all (y:=⟨op',0,0,v',[]⟩) (lu:=.slice none 0 0) (.inl ⟨rfl,rfl⟩) ⟨hv0,hv1,by simp⟩);clear hc hg HLT HA
      go_wp2
      go_meet
      case rel=>exact ⟨_,_,HP.o⟩
    . obtain ⟨lb,hlb⟩:∃ lb,lb=V4.heap.size:=⟨_,rfl⟩;have HLT:Hid (∀ t,(λV=>Bk V lb [.int .i64 127,.int .i64 126,.int .i64 125,.int .i64 124]/\Ax w g a cap xs R0 G X ⟨67,0,0,0,[]⟩ (.slice none 0 0) V) (V4.alloc (.cells #[.int .i64 127,.int .i64 126,.int .i64 125,.int .i64 124] t))):=λt=>⟨by rw [hlb];exact Bk.new,HA.o.below ((Below.refl _ _).alloc (Nat.le_refl _) _)⟩;have hGg:G≠g:=by have:=HA.o.hg;have:=HA.o.hR;have:=HA.o.hG;omega
      have hXl:X<V4.heap.size:=HA.o.bx.1;clear HA
      go_wp2_with fail
      refine (KC.o 125 (by decide) G _ (HLT.o _).2.c ((HLT.o _).2.gp.2.1 0 _ rfl) hGg).mono ?_
      rintro e V6 ⟨op',v',rfl,hv0,hv1,hc,hg⟩;have HA:=Hm ((HLT.o _).2.step hc hg);have f0:=HA.o.bx.2.1 0 _ rfl;have f1:=HA.o.bx.2.1 1 _ rfl;have f2:=HA.o.bx.2.1 2 _ rfl;have f3:=HA.o.bx.2.1 3 _ rfl;have f4:=HA.o.bx.2.1 4 _ rfl;have zz:=HA.o.bx.2.2;have HP:=Hm (HA.o.all (y:=⟨op',0,0,v',[]⟩) (lu:=.slice none 0 0) (.inl ⟨rfl,rfl⟩) ⟨hv0,hv1,by simp⟩);clear hc hg HLT HA
      go_wp2
      go_meet
      case rel=>exact ⟨_,_,HP.o⟩
    . obtain ⟨lb,hlb⟩:∃ lb,lb=V4.heap.size:=⟨_,rfl⟩;have HLT:Hid (∀ t,(λV=>Bk V lb [.int .i64 127,.int .i64 126,.int .i64 125,.int .i64 124]/\Ax w g a cap xs R0 G X ⟨68,0,0,0,[]⟩ (.slice none 0 0) V) (V4.alloc (.cells #[.int .i64 127,.int .i64 126,.int .i64 125,.int .i64 124] t))):=λt=>⟨by rw [hlb];exact Bk.new,HA.o.below ((Below.refl _ _).alloc (Nat.le_refl _) _)⟩;have hGg:G≠g:=by have:=HA.o.hg;have:=HA.o.hR;have:=HA.o.hG;omega
      have hXl:X<V4.heap.size:=HA.o.bx.1;clear HA
      go_wp2_with fail
      refine (KC.o 124 (by decide) G _ (HLT.o _).2.c ((HLT.o _).2.gp.2.1 0 _ rfl) hGg).mono ?_
      rintro e V6 ⟨op',v',rfl,hv0,hv1,hc,hg⟩;have HA:=Hm ((HLT.o _).2.step hc hg);have f0:=HA.o.bx.2.1 0 _ rfl;have f1:=HA.o.bx.2.1 1 _ rfl;have f2:=HA.o.bx.2.1 2 _ rfl;have f3:=HA.o.bx.2.1 3 _ rfl;have f4:=HA.o.bx.2.1 4 _ rfl;have zz:=HA.o.bx.2.2;have HP:=Hm (HA.o.all (y:=⟨op',0,0,v',[]⟩) (lu:=.slice none 0 0) (.inl ⟨rfl,rfl⟩) ⟨hv0,hv1,by simp⟩);clear hc hg HLT HA
      go_wp2
      go_meet
      case rel=>exact ⟨_,_,HP.o⟩
  . have h65:op=65\/op=66\/op=67\/op=68:=HFR.o.2 (by omega);clear HFR KS KO KD KB ho0 ho1
    rcases h65 with rfl|rfl|rfl|rfl
    . obtain ⟨lb,hlb⟩:∃ lb,lb=V4.heap.size:=⟨_,rfl⟩;have HLT:Hid (∀ t,(λV=>Bk V lb [.int .i64 127,.int .i64 126,.int .i64 125,.int .i64 124]/\Ax w g a cap xs R0 G X ⟨65,0,0,0,[]⟩ (.slice none 0 0) V) (V4.alloc (.cells #[.int .i64 127,.int .i64 126,.int .i64 125,.int .i64 124] t))):=λt=>⟨by rw [hlb];exact Bk.new,HA.o.below ((Below.refl _ _).alloc (Nat.le_refl _) _)⟩;have hGg:G≠g:=by have:=HA.o.hg;have:=HA.o.hR;have:=HA.o.hG;omega
      have hXl:X<V4.heap.size:=HA.o.bx.1;clear HA
      go_wp2_with fail
      refine (KC.o 127 (by decide) G _ (HLT.o _).2.c ((HLT.o _).2.gp.2.1 0 _ rfl) hGg).mono ?_
      rintro e V6 ⟨op',v',rfl,hv0,hv1,hc,hg⟩;have HA:=Hm ((HLT.o _).2.step hc hg);have f0:=HA.o.bx.2.1 0 _ rfl;have f1:=HA.o.bx.2.1 1 _ rfl;have f2:=HA.o.bx.2.1 2 _ rfl;have f3:=HA.o.bx.2.1 3 _ rfl;have f4:=HA.o.bx.2.1 4 _ rfl;have zz:=HA.o.bx.2.2;have HP:=Hm (HA.o.all (y:=⟨op',0,0,v',[]⟩) (lu:=.slice none 0 0) (.inl ⟨rfl,rfl⟩) ⟨hv0,hv1,by simp⟩);clear hc hg HLT HA
      go_wp2
      go_meet
      case rel=>exact ⟨_,_,HP.o⟩
    . obtain ⟨lb,hlb⟩:∃ lb,lb=V4.heap.size:=⟨_,rfl⟩;have HLT:Hid (∀ t,(λV=>Bk V lb [.int .i64 127,.int .i64 126,.int .i64 125,.int .i64 124]/\Ax w g a cap xs R0 G X ⟨66,0,0,0,[]⟩ (.slice none 0 0) V) (V4.alloc (.cells #[.int .i64 127,.int .i64 126,.int .i64 125,.int .i64 124] t))):=λt=>⟨by rw [hlb];exact Bk.new,HA.o.below ((Below.refl _ _).alloc (Nat.le_refl _) _)⟩;have hGg:G≠g:=by have:=HA.o.hg;have:=HA.o.hR;have:=HA.o.hG;omega
      have hXl:X<V4.heap.size:=HA.o.bx.1;clear HA
      go_wp2_with fail
      refine (KC.o 126 (by decide) G _ (HLT.o _).2.c ((HLT.o _).2.gp.2.1 0 _ rfl) hGg).mono ?_
      rintro e V6 ⟨op',v',rfl,hv0,hv1,hc,hg⟩;have HA:=Hm ((HLT.o _).2.step hc hg);have f0:=HA.o.bx.2.1 0 _ rfl;have f1:=HA.o.bx.2.1 1 _ rfl;have f2:=HA.o.bx.2.1 2 _ rfl;have f3:=HA.o.bx.2.1 3 _ rfl;have f4:=HA.o.bx.2.1 4 _ rfl;have zz:=HA.o.bx.2.2;have HP:=Hm (HA.o.all (y:=⟨op',0,0,v',[]⟩) (lu:=.slice none 0 0) (.inl ⟨rfl,rfl⟩) ⟨hv0,hv1,by simp⟩);clear hc hg HLT HA
      go_wp2
      go_meet
      case rel=>exact ⟨_,_,HP.o⟩
    . obtain ⟨lb,hlb⟩:∃ lb,lb=V4.heap.size:=⟨_,rfl⟩;have HLT:Hid (∀ t,(λV=>Bk V lb [.int .i64 127,.int .i64 126,.int .i64 125,.int .i64 124]/\Ax w g a cap xs R0 G X ⟨67,0,0,0,[]⟩ (.slice none 0 0) V) (V4.alloc (.cells #[.int .i64 127,.int .i64 126,.int .i64 125,.int .i64 124] t))):=λt=>⟨by rw [hlb];exact Bk.new,HA.o.below ((Below.refl _ _).alloc (Nat.le_refl _) _)⟩;have hGg:G≠g:=by have:=HA.o.hg;have:=HA.o.hR;have:=HA.o.hG;omega
      have hXl:X<V4.heap.size:=HA.o.bx.1;clear HA
      go_wp2_with fail
      refine (KC.o 125 (by decide) G _ (HLT.o _).2.c ((HLT.o _).2.gp.2.1 0 _ rfl) hGg).mono ?_
      rintro e V6 ⟨op',v',rfl,hv0,hv1,hc,hg⟩;have HA:=Hm ((HLT.o _).2.step hc hg);have f0:=HA.o.bx.2.1 0 _ rfl;have f1:=HA.o.bx.2.1 1 _ rfl;have f2:=HA.o.bx.2.1 2 _ rfl;have f3:=HA.o.bx.2.1 3 _ rfl;have f4:=HA.o.bx.2.1 4 _ rfl;have zz:=HA.o.bx.2.2;have HP:=Hm (HA.o.all (y:=⟨op',0,0,v',[]⟩) (lu:=.slice none 0 0) (.inl ⟨rfl,rfl⟩) ⟨hv0,hv1,by simp⟩);clear hc hg HLT HA
      go_wp2
      go_meet
      case rel=>exact ⟨_,_,HP.o⟩
    . obtain ⟨lb,hlb⟩:∃ lb,lb=V4.heap.size:=⟨_,rfl⟩;have HLT:Hid (∀ t,(λV=>Bk V lb [.int .i64 127,.int .i64 126,.int .i64 125,.int .i64 124]/\Ax w g a cap xs R0 G X ⟨68,0,0,0,[]⟩ (.slice none 0 0) V) (V4.alloc (.cells #[.int .i64 127,.int .i64 126,.int .i64 125,.int .i64 124] t))):=λt=>⟨by rw [hlb];exact Bk.new,HA.o.below ((Below.refl _ _).alloc (Nat.le_refl _) _)⟩;have hGg:G≠g:=by have:=HA.o.hg;have:=HA.o.hR;have:=HA.o.hG;omega
      have hXl:X<V4.heap.size:=HA.o.bx.1;clear HA
      go_wp2_with fail
      refine (KC.o 124 (by decide) G _ (HLT.o _).2.c ((HLT.o _).2.gp.2.1 0 _ rfl) hGg).mono ?_
      rintro e V6 ⟨op',v',rfl,hv0,hv1,hc,hg⟩;have HA:=Hm ((HLT.o _).2.step hc hg);have f0:=HA.o.bx.2.1 0 _ rfl;have f1:=HA.o.bx.2.1 1 _ rfl;have f2:=HA.o.bx.2.1 2 _ rfl;have f3:=HA.o.bx.2.1 3 _ rfl;have f4:=HA.o.bx.2.1 4 _ rfl;have zz:=HA.o.bx.2.2;have HP:=Hm (HA.o.all (y:=⟨op',0,0,v',[]⟩) (lu:=.slice none 0 0) (.inl ⟨rfl,rfl⟩) ⟨hv0,hv1,by simp⟩);clear hc hg HLT HA
      go_wp2
      go_meet
      case rel=>exact ⟨_,_,HP.o⟩
 case rest =>
  obtain ⟨x,lv,hA⟩:=hcut;clear HA HFR KC KD KB;have HA:=Hm hA;clear hA
  go_wp2_with fail
  refine (KO.o _ HA.o.c).mono ?_
  rintro e V6 ⟨r,rfl,hc,hg⟩;have HA:=Hm (HA.o.step hc hg);clear hc hg KO
  cases r with
 |false =>
   obtain ⟨la,lc,elv,-⟩:=HA.o.lv.slice;subst elv;have f0:=HA.o.bx.2.1 0 _ rfl;have f1:=HA.o.bx.2.1 1 _ rfl;have f2:=HA.o.bx.2.1 2 _ rfl;have f3:=HA.o.bx.2.1 3 _ rfl;have f4:=HA.o.bx.2.1 4 _ rfl;have q0:=HA.o.r0.2.1 0 _ rfl;have q1:=HA.o.r0.2.1 1 _ rfl;have q2:=HA.o.r0.2.1 2 _ rfl;have q3:=HA.o.r0.2.1 3 _ rfl;have q4:=HA.o.r0.2.1 4 _ rfl;have fz:=HA.o.r0.2.2;have HF:=Hm (And.intro HA.o.ib HA.o.fin);clear HA
   go_wp2
   refine Qf (λU=>Bk U R0 (cI x (.slice la x.l.length lc))/\LV U (λk=>k<w.heap.size) (.slice la x.l.length lc) x.l/\L3.Cur U g a cap xs/\w.grownBy U (some g)) HF.o.2 ?_
   rintro U ⟨bU,lU,cU,gU⟩;have s0:=bU.2.1 0 _ rfl;have s1:=bU.2.1 1 _ rfl;have s2:=bU.2.1 2 _ rfl;have s3:=bU.2.1 3 _ rfl;have s4:=bU.2.1 4 _ rfl;have HU:=Hm (And.intro lU (And.intro cU gU));clear bU lU cU gU
   exact bodyPost_ret (v:=inV x la lc) (by simp [results,Tryz.results17,go_sem,s0,s1,s2,s3,s4,inV]) rfl ⟨x,la,lc,rfl,HF.o.1,HU.o.1,HU.o.2.1,HU.o.2.2⟩
 |true =>
   obtain ⟨la0,lc0,e0,-⟩:=HA.o.lv.slice;subst e0;have f0:=HA.o.bx.2.1 0 _ rfl;have f1:=HA.o.bx.2.1 1 _ rfl;have f2:=HA.o.bx.2.1 2 _ rfl;have f3:=HA.o.bx.2.1 3 _ rfl;have f4:=HA.o.bx.2.1 4 _ rfl
   have HSP:Hid (∀ (U1:World),Below V6.heap.size V6 U1->Ax w g a cap xs R0 G X x (.slice la0 x.l.length lc0) U1/\∀ t,Calls Tryz.prog 47 #[.pointer (some ⟨g,0,none⟩),.slice (some ⟨U1.heap.size,0,none⟩) 2 2] (U1.alloc (.cells #[.int .i64 x.op,.int .i64 x.a,.int .i64 x.b,.int .u64 x.v,.slice la0 x.l.length lc0,.int .i64 11,.int .i64 0,.int .i64 0,.int .u64 0,.slice none 0 0] t)) λe U2=>∃ x' la' lc' b' n' c',e=.returned (.slice (some ⟨b',0,none⟩) n' c')/\1<=n'/\(∀ j,j<5->U2.cell? ⟨b',j,none⟩=(cI x' (.slice la' x'.l.length lc'))[j]?)/\Ax w g a cap xs R0 G X x (.slice la0 x.l.length lc0) U2/\Ax w g a cap xs R0 G X x' (.slice la' x'.l.length lc') (((((U2.setCell ⟨X,0,none⟩ (.int .i64 x'.op)).setCell ⟨X,1,none⟩ (.int .i64 x'.a)).setCell ⟨X,2,none⟩ (.int .i64 x'.b)).setCell ⟨X,3,none⟩ (.int .u64 x'.v)).setCell ⟨X,4,none⟩ (.slice la' x'.l.length lc'))):=by
    intro U1 hb
    have A1:=HA.o.below hb
    refine ⟨A1,λt=>?_⟩
    have hb2:Below U1.heap.size U1 (U1.alloc (.cells [.int .i64 x.op,.int .i64 x.a,.int .i64 x.b,.int .u64 x.v,.slice la0 x.l.length lc0,.int .i64 11,.int .i64 0,.int .i64 0,.int .u64 0,.slice none 0 0].toArray t)):=(Below.refl _ _).alloc (Nat.le_refl _) _;have A2:=A1.below hb2;have bk:Bk (U1.alloc (.cells [.int .i64 x.op,.int .i64 x.a,.int .i64 x.b,.int .u64 x.v,.slice la0 x.l.length lc0,.int .i64 11,.int .i64 0,.int .i64 0,.int .u64 0,.slice none 0 0].toArray t)) U1.heap.size [.int .i64 x.op,.int .i64 x.a,.int .i64 x.b,.int .u64 x.v,.slice la0 x.l.length lc0,.int .i64 11,.int .i64 0,.int .i64 0,.int .u64 0,.slice none 0 0]:=Bk.new
    refine (KS.o U1.heap.size 2 x ⟨11,0,0,0,[]⟩ (.slice la0 x.l.length lc0) (.slice none 0 0) _ A2.c ⟨⟨bk.2.1 0 _ rfl,bk.2.1 1 _ rfl,bk.2.1 2 _ rfl,bk.2.1 3 _ rfl,bk.2.1 4 _ rfl⟩,λi=>bk.2.2 _⟩ ⟨⟨bk.2.1 5 _ rfl,bk.2.1 6 _ rfl,bk.2.1 7 _ rfl,bk.2.1 8 _ rfl,bk.2.1 9 _ rfl⟩,λi=>bk.2.2 _⟩ (A2.lv.keep (Nat.le_refl _) (λb _ _=>⟨rfl,λh=>h⟩)) (.inl ⟨rfl,rfl⟩) A2.ib (by refine ⟨?_,?_,?_⟩<;>simp)).mono ?_
    rintro e U2 ⟨x',lv',b',n',c',rfl,hn,hcl,hib,hlv,hcu,hgr⟩;obtain ⟨la',lc',rfl,-⟩:=hlv.slice;have A3:=A2.step hcu hgr
    refine ⟨x',la',lc',b',n',c',rfl,hn,hcl,A3,A3.all (hlv.keep (Nat.le_refl _) (λb hb1 hb2=>⟨rfl,λh=>hb1 ?_⟩)) hib⟩
    have z1:=A2.bx.1;have z2:=A2.gp.1;have z3:=A2.r0.1;have z5:=A2.gr.size
    show b<_
    rcases h with h|h|h|h<;>omega
   clear HA KS
   go_upto_region 27 with fail
   go_region_law (first
   |(go_simp;go_at_call 48;refine (l4Op_c 11 _).mono ?_;rintro e U1 ⟨rfl,hb⟩;have hh:=HSP.o U1 (by first|exact hb|exact ⟨hb.os,hb.tape,hb.output,hb.size,hb.block⟩);have g0:=hh.1.bx.2.1 0 _ rfl;have g1:=hh.1.bx.2.1 1 _ rfl;have g2:=hh.1.bx.2.1 2 _ rfl;have g3:=hh.1.bx.2.1 3 _ rfl;have g4:=hh.1.bx.2.1 4 _ rfl;have HS2:=Hm hh.2;clear hb hh)
    | (go_simp;go_at_call 47;refine (HS2.o _).mono ?_;rintro e U2 ⟨x',la',lc',b',n',c',rfl,hn',hcl,hA2,hA3⟩;have hni:(0:Int)<(n':Int):=(by omega);have hnn:0<n':=(by omega);have hnd:decide (0<n')=true:=decide_eq_true hnn;have k0:=(hcl 0 (by omega)).trans (show _=some (.int .i64 x'.op) from rfl);have k1:=(hcl 1 (by omega)).trans (show _=some (.int .i64 x'.a) from rfl);have k2:=(hcl 2 (by omega)).trans (show _=some (.int .i64 x'.b) from rfl);have k3:=(hcl 3 (by omega)).trans (show _=some (.int .u64 x'.v) from rfl);have k4:=(hcl 4 (by omega)).trans (show _=some (.slice la' x'.l.length lc') from rfl);have m0:=hA2.bx.2.1 0 _ rfl;have m1:=hA2.bx.2.1 1 _ rfl;have m2:=hA2.bx.2.1 2 _ rfl;have m3:=hA2.bx.2.1 3 _ rfl;have m4:=hA2.bx.2.1 4 _ rfl;have mz:=hA2.bx.2.2;have HA3:=Hm hA3;clear hcl hA2 hA3))
   all_goals
    go_simp
    go_upto_region 28 with fail
    refine Qj (λV=>Ax w g a cap xs R0 G X x' (.slice la' x'.l.length lc') V) HA3.o ?_
    rintro V9 hA9;have HA:=Hm hA9;clear hA9 HA3 k0 k1 k2 k3 k4 m0 m1 m2 m3 m4 mz g0 g1 g2 g3 g4 f0 f1 f2 f3 f4 HS2 HSP;have f0:=HA.o.bx.2.1 0 _ rfl;have f1:=HA.o.bx.2.1 1 _ rfl;have f2:=HA.o.bx.2.1 2 _ rfl;have f3:=HA.o.bx.2.1 3 _ rfl;have f4:=HA.o.bx.2.1 4 _ rfl;have q0:=HA.o.r0.2.1 0 _ rfl;have q1:=HA.o.r0.2.1 1 _ rfl;have q2:=HA.o.r0.2.1 2 _ rfl;have q3:=HA.o.r0.2.1 3 _ rfl;have q4:=HA.o.r0.2.1 4 _ rfl;have fz:=HA.o.r0.2.2;have HF:=Hm (And.intro HA.o.ib HA.o.fin);clear HA
    go_wp2
    refine Qf (λU=>Bk U R0 (cI x' (.slice la' x'.l.length lc'))/\LV U (λk=>k<w.heap.size) (.slice la' x'.l.length lc') x'.l/\L3.Cur U g a cap xs/\w.grownBy U (some g)) HF.o.2 ?_
    rintro U ⟨bU,lU,cU,gU⟩;have s0:=bU.2.1 0 _ rfl;have s1:=bU.2.1 1 _ rfl;have s2:=bU.2.1 2 _ rfl;have s3:=bU.2.1 3 _ rfl;have s4:=bU.2.1 4 _ rfl;have HU:=Hm (And.intro lU (And.intro cU gU));clear bU lU cU gU
    exact bodyPost_ret (v:=inV x' la' lc') (by simp [results,Tryz.results17,go_sem,s0,s1,s2,s3,s4,inV]) rfl ⟨x',la',lc',rfl,HF.o.1,HU.o.1,HU.o.2.1,HU.o.2.2⟩
end Go.Proofs.YtipfjdogokanbaaGreatDoor.An
