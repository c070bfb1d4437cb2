import Derived.Test.YtedcmcdbejjgcaaGreatGaa
import Derived.Test.YtedcmcdbejjgcaaGreatGai
import Derived.Test.YtedcmcdbejjgcaaGreatGbk
import Derived.Deep.CutBlock
import Derived.Test.YtedcmcdbejjgcaaGreatGbj
set_option linter.all false
set_option maxHeartbeats 400000000
set_option maxRecDepth 100000
namespace Go.Proofs.YtedcmcdbejjgcaaGreat.Ms
open Go.RowKit Go.Sort
theorem info_Im:(Tryz.prog.info? 100).map (λi=>(i.zero,i.size,i.bytes))=some (some (.agg #[.string ByteArray.empty,.string ByteArray.empty,.int .i64 0,.int .i64 0,.int .i64 0,.int .i64 0,.bool false,.int .i64 0,.bool false]),9,88):=by kernel_rfl
theorem bind_lk {α β γ:Type}{M:Rs α}{I:Rs γ}{rd:Nat->Rs β}{p3 p4 er3 at3 er4 at4}{f:β->γ}(c:Lk M p3 er3 at3)(b:Lk (M.bind λ_ p=>rd p) p4 er4 at4)(h1:er3≠0->I=.bad er3 at3)(g:er3=0->I=(rd p3).bind λx q=>.ok (f x) q):Lk I p4 er4 at4/\(∀ x q,I=.ok x q->∃ y,(M.bind λ_ p=>rd p)=.ok y q/\x=f y):=by
 by_cases e:er3=0
 . subst e;obtain ⟨v,rfl,rfl⟩:=c.zero;rw [g rfl];have d:Lk (rd p3) p4 er4 at4:=b
   show Lk _ _ _ _/\∀ x q,_->∃ y,rd p3=.ok y q/\x=f y
   cases hr:rd p3 with
   |bad e a=>rw [hr] at d;exact ⟨d,λx q h=>(by cases h)⟩
   |ok y q=>rw [hr] at d;exact ⟨d,λx q' h=>(by cases h;exact ⟨y,rfl,rfl⟩)⟩
 . rw [h1 e];rw [c.ne e] at b⊢
   exact ⟨b,λx q h=>(by cases h)⟩
theorem imp_sc {B w0 s ba bc bs p bx w}(l:List Imp)(v0:Value)(c0:List Value)(k0 os:List Qc)(h:Sd B w0 s ba bc bs p 0 0 (4*p) bx (⟨100,9,l.length,v0,c0⟩::(os++k0)) w)(b7:LR RImp l c0 k0)(hm:bc.rest[1]?=some v0)(hen:bc.en≠0)(d5:l.length<=p)(hA:Qm bs)(hl:bs.length<=4194300) :
    Calls Tryz.prog 221 #[.pointer (some ⟨s,0,none⟩)] w (EnD 1 (XK bs bc.E p) RImp l 1 100 9 B w0 s ba bc bs bx os):=by
 obtain ⟨va,vc,rfl⟩:∃ a c,v0=.slice a l.length c:=Qc.Ok.slice (h.row mS);have d3:=h.le;have c9:=Hm b7;clear b7;obtain ⟨i0,hi,ct,cs,cr⟩:=info_parts info_Im;have h1:=h.box (t:=100) (xs:=[.string ByteArray.empty,.string ByteArray.empty,.int .i64 0,.int .i64 0,.int .i64 0,.int .i64 0,.bool false,.int .i64 0,.bool false]);have K1:=Hm (nameC h1 (Lk.ok () p) hen (by omega) hA (by omega));clear h h1
 go_enter Tryz.func221,Tryz.ntmps221
 go_wp2_with fail
 refine (K1.o).mono ?_
 rintro e w1 ⟨u1,p1,eb,ef,rfl,⟨j,rfl⟩,b9,aw,a7⟩;have y0:=a7.b0.2.1 0 _ rfl;have cn:=a7.b0.2.2 0;have h2:=a7.set0 0 (.string j);have K2:=Hm (nameC h2 b9 hen (by omega) hA (by omega));have ce:=Hm aw;clear K1 a7 h2 b9 aw
 go_wp2_with fail
 refine (K2.o).mono ?_
 rintro e w2 ⟨u2,p2,d9,ee,rfl,⟨d,rfl⟩,b8,av,a6⟩;have z0:=a6.b0.2.1 1 _ rfl;have ci:=a6.b0.2.2 1;have h3:=a6.set0 1 (.string d);have K3:=Hm (oneC 0 3 (by decide) (by decide) h3 b8 hA (by omega));have cd:=Hm av;clear K2 a6 h3 b8 av y0 cn
 go_wp2_with fail
 refine (K3.o).mono ?_
 rintro e w3 ⟨u3,p3,a0,bq,rfl,⟨n,rfl⟩,a8,au,a5⟩;have x0:=a5.b0.2.1 2 _ rfl;have co:=a5.b0.2.2 2;have Z:=Hm (a5.set0 2 (.int .i64 n))
 have ab:Hid (a0≠0->XK bs bc.E p=.bad a0 bq):=λhn=>by
  have:=a8.ne hn
  unfold XK;rw [kd_rng]
  rcases g1:Xa bs bc.E p with ⟨e1,b1⟩|⟨x1,q1⟩
  . simp only [g1,Rs.bind] at this⊢;cases this;rfl
  . rcases g2:Xa bs bc.E q1 with ⟨e2,b2⟩|⟨x2,q2⟩
    . simp only [g1,g2,Rs.bind] at this⊢;cases this;rfl
    . rcases g3:Qz (JP 0 3) bs q2 with ⟨e3,b3⟩|⟨x3,q3⟩
      . simp only [g1,g2,g3,Rs.bind] at this⊢;cases this;rfl
      . simp only [g1,g2,g3,Rs.bind] at this;cases this
 have ap:Hid (a0=0->bq=0/\0<=n/\n<=3/\p+1<=p3/\XK bs bc.E p=(if n=0 then (QK bs p3).bind fun t O=>.ok ⟨j,d,n,t,Qq.z,JX.z⟩ O
     else if n=1 then (GC bs p3).bind λl O=>.ok ⟨j,d,n,0,l,JX.z⟩ O
     else if n=2 then (XR bs p3).bind λl O=>.ok ⟨j,d,n,0,l,JX.z⟩ O
     else (gtyM bs p3).bind fun g O=>.ok ⟨j,d,n,0,Qq.z,g⟩ O)):=fun e0=>by
  subst e0;obtain ⟨x,r,ax⟩:=a8.zero;have aw:=ce.o;have av:=cd.o;unfold XK;rw [kd_rng]
  rcases g1:Xa bs bc.E p with ⟨e1,b1⟩|⟨x1,q1⟩
  . simp only [g1,Rs.bind] at r;cases r
  . rcases g2:Xa bs bc.E q1 with ⟨e2,b2⟩|⟨x2,q2⟩
    . simp only [g1,g2,Rs.bind] at r;cases r
    . rcases g3:Qz (JP 0 3) bs q2 with ⟨e3,b3⟩|⟨x3,q3⟩
      . simp only [g1,g2,g3,Rs.bind] at r;cases r
      . simp only [g1,g2,g3,Rs.bind] at r aw av au⊢
        cases r
        have e1:=aw x1 q1 rfl;have e2:=av x2 q2 rfl;have e3:=au x p3 rfl
        injection e1 with e1
        injection e2 with e2
        injection e3 with _ e3
        have hr:=only_in g3;have n1:=X9 _ _ _ x1 q1 g1;have n2:=X9 _ _ _ x2 q2 g2;have n3:=X8 _ _ _ x p3 g3;subst e1 e2 e3
        simp only [JP,Bool.and_eq_true,decide_eq_true_eq] at hr
        exact ⟨ax,hr.1,hr.2,by omega,rfl⟩
 have M:=Hm a8;clear ce cd a8 au a5 K3 z0 ci
 go_upto_block 0 with fail
 go_cut [] from 15 to 36 (λwc=>∃ (R F D:Int) (G:Bool) (X:Int) (Y:Bool) (O:Nat) (aa ao:Int),Lk (XK bs bc.E p) O aa ao/\(∀ x q,XK bs bc.E p=.ok x q->x=⟨j,d,n,R,⟨F,D,G⟩,⟨X,Y⟩⟩/\p+1<=q)/\Sd B w0 s ba bc bs O aa ao (4*p+1+1) ((w.heap.size,[.string j,.string d,.int .i64 n,.int .i64 R,.int .i64 F,.int .i64 D,.bool G,.int .i64 X,.bool Y])::bx) (⟨100,9,l.length,.slice va l.length vc,c0⟩::(os++k0)) wc)
 case first =>
  have y2:=Z.o.b0.2.1 2 _ rfl
  by_cases bk:n=0
  . subst bk;have K4:=Hm (u32C Z.o M.o hA (by omega));clear Z
    go_wp2_with fail
    refine (K4.o).mono ?_
    rintro e w4 ⟨u4,O,aa,ao,rfl,⟨R,rfl⟩,U,ar,u⟩;have y3:=u.b0.2.1 3 _ rfl;have dk:=u.b0.2.2 3;have H4:=Hm (u.set0 3 (.int .i64 R));have HR:=Hm (bind_lk (I:=XK bs bc.E p) (f:=λt=>⟨j,d,0,t,Qq.z,JX.z⟩) M.o U ab.o (λe0=>by obtain ⟨_,_,_,_,h5⟩:=ap.o e0;rw [h5];simp));have C:=Hm ar;clear u U ar K4
    go_wp2_with fail
    go_meet
    refine ⟨R,0,0,false,0,false,O,aa,ao,HR.o.1,λx q r=>?_,H4.o⟩
    obtain ⟨y,hy,rfl⟩:=HR.o.2 x q r
    have:=C.o y q hy
    injection this with _ this
    subst this
    exact ⟨rfl,Og _ _ _ _ _ r⟩
  by_cases bj:n=1
  . subst bj;have K4:=Hm (oneC 112 112 (by decide) (by decide) Z.o M.o hA (by omega));clear Z
    go_wp2_with fail
    refine (K4.o).mono ?_
    rintro e w4 ⟨u4,O,aa,ao,rfl,⟨-,-⟩,U,-,u⟩;have K5:=Hm (limC u U hA (by omega));clear u K4 U
    go_wp2_with fail
    refine (K5.o).mono ?_
    rintro e w5 ⟨u5,p5,az,a1,rfl,⟨F,D,G,rfl⟩,J,H,b⟩;rw [tab_b] at J H;have y4:=b.b0.2.1 4 _ rfl;have y5:=b.b0.2.1 5 _ rfl;have y6:=b.b0.2.1 6 _ rfl;have cl:=b.b0.2.2 4;have ck:=b.b0.2.2 5;have cj:=b.b0.2.2 6;have H4:=Hm (((b.set0 4 (.int .i64 F)).set0 5 (.int .i64 D)).set0 6 (.bool G));have HR:=Hm (bind_lk (I:=XK bs bc.E p) (f:=λl=>⟨j,d,1,0,l,JX.z⟩) M.o J ab.o (λe0=>by obtain ⟨_,_,_,_,h5⟩:=ap.o e0;rw [h5];simp));have C:=Hm H;clear b J H K5
    go_wp2_with fail
    go_meet
    refine ⟨0,F,D,G,0,false,p5,az,a1,HR.o.1,λx q r=>?_,H4.o⟩
    obtain ⟨y,hy,rfl⟩:=HR.o.2 x q r
    have:=C.o y q hy
    injection this with this
    simp at this
    obtain ⟨rfl,rfl,rfl⟩:=this
    exact ⟨rfl,Og _ _ _ _ _ r⟩
  by_cases bh:n=2
  . subst bh;have K5:=Hm (limC Z.o M.o hA (by omega));clear Z
    go_wp2_with fail
    refine (K5.o).mono ?_
    rintro e w5 ⟨u5,p5,az,a1,rfl,⟨F,D,G,rfl⟩,J,H,b⟩;have y4:=b.b0.2.1 4 _ rfl;have y5:=b.b0.2.1 5 _ rfl;have y6:=b.b0.2.1 6 _ rfl;have cl:=b.b0.2.2 4;have ck:=b.b0.2.2 5;have cj:=b.b0.2.2 6;have H4:=Hm (((b.set0 4 (.int .i64 F)).set0 5 (.int .i64 D)).set0 6 (.bool G));have HR:=Hm (bind_lk (I:=XK bs bc.E p) (f:=λl=>⟨j,d,2,0,l,JX.z⟩) M.o J ab.o (λe0=>by obtain ⟨_,_,_,_,h5⟩:=ap.o e0;rw [h5];simp));have C:=Hm H;clear b J H K5
    go_wp2_with fail
    go_meet
    refine ⟨0,F,D,G,0,false,p5,az,a1,HR.o.1,λx q r=>?_,H4.o⟩
    obtain ⟨y,hy,rfl⟩:=HR.o.2 x q r
    have:=C.o y q hy
    injection this with this
    simp at this
    obtain ⟨rfl,rfl,rfl⟩:=this
    exact ⟨rfl,Og _ _ _ _ _ r⟩
  by_cases bg:n=3
  . subst bg;have K5:=Hm (gtyC Z.o M.o hA (by omega));clear Z
    go_wp2_with fail
    refine (K5.o).mono ?_
    rintro e w5 ⟨u5,p5,az,a1,rfl,⟨X,Y,rfl⟩,J,H,b⟩;have y7:=b.b0.2.1 7 _ rfl;have y8:=b.b0.2.1 8 _ rfl;have dj:=b.b0.2.2 7;have di:=b.b0.2.2 8;have H4:=Hm ((b.set0 7 (.int .i64 X)).set0 8 (.bool Y));have HR:=Hm (bind_lk (I:=XK bs bc.E p) (f:=λg=>⟨j,d,3,0,Qq.z,g⟩) M.o J ab.o (λe0=>by obtain ⟨_,_,_,_,h5⟩:=ap.o e0;rw [h5];simp));have C:=Hm H;clear b J H K5
    go_wp2_with fail
    go_meet
    refine ⟨0,0,0,false,X,Y,p5,az,a1,HR.o.1,λx q r=>?_,H4.o⟩
    obtain ⟨y,hy,rfl⟩:=HR.o.2 x q r
    have:=C.o y q hy
    injection this with this
    simp at this
    obtain ⟨rfl,rfl⟩:=this
    exact ⟨rfl,Og _ _ _ _ _ r⟩
  have d0:(n==0)=false:=by simpa using bk
  have dz:(n==1)=false:=by simpa using bj
  have dy:(n==2)=false:=by simpa using bh
  have dx:(n==3)=false:=by simpa using bg
  have bo:a0≠0:=λe0=>by obtain ⟨_,h1,h2,_⟩:=ap.o e0;omega
  clear bk bj bh bg
  go_wp2_with fail
  go_meet
  refine ⟨0,0,0,false,0,false,p3,a0,bq,?_,λx q r=>?_,Z.o⟩
  . rw [ab.o bo];exact Lk.of_bad bo
  . rw [ab.o bo] at r;cases r
 case rest =>
  obtain ⟨R,F,D,G,X,Y,O,aa,ao,U,ar,u⟩:=hcut;clear ab ap M Z x0 co;have C:=Hm ar;have br:=Hm U;clear U ar
  by_cases he:aa=0
  . subst he;obtain ⟨x,r,ax⟩:=br.o.zero;subst ax;have bn:=C.o x O r;have HX:=Hm r;have c3:=u.c3;have Z:=Hm u;have d4:=bn.2;have c7:=Hm bn.1;clear u r bn C br
    go_wp2_with fail
    refine Ql (λV=>Sd B w0 s ba bc bs O 0 0 (4*p+1+1) ((w.heap.size,[.string j,.string d,.int .i64 n,.int .i64 R,.int .i64 F,.int .i64 D,.bool G,.int .i64 X,.bool Y])::bx) (⟨100,9,l.length,.slice va l.length vc,c0⟩::(os++k0)) V) Z.o ?_
    intro m b
    have m5:m.cell? ⟨s,6,none⟩=some (.slice va l.length vc):=b.cm hm;have ak:=b.b0.2.1 0 _ rfl;have aj:=b.b0.2.1 1 _ rfl;have ai:=b.b0.2.1 2 _ rfl;have ah:=b.b0.2.1 3 _ rfl;have ag:=b.b0.2.1 4 _ rfl;have af:=b.b0.2.1 5 _ rfl;have ae:=b.b0.2.1 6 _ rfl;have ad:=b.b0.2.1 7 _ rfl;have ac:=b.b0.2.1 8 _ rfl;have H5:=Hm b;have d7:=b.hB;clear b Z
    refine Rp.Ji (N:=54) (vs:=[.pointer (some ⟨s,0,none⟩),.pointer (some ⟨s,0,none⟩),.pointer (some ⟨s,0,none⟩),.pointer (some ⟨s,5,none⟩),.pointer (some ⟨s,6,none⟩),.slice va l.length vc,.agg #[.string j,.string d,.int .i64 n,.int .i64 R,.int .i64 F,.int .i64 D,.bool G,.int .i64 X,.bool Y],.slice (some ⟨m.heap.size,0,none⟩) 1 1,undef,.pointer (some ⟨s,0,none⟩),.pointer (some ⟨s,5,none⟩),.pointer (some ⟨s,6,none⟩)]) (i1:=7) (i2:=8) (L:=12) (S:=λW=>W.cell? ⟨s,6,none⟩=some (.slice va l.length vc)/\W.cell? ⟨w.heap.size,0,none⟩=some (.string j)/\W.cell? ⟨w.heap.size,1,none⟩=some (.string d)/\W.cell? ⟨w.heap.size,2,none⟩=some (.int .i64 n)/\W.cell? ⟨w.heap.size,3,none⟩=some (.int .i64 R)/\W.cell? ⟨w.heap.size,4,none⟩=some (.int .i64 F)/\W.cell? ⟨w.heap.size,5,none⟩=some (.int .i64 D)/\W.cell? ⟨w.heap.size,6,none⟩=some (.bool G)/\W.cell? ⟨w.heap.size,7,none⟩=some (.int .i64 X)/\W.cell? ⟨w.heap.size,8,none⟩=some (.bool Y)) (A:=λW v=>(∃ a3 c3,v=.slice a3 (l.length+1) c3)/\(W.cell? ⟨s,6,none⟩=some (.slice va l.length vc)/\W.cell? ⟨w.heap.size,0,none⟩=some (.string j)/\W.cell? ⟨w.heap.size,1,none⟩=some (.string d)/\W.cell? ⟨w.heap.size,2,none⟩=some (.int .i64 n)/\W.cell? ⟨w.heap.size,3,none⟩=some (.int .i64 R)/\W.cell? ⟨w.heap.size,4,none⟩=some (.int .i64 F)/\W.cell? ⟨w.heap.size,5,none⟩=some (.int .i64 D)/\W.cell? ⟨w.heap.size,6,none⟩=some (.bool G)/\W.cell? ⟨w.heap.size,7,none⟩=some (.int .i64 X)/\W.cell? ⟨w.heap.size,8,none⟩=some (.bool Y))/\W.frozen? ⟨s,6,none⟩=false/\Sd B w0 s ba { bc with rest:=bc.rest.set 1 v } bs O 0 0 (4*p+1+1) ((w.heap.size,[.string j,.string d,.int .i64 n,.int .i64 R,.int .i64 F,.int .i64 D,.bool G,.int .i64 X,.bool Y])::bx) (⟨100,9,l.length+1,v,c0++([.string j,.string d,.int .i64 n,.int .i64 R,.int .i64 F,.int .i64 D,.bool G,.int .i64 X,.bool Y]:List Value)⟩::(os++k0)) (W.setCell ⟨s,6,none⟩ v)) (w2:=({ m with drawn:=m.drawn+1 }:World).alloc (.cells #[.string j,.string d,.int .i64 n,.int .i64 R,.int .i64 F,.int .i64 D,.bool G,.int .i64 X,.bool Y] 100)) (by kernel_rfl) (by kernel_rfl) (by kernel_rfl) rfl ?_ ?_ ?_ ?_
    . exact ⟨m5,ak,aj,ai,ah,ag,af,ae,ad,ac⟩
    .   exact ⟨Qg (w:={ m with drawn:=m.drawn+1 }) m5,Qg (w:={ m with drawn:=m.drawn+1 }) ak,Qg (w:={ m with drawn:=m.drawn+1 }) aj,Qg (w:={ m with drawn:=m.drawn+1 }) ai,Qg (w:={ m with drawn:=m.drawn+1 }) ah,Qg (w:={ m with drawn:=m.drawn+1 }) ag,Qg (w:={ m with drawn:=m.drawn+1 }) af,Qg (w:={ m with drawn:=m.drawn+1 }) ae,Qg (w:={ m with drawn:=m.drawn+1 }) ad,Qg (w:={ m with drawn:=m.drawn+1 }) ac⟩
    . intro W v h
      exact h.2.1
    . refine Rp.v0 0 (.pointer (some ⟨s,0,none⟩)) (by kernel_rfl) rfl rfl rfl (λa W _ e=>by go_simp;try rfl) ?_
      refine Rp.v0 0 (.pointer (some ⟨s,0,none⟩)) (by kernel_rfl) rfl rfl rfl (λa W _ e=>by go_simp;try rfl) ?_
      refine Rp.v1 1 rfl (by kernel_rfl) rfl rfl rfl rfl (λa W _ e=>by go_simp;try rfl) ?_
      refine Rp.v1 2 rfl (by kernel_rfl) rfl rfl rfl rfl (λa W _ e=>by go_simp;try rfl) ?_
      refine Rp.v1 3 rfl (by kernel_rfl) rfl rfl rfl rfl (λa W _ e=>by go_simp;try rfl) ?_
      refine Rp.v1 4 rfl (by kernel_rfl) rfl rfl rfl rfl (λa W hS e=>by obtain ⟨m5,ak,aj,ai,ah,ag,af,ae,ad,ac⟩:=hS;go_simp;try rfl) ?_
      refine Rp.v0 2 (.pointer (some ⟨w.heap.size,0,none⟩)) (by kernel_rfl) rfl rfl rfl (λa W hS e=>by obtain ⟨m5,ak,aj,ai,ah,ag,af,ae,ad,ac⟩:=hS;go_simp;try rfl) ?_
      refine Rp.l1 6 rfl (by kernel_rfl) rfl rfl rfl rfl (λa e=>by go_simp;try rfl) ?_
      refine Rp.QX.a (by rfl) (λa Kc f hK=>?_) ?_
      . have c6:=Rp.Jb f 3 5 47 _ (by kernel_rfl) rfl rfl;have c5:=Rp.Jb f 3 7 49 _ (by kernel_rfl) rfl rfl
        refine Qv rfl (.tmp 47) (.tmp 49) 24 rfl B 100 i0 (.agg #[.string ByteArray.empty,.string ByteArray.empty,.int .i64 0,.int .i64 0,.int .i64 0,.int .i64 0,.bool false,.int .i64 0,.bool false]) 9 88 Tryz.underlying24 hi ct cs cr rfl (by decide) (.slice va l.length vc) l.length c0 (by simp [Act.eval,c6]) ?own ⟨m.heap.size,0,none⟩ 1 1 [.string j,.string d,.int .i64 n,.int .i64 R,.int .i64 F,.int .i64 D,.bool G,.int .i64 X,.bool Y] (by simp [Act.eval,c5]) rfl ?lit (by simp [Value.oneCell']) (by unfold maxLen;omega) (by omega) ?hbase ?_
        case own=>exact World.ownsRow.alloc (show World.ownsRow { m with drawn:=m.drawn+1 } B 100 9 (.slice va l.length vc) l.length c0 from H5.o.row mS) _
        case lit=>exact Jd _ _ _
        case hbase=>simp;omega
        intro v3 w6 bd cz ax
        have hq:=Xr (ix:=1) (V1:=({ m with drawn:=m.drawn+1 }:World).alloc (.cells #[.string j,.string d,.int .i64 n,.int .i64 R,.int .i64 F,.int .i64 D,.bool G,.int .i64 X,.bool Y] 100)) H5.o hm (by decide) ⟨rfl,rfl,rfl,by show m.heap.size<=(m.alloc (.cells #[.string j,.string d,.int .i64 n,.int .i64 R,.int .i64 F,.int .i64 D,.bool G,.int .i64 X,.bool Y] 100)).heap.size;simp,λk hk=>QF m _ k hk⟩ cz bd ax
        exact hK v3 w6 ⟨JG bd,⟨hq.1.cm hm,hq.1.b0.2.1 0 _ rfl,hq.1.b0.2.1 1 _ rfl,hq.1.b0.2.1 2 _ rfl,hq.1.b0.2.1 3 _ rfl,hq.1.b0.2.1 4 _ rfl,hq.1.b0.2.1 5 _ rfl,hq.1.b0.2.1 6 _ rfl,hq.1.b0.2.1 7 _ rfl,hq.1.b0.2.1 8 _ rfl⟩,hq.1.fz _,hq.2⟩
      refine Rp.v1 0 rfl (by kernel_rfl) rfl rfl rfl rfl (λa W _ e=>by go_simp;try rfl) ?_
      refine Rp.v1 9 rfl (by kernel_rfl) rfl rfl rfl rfl (λa W _ e=>by go_simp;try rfl) ?_
      refine Rp.v1 10 rfl (by kernel_rfl) rfl rfl rfl rfl (λa W _ e=>by go_simp;try rfl) ?_
      refine Rp.QX.e (by rfl) (λa W Kc f hK=>?_) Rp.QX.nil
      . have hA:=Rp.XF f 50 (by kernel_rfl);obtain ⟨v3,a4⟩:∃ v3,a.eval (.tmp 50)=v3:=⟨_,rfl⟩;rw [a4] at hA;obtain ⟨⟨a3,c3,rfl⟩,⟨s5,-⟩,cw,b6⟩:=hA;have c2:=(Rp.QW a 53).symm.trans (Rp.XI f 11 53 _ (by kernel_rfl) rfl);have c4:a.tmps[50]?.getD undef=(.slice a3 (l.length+1) c3):=(Rp.QW a 50).symm.trans a4;have ea:=Rp.Xs f rfl a4 (by kernel_rfl) rfl
        simp only [Rp.Oe,List.set,Nat.reduceAdd] at ea
        refine Rp.JL (Rp.Qe rfl) (W':=W.setCell ⟨s,6,none⟩ (.slice a3 (l.length+1) c3)) ?hst (hK undef _ ?hen)
        case hst =>
         clear f hK ea
         go_simp
         try rfl
        case hen =>
         clear f hK c2 c4;clear a4;subst ea;have H6:=Hm b6;clear b6 s5 cw H5 m5
         go_wp2_with fail
         go_end0
         rw [HX.o]
         refine EnD.fin (k:=k0) (Lk.ok x O) H6.o.unbox ?_ (λ_=>by omega)
         intro x' q r
         cases r
         have h9:=c9.o.snoc (show RImp ⟨j,d,n,R,⟨F,D,G⟩,⟨X,Y⟩⟩ _ [] from ⟨rfl,rfl⟩);rw [c7.o]
         simpa using h9
  . obtain ⟨zz,d2,dd,c3⟩:=u.c3n he;have HX:=Hm (br.o.ne he);have Z:=Hm u.unbox;clear u
    go_wp2_with fail
    go_end0
    rw [HX.o]
    exact ⟨rfl,FaD.of Z.o he⟩
theorem ent2 (i:Int){B w0 s ba bc bs p bx w}(l:List Imp)(v0:Value)(c0:List Value)(u t:List Qc)(h:Sd B w0 s ba bc bs p 0 0 (4*p) bx (⟨100,9,l.length,v0,c0⟩::(t++u)) w)(m:LR RImp l c0 u)(V:bc.rest[1]?=some v0)(g:bc.sec=2)(A:bc.en≠0)(z:l.length<=p)(X:Qm bs)(hl:bs.length<=4194300) :
    Calls Tryz.prog 148 #[.pointer (some ⟨s,0,none⟩),.int .i64 i] w (EnD 0 (XK bs bc.E p) RImp l 1 100 9 B w0 s ba bc bs bx t):=by
 obtain ⟨va,vc,rfl⟩:∃ a c,v0=.slice a l.length c:=Qc.Ok.slice (h.row mS);have c19:=h.c19;rw [g] at c19;have O:=Hm (imp_sc l _ c0 u t h m V A z X hl);clear h m
 go_enter Tryz.func148,Tryz.ntmps148
 go_wp2_with fail
 refine (O.o).mono ?_
 rintro e w1 ⟨rfl,b⟩;clear O
 cases hM:XK bs bc.E p with
 |bad er a =>
  rw [hM] at b;obtain ⟨G,F,r,D,H,q,M,L,J,C⟩:=b;have R:=Hm (And.intro L J);have f:=Hm hM;clear hM;have n:=Hm (Xm 2 i 0 0 C M);have H4:=Hm C;clear C L J
  go_wp2_with fail
  refine (n.o).mono ?_
  rintro e S ⟨rfl,rfl⟩
  go_wp2_with fail
  go_end0
  refine ⟨rfl,?_⟩
  rw [f.o]
  exact ⟨G,F,r,D,H,q,M,R.o.1,R.o.2,H4.o⟩
 |ok x r =>
  rw [hM] at b;obtain ⟨ea,Y,v,c,k,d,y⟩:=b;have U:=Og _ _ _ x r hM;have I:=y.le;have n:=Hm (Xx 2 i 0 0 y (by omega));have Z:=Hm d;have f:=Hm hM;clear y d hM
  go_wp2_with fail
  refine (n.o).mono ?_
  rintro e S ⟨rfl,j⟩;have H8:=Hm j;clear j n
  go_wp2_with fail
  go_end0
  refine ⟨rfl,?_⟩
  rw [f.o]
  exact ⟨ea,Y,v,c,k,Z.o,H8.o.more (λ_=>by omega)⟩
theorem lr_at {α:Type}{d:α->List Value->List Qc->Prop}{sz:Nat}(a:∀ x c f,d x c f->c.length=sz):∀ (xs:List α) (b:List EV),b.length=xs.length->(∀ (i:Nat) (x:α) (ev:EV),xs[i]?=some x->b[i]?=some ev->d x ev.cs ev.rs)->∀ (i:Nat) (x:α),xs[i]?=some x->∃ c f,d x c f/\(∀ j,j<sz->(b.flatMap (·.cs))[i*sz+j]?=c[j]?)/\(∀ r ∈ f,r ∈ b.flatMap (·.rs))
 |[],b,_,_,i,x,h=>by simp at h
 |y::xs,[],hl,_,i,x,h=>by simp at hl
 |y::xs,e::b,hl,hR,0,x,h=>by
  have g:y=x:=by simpa using h
  subst g;have h0:=hR 0 y e rfl rfl
  refine ⟨e.cs,e.rs,h0,λj hj=>?_,λr hr=>by simp [hr]⟩
  rw [List.flatMap_cons,Nat.zero_mul,Nat.zero_add,List.getElem?_append_left (by rw [a _ _ _ h0];exact hj)]
 |y::xs,e::b,hl,hR,i+1,x,h=>by
  have h0:=hR 0 y e rfl rfl;obtain ⟨c,f,m,l,k⟩:=lr_at a xs b (by simpa using hl) (λi x ev g he=>hR (i+1) x ev (by simpa using g) (by simpa using he)) i x (by simpa using h)
  refine ⟨c,f,m,λj hj=>?_,λr hr=>by simp [k r hr]⟩
  rw [List.flatMap_cons,List.getElem?_append_right (by rw [a _ _ _ h0,Nat.add_mul];omega),a _ _ _ h0,show (i+1)*sz+j-sz=i*sz+j by rw [Nat.add_mul];omega]
  exact l j hj
theorem LR.at_ {α:Type}{a:α->List Value->List Qc->Prop}{xs:List α}{c k}{sz:Nat}(h:LR a xs c k)(b:∀ x cs rs,a x cs rs->cs.length=sz){i:Nat}{x:α}(d:xs[i]?=some x):∃ cs rs,a x cs rs/\(∀ j,j<sz->c[i*sz+j]?=cs[j]?)/\(∀ r ∈ rs,r ∈ k):=by
 obtain ⟨l,g,f,rfl,rfl⟩:=h
 exact lr_at b xs l g f i x d
def PaP (V:World)(e:Ending)(w':World):Prop:=∃ x:Int,e=.returned (.int .i64 x)/\Below V.heap.size V w'
theorem params_c (B:Nat)(V:World)(a:Nat)(c:List Int)(fa:Option Addr)(G:Nat)(f:List Q1)(Z:Option Addr)(u:Nat)(ct:List Value)(kt)(X S R O M L J H m l k:Value)(E:V.ownsRow B 2 1 (.slice fa c.length G) c.length (I c))(A:V.ownsRow B 92 2 (.slice Z f.length u) f.length ct)(s:LR RFT f ct kt)(p:∀ r ∈ kt,r.Ok B V)(q:∀ x ∈ c,0<=x)(ax:c.length<=4194300)(av:f.length<=4194300) :
    Calls Tryz.prog 279 #[.agg #[.slice Z f.length u,X,.slice fa c.length G,S,R,O,M,L,J,H,m,l,k],.int .i64 (a:Int)] V (PaP V):=by
 by_cases h1:a<c.length
 . obtain ⟨F,a0,hv,-⟩:=QI E (by omega)
   injection hv with hv1 _ hv2
   subst hv1 hv2;obtain ⟨t,n⟩:∃ t,c[a]?=some t:=⟨_,List.getElem?_eq_getElem h1⟩;have aw:=q t (List.mem_of_getElem? n);obtain ⟨d,rfl⟩:∃ d:Nat,t=(d:Int):=⟨t.toNat,by omega⟩
   have cf:V.cell? ⟨F,a,none⟩=some (.int .i64 (d:Int)):=by
    rw [World.ownsRow.cellAt E a (by omega)];simp [I,n]
   have D:(a:Int)<(c.length:Int):=by omega
   by_cases h2:d<f.length
   . obtain ⟨gt,aq,hv,-⟩:=QI A (by omega)
     injection hv with hv1 _ hv2
     subst hv1 hv2;obtain ⟨y,hy⟩:∃ y,f[d]?=some y:=⟨_,List.getElem?_eq_getElem h2⟩;obtain ⟨cs,rs,⟨Y,vr,rfl,rfl⟩,hc,hr⟩:=LR.at_ s (sz:=2) (by rintro x cs rs ⟨Y,vr,rfl,rfl⟩;rfl) hy;obtain ⟨pa,pc,z⟩:=Qc.Ok.slice (p _ (hr _ (by simp:nR Y y.ps ∈ [nR Y y.ps,nR vr y.rs])));have v:Y=.slice pa y.ps.length pc:=z;subst v
     have cp:V.cell? ⟨gt,d*2,none⟩=some (.slice pa y.ps.length pc):=by
      have h3:=hc 0 (by decide);rw [Nat.add_zero] at h3;rw [World.ownsRow.cellAt A (d*2) (by omega),h3];rfl
     have C:(d:Int)<(f.length:Int):=by omega
     clear E A s p q hc hr n z
     go_enter Tryz.func279,Tryz.ntmps279
     go_wp2_with fail
     refine Ql (λU=>(Bk U V.heap.size [.slice (some ⟨gt,0,none⟩) f.length u,X,.slice (some ⟨F,0,none⟩) c.length G,S,R,O,M,L,J,H,m,l,k]/\U.cell? ⟨F,a,none⟩=some (.int .i64 (d:Int))/\U.cell? ⟨gt,d*2,none⟩=some (.slice pa y.ps.length pc))/\Below V.heap.size V U) ⟨⟨Bk.new,Qg cf,Qg cp⟩,bF.alloc lR _⟩ ?_
     rintro U ⟨⟨g,af,a2⟩,b⟩;have b0:=g.2.1 0 _ rfl;have b2:=g.2.1 2 _ rfl;have j:=Hm b;clear g b cf cp
     go_quiet (fail)
     go_wp2_with fail
     go_quiet (fail)
     go_wp2_with fail
     go_ret
     exact ⟨_,rfl,by have:=j.o;exact ⟨this.os,this.tape,this.output,this.size,this.block⟩⟩
   . have C:¬ (d:Int)<(f.length:Int):=by omega
     clear E A s p q n
     go_enter Tryz.func279,Tryz.ntmps279
     go_wp2_with fail
     refine Ql (λU=>(Bk U V.heap.size [.slice Z f.length u,X,.slice (some ⟨F,0,none⟩) c.length G,S,R,O,M,L,J,H,m,l,k]/\U.cell? ⟨F,a,none⟩=some (.int .i64 (d:Int)))/\Below V.heap.size V U) ⟨⟨Bk.new,Qg cf⟩,bF.alloc lR _⟩ ?_
     rintro U ⟨⟨g,af⟩,b⟩;have b0:=g.2.1 0 _ rfl;have b2:=g.2.1 2 _ rfl;have j:=Hm b;clear g b cf
     go_quiet (fail)
     go_wp2_with fail
     go_ret
     exact ⟨_,rfl,by have:=j.o;exact ⟨this.os,this.tape,this.output,this.size,this.block⟩⟩
 . have D:¬ (a:Int)<(c.length:Int):=by omega
   clear E A s p q
   go_enter Tryz.func279,Tryz.ntmps279
   go_wp2_with fail
   refine Ql (λU=>Bk U V.heap.size [.slice Z f.length u,X,.slice fa c.length G,S,R,O,M,L,J,H,m,l,k]/\Below V.heap.size V U) ⟨Bk.new,bF.alloc lR _⟩ ?_
   rintro U ⟨g,b⟩;have b0:=g.2.1 0 _ rfl;have b2:=g.2.1 2 _ rfl;have j:=Hm b;clear g b
   go_quiet (fail)
   go_wp2_with fail
   go_ret
   exact ⟨_,rfl,by have:=j.o;exact ⟨this.os,this.tape,this.output,this.size,this.block⟩⟩
theorem Jm {α β:Type}{r:Rs α}{k:α->Nat->Rs β}{v:β}{b:Nat}(h:r.bind k=.ok v b):∃ x p1,r=.ok x p1/\k x p1=.ok v b:=by
 cases r with
 |bad e a=>cases h
 |ok x p1=>exact ⟨x,p1,rfl,h⟩
theorem repG_len {α:Type}{rd:Nat->Rs α}:∀ (n:Nat) (a:List α) (p:Nat) (l:List α) (b:Nat),Q7 rd n a p=.ok l b->l.length=a.length+n
 |0,a,p,l,b,h=>by cases h;rfl
 |n+1,a,p,l,b,h=>by
  obtain ⟨x,d,_,c⟩:=Jm h
  have:=repG_len n _ _ _ _ c
  simp at this;omega
theorem repG_all {α:Type}{rd:Nat->Rs α}{P:α->Prop}(f:∀ p v b,rd p=.ok v b->P v):∀ (n:Nat) (a:List α) (p:Nat) (l:List α) (b:Nat),(∀ x ∈ a,P x)->Q7 rd n a p=.ok l b->∀ x ∈ l,P x
 |0,a,p,l,b,ha,h=>by cases h;exact ha
 |n+1,a,p,l,b,ha,h=>by
  obtain ⟨x,g,k,j⟩:=Jm h
  refine repG_all f n _ _ _ _ (λy c=>?_) j
  rcases List.mem_append.1 c with c|c
  . exact ha y c
  . have d:y=x:=by simpa using c
    rw [d];exact f p x g k
theorem vecG_all {α:Type}{rd:Nat->Rs α}{P:α->Prop}(b:∀ p v a,rd p=.ok v a->P v){bs:List Int}{p:Nat}{l:List α}{a:Nat}(h:Jj rd bs p=.ok l a):∀ x ∈ l,P x:=by
 obtain ⟨n,d,_,c⟩:=Jm h
 exact repG_all b _ _ _ _ _ (λx hx=>by cases hx) c
structure Ix (k:Int)(m:Mod)(i:Nat):Prop where
 g6:k=6->m.globs.length=i
 e9:k=9->m.elems.length=i
 c10:k=10->m.codes.length=i
 d11:k=11->m.datas.length=i
 fu:∀ x ∈ m.funcs,0<=x
theorem ent_ix {k:Int}(n:k=1\/k=2\/k=3\/k=4\/k=5\/k=6\/k=7\/k=9\/k=10\/k=11){bs}(o:Qm bs){E:Int}{m d:Mod}{p f i:Nat}(h:entM k bs E m p=.ok d f)(c:Ix k m i):Ix k d (i+1):=by
 rcases n with rfl|rfl|rfl|rfl|rfl|rfl|rfl|rfl|rfl|rfl
 . obtain ⟨x,a,g,b⟩:=Jm (show (ftM bs p).bind (λx a=>Rs.ok { m with types:=m.types++[x] } a)=.ok d f from h)
   cases b
   exact ⟨λe=>absurd e (by decide),λe=>absurd e (by decide),λe=>absurd e (by decide),λe=>absurd e (by decide),c.fu⟩
 . obtain ⟨x,a,g,b⟩:=Jm (show (XK bs E p).bind (λx a=>Rs.ok { m with imps:=m.imps++[x] } a)=.ok d f from h)
   cases b
   exact ⟨λe=>absurd e (by decide),λe=>absurd e (by decide),λe=>absurd e (by decide),λe=>absurd e (by decide),c.fu⟩
 . obtain ⟨x,a,g,b⟩:=Jm (show (QK bs p).bind (λx a=>Rs.ok { m with funcs:=m.funcs++[x] } a)=.ok d f from h)
   cases b
   exact ⟨fun e=>absurd e (by decide),fun e=>absurd e (by decide),fun e=>absurd e (by decide),fun e=>absurd e (by decide),fun y j=>by
    rcases List.mem_append.1 j with j|j
    . exact c.fu y j
    . have l:y=x:=by simpa using j
      rw [l];exact (Jq o g).1⟩
 . obtain ⟨x,a,g,b⟩:=Jm (show (GC bs p).bind (λx a=>Rs.ok { m with tabs:=m.tabs++[x] } a)=.ok d f from h)
   cases b
   exact ⟨λe=>absurd e (by decide),λe=>absurd e (by decide),λe=>absurd e (by decide),λe=>absurd e (by decide),c.fu⟩
 . obtain ⟨x,a,g,b⟩:=Jm (show (XR bs p).bind (λx a=>Rs.ok { m with mems:=m.mems++[x] } a)=.ok d f from h)
   cases b
   exact ⟨λe=>absurd e (by decide),λe=>absurd e (by decide),λe=>absurd e (by decide),λe=>absurd e (by decide),c.fu⟩
 . obtain ⟨x,a,g,b⟩:=Jm (show (XH bs p).bind (λx a=>Rs.ok { m with globs:=m.globs++[x] } a)=.ok d f from h)
   cases b
   exact ⟨λe=>by have:=c.g6 e;simp;omega,λe=>absurd e (by decide),λe=>absurd e (by decide),λe=>absurd e (by decide),c.fu⟩
 . obtain ⟨x,a,g,b⟩:=Jm (show (expM bs E p).bind (λx a=>Rs.ok { m with exps:=m.exps++[x] } a)=.ok d f from h)
   cases b
   exact ⟨λe=>absurd e (by decide),λe=>absurd e (by decide),λe=>absurd e (by decide),λe=>absurd e (by decide),c.fu⟩
 . obtain ⟨x,a,g,b⟩:=Jm (show (Xk bs p).bind (λx a=>Rs.ok { m with elems:=m.elems++[x] } a)=.ok d f from h)
   cases b
   exact ⟨λe=>absurd e (by decide),λe=>by have:=c.e9 e;simp;omega,λe=>absurd e (by decide),λe=>absurd e (by decide),c.fu⟩
 . obtain ⟨x,a,g,b⟩:=Jm (show (Xw bs E p).bind (λx a=>Rs.ok { m with codes:=m.codes++[x] } a)=.ok d f from h)
   cases b
   exact ⟨λe=>absurd e (by decide),λe=>absurd e (by decide),λe=>by have:=c.c10 e;simp;omega,λe=>absurd e (by decide),c.fu⟩
 . obtain ⟨x,a,g,b⟩:=Jm (show (Xq bs E p).bind (λx a=>Rs.ok { m with datas:=m.datas++[x] } a)=.ok d f from h)
   cases b
   exact ⟨λe=>absurd e (by decide),λe=>absurd e (by decide),λe=>absurd e (by decide),λe=>by have:=c.d11 e;simp;omega,c.fu⟩
theorem sec_em {k q:Int}{m f:Mod}{bs}(t:Qm bs){E:Int}{p d:Nat}(h0:0<=k)(z:k<=11){last:Int}(hl:k=0\/last<k)(a:Em m last)(h:Jk k q m bs E p=.ok f d):Em f (if k=0 then last else k):=by
 have s:k=0\/k=1\/k=2\/k=3\/k=4\/k=5\/k=6\/k=7\/k=8\/k=9\/k=10\/k=11:=by omega
 rcases s with rfl|rfl|rfl|rfl|rfl|rfl|rfl|rfl|rfl|rfl|rfl|rfl
 . obtain ⟨x,b,g,c⟩:=Jm (show (Gy q bs E p).bind (λl b=>Rs.ok { m with customs:=m.customs++[l] } b)=.ok f d from h)
   cases c
   exact ⟨a.g6,a.e9,a.c10,a.d11,a.cf,a.fu⟩
 . obtain ⟨x,b,g,c⟩:=Jm (show (Jj (ftM bs) bs p).bind (λl b=>Rs.ok { m with types:=m.types++l } b)=.ok f d from h)
   cases c
   exact ⟨λ_=>a.g6 (by omega),λ_=>a.e9 (by omega),λ_=>a.c10 (by omega),λ_=>a.d11 (by omega),λe=>absurd e (by simp),a.fu⟩
 . obtain ⟨x,b,g,c⟩:=Jm (show (Jj (XK bs E) bs p).bind (λl b=>Rs.ok { m with imps:=m.imps++l } b)=.ok f d from h)
   cases c
   exact ⟨λ_=>a.g6 (by omega),λ_=>a.e9 (by omega),λ_=>a.c10 (by omega),λ_=>a.d11 (by omega),λe=>absurd e (by simp),a.fu⟩
 . obtain ⟨x,b,g,c⟩:=Jm (show (Jj (QK bs) bs p).bind (λl b=>Rs.ok { m with funcs:=m.funcs++l } b)=.ok f d from h)
   cases c
   exact ⟨fun _=>a.g6 (by omega),fun _=>a.e9 (by omega),fun _=>a.c10 (by omega),fun _=>a.d11 (by omega),fun e=>absurd e (by simp),fun y j=>by
    rcases List.mem_append.1 j with j|j
    . exact a.fu y j
    . exact vecG_all (P:=fun x=>0<=x) (fun p v d h=>(Jq t h).1) g y j⟩
 . obtain ⟨x,b,g,c⟩:=Jm (show (Jj (GC bs) bs p).bind (λl b=>Rs.ok { m with tabs:=m.tabs++l } b)=.ok f d from h)
   cases c
   exact ⟨λ_=>a.g6 (by omega),λ_=>a.e9 (by omega),λ_=>a.c10 (by omega),λ_=>a.d11 (by omega),λe=>absurd e (by simp),a.fu⟩
 . obtain ⟨x,b,g,c⟩:=Jm (show (Jj (XR bs) bs p).bind (λl b=>Rs.ok { m with mems:=m.mems++l } b)=.ok f d from h)
   cases c
   exact ⟨λ_=>a.g6 (by omega),λ_=>a.e9 (by omega),λ_=>a.c10 (by omega),λ_=>a.d11 (by omega),λe=>absurd e (by simp),a.fu⟩
 . obtain ⟨x,b,g,c⟩:=Jm (show (Jj (XH bs) bs p).bind (λl b=>Rs.ok { m with globs:=m.globs++l } b)=.ok f d from h)
   cases c
   exact ⟨λe=>absurd e (by simp),λ_=>a.e9 (by omega),λ_=>a.c10 (by omega),λ_=>a.d11 (by omega),λe=>absurd e (by simp),a.fu⟩
 . obtain ⟨x,b,g,c⟩:=Jm (show (Jj (expM bs E) bs p).bind (λl b=>Rs.ok { m with exps:=m.exps++l } b)=.ok f d from h)
   cases c
   exact ⟨λe=>absurd e (by simp),λ_=>a.e9 (by omega),λ_=>a.c10 (by omega),λ_=>a.d11 (by omega),λe=>absurd e (by simp),a.fu⟩
 . obtain ⟨x,b,g,c⟩:=Jm (show (QK bs p).bind (λl b=>Rs.ok { m with hasS:=true,start:=l } b)=.ok f d from h)
   cases c
   exact ⟨λe=>absurd e (by simp),λ_=>a.e9 (by omega),λ_=>a.c10 (by omega),λ_=>a.d11 (by omega),λe=>absurd e (by simp),a.fu⟩
 . obtain ⟨x,b,g,c⟩:=Jm (show (Jj (Xk bs) bs p).bind (λl b=>Rs.ok { m with elems:=l } b)=.ok f d from h)
   cases c
   exact ⟨λe=>absurd e (by simp),λe=>absurd e (by simp),λ_=>a.c10 (by omega),λ_=>a.d11 (by omega),λe=>absurd e (by simp),a.fu⟩
 . obtain ⟨n,b,A,c⟩:=Jm (show (QK bs p).bind (λn b=>if n=(m.funcs.length:Int) then (Q7 (Xw bs E) n.toNat [] b).bind λl r=>.ok { m with codes:=l } r else .bad 11 b)=.ok f d from h)
   by_cases o:n=(m.funcs.length:Int)
   . rw [if_pos o] at c;obtain ⟨l,r,g,u⟩:=Jm c
     cases u
     have:=repG_len _ _ _ _ _ g
     exact ⟨λe=>absurd e (by simp),λe=>absurd e (by simp),λe=>absurd e (by simp),λ_=>a.d11 (by omega),λ_=>by show l.length=m.funcs.length;simp at this;omega,a.fu⟩
   . rw [if_neg o] at c;cases c
 . obtain ⟨x,b,g,c⟩:=Jm (show (Jj (Xq bs E) bs p).bind (λl b=>Rs.ok { m with datas:=l } b)=.ok f d from h)
   cases c
   exact ⟨λe=>absurd e (by simp),λe=>absurd e (by simp),λe=>absurd e (by simp),λe=>absurd e (by simp),λe=>absurd e (by simp),a.fu⟩
theorem Em.ix {m:Mod}{last k:Int}(h:Em m last)(hl:last<k)(a:k=1\/k=2\/k=3\/k=4\/k=5\/k=6\/k=7\/k=9\/k=10\/k=11):Ix k m 0 :=
 ⟨λe=>by rw [h.g6 (by omega)];rfl,λe=>by rw [h.e9 (by omega)];rfl,λe=>by rw [h.c10 (by omega)];rfl,λe=>by rw [h.d11 (by omega)];rfl,h.fu⟩
end Go.Proofs.YtedcmcdbejjgcaaGreat.Ms
