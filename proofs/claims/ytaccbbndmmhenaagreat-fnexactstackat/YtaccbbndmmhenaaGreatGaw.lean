import Derived.Test.YtaccbbndmmhenaaGreatGav
import Derived.Test.YtaccbbndmmhenaaGreatGas
import Derived.Test.YtaccbbndmmhenaaGreatGau
set_option linter.all false
set_option maxHeartbeats 400000000
set_option maxRecDepth 100000
namespace Go.Proofs
open Value renaming int->U,slice->S,bool->G,agg->Ag
open IntKind renaming i64->O
open Ending renaming returned->Z
open Obj renaming cells->Fc
open Go renaming World->J,Calls->Ec,Value->Vu
open Go.RowKit renaming Below->Bw
open Tryz renaming prog->Q
open Tryz
open IntKind renaming wrap_i64->Kz
open List renaming length->N
namespace YtaccbbndmmhenaaGreat.Va
open Go.RowKit Go.Sort
variable {md:Mod}
theorem ssz_r (x:Mod)(A:MdA)(w:J)(q:x.Ln):Ec Q 77 #[mdV x A] w λe w'=>∃g,e=Z (S (some ⟨g,0,none⟩) 12 12)/\w'.ownsRow w.heap.size 3 1 (S (some ⟨g,0,none⟩) 12 12) 12 ((szs x).map λz=>U O z)/\Bw w.heap.size w w':=by
 obtain⟨V,R,M,L,I,H,F,E,D,p,n⟩:=q;obtain⟨W,b⟩:∃W,W=w.alloc (Fc (mdC x A) 48):=⟨_,rfl⟩;have k:Bk W w.heap.size (mdC x A).toList:=by rw[b];exact Bk.new
 have f:Bw w.heap.size w W:=by rw[b];exact bFz.alloc lRz _
 have C:=k.2.1 0 _ rfl;have B:=k.2.1 1 _ rfl;have y:=k.2.1 2 _ rfl;have v:=k.2.1 3 _ rfl;have u:=k.2.1 4 _ rfl;have t:=k.2.1 5 _ rfl;have s:=k.2.1 6 _ rfl;have j:=k.2.1 7 _ rfl;have r:=k.2.1 9 _ rfl;have m:=k.2.1 10 _ rfl;have l:=k.2.1 11 _ rfl;have c:Hid (szs x=[0,(N x.types:Int),N x.cj,N x.jk,N x.cw,N x.jz,N x.ck,N x.cv,(if x.gz then 1 else 0),N x.fq,N x.fj,N x.fx]):=rfl;have d:=Hm f;have a:=f.size;clear k f;go_enter func77,ntmps77;go_upto_region 1 with fail
 rw[<- b];clear b;rcases hs:x.gz
 . rw[hs]at j c;clear hs;go_wp2;go_ret;rw[c.o];exact⟨W.heap.size,rfl,World.ownsRow_lit (base:=w.heap.size) (e:=3) (size:=1) W #[U O 0,U O (N x.types),U O (N x.cj),U O (N x.jk),U O (N x.cw),U O (N x.jz),U O (N x.ck),U O (N x.cv),U O 0,U O (N x.fq),U O (N x.fj),U O (N x.fx)] 12 a (by unfold maxLen;omega) rfl,d.o.trans (((Below.refl _ W).alloc lRz _).mono d.o.size)⟩
 rw[hs]at j c;clear hs;go_wp2;go_ret;rw[c.o];exact⟨W.heap.size,rfl,World.ownsRow_lit (base:=w.heap.size) (e:=3) (size:=1) W #[U O 0,U O (N x.types),U O (N x.cj),U O (N x.jk),U O (N x.cw),U O (N x.jz),U O (N x.ck),U O (N x.cv),U O 1,U O (N x.fq),U O (N x.fj),U O (N x.fx)] 12 a (by unfold maxLen;omega) rfl,d.o.trans (((Below.refl _ W).alloc lRz _).mono d.o.size)⟩
def Zr (md:Mod)(n k:Nat):Prop:=∀j,j<k->(XZ md n j).1=0
structure FsE (md:Mod)(n i:Nat):Prop where
 h1:1<=n
 h11:n<=11
 up:∀m,1<=m->m<n->Zr md m (QG md m)
 hi:i<QG md n
 ok:Zr md n i
 er:(XZ md n i).1≠0
def SvR (md:Mod)(a b c d:Int):Prop:=(wfB md=false/\a=1/\b=0/\c=0/\d=0)\/(wfB md=true/\∃n i:Nat,FsE md n i/\a=(XZ md n i).1/\b=n/\c=i/\d=(XZ md n i).2)\/(wfB md=true/\(∀m,1<=m->m<12->Zr md m (QG md m))/\a=0/\b=0/\c=0/\d=0)
def SvP (w:J)(md:Mod)(e:Ending)(w':J):Prop:=∃a b c d:Int,e=Z (Ag #[U O a,U O b,U O c,U O d])/\Bw w.heap.size w w'/\SvR md a b c d
theorem sval_c (md:Mod)(A:MdA)(w:J)(hI:Mod.Is 0 w md A.a1 A.a2 A.a3 A.a4 A.a5 A.a6 A.a7 A.a8 A.a9 A.a10 A.a11)(hL:Mod.LB 1048576 md)(hp:md.Pos):Ec Q 23 #[mdV md A] w (SvP w md):=by
 have M:=Gd hL;obtain⟨W,hW⟩:∃W,W=(w.alloc (Fc (mdC md A) 48)).alloc (Fc #[U O 0,U O 0,U O 0,U O 0] 66):=⟨_,rfl⟩;obtain⟨q,hq⟩:∃q,q=w.heap.size:=⟨_,rfl⟩;have b2:Mo w.heap.size w [] w:=⟨Own.nil _ _,bFz,lRz⟩;obtain⟨bm,bd⟩:∃bm:Qb,bm=box 48 13 q (mdC md A).toList:=⟨_,rfl⟩;obtain⟨br,bc⟩:∃br:Qb,br=box 66 4 (q+1) [U O 0,U O 0,U O 0,U O 0]:=⟨_,rfl⟩;have I:Mo w.heap.size w [br,bm] W:=by have:=(b2.box (cur:=mdC md A) 48 13 rfl).box (cur:=#[U O 0,U O 0,U O 0,U O 0]) 66 4 rfl;rw[hW,bd,bc,hq];simpa using this
 have CM:Hid (∀{rs:List Qb} {a:J},bm∈rs->Mo w.heap.size w rs a->a.cell? ⟨q,0,none⟩=some (S A.a1 (N md.types) A.c1)/\a.cell? ⟨q,1,none⟩=some (S A.a2 (N md.cj) A.c2)/\a.cell? ⟨q,2,none⟩=some (S A.a3 (N md.jk) A.c3)/\a.cell? ⟨q,3,none⟩=some (S A.a4 (N md.cw) A.c4)/\a.cell? ⟨q,4,none⟩=some (S A.a5 (N md.jz) A.c5)/\a.cell? ⟨q,5,none⟩=some (S A.a6 (N md.ck) A.c6)/\a.cell? ⟨q,6,none⟩=some (S A.a7 (N md.cv) A.c7)/\a.cell? ⟨q,7,none⟩=some (G md.gz)/\a.cell? ⟨q,8,none⟩=some (U O md.start)/\a.cell? ⟨q,9,none⟩=some (S A.a8 (N md.fq) A.c8)/\a.cell? ⟨q,10,none⟩=some (S A.a9 (N md.fj) A.c9)/\a.cell? ⟨q,11,none⟩=some (S A.a10 (N md.fx) A.c10)/\a.cell? ⟨q,12,none⟩=some (S A.a11 (N md.fw) A.c11)):=fun {rs a} h hh=>by rw[bd]at h;exact⟨Ql hh h 0,Ql hh h 1,Ql hh h 2,Ql hh h 3,Ql hh h 4,Ql hh h 5,Ql hh h 6,Ql hh h 7,Ql hh h 8,Ql hh h 9,Ql hh h 10,Ql hh h 11,Ql hh h 12⟩
 have CR:Hid (∀{rs:List Qb} {a:J},br∈rs->Mo w.heap.size w rs a->(a.cell? ⟨q+1,0,none⟩=some (U O 0)/\a.frozen? ⟨q+1,0,none⟩=false)/\(a.cell? ⟨q+1,1,none⟩=some (U O 0)/\a.frozen? ⟨q+1,1,none⟩=false)/\(a.cell? ⟨q+1,2,none⟩=some (U O 0)/\a.frozen? ⟨q+1,2,none⟩=false)/\(a.cell? ⟨q+1,3,none⟩=some (U O 0)/\a.frozen? ⟨q+1,3,none⟩=false)):=fun {rs a} h hh=>by rw[bc]at h;exact⟨hh.bx h 0,hh.bx h 1,hh.bx h 2,hh.bx h 3⟩
 have ax:w.heap.size<=q+1:=by omega
 have cm:Hid (MdI w.heap.size w md A):=⟨hI,CD.at w⟩;have b8:=hI.up (up_below I.b);have av:=swf_c md A.a1 A.c1 A.a2 A.c2 A.a3 A.c3 A.a4 A.c4 A.a5 A.c5 A.a6 A.c6 A.a7 A.c7 A.a8 A.c8 A.a9 A.c9 A.a10 A.c10 A.a11 A.c11 W b8 hL hp;rw[swf_eq]at av;have cd:=Hm av;have ci:=Hm I;have HL:=Hm hL;obtain⟨m0,m1,m2,m3,m4,m5,m6,m7,m8,m9,l,f,d⟩:=CM.o (by simp) I;clear b2 I hI b8 av hp bd bc hL;go_enter func23,ntmps23;go_upto_region 1 with fail
 rw[<- hW,<- hq];clear hW hq;go_wp2_with fail
 refine cd.o.mono ?_;rintro e w1 ⟨rfl,b6⟩;have y:=ci.o.keep b6;clear cd ci b6 m0 m1 m2 m3 m4 m5 m6 m7 m8 m9 l f d;by_cases hw:wfB md=true
 . rw[hw];have HW:=Hm hw;obtain⟨m0,m1,m2,m3,m4,m5,m6,m7,m8,m9,l,f,d⟩:=CM.o (by simp) y;have au:=XS hw;have co:=Hm (scontext_c y cm.o M (fun i hi=>Gg (au.2.1 _ (Qv (z:=Imp.z) hi))) (fun i hi=>by
    have:=au.2.2.1 _ (Qv (z:=0) hi)
    simp only[Qz,decide_eq_true_eq]at this
    exact this.1))
   clear y hw au;(go_wp2_with fail);refine co.o.mono ?_;rintro e w2 ⟨t,ns,rfl,az,ba⟩;obtain⟨ta,tc,fa,fc,ga,gc,et,ef,eg⟩:=ba.shape az;obtain⟨tv,fv,gv,da⟩:=t;dsimp only at et ef eg;subst et ef eg;obtain⟨W3,bf⟩:∃W3,W3=w2.alloc (Fc #[S ta (cxF md).types.length tc,S fa (cxF md).jk.length fc,S ga (cxF md).jx.length gc,U O (cxF md).gw,U O (cxF md).jv,U O (cxF md).jz] 80):=⟨_,rfl⟩;obtain⟨p,hp⟩:∃p,p=w2.heap.size:=⟨_,rfl⟩;obtain⟨bx,bb⟩:∃bx:Qb,bx=box 80 6 p [S ta (cxF md).types.length tc,S fa (cxF md).jk.length fc,S ga (cxF md).jx.length gc,U O (cxF md).gw,U O (cxF md).jv,U O (cxF md).jz]:=⟨_,rfl⟩;(have ay:Mo w.heap.size w (bx::(ns++[br,bm])) W3:=by rw[bf,bb,hp];exact az.box (cur:=#[S ta (cxF md).types.length tc,S fa (cxF md).jk.length fc,S ga (cxF md).jx.length gc,U O (cxF md).gw,U O (cxF md).jv,U O (cxF md).jz]) 80 6 rfl);(have de:Hid (∀{rs:List Qb} {a:J},bx∈rs->Mo w.heap.size w rs a->a.cell? ⟨p,0,none⟩=some (S ta (cxF md).types.length tc)/\a.cell? ⟨p,1,none⟩=some (S fa (cxF md).jk.length fc)/\a.cell? ⟨p,2,none⟩=some (S ga (cxF md).jx.length gc)/\a.cell? ⟨p,3,none⟩=some (U O (cxF md).gw)/\a.cell? ⟨p,4,none⟩=some (U O (cxF md).jv)/\a.cell? ⟨p,5,none⟩=some (U O (cxF md).jz)):=fun {rs a} h hh=>by rw[bb]at h;exact⟨(hh.bx h 0).1,(hh.bx h 1).1,(hh.bx h 2).1,(hh.bx h 3).1,(hh.bx h 4).1,(hh.bx h 5).1⟩);have cp:=Hm ba;have cf:=Hm (ssz_r md A W3 M);have ch:=Hm ay;clear m0 m1 m2 m3 m4 m5 m6 m7 m8 m9 l f d co ba az bb;obtain⟨m0,m1,m2,m3,m4,m5,m6,m7,m8,m9,l,f,d⟩:=CM.o (by simp) ay;clear ay;(go_upto_region 4 with fail);rw[<- bf,<- hp];clear bf hp;(go_wp2_with fail);refine cf.o.mono ?_;rintro e w4 ⟨g,rfl,aa,b5⟩;obtain⟨H,F⟩:∃H:List Qb,H=⟨3,1,12,S (some ⟨g,0,none⟩) 12 12,(szs md).map λz=>U O z⟩::bx::(ns++[br,bm]):=⟨_,rfl⟩;have b1:Mo w.heap.size w H w4:=by rw[F];exact ch.o.new (ns:=[⟨3,1,12,S (some ⟨g,0,none⟩) 12 12,(szs md).map λz=>U O z⟩]) b5 (Own.one aa)
   (have CG:Hid (∀{a:J},Mo w.heap.size w H a->∀n:Nat,1<=n->n<=11->a.cell? ⟨g,n,none⟩=some (U O (QG md n:Int))):=fun {a} hh n h1 h11=>by rw[F]at hh;have e1:=szN_lenS (md:=md) h1 h11;refine(hh.cell (g:=g) (c:=12) (mS ..) rfl (j:=n) (u:=U O (QG md n:Int)) (by omega) ?_).1;rw[<- e1];rcases(by omega:n=1\/n=2\/n=3\/n=4\/n=5\/n=6\/n=7\/n=8\/n=9\/n=10\/n=11)with rfl|rfl|rfl|rfl|rfl|rfl|rfl|rfl|rfl|rfl|rfl<;>rfl);(have b7:bm∈H/\br∈H/\bx∈H:=by rw[F];simp);have V:=Hm b7;have dc:Hid (CtR w.heap.size w (cxF md) ⟨S ta (cxF md).types.length tc,S fa (cxF md).jk.length fc,S ga (cxF md).jx.length gc,da⟩ H):=cp.o.sub (λr hr=>by rw[F];exact mC (mC hr));have cl:=Hm (lenS_le M);have cg:=Hm b1;clear aa b5 b1 cf ch cp b7 F M;clear m0 m1 m2 m3 m4 m5 m6 m7 m8 m9 l f d;(go_wp2_with fail);(go_loopw [5] (λi wr=>∃n:Nat,1<=n/\n<=12/\i=U O n/\Mo w.heap.size w H wr/\∀m,1<=m->m<n->Zr md m (QG md m)) (λi _=>12-(intOf i).toNat));(case atStart=>exact⟨1,by omega,by omega,rfl,cg.o,λm h1 h2=>by omega⟩);obtain⟨n,h1,dz,rfl,B,aq⟩:=hrel;have R:=Hm (And.intro B aq);clear cg;by_cases a0:n<=11
   . (have dy:(n:Int)<=11:=by omega);(have dx:(n:Int)<12:=by omega);have cx:=cl.o n;obtain⟨L,hL⟩:∃L,L=QG md n:=⟨_,rfl⟩;rw[<- hL]at cx;have Y:=Hm hL;(have dg:Hid (∀{a:J},Mo w.heap.size w H a->a.cell? ⟨g,n,none⟩=some (U O (L:Int))):=λhh=>by rw[Y.o];exact CG.o hh n h1 a0);clear B aq hL CG cl;(go_wp2_with fail);(go_loopw [6] (λi wr=>∃k:Nat,k<=L/\i=U O k/\Mo w.heap.size w H wr/\Zr md n k) (λi _=>L-(intOf i).toNat));(case atStart=>exact⟨0,Nat.zero_le _,rfl,R.o.1,λj hj=>absurd hj (Nat.not_lt_zero _)⟩);obtain⟨k,hk,rfl,s,ar⟩:=hrel;have gn:=dg.o s;have X:=Hm (And.intro s ar);by_cases b3:k<L
     . (have dn:(k:Int)<(L:Int):=by omega);obtain⟨m0,m1,m2,m3,m4,m5,m6,m7,m8,m9,l,f,d⟩:=CM.o V.o.1 s;obtain⟨x0,x1,x2,x3,x4,x5⟩:=de.o V.o.2.2 s;have bj:=Hm (sent_c (A:=A) HW.o HL.o h1 a0 (show k<QG md n by rw[<- Y.o];exact b3) s dc.o cm.o);obtain⟨E,hE⟩:∃E,E=XZ md n k:=⟨_,rfl⟩;rw[<- hE]at bj;have HE:=Hm hE;clear s ar hE;(go_wp2_with fail);refine bj.o.mono ?_;rintro e w5 ⟨rfl,C⟩;have db:=Hm C;clear m0 m1 m2 m3 m4 m5 m6 m7 m8 m9 l f d x0 x1 x2 x3 x4 x5 bj gn;by_cases c:E.1=0
       . (have kc:(E.1 != 0)=false:=by simp[c]);have HC:=Hm c;clear c C;go_wp2;go_roundw
         case rel=>
          refine⟨k+1,by omega,by go_num,db.o,λj hj=>?_⟩;rcases Nat.lt_or_ge j k with b4|b4
          . exact X.o.2 j b4
          (obtain rfl:j=k:=by omega);rw[<- HE.o];exact HC.o
         case measure=>simp[intOf];omega
       (have kc:(E.1 != 0)=true:=by simpa using c);have HC:=Hm c;obtain⟨⟨z0,y0⟩,⟨z1,y1⟩,⟨z2,y2⟩,⟨z3,y3⟩⟩:=CR.o V.o.2.1 C;have HF:=Hm (fin4 (x0:=U O E.1) (x1:=U O (n:Int)) (x2:=U O (k:Int)) (x3:=U O (E.2:Int)) C.b ax z0 z1 z2 z3);clear c C;go_wp2;refine QC (λa=>a.cell? ⟨q+1,0,none⟩=some (U O E.1)/\a.cell? ⟨q+1,1,none⟩=some (U O (n:Int))/\a.cell? ⟨q+1,2,none⟩=some (U O (k:Int))/\a.cell? ⟨q+1,3,none⟩=some (U O (E.2:Int))/\Bw w.heap.size w a) (HF.o _ rfl) ?_;rintro a ⟨u0,u1,u2,u3,D⟩;exact bodyPost_ret (v:=Ag #[U O E.1,U O (n:Int),U O (k:Int),U O (E.2:Int)]) (by simp[results,results23,go_sem,u0,u1,u2,u3]) rfl ⟨E.1,(n:Int),(k:Int),(E.2:Int),rfl,D,(.inr (.inl ⟨HW.o,n,k,⟨h1,a0,R.o.2,by rw[<- Y.o];exact b3,X.o.2,by rw[<- HE.o];exact HC.o⟩,by rw[HE.o],rfl,rfl,by rw[HE.o]⟩))⟩
     (obtain rfl:k=L:=by omega);clear s ar;(go_wp2_with fail);go_roundw
     case rel=>
      refine⟨n+1,by omega,by omega,by go_num,X.o.1,λm h1 h2=>?_⟩;rcases Nat.lt_or_ge m n with hm|hm
      . exact R.o.2 m h1 hm
      (obtain rfl:m=n:=by omega);rw[<- Y.o];exact X.o.2
     case measure=>simp[intOf];omega
   (obtain rfl:n=12:=by omega);obtain⟨⟨z0,y0⟩,⟨z1,y1⟩,⟨z2,y2⟩,⟨z3,y3⟩⟩:=CR.o V.o.2.1 B;have HF:=Hm (fin4 (x0:=U O 0) (x1:=U O 0) (x2:=U O 0) (x3:=U O 0) B.b ax z0 z1 z2 z3);clear B aq;go_wp2;refine QC (λa=>a.cell? ⟨q+1,0,none⟩=some (U O 0)/\a.cell? ⟨q+1,1,none⟩=some (U O 0)/\a.cell? ⟨q+1,2,none⟩=some (U O 0)/\a.cell? ⟨q+1,3,none⟩=some (U O 0)/\Bw w.heap.size w a) (HF.o _ rfl) ?_;rintro a ⟨u0,u1,u2,u3,D⟩;exact bodyPost_ret (v:=Ag #[U O 0,U O 0,U O 0,U O 0]) (by simp[results,results23,go_sem,u0,u1,u2,u3]) rfl ⟨0,0,0,0,rfl,D,(.inr (.inr ⟨HW.o,R.o.2,rfl,rfl,rfl,rfl⟩))⟩
 have aw:wfB md=false:=by simpa using hw
 rw[aw];have HW:=Hm aw;obtain⟨⟨z0,y0⟩,⟨z1,y1⟩,⟨z2,y2⟩,⟨z3,y3⟩⟩:=CR.o (by simp) y;have HF:=Hm (fin4 (x0:=U O 1) (x1:=U O 0) (x2:=U O 0) (x3:=U O 0) y.b ax z0 z1 z2 z3);clear hw aw y;go_wp2;refine QC (λa=>a.cell? ⟨q+1,0,none⟩=some (U O 1)/\a.cell? ⟨q+1,1,none⟩=some (U O 0)/\a.cell? ⟨q+1,2,none⟩=some (U O 0)/\a.cell? ⟨q+1,3,none⟩=some (U O 0)/\Bw w.heap.size w a) (HF.o _ rfl) ?_;rintro a ⟨u0,u1,u2,u3,D⟩;exact bodyPost_ret (v:=Ag #[U O 1,U O 0,U O 0,U O 0]) (by simp[results,results23,go_sem,u0,u1,u2,u3]) rfl ⟨1,0,0,0,rfl,D,(.inl ⟨HW.o,rfl,rfl,rfl,rfl⟩)⟩
def Vd (md:Mod):Prop:=wfB md=true/\∀m,1<=m->m<12->Zr md m (QG md m)
abbrev codF (md:Mod)(i:Nat):Fn:=fn0 (Je md (md.jk.getD i 0)) (md.fj.getD i Cod.z).gq
def Pl (md:Mod)(ci po:Int):Prop:=Vd md/\0<=ci/\ci<N md.fj/\0<=po/\po<(md.fj.getD ci.toNat Cod.z).body.length
def SaR (md:Mod)(ci po:Int)(ok dd:Bool)(ts:List Int):Prop :=
 (¬Pl md ci po/\ok=false/\dd=false/\ts=[]) \/
 (Pl md ci po/\∃s,QL (cxF md) frm oty (codF md ci.toNat) 0 ((md.fj.getD ci.toNat Cod.z).body.take po.toNat)=.ok s/\ok=true/\dd=s.cq.any (·.jq)/\ts=if s.cq.any (·.jq)then []else s.jj)
theorem SaR.uniq {l po:Int}{ok k b c:Bool}{d a:List Int}(h:SaR md l po ok k d)(f:SaR md l po b c a):ok=b/\k=c/\d=a:=by
 rcases h with ⟨n,rfl,rfl,rfl⟩|⟨g,s,e,rfl,rfl,rfl⟩
 . rcases f with ⟨_,rfl,rfl,rfl⟩|⟨o,_⟩
   . exact⟨rfl,rfl,rfl⟩
   exact absurd o n
 rcases f with ⟨m,_⟩|⟨_,p,j,rfl,rfl,rfl⟩
 . exact absurd g m
 rw[e]at j;cases j;exact⟨rfl,rfl,rfl⟩
structure CodK (md:Mod)(i:Nat)(sf:Fn):Prop where
 hif:i<N md.jk
 h0:0<=md.jk.getD i 0
 hpl:(Je md (md.jk.getD i 0)).ps.length<=1048577
 hgl:(md.fj.getD i Cod.z).gq.length<=1048577
 hs:∀k,k<=(md.fj.getD i Cod.z).gq.length->0<=QJ ((md.fj.getD i Cod.z).gq.take k)/\QJ ((md.fj.getD i Cod.z).gq.take k)<=4503599627370496*4
 B:Bd (codF md i)
 C:CxB (cxF md)
 hib:∀y∈(md.fj.getD i Cod.z).body,InB y
 hxl:(md.fj.getD i Cod.z).body.length<=1048576
 hcl:goM (nst (codF md i)) (md.fj.getD i Cod.z).body=true
 ok:QL (cxF md) frm oty (codF md i) 0 (md.fj.getD i Cod.z).body=.ok sf
theorem cod_k (hv:Vd md)(j:Mod.LB 1048576 md){i:Nat}(b:i<N md.fj):∃sf,CodK md i sf:=by
 obtain⟨u,t⟩:=hv;obtain⟨I,H,o,F,E,D,C,B,A,l,q,p⟩:=XS u;obtain⟨l1,l2,l3,Y,X,V,R,M,L,s,r⟩:=Gd j;have d:=l _ (Qv (z:=Cod.z) b);simp only[Jl,Bool.and_eq_true]at d;have a:=j.2.2.2.2.2.2.2.2.1.2 i b;have c:i<N md.jk:=by omega
 have n:=o _ (Qv (z:=0) c);simp only[Qz,decide_eq_true_eq]at n;have m:=locs_sum _ 0 d.1 (by omega) (by omega);have v:=tyAt_b j (md.jk.getD i 0);have y:(XZ md 10 i).1=0:=t 10 (by omega) (by omega) i (by simpa[QG]using b);have g:(bodyR (QL (cxF md) frm oty (codF md i) 0 (md.fj.getD i Cod.z).body)).1=0:=y;cases hb:QL (cxF md) frm oty (codF md i) 0 (md.fj.getD i Cod.z).body with
 |error fk =>
  obtain⟨f,k⟩:=fk;rw[hb]at g
  exact absurd g (body_nz _ _ _ _ _ _ _ _ hb)
 |ok sf=>exact⟨sf,c,n.1,by omega,by have:=a.1.1;omega,λk _=>by have:=m k;omega,fn0_bd j _ a.1.1 (locs_nn _ _ d.1),cxF_b j,XB d.2 a.2.2,a.2.1,d.2,hb⟩
def SaP (w:J)(md:Mod)(ci po:Int)(e:Ending)(w':J):Prop:=∃ok dd ts v,e=Z (Ag #[G ok,G dd,v])/\Mo w.heap.size w [⟨2,1,N ts,v,I ts⟩] w'/\SaR md ci po ok dd ts/\N ts<=1099511627776
theorem Mo.nil3 {D w0 V rs}(h:Mo D w0 rs V):Mo D w0 [⟨2,1,([]:List Int).length,S none 0 0,I []⟩] V:=⟨Own.one (World.ownsRow_nil ..),h.b,h.le⟩
theorem fieldV (a b c d:Int)(w:J):(Instr.field 66 (Ag #[U O a,U O b,U O c,U O d]) 0).run Q w=.ok (U O a) w:=by kernel_rfl
def St0 (w:J)(q:Nat)(md:Mod)(A:MdA):List Qb:=[box 36 3 (q+1) [G false,G false,S none 0 0],box 48 13 q (mdC md A).toList]
theorem st0_m {w W}{q:Nat}{A:MdA}{rs}(h:Mo w.heap.size w rs W)(b:∀r∈St0 w q md A,r∈rs):W.cell? ⟨q,0,none⟩=some (S A.a1 (N md.types) A.c1)/\W.cell? ⟨q,1,none⟩=some (S A.a2 (N md.cj) A.c2)/\W.cell? ⟨q,2,none⟩=some (S A.a3 (N md.jk) A.c3)/\W.cell? ⟨q,3,none⟩=some (S A.a4 (N md.cw) A.c4)/\W.cell? ⟨q,4,none⟩=some (S A.a5 (N md.jz) A.c5)/\W.cell? ⟨q,5,none⟩=some (S A.a6 (N md.ck) A.c6)/\W.cell? ⟨q,6,none⟩=some (S A.a7 (N md.cv) A.c7)/\W.cell? ⟨q,7,none⟩=some (G md.gz)/\W.cell? ⟨q,8,none⟩=some (U O md.start)/\W.cell? ⟨q,9,none⟩=some (S A.a8 (N md.fq) A.c8)/\W.cell? ⟨q,10,none⟩=some (S A.a9 (N md.fj) A.c9)/\W.cell? ⟨q,11,none⟩=some (S A.a10 (N md.fx) A.c10)/\W.cell? ⟨q,12,none⟩=some (S A.a11 (N md.fw) A.c11):=by
 have a:box 48 13 q (mdC md A).toList∈rs:=b _ (by simp[St0]);exact⟨Ql h a 0,Ql h a 1,Ql h a 2,Ql h a 3,Ql h a 4,Ql h a 5,Ql h a 6,Ql h a 7,Ql h a 8,Ql h a 9,Ql h a 10,Ql h a 11,Ql h a 12⟩
theorem st0_r {w W}{q:Nat}{A:MdA}{rs}(h:Mo w.heap.size w rs W)(b:∀r∈St0 w q md A,r∈rs):(W.cell? ⟨q+1,0,none⟩=some (G false)/\W.frozen? ⟨q+1,0,none⟩=false)/\(W.cell? ⟨q+1,1,none⟩=some (G false)/\W.frozen? ⟨q+1,1,none⟩=false)/\(W.cell? ⟨q+1,2,none⟩=some (S none 0 0)/\W.frozen? ⟨q+1,2,none⟩=false):=by
 have a:box 36 3 (q+1) [G false,G false,S none 0 0]∈rs:=b _ (by simp[St0]);exact⟨h.bx a 0,h.bx a 1,h.bx a 2⟩
theorem fin3 {D p:Nat}{w0 W}{rs:List Qb}{x0 x1 x2:Vu}(h:Mo D w0 (box 36 3 p [x0,x1,x2]::rs) W)(d c b:Vu):∀a,a=((W.setCell ⟨p,0,none⟩ d).setCell ⟨p,1,none⟩ c).setCell ⟨p,2,none⟩ b->a.cell? ⟨p,0,none⟩=some d/\a.cell? ⟨p,1,none⟩=some c/\a.cell? ⟨p,2,none⟩=some b/\Mo D w0 (box 36 3 p [d,c,b]::rs) a:=by
 intro a e;have f:Mo D w0 (box 36 3 p [d,c,b]::rs) a:=by rw[e];exact((h.set 0 d).set 1 c).set 2 b
 exact⟨(f.b0 0).1,(f.b0 1).1,(f.b0 2).1,f⟩
theorem svr_v {a b c d:Int}(h:SvR md a b c d):(a=0/\Vd md)\/(a≠0/\¬Vd md):=by
 rcases h with ⟨f,g,_⟩|⟨f,n,i,F,g,_⟩|⟨f,j,g,_⟩
 . exact .inr ⟨by omega,λv=>by rw[v.1]at f;cases f⟩
 . exact .inr ⟨by rw[g];exact F.er,λv=>F.er (v.2 n F.h1 (by have:=F.h11;omega) i F.hi)⟩
 exact .inl ⟨g,f,j⟩
theorem sstk_n (md:Mod)(A:MdA)(k po:Int)(w:J)(hI:Mod.Is 0 w md A.a1 A.a2 A.a3 A.a4 A.a5 A.a6 A.a7 A.a8 A.a9 A.a10 A.a11)(Y:Mod.LB 1048576 md)(hp:md.Pos)(hn:¬Pl md k po):Ec Q 5 #[mdV md A,U O k,U O po] w (SaP w md k po):=by
 obtain⟨W,hW⟩:∃W,W=(w.alloc (Fc (mdC md A) 48)).alloc (Fc #[G false,G false,S none 0 0] 36):=⟨_,rfl⟩;obtain⟨q,hq⟩:∃q,q=w.heap.size:=⟨_,rfl⟩;have F:Mo w.heap.size w [] w:=⟨Own.nil _ _,bFz,lRz⟩;have j:Mo w.heap.size w (St0 w q md A) W:=by have:=(F.box (cur:=mdC md A) 48 13 rfl).box (cur:=#[G false,G false,S none 0 0]) 36 3 rfl;rw[hW,St0,hq];simpa using this
 have R:Hid (MdI w.heap.size w md A):=⟨hI,CD.at w⟩;have L:=Hm (sval_c md A W (hI.up (up_below j.b)) Y hp);have M:=Hm j;have HN:=Hm hn;have bl:=(Gd Y).2.2.2.2.2.2.2.2.1;have HL:=Hm Y;obtain⟨m0,m1,m2,m3,m4,m5,m6,m7,m8,m9,l,D,C⟩:=st0_m j (λr hr=>hr);clear F j hI hp hn Y;go_enter func5,ntmps5;go_upto_region 1 with fail
 rw[<- hW,<- hq];clear hW hq;go_wp2_with fail
 refine L.o.mono ?_;rintro e w1 ⟨a,b,c,d,rfl,H,g⟩;have f:=M.o.keep H;clear L M H m0 m1 m2 m3 m4 m5 m6 m7 m8 m9 l D C;obtain⟨m0,m1,m2,m3,m4,m5,m6,m7,m8,m9,l,D,C⟩:=st0_m f (λr hr=>hr);obtain⟨⟨r0,z0⟩,⟨r1,z1⟩,⟨r2,z2⟩⟩:=st0_r f (λr hr=>hr);have fv:=fieldV a b c d w1;have ak:=Hm f;have HF:=Hm (fin3 f (G false) (G false) (S none 0 0));have HZ:Hid (∀W',Mo w.heap.size w (box 36 3 (q+1) [G false,G false,S none 0 0]::[box 48 13 q (mdC md A).toList]) W'->SaP w md k po (Z (Ag #[G false,G false,S none 0 0])) W'):=λW' h=>⟨false,false,[],_,rfl,h.nil3,.inl ⟨HN.o,rfl,rfl,rfl⟩,by simp⟩;clear f;rcases svr_v g with ⟨X,t⟩|⟨X,t⟩
 . subst X;by_cases hc:0<=k/\k<N md.fj
   . obtain⟨i,rfl⟩:∃i:Nat,k=i:=⟨k.toNat,by omega⟩;(have V:i<N md.fj:=by omega);(have bm:(i:Int)<(N md.fj:Int):=by omega);obtain⟨sf,hK⟩:=cod_k t HL.o V;have ac:=hK.hxl;have m:¬(0<=po/\po<=((md.fj.getD i Cod.z).body.length:Int)-1):=λh=>HN.o ⟨t,by omega,by omega,by omega,by simp only[Int.toNat_natCast];omega⟩;rcases R.o.is.2.2.2.2.2.2.2.2.1 with ad|⟨b,off,ea,_,hc⟩
     . rw[ad]at V;simp at V
     obtain⟨la,lc,ra,rc,⟨k0,k1⟩,_⟩:=hc i V;have aa:=(ak.o.b.cell (p:=⟨b,off+i*2+1,none⟩) (R.o.cd _ _ _ k1)).trans k1;rw[ea]at l;(have ae:IntKind.i64.wrap ((N md.fj:Int)-1)=(N md.fj:Int)-1:=by rw[Kz];omega);obtain⟨n,E⟩:∃n,n=(md.fj.getD i Cod.z).body.length:=⟨_,rfl⟩;rw[<- E]at aa m ac;(have bj:IntKind.i64.wrap ((n:Int)-1)=(n:Int)-1:=by rw[Kz];omega);have s:=Hm (λw'=>JY (i:Int) 0 ((N md.fj:Int)-1) w' (by omega));have ao:=Hm (λw'=>Xk po 0 ((n:Int)-1) w' m);clear g t k0 k1 hc ea m hK E;(go_wp2_with fail);refine(s.o _).mono ?_;rintro e w2 ⟨rfl,rfl⟩;(go_wp2_with fail);refine(ao.o _).mono ?_;rintro e w2 ⟨rfl,rfl⟩;go_wp2;obtain⟨B,y,u,I⟩:=HF.o _ rfl;exact bodyPost_ret (v:=Ag #[G false,G false,S none 0 0]) (by simp[results,results5,go_sem,B,y,u]) rfl (HZ.o _ I)
   (have ae:IntKind.i64.wrap ((N md.fj:Int)-1)=(N md.fj:Int)-1:=by rw[Kz];omega);have s:=Hm (λw'=>Xk k 0 ((N md.fj:Int)-1) w' (by omega));clear g t;(go_wp2_with fail);refine(s.o _).mono ?_;rintro e w2 ⟨rfl,rfl⟩;go_wp2;obtain⟨B,y,u,I⟩:=HF.o _ rfl;exact bodyPost_ret (v:=Ag #[G false,G false,S none 0 0]) (by simp[results,results5,go_sem,B,y,u]) rfl (HZ.o _ I)
 have hd:(a != 0)=true:=by simpa using X
 clear g X t;go_wp2;obtain⟨B,y,u,I⟩:=HF.o _ rfl;exact bodyPost_ret (v:=Ag #[G false,G false,S none 0 0]) (by simp[results,results5,go_sem,B,y,u]) rfl (HZ.o _ I)
