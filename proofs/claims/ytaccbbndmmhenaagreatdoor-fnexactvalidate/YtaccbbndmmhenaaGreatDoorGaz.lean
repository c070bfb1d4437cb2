import Derived.Test.YtaccbbndmmhenaaGreatDoorGax
import Derived.Test.YtaccbbndmmhenaaGreatDoorGav
import Derived.Test.YtaccbbndmmhenaaGreatDoorGay
import Derived.Test.YtaccbbndmmhenaaGreatDoorGaw
set_option linter.all false
set_option maxHeartbeats 400000000
set_option maxRecDepth 100000
namespace Go.Proofs
open Value renaming int->U,slice->S,bool->G,agg->Ag,nilIface->Nf
open IntKind renaming i64->O
open Ending renaming returned->Z
open Obj renaming cells->Fc
open Go renaming World->J,Calls->Ec,Value->Vu
open Tryz renaming prog->Q
open Tryz
open Nat renaming zero_le->Kz,lt_or_ge->Iq,lt_of_le_of_lt->Ed
open List renaming length->N
namespace YtaccbbndmmhenaaGreatDoor.Va
open Go.RowKit Go.Sort
variable {md:Mod}{n:Nat}
theorem ssz_r (x:Mod)(A:MdA)(w:J)(q:x.Ln):Ec Q 22 #[mdV x A] w λe w'=>∃g,e=Z (S (some ⟨g,0,none⟩) 12 12)/\w'.ownsRow w.heap.size 3 1 (S (some ⟨g,0,none⟩) 12 12) 12 ((szs x).map λz=>U O z)/\Below w.heap.size w w':=by
 obtain⟨V,R,M,L,I,H,F,E,D,p,n⟩:=q;obtain⟨W,b⟩:∃W,W=w.alloc (Fc (mdC x A) 48):=⟨_,rfl⟩;have k:Bk W w.heap.size (mdC x A).toList:=by rw[b];exact Bk.new
 have f:Below w.heap.size w W:=by rw[b];exact bFz.alloc lRz _
 have C:=k.2.1 0 _ rfl;have B:=k.2.1 1 _ rfl;have y:=k.2.1 2 _ rfl;have v:=k.2.1 3 _ rfl;have u:=k.2.1 4 _ rfl;have t:=k.2.1 5 _ rfl;have s:=k.2.1 6 _ rfl;have j:=k.2.1 7 _ rfl;have r:=k.2.1 9 _ rfl;have m:=k.2.1 10 _ rfl;have l:=k.2.1 11 _ rfl;have c:Hid (szs x=[0,(N x.types:Int),N x.imps,N x.funcs,N x.tabs,N x.mems,N x.globs,N x.exps,(if x.hasS then 1 else 0),N x.elems,N x.codes,N x.datas]):=rfl;have d:=Hm f;have a:=f.size;clear k f;go_enter func22,ntmps22;go_upto_region 1 with fail
 rw[<- b];clear b;rcases hs:x.hasS
 . rw[hs]at j c;clear hs;go_wp2;go_ret;rw[c.o];exact⟨W.heap.size,rfl,World.ownsRow_lit (base:=w.heap.size) (e:=3) (size:=1) W #[U O 0,U O (N x.types),U O (N x.imps),U O (N x.funcs),U O (N x.tabs),U O (N x.mems),U O (N x.globs),U O (N x.exps),U O 0,U O (N x.elems),U O (N x.codes),U O (N x.datas)] 12 a (by unfold maxLen;omega) rfl,d.o.trans (((Below.refl _ W).alloc lRz _).mono d.o.size)⟩
 rw[hs]at j c;clear hs;go_wp2;go_ret;rw[c.o];exact⟨W.heap.size,rfl,World.ownsRow_lit (base:=w.heap.size) (e:=3) (size:=1) W #[U O 0,U O (N x.types),U O (N x.imps),U O (N x.funcs),U O (N x.tabs),U O (N x.mems),U O (N x.globs),U O (N x.exps),U O 1,U O (N x.elems),U O (N x.codes),U O (N x.datas)] 12 a (by unfold maxLen;omega) rfl,d.o.trans (((Below.refl _ W).alloc lRz _).mono d.o.size)⟩
def Zr (md:Mod)(n k:Nat):Prop:=∀j,j<k->(X4 md n j).1=0
structure FsE (md:Mod)(n i:Nat):Prop where
 h1:1<=n
 h11:n<=11
 up:∀m,1<=m->m<n->Zr md m (QH md m)
 hi:i<QH md n
 ok:Zr md n i
 er:(X4 md n i).1≠0
def SvR (md:Mod)(a b c d:Int):Prop:=(wfB md=false/\a=1/\b=0/\c=0/\d=0)\/(wfB md=true/\∃n i:Nat,FsE md n i/\a=(X4 md n i).1/\b=n/\c=i/\d=(X4 md n i).2)\/(wfB md=true/\(∀m,1<=m->m<12->Zr md m (QH md m))/\a=0/\b=0/\c=0/\d=0)
def SvP (w:J)(md:Mod)(e:Ending)(w':J):Prop:=∃a b c d:Int,e=Z (Ag #[U O a,U O b,U O c,U O d])/\Below w.heap.size w w'/\SvR md a b c d
theorem sval_c (md:Mod)(A:MdA)(w:J)(hI:Mod.Is 0 w md A.a1 A.a2 A.a3 A.a4 A.a5 A.a6 A.a7 A.a8 A.a9 A.a10 A.a11)(hL:Mod.LB 1048576 md)(hp:md.Pos):Ec Q 5 #[mdV md A] w (SvP w md):=by
 have M:=modLn hL;obtain⟨W,hW⟩:∃W,W=(w.alloc (Fc (mdC md A) 48)).alloc (Fc #[U O 0,U O 0,U O 0,U O 0] 36):=⟨_,rfl⟩;obtain⟨q,hq⟩:∃q,q=w.heap.size:=⟨_,rfl⟩;have b2:Mo w.heap.size w [] w:=⟨Own.nil _ _,bFz,lRz⟩;obtain⟨bm,bd⟩:∃bm:Qc,bm=box 48 13 q (mdC md A).toList:=⟨_,rfl⟩;obtain⟨br,bc⟩:∃br:Qc,br=box 36 4 (q+1) [U O 0,U O 0,U O 0,U O 0]:=⟨_,rfl⟩;have I:Mo w.heap.size w [br,bm] W:=by have:=(b2.box (cur:=mdC md A) 48 13 rfl).box (cur:=#[U O 0,U O 0,U O 0,U O 0]) 36 4 rfl;rw[hW,bd,bc,hq];simpa using this
 have CM:Hid (∀{rs:List Qc} {a:J},bm∈rs->Mo w.heap.size w rs a->a.cell? ⟨q,0,none⟩=some (S A.a1 (N md.types) A.c1)/\a.cell? ⟨q,1,none⟩=some (S A.a2 (N md.imps) A.c2)/\a.cell? ⟨q,2,none⟩=some (S A.a3 (N md.funcs) A.c3)/\a.cell? ⟨q,3,none⟩=some (S A.a4 (N md.tabs) A.c4)/\a.cell? ⟨q,4,none⟩=some (S A.a5 (N md.mems) A.c5)/\a.cell? ⟨q,5,none⟩=some (S A.a6 (N md.globs) A.c6)/\a.cell? ⟨q,6,none⟩=some (S A.a7 (N md.exps) A.c7)/\a.cell? ⟨q,7,none⟩=some (G md.hasS)/\a.cell? ⟨q,8,none⟩=some (U O md.start)/\a.cell? ⟨q,9,none⟩=some (S A.a8 (N md.elems) A.c8)/\a.cell? ⟨q,10,none⟩=some (S A.a9 (N md.codes) A.c9)/\a.cell? ⟨q,11,none⟩=some (S A.a10 (N md.datas) A.c10)/\a.cell? ⟨q,12,none⟩=some (S A.a11 (N md.customs) A.c11)):=fun {rs a} h hh=>by rw[bd]at h;exact⟨Ql hh h 0,Ql hh h 1,Ql hh h 2,Ql hh h 3,Ql hh h 4,Ql hh h 5,Ql hh h 6,Ql hh h 7,Ql hh h 8,Ql hh h 9,Ql hh h 10,Ql hh h 11,Ql hh h 12⟩
 have CR:Hid (∀{rs:List Qc} {a:J},br∈rs->Mo w.heap.size w rs a->(a.cell? ⟨q+1,0,none⟩=some (U O 0)/\a.frozen? ⟨q+1,0,none⟩=false)/\(a.cell? ⟨q+1,1,none⟩=some (U O 0)/\a.frozen? ⟨q+1,1,none⟩=false)/\(a.cell? ⟨q+1,2,none⟩=some (U O 0)/\a.frozen? ⟨q+1,2,none⟩=false)/\(a.cell? ⟨q+1,3,none⟩=some (U O 0)/\a.frozen? ⟨q+1,3,none⟩=false)):=fun {rs a} h hh=>by rw[bc]at h;exact⟨hh.bx h 0,hh.bx h 1,hh.bx h 2,hh.bx h 3⟩
 have ax:w.heap.size<=q+1:=by omega
 have ck:Hid (MdI w.heap.size w md A):=⟨hI,CD.at w⟩;have b8:=hI.up (Qa I.b);have av:=swf_c md A.a1 A.c1 A.a2 A.c2 A.a3 A.c3 A.a4 A.c4 A.a5 A.c5 A.a6 A.c6 A.a7 A.c7 A.a8 A.c8 A.a9 A.c9 A.a10 A.c10 A.a11 A.c11 W b8 hL hp;rw[swf_eq]at av;have cd:=Hm av;have ci:=Hm I;have HL:=Hm hL;obtain⟨m0,m1,m2,m3,m4,m5,m6,m7,m8,m9,l,f,d⟩:=CM.o (by simp) I;clear b2 I hI b8 av hp bd bc hL;go_enter func5,ntmps5;go_upto_region 1 with fail
 rw[<- hW,<- hq];clear hW hq;go_wp2_with fail
 refine cd.o.mono ?_;rintro e w1 ⟨rfl,b6⟩;have y:=ci.o.keep b6;clear cd ci b6 m0 m1 m2 m3 m4 m5 m6 m7 m8 m9 l f d;by_cases hw:wfB md=true
 . rw[hw];have HW:=Hm hw;obtain⟨m0,m1,m2,m3,m4,m5,m6,m7,m8,m9,l,f,d⟩:=CM.o (by simp) y;have au:=wf_parts hw;have cm:=Hm (scontext_c y ck.o M (fun i hi=>imp_kind (au.2.1 _ (QD (z:=Imp.z) hi))) (fun i hi=>by
    have:=au.2.2.1 _ (QD (z:=0) hi)
    simp only[QB,decide_eq_true_eq]at this
    exact this.1))
   clear y hw au;(go_wp2_with fail);refine cm.o.mono ?_;rintro e w2 ⟨t,ns,rfl,az,ba⟩;obtain⟨ta,tc,fa,fc,ga,gc,et,ef,eg⟩:=ba.shape az;obtain⟨tv,fv,gv,cw⟩:=t;dsimp only at et ef eg;subst et ef eg;obtain⟨W3,bf⟩:∃W3,W3=w2.alloc (Fc #[S ta (cxF md).types.length tc,S fa (cxF md).funcs.length fc,S ga (cxF md).globals.length gc,U O (cxF md).imports,U O (cxF md).tables,U O (cxF md).mems] 66):=⟨_,rfl⟩;obtain⟨p,hp⟩:∃p,p=w2.heap.size:=⟨_,rfl⟩;obtain⟨bx,bb⟩:∃bx:Qc,bx=box 66 6 p [S ta (cxF md).types.length tc,S fa (cxF md).funcs.length fc,S ga (cxF md).globals.length gc,U O (cxF md).imports,U O (cxF md).tables,U O (cxF md).mems]:=⟨_,rfl⟩;(have ay:Mo w.heap.size w (bx::(ns++[br,bm])) W3:=by rw[bf,bb,hp];exact az.box (cur:=#[S ta (cxF md).types.length tc,S fa (cxF md).funcs.length fc,S ga (cxF md).globals.length gc,U O (cxF md).imports,U O (cxF md).tables,U O (cxF md).mems]) 66 6 rfl);(have c0:Hid (∀{rs:List Qc} {a:J},bx∈rs->Mo w.heap.size w rs a->a.cell? ⟨p,0,none⟩=some (S ta (cxF md).types.length tc)/\a.cell? ⟨p,1,none⟩=some (S fa (cxF md).funcs.length fc)/\a.cell? ⟨p,2,none⟩=some (S ga (cxF md).globals.length gc)/\a.cell? ⟨p,3,none⟩=some (U O (cxF md).imports)/\a.cell? ⟨p,4,none⟩=some (U O (cxF md).tables)/\a.cell? ⟨p,5,none⟩=some (U O (cxF md).mems)):=fun {rs a} h hh=>by rw[bb]at h;exact⟨(hh.bx h 0).1,(hh.bx h 1).1,(hh.bx h 2).1,(hh.bx h 3).1,(hh.bx h 4).1,(hh.bx h 5).1⟩);have cn:=Hm ba;have cf:=Hm (ssz_r md A W3 M);have ch:=Hm ay;clear m0 m1 m2 m3 m4 m5 m6 m7 m8 m9 l f d cm ba az bb;obtain⟨m0,m1,m2,m3,m4,m5,m6,m7,m8,m9,l,f,d⟩:=CM.o (by simp) ay;clear ay;(go_upto_region 4 with fail);rw[<- bf,<- hp];clear bf hp;(go_wp2_with fail);refine cf.o.mono ?_
   rintro e w4 ⟨g,rfl,aa,b5⟩;obtain⟨H,F⟩:∃H:List Qc,H=⟨3,1,12,S (some ⟨g,0,none⟩) 12 12,(szs md).map λz=>U O z⟩::bx::(ns++[br,bm]):=⟨_,rfl⟩;(have b1:Mo w.heap.size w H w4:=by rw[F];exact ch.o.new (ns:=[⟨3,1,12,S (some ⟨g,0,none⟩) 12 12,(szs md).map λz=>U O z⟩]) b5 (Own.one aa));(have CG:Hid (∀{a:J},Mo w.heap.size w H a->∀n:Nat,1<=n->n<=11->a.cell? ⟨g,n,none⟩=some (U O (QH md n:Int))):=fun {a} hh n h1 h11=>by rw[F]at hh;have e1:=szN_lenS (md:=md) h1 h11;refine(hh.cell (g:=g) (c:=12) (mS ..) rfl (j:=n) (u:=U O (QH md n:Int)) (by omega) ?_).1;rw[<- e1];rcases(by omega:n=1\/n=2\/n=3\/n=4\/n=5\/n=6\/n=7\/n=8\/n=9\/n=10\/n=11)with rfl|rfl|rfl|rfl|rfl|rfl|rfl|rfl|rfl|rfl|rfl<;>rfl);(have b7:bm∈H/\br∈H/\bx∈H:=by rw[F];simp);have V:=Hm b7;have cy:Hid (CtR w.heap.size w (cxF md) ⟨S ta (cxF md).types.length tc,S fa (cxF md).funcs.length fc,S ga (cxF md).globals.length gc,cw⟩ H):=cn.o.sub (λr hr=>by rw[F];exact mC (mC hr));have cj:=Hm (lenS_le M);have cg:=Hm b1;clear aa b5 b1 cf ch cn b7 F M;clear m0 m1 m2 m3 m4 m5 m6 m7 m8 m9 l f d;(go_wp2_with fail);(go_loopw [5] (λi wr=>∃n:Nat,1<=n/\n<=12/\i=U O n/\Mo w.heap.size w H wr/\∀m,1<=m->m<n->Zr md m (QH md m)) (λi _=>12-(intOf i).toNat));(case atStart=>exact⟨1,by omega,by omega,rfl,cg.o,λm h1 h2=>by omega⟩);obtain⟨n,h1,dt,rfl,B,aq⟩:=hrel;have R:=Hm (And.intro B aq);clear cg;by_cases a0:n<=11
   . (have ds:(n:Int)<=11:=by omega);(have dr:(n:Int)<12:=by omega);have cs:=cj.o n;obtain⟨L,hL⟩:∃L,L=QH md n:=⟨_,rfl⟩;rw[<- hL]at cs;have Y:=Hm hL;(have db:Hid (∀{a:J},Mo w.heap.size w H a->a.cell? ⟨g,n,none⟩=some (U O (L:Int))):=λhh=>by rw[Y.o];exact CG.o hh n h1 a0);clear B aq hL CG cj;(go_wp2_with fail);(go_loopw [6] (λi wr=>∃k:Nat,k<=L/\i=U O k/\Mo w.heap.size w H wr/\Zr md n k) (λi _=>L-(intOf i).toNat));(case atStart=>exact⟨0,Kz _,rfl,R.o.1,λj hj=>absurd hj (Nat.not_lt_zero _)⟩);obtain⟨k,hk,rfl,s,ar⟩:=hrel;have gn:=db.o s;have X:=Hm (And.intro s ar);by_cases b3:k<L
     . (have di:(k:Int)<(L:Int):=by omega);obtain⟨m0,m1,m2,m3,m4,m5,m6,m7,m8,m9,l,f,d⟩:=CM.o V.o.1 s;obtain⟨x0,x1,x2,x3,x4,x5⟩:=c0.o V.o.2.2 s;have bj:=Hm (sent_c (A:=A) HW.o HL.o h1 a0 (show k<QH md n by rw[<- Y.o];exact b3) s cy.o ck.o);obtain⟨E,hE⟩:∃E,E=X4 md n k:=⟨_,rfl⟩;rw[<- hE]at bj;have HE:=Hm hE;clear s ar hE;(go_wp2_with fail);refine bj.o.mono ?_;rintro e w5 ⟨rfl,C⟩;have cx:=Hm C;clear m0 m1 m2 m3 m4 m5 m6 m7 m8 m9 l f d x0 x1 x2 x3 x4 x5 bj gn;by_cases c:E.1=0
       . (have kc:(E.1 != 0)=false:=by simp[c]);have HC:=Hm c;clear c C;go_wp2;go_roundw
         case rel=>
          refine⟨k+1,by omega,by go_num,cx.o,λj hj=>?_⟩;rcases Iq j k with b4|b4
          . exact X.o.2 j b4
          (obtain rfl:j=k:=by omega);rw[<- HE.o];exact HC.o
         case measure=>simp[intOf];omega
       (have kc:(E.1 != 0)=true:=by simpa using c);have HC:=Hm c;obtain⟨⟨z0,y0⟩,⟨z1,y1⟩,⟨z2,y2⟩,⟨z3,y3⟩⟩:=CR.o V.o.2.1 C;have HF:=Hm (fin4 (x0:=U O E.1) (x1:=U O (n:Int)) (x2:=U O (k:Int)) (x3:=U O (E.2:Int)) C.b ax z0 z1 z2 z3);clear c C;go_wp2;refine Qv (λa=>a.cell? ⟨q+1,0,none⟩=some (U O E.1)/\a.cell? ⟨q+1,1,none⟩=some (U O (n:Int))/\a.cell? ⟨q+1,2,none⟩=some (U O (k:Int))/\a.cell? ⟨q+1,3,none⟩=some (U O (E.2:Int))/\Below w.heap.size w a) (HF.o _ rfl) ?_;rintro a ⟨u0,u1,u2,u3,D⟩;exact bodyPost_ret (v:=Ag #[U O E.1,U O (n:Int),U O (k:Int),U O (E.2:Int)]) (by simp[results,results5,go_sem,u0,u1,u2,u3]) rfl ⟨E.1,(n:Int),(k:Int),(E.2:Int),rfl,D,(.inr (.inl ⟨HW.o,n,k,⟨h1,a0,R.o.2,by rw[<- Y.o];exact b3,X.o.2,by rw[<- HE.o];exact HC.o⟩,by rw[HE.o],rfl,rfl,by rw[HE.o]⟩))⟩
     (obtain rfl:k=L:=by omega);clear s ar;(go_wp2_with fail);go_roundw
     case rel=>
      refine⟨n+1,by omega,by omega,by go_num,X.o.1,λm h1 h2=>?_⟩;rcases Iq m n with hm|hm
      . exact R.o.2 m h1 hm
      (obtain rfl:m=n:=by omega);rw[<- Y.o];exact X.o.2
     case measure=>simp[intOf];omega
   (obtain rfl:n=12:=by omega);obtain⟨⟨z0,y0⟩,⟨z1,y1⟩,⟨z2,y2⟩,⟨z3,y3⟩⟩:=CR.o V.o.2.1 B;have HF:=Hm (fin4 (x0:=U O 0) (x1:=U O 0) (x2:=U O 0) (x3:=U O 0) B.b ax z0 z1 z2 z3);clear B aq;go_wp2;refine Qv (λa=>a.cell? ⟨q+1,0,none⟩=some (U O 0)/\a.cell? ⟨q+1,1,none⟩=some (U O 0)/\a.cell? ⟨q+1,2,none⟩=some (U O 0)/\a.cell? ⟨q+1,3,none⟩=some (U O 0)/\Below w.heap.size w a) (HF.o _ rfl) ?_;rintro a ⟨u0,u1,u2,u3,D⟩;exact bodyPost_ret (v:=Ag #[U O 0,U O 0,U O 0,U O 0]) (by simp[results,results5,go_sem,u0,u1,u2,u3]) rfl ⟨0,0,0,0,rfl,D,(.inr (.inr ⟨HW.o,R.o.2,rfl,rfl,rfl,rfl⟩))⟩
 have aw:wfB md=false:=by simpa using hw
 rw[aw];have HW:=Hm aw;obtain⟨⟨z0,y0⟩,⟨z1,y1⟩,⟨z2,y2⟩,⟨z3,y3⟩⟩:=CR.o (by simp) y;have HF:=Hm (fin4 (x0:=U O 1) (x1:=U O 0) (x2:=U O 0) (x3:=U O 0) y.b ax z0 z1 z2 z3);clear hw aw y;go_wp2;refine Qv (λa=>a.cell? ⟨q+1,0,none⟩=some (U O 1)/\a.cell? ⟨q+1,1,none⟩=some (U O 0)/\a.cell? ⟨q+1,2,none⟩=some (U O 0)/\a.cell? ⟨q+1,3,none⟩=some (U O 0)/\Below w.heap.size w a) (HF.o _ rfl) ?_;rintro a ⟨u0,u1,u2,u3,D⟩;exact bodyPost_ret (v:=Ag #[U O 1,U O 0,U O 0,U O 0]) (by simp[results,results5,go_sem,u0,u1,u2,u3]) rfl ⟨1,0,0,0,rfl,D,(.inl ⟨HW.o,rfl,rfl,rfl,rfl⟩)⟩
def IvR (md:Mod)(a b c d:Int):Prop:=(wfB md=false/\a=1/\b=0/\c=0/\d=0)\/(wfB md=true/\∃(n i:Nat) (er:Er),Fst md n i er/\a=er.1/\b=n/\c=i/\d=((er.2.getD 0:Nat):Int))\/(wfB md=true/\Upto md 12/\a=0/\b=0/\c=0/\d=0)
def IvP (w:J)(md:Mod)(e:Ending)(w':J):Prop:=∃a b c d:Int,e=Z (Ag #[U O a,U O b,U O c,U O d])/\Below w.heap.size w w'/\IvR md a b c d
theorem ok_z (b:wfB md=true)(c:Mod.LB 1048576 md){k:Nat}(d:1<=n)(a:n<=11)(g:k<=QH md n)(h:OkTo md n k):Zr md n k:=λj hj=>by
 rcases ent_meet b c d a (show j<QH md n by omega)with ⟨s,_,e⟩|⟨f,p,e,_⟩
 . rw[e]
 . rw[h j hj]at e;cases e
theorem fst_e (a:wfB md=true)(c:Mod.LB 1048576 md){i:Nat}{er:Er}(h:Fst md n i er):FsE md n i/\X4 md n i=(er.1,er.2.getD 0):=by
 have d:=ent_meet a c h.h1 h.h11 h.hi;have b:X4 md n i=(er.1,er.2.getD 0)/\er.1≠0:=by
  rcases d with ⟨s,e,_⟩|⟨f,p,e,g,j⟩
  . rw[h.er]at e;cases e
  rw[h.er]at e;cases e;exact⟨j,g⟩
 refine⟨⟨h.h1,h.h11,λm h1 h2=>ok_z a c h1 (by have:=h.h11;omega) lRz (h.up m h1 h2),h.hi,ok_z a c h.h1 h.h11 (Nat.le_of_lt h.hi) h.ok,?_⟩,b.1⟩;rw[b.1];exact b.2
theorem fse_u {i d b:Nat}(h:FsE md n i)(a:FsE md d b):n=d/\i=b:=by
 rcases Nat.lt_trichotomy n d with c|c|c
 . exact absurd (a.up n h.h1 c i h.hi) h.er
 . subst c;refine⟨rfl,?_⟩;rcases Nat.lt_trichotomy i b with c|c|c
   . exact absurd (a.ok i c) h.er
   . exact c
   exact absurd (h.ok b c) a.er
 exact absurd (h.up d a.h1 c b a.hi) a.er
theorem meet_all (p:Mod.LB 1048576 md){a b c d s b' r q:Int}(h:IvR md a b c d)(l:SvR md s b' r q):a=s/\b=b'/\c=r/\d=q:=by
 rcases h with ⟨j,rfl,rfl,rfl,rfl⟩|⟨j,n,i,er,v,rfl,rfl,rfl,rfl⟩|⟨j,u,rfl,rfl,rfl,rfl⟩
 . rcases l with ⟨_,rfl,rfl,rfl,rfl⟩|⟨f,_⟩|⟨f,_⟩
   . exact⟨rfl,rfl,rfl,rfl⟩
   . rw[j]at f;cases f
   rw[j]at f;cases f
 . obtain⟨k,y⟩:=fst_e j p v;rcases l with ⟨f,_⟩|⟨_,m,o,g,rfl,rfl,rfl,rfl⟩|⟨_,t,_⟩
   . rw[j]at f;cases f
   . obtain⟨rfl,rfl⟩:=fse_u k g;rw[y];exact⟨rfl,rfl,rfl,rfl⟩
   exact absurd (t n k.h1 (by have:=k.h11;omega) i k.hi) k.er
 rcases l with ⟨f,_⟩|⟨_,m,o,g,_⟩|⟨_,_,rfl,rfl,rfl,rfl⟩
 . rw[j]at f;cases f
 . exact absurd (ok_z j p g.h1 g.h11 lRz (u m g.h1 (by have:=g.h11;omega)) o g.hi) g.er
 exact⟨rfl,rfl,rfl,rfl⟩
theorem VmP.split {w:J}{e:Ending}{g:J}(h:VmP w md e g):∃pv v,e=Z (.tuple #[pv,v])/\Below w.heap.size w g/\((wfB md=false/\v=flt 1)\/(wfB md=true/\∃(n i:Nat) (er:Er),Fst md n i er/\v=atSec n (atEnt i (erV er)))\/(wfB md=true/\Upto md 12/\v=Nf)):=by
 rcases h with ⟨c,rfl,a⟩|⟨c,n,i,er,a,rfl,f⟩|⟨c,a,D,m,b,q,f,r,k,p,rfl,l,s,d,o,j,_⟩
 . exact⟨_,_,rfl,a,.inl ⟨c,rfl⟩⟩
 . exact⟨_,_,rfl,f,.inr (.inl ⟨c,n,i,er,a,rfl⟩)⟩
 refine⟨_,_,rfl,?_,.inr (.inr ⟨c,a,rfl⟩)⟩;exact(k.trans (d.mono f)).trans (j.mo.b.mono (by omega))
theorem ians_c (v:Vu)(md:Mod)(w:J)(b:w.cell? ⟨0,0,none⟩=some (RT 84))(hv:(wfB md=false/\v=flt 1)\/(wfB md=true/\∃(n i:Nat) (er:Er),Fst md n i er/\v=atSec n (atEnt i (erV er)))\/(wfB md=true/\Upto md 12/\v=Nf)):Ec Q 35 #[v] w (IvP w md):=by
 rcases hv with ⟨a,rfl⟩|⟨a,n,i,er,c,rfl⟩|⟨a,d,rfl⟩
 . exact(ians_1 1 w b).mono λe w' ⟨he,hb⟩=>⟨1,0,0,0,he,hb,.inl ⟨a,rfl,rfl,rfl,rfl⟩⟩
 . obtain⟨f,_|j⟩:=er
   . exact(ians_3 f n i w b).mono λe w' ⟨he,hb⟩=>⟨f,n,i,0,he,hb,.inr (.inl ⟨a,n,i,_,c,rfl,rfl,rfl,rfl⟩)⟩
   exact(ians_4 f n i j w b).mono λe w' ⟨he,hb⟩=>⟨f,n,i,j,he,hb,.inr (.inl ⟨a,n,i,_,c,rfl,rfl,rfl,rfl⟩)⟩
 exact(ians_0 w b).mono λe w' ⟨he,hb⟩=>⟨0,0,0,0,he,hb,.inr (.inr ⟨a,d,rfl,rfl,rfl,rfl⟩)⟩
theorem ival_c (md:Mod)(A:MdA)(w:J)(V:Mod.Is 0 w md A.a1 A.a2 A.a3 A.a4 A.a5 A.a6 A.a7 A.a8 A.a9 A.a10 A.a11)(R:Mod.LB 1048576 md)(hp:md.Pos)(E:w.cell? ⟨0,0,none⟩=some (RT 84)):Ec Q 7 #[mdV md A] w (IvP w md):=by
 obtain⟨W,H⟩:∃W,W=(w.alloc (Fc (mdC md A) 48)).alloc (Fc #[U O 0,U O 0,U O 0,U O 0] 36):=⟨_,rfl⟩;obtain⟨q,D⟩:∃q,q=w.heap.size:=⟨_,rfl⟩;have l:Mo w.heap.size w [] w:=⟨Own.nil _ _,bFz,lRz⟩;have f:Mo w.heap.size w [box 36 4 (q+1) [U O 0,U O 0,U O 0,U O 0],box 48 13 q (mdC md A).toList] W:=by have:=(l.box (cur:=mdC md A) 48 13 rfl).box (cur:=#[U O 0,U O 0,U O 0,U O 0]) 36 4 rfl;rw[H,D];simpa using this
 have hD:0<w.heap.size:=Ed (Kz _) (block_lt_of_cell E);have C:w.heap.size<=q+1:=by omega
 have m0:=Ql f (mC (mS ..)) 0 (u:=S A.a1 (N md.types) A.c1);have m1:=Ql f (mC (mS ..)) 1 (u:=S A.a2 (N md.imps) A.c2);have m2:=Ql f (mC (mS ..)) 2 (u:=S A.a3 (N md.funcs) A.c3);have m3:=Ql f (mC (mS ..)) 3 (u:=S A.a4 (N md.tabs) A.c4);have m4:=Ql f (mC (mS ..)) 4 (u:=S A.a5 (N md.mems) A.c5);have m5:=Ql f (mC (mS ..)) 5 (u:=S A.a6 (N md.globs) A.c6);have m6:=Ql f (mC (mS ..)) 6 (u:=S A.a7 (N md.exps) A.c7);have m7:=Ql f (mC (mS ..)) 7 (u:=G md.hasS);have m8:=Ql f (mC (mS ..)) 8 (u:=U O md.start);have m9:=Ql f (mC (mS ..)) 9 (u:=S A.a8 (N md.elems) A.c8);have B:=Ql f (mC (mS ..)) 10 (u:=S A.a9 (N md.codes) A.c9);have z:=Ql f (mC (mS ..)) 11 (u:=S A.a10 (N md.datas) A.c10);have y:=Ql f (mC (mS ..)) 12 (u:=S A.a11 (N md.customs) A.c11);have r:=Hm (ivm_c md A W (V.up (Qa f.b)) R hp);have t:=Hm f;have HG:=Hm E;clear l f V R hp E;go_enter func7,ntmps7;go_upto_region 1 with fail
 rw[<- H,<- D];clear H D;go_wp2_with fail
 refine r.o.mono ?_;intro e w1 I;obtain⟨pv,v,rfl,n,L⟩:=I.split;have j:=t.o.keep n;have X:=Hm (ians_c v md w1 ((j.b.cell (p:=⟨0,0,none⟩) hD).trans HG.o) L);have s:=Hm j;clear I L n j r t m0 m1 m2 m3 m4 m5 m6 m7 m8 m9 B z y;go_wp2_with fail
 refine X.o.mono ?_;rintro e w2 ⟨a,b,c,d,rfl,m,M⟩;have g:=s.o.keep m;obtain⟨z0,y0⟩:=g.b0 0 (u:=U O 0);obtain⟨z1,y1⟩:=g.b0 1 (u:=U O 0);obtain⟨z2,y2⟩:=g.b0 2 (u:=U O 0);obtain⟨Y,y3⟩:=g.b0 3 (u:=U O 0);have HF:=Hm (fin4 (x0:=U O a) (x1:=U O b) (x2:=U O c) (x3:=U O d) g.b C z0 z1 z2 Y);have HR:=Hm M;clear m M g s X;go_wp2;refine Qv (λk=>k.cell? ⟨q+1,0,none⟩=some (U O a)/\k.cell? ⟨q+1,1,none⟩=some (U O b)/\k.cell? ⟨q+1,2,none⟩=some (U O c)/\k.cell? ⟨q+1,3,none⟩=some (U O d)/\Below w.heap.size w k) (HF.o _ rfl) ?_;rintro k ⟨u0,u1,u2,u3,F⟩;exact bodyPost_ret (v:=Ag #[U O a,U O b,U O c,U O d]) (by simp[results,results7,go_sem,u0,u1,u2,u3]) rfl ⟨a,b,c,d,rfl,F,HR.o⟩
theorem Ju {D w0 V rs}{t q:Nat}{A:MdA}(h:Mo D w0 rs V)(a:box t 13 q (mdC md A).toList∈rs)(j:Nat){u:Vu}(b:j<13:=by omega)(hu:(mdC md A).toList[j]?=some u:=by exact rfl):V.cell? ⟨q,j,none⟩=some u:=(h.bx a j b hu).1
theorem lawV (md:Mod)(A:MdA)(w:J)(hI:Mod.Is 0 w md A.a1 A.a2 A.a3 A.a4 A.a5 A.a6 A.a7 A.a8 A.a9 A.a10 A.a11)(hl:Mod.LB 9223372036854775807 md)(hp:md.Pos)(hg:w.cell? ⟨0,0,none⟩=some (RT 84)):Ec Q 3 #[mdV md A] w λe w'=>e=Z (G true)/\Below w.heap.size w w':=by
 have hD:0<w.heap.size:=Ed (Kz _) (block_lt_of_cell hg);obtain⟨q,hq⟩:∃q,q=w.heap.size:=⟨_,rfl⟩;obtain⟨W,hW⟩:∃W,W=w.alloc (Fc (mdC md A) 33):=⟨_,rfl⟩;have bt:Mo w.heap.size w [] w:=⟨Own.nil _ _,bFz,lRz⟩;obtain⟨M,ao⟩:∃M:Qc,M=box 33 13 q (mdC md A).toList:=⟨_,rfl⟩;have D:Mo w.heap.size w [M] W:=by rw[hW,ao,hq];exact bt.box (cur:=mdC md A) 33 13 rfl
 have CB:Hid (∀{rs:List Qc} {W':J},M∈rs->Mo w.heap.size w rs W'->W'.cell? ⟨q,0,none⟩=some (S A.a1 (N md.types) A.c1)/\W'.cell? ⟨q,1,none⟩=some (S A.a2 (N md.imps) A.c2)/\W'.cell? ⟨q,2,none⟩=some (S A.a3 (N md.funcs) A.c3)/\W'.cell? ⟨q,3,none⟩=some (S A.a4 (N md.tabs) A.c4)/\W'.cell? ⟨q,4,none⟩=some (S A.a5 (N md.mems) A.c5)/\W'.cell? ⟨q,5,none⟩=some (S A.a6 (N md.globs) A.c6)/\W'.cell? ⟨q,6,none⟩=some (S A.a7 (N md.exps) A.c7)/\W'.cell? ⟨q,7,none⟩=some (G md.hasS)/\W'.cell? ⟨q,8,none⟩=some (U O md.start)/\W'.cell? ⟨q,9,none⟩=some (S A.a8 (N md.elems) A.c8)/\W'.cell? ⟨q,10,none⟩=some (S A.a9 (N md.codes) A.c9)/\W'.cell? ⟨q,11,none⟩=some (S A.a10 (N md.datas) A.c10)/\W'.cell? ⟨q,12,none⟩=some (S A.a11 (N md.customs) A.c11)):=fun {rs W'} h hh=>by rw[ao]at h;exact⟨Ju hh h 0,Ju hh h 1,Ju hh h 2,Ju hh h 3,Ju hh h 4,Ju hh h 5,Ju hh h 6,Ju hh h 7,Ju hh h 8,Ju hh h 9,Ju hh h 10,Ju hh h 11,Ju hh h 12⟩
 have Y:Hid (∀W',Below w.heap.size w W'->Mod.Is 0 W' md A.a1 A.a2 A.a3 A.a4 A.a5 A.a6 A.a7 A.a8 A.a9 A.a10 A.a11):=λW' hb=>hI.up (Qa hb);have b7:=Hm (rzMod_c md A.a1 A.c1 A.a2 A.c2 A.a3 A.c3 A.a4 A.c4 A.a5 A.c5 A.a6 A.c6 A.a7 A.c7 A.a8 A.c8 A.a9 A.c9 A.a10 A.c10 A.a11 A.c11 1048576 W (by omega) (by omega) (Y.o W D.b) hl);have ce:=Hm D;have HG:=Hm hg;have HP:=Hm hp;obtain⟨m0,m1,m2,m3,m4,m5,m6,m7,m8,m9,v,t,s⟩:=CB.o (by simp) D;clear bt D hI hl hp hg ao;go_enter func3,ntmps3;go_upto_region 1 with fail
 rw[<- hW,<- hq];clear hW hq;go_wp2_with fail
 refine b7.o.mono ?_;rintro e w1 ⟨r,rfl,b1,hr⟩;have n:=ce.o.keep b1;clear m0 m1 m2 m3 m4 m5 m6 m7 m8 m9 v t s;clear b7 ce b1;rcases hr with rfl|⟨r0,r1,hL⟩
 . have HB:=Hm n.b;clear n;go_wp2;go_ret;exact⟨rfl,HB.o⟩
 have f:¬r<0:=by omega
 obtain⟨m0,m1,m2,m3,m4,m5,m6,m7,m8,m9,v,t,s⟩:=CB.o (by simp) n;have HL:=Hm hL;have b6:=Hm (toMd_c md A w1 (Y.o w1 n.b) hL);have cd:=Hm n;clear n hL r0 r1;go_wp2_with fail
 refine b6.o.mono ?_;rintro e w2 ⟨A2,rfl,b3,bz⟩;have bs:=cd.o.keep bz;have HS:=Hm (sval_c md A2 w2 b3 HL.o HP.o);have cc:=Hm bs;clear m0 m1 m2 m3 m4 m5 m6 m7 m8 m9 v t s;clear b6 cd bz bs b3;go_wp2_with fail
 refine HS.o.mono ?_;rintro e w3 ⟨a,b,c,d,rfl,bw,bo⟩;have br:=cc.o.keep bw;obtain⟨W4,aq⟩:∃W4,W4=w3.alloc (Fc #[U O a,U O b,U O c,U O d] 36):=⟨_,rfl⟩;obtain⟨g4,aj⟩:∃g4,g4=w3.heap.size:=⟨_,rfl⟩;have C:Mo w.heap.size w [box 36 4 g4 [U O a,U O b,U O c,U O d],M] W4:=by rw[aq,aj];exact br.box (cur:=#[U O a,U O b,U O c,U O d]) 36 4 rfl
 have b8:=Hm bo;have cb:=Hm C;have b5:=Hm (toMd_c md A W4 (Y.o W4 C.b) HL.o);obtain⟨m0,m1,m2,m3,m4,m5,m6,m7,m8,m9,v,t,s⟩:=CB.o (by simp) C;clear HS cc bw bo br C;go_upto_region 6 with fail
 rw[<- aq,<- aj];clear aq aj;go_wp2_with fail
 refine b5.o.mono ?_;rintro e w5 ⟨g,rfl,b2,bv⟩;have bq:=cb.o.keep bv;obtain⟨m,H⟩:∃m,m=w5.alloc (Fc (mdC md g) 48):=⟨_,rfl⟩;obtain⟨k,ai⟩:∃k,k=w5.heap.size:=⟨_,rfl⟩;obtain⟨bM,ak⟩:∃bM:Qc,bM=box 48 13 k (mdC md g).toList:=⟨_,rfl⟩;have B:Mo w.heap.size w [bM,box 36 4 g4 [U O a,U O b,U O c,U O d],M] m:=by rw[H,ak,ai];exact bq.box (cur:=mdC md g) 48 13 rfl
 have CM:Hid (∀{rs:List Qc} {W':J},bM∈rs->Mo w.heap.size w rs W'->W'.cell? ⟨k,0,none⟩=some (S g.a1 (N md.types) g.c1)/\W'.cell? ⟨k,1,none⟩=some (S g.a2 (N md.imps) g.c2)/\W'.cell? ⟨k,2,none⟩=some (S g.a3 (N md.funcs) g.c3)/\W'.cell? ⟨k,3,none⟩=some (S g.a4 (N md.tabs) g.c4)/\W'.cell? ⟨k,4,none⟩=some (S g.a5 (N md.mems) g.c5)/\W'.cell? ⟨k,5,none⟩=some (S g.a6 (N md.globs) g.c6)/\W'.cell? ⟨k,6,none⟩=some (S g.a7 (N md.exps) g.c7)/\W'.cell? ⟨k,7,none⟩=some (G md.hasS)/\W'.cell? ⟨k,8,none⟩=some (U O md.start)/\W'.cell? ⟨k,9,none⟩=some (S g.a8 (N md.elems) g.c8)/\W'.cell? ⟨k,10,none⟩=some (S g.a9 (N md.codes) g.c9)/\W'.cell? ⟨k,11,none⟩=some (S g.a10 (N md.datas) g.c10)/\W'.cell? ⟨k,12,none⟩=some (S g.a11 (N md.customs) g.c11)):=fun {rs W'} h hh=>by rw[ak]at h;exact⟨Ju hh h 0,Ju hh h 1,Ju hh h 2,Ju hh h 3,Ju hh h 4,Ju hh h 5,Ju hh h 6,Ju hh h 7,Ju hh h 8,Ju hh h 9,Ju hh h 10,Ju hh h 11,Ju hh h 12⟩
 have au:Mod.Is 0 m md g.a1 g.a2 g.a3 g.a4 g.a5 g.a6 g.a7 g.a8 g.a9 g.a10 g.a11:=b2.up (Qa (by rw[H];exact bFz.alloc lRz _));have da:Hid (∀W',Below m.heap.size m W'->Mod.Is 0 W' md g.a1 g.a2 g.a3 g.a4 g.a5 g.a6 g.a7 g.a8 g.a9 g.a10 g.a11):=λW' hb=>au.up (Qa hb);have HV:=Hm (ival_c md g m au HL.o HP.o ((B.b.cell (p:=⟨0,0,none⟩) hD).trans HG.o));have ca:=Hm B;clear m0 m1 m2 m3 m4 m5 m6 m7 m8 m9 v t s;obtain⟨n0,n1,n2,n3,n4,n5,n6,n7,n8,n9,ag,af,ae⟩:=CM.o (by simp) B;clear b5 cb bv bq B b2 au ak;go_upto_region 7 with fail
 rw[<- H,<- ai];clear H ai;go_wp2_with fail
 refine HV.o.mono ?_;rintro e w7 ⟨X,V,L,I,rfl,E,bu⟩;obtain⟨rfl,rfl,rfl,rfl⟩:=meet_all HL.o bu b8.o;have bp:=ca.o.keep E;obtain⟨W8,F⟩:∃W8,W8=w7.alloc (Fc #[U O X,U O V,U O L,U O I] 36):=⟨_,rfl⟩;obtain⟨g8,ah⟩:∃g8,g8=w7.heap.size:=⟨_,rfl⟩;have l:Mo w.heap.size w [box 36 4 g8 [U O X,U O V,U O L,U O I],bM,box 36 4 g4 [U O X,U O V,U O L,U O I],M] W8:=by rw[F,ah];exact bp.box (cur:=#[U O X,U O V,U O L,U O I]) 36 4 rfl
 have ax:Hid (Below m.heap.size m W8):=by show Below m.heap.size m W8;rw[F];exact E.alloc E.size _
 have s0:=(l.b0 0 (u:=U O X)).1;have s1:=(l.b0 1 (u:=U O V)).1;have s2:=(l.b0 2 (u:=U O L)).1;have s3:=(l.b0 3 (u:=U O I)).1;have t0:=(l.tail.tail.b0 0 (u:=U O X)).1;have t1:=(l.tail.tail.b0 1 (u:=U O V)).1;have t2:=(l.tail.tail.b0 2 (u:=U O L)).1;have t3:=(l.tail.tail.b0 3 (u:=U O I)).1;have cf:=Hm (eqV_c X V L I W8);have b9:=Hm l;clear n0 n1 n2 n3 n4 n5 n6 n7 n8 n9 ag af ae;clear HV ca E bu bp l b8;go_upto_region 8 with fail
 rw[<- F,<- ah];clear F ah;go_wp2_with fail
 refine cf.o.mono ?_;rintro e w9 ⟨rfl,ap⟩;have y:=b9.o.keep ap;have db:=Hm (ax.o.trans (ap.mono ax.o.size));clear s0 s1 s2 s3 t0 t1 t2 t3 cf b9 ax ap;obtain⟨R,hR⟩:∃R:List Qc,R=[box 36 4 g8 [U O X,U O V,U O L,U O I],bM,box 36 4 g4 [U O X,U O V,U O L,U O I],M]:=⟨_,rfl⟩;rw[<- hR]at y;have ar:M∈R/\bM∈R:=by rw[hR];simp
 have SF:Hid (∀{W':J},Mo w.heap.size w R W'->W'.cell? ⟨k,0,none⟩=some (S g.a1 (N md.types) g.c1)/\W'.cell? ⟨k,1,none⟩=some (S g.a2 (N md.imps) g.c2)/\W'.cell? ⟨k,2,none⟩=some (S g.a3 (N md.funcs) g.c3)/\W'.cell? ⟨k,3,none⟩=some (S g.a4 (N md.tabs) g.c4)/\W'.cell? ⟨k,4,none⟩=some (S g.a5 (N md.mems) g.c5)/\W'.cell? ⟨k,5,none⟩=some (S g.a6 (N md.globs) g.c6)/\W'.cell? ⟨k,6,none⟩=some (S g.a7 (N md.exps) g.c7)/\W'.cell? ⟨k,7,none⟩=some (G md.hasS)/\W'.cell? ⟨k,8,none⟩=some (U O md.start)/\W'.cell? ⟨k,9,none⟩=some (S g.a8 (N md.elems) g.c8)/\W'.cell? ⟨k,10,none⟩=some (S g.a9 (N md.codes) g.c9)/\W'.cell? ⟨k,11,none⟩=some (S g.a10 (N md.datas) g.c10)/\W'.cell? ⟨k,12,none⟩=some (S g.a11 (N md.customs) g.c11)/\W'.cell? ⟨q,0,none⟩=some (S A.a1 (N md.types) A.c1)/\W'.cell? ⟨q,1,none⟩=some (S A.a2 (N md.imps) A.c2)/\W'.cell? ⟨q,2,none⟩=some (S A.a3 (N md.funcs) A.c3)/\W'.cell? ⟨q,3,none⟩=some (S A.a4 (N md.tabs) A.c4)/\W'.cell? ⟨q,4,none⟩=some (S A.a5 (N md.mems) A.c5)/\W'.cell? ⟨q,5,none⟩=some (S A.a6 (N md.globs) A.c6)/\W'.cell? ⟨q,6,none⟩=some (S A.a7 (N md.exps) A.c7)/\W'.cell? ⟨q,7,none⟩=some (G md.hasS)/\W'.cell? ⟨q,8,none⟩=some (U O md.start)/\W'.cell? ⟨q,9,none⟩=some (S A.a8 (N md.elems) A.c8)/\W'.cell? ⟨q,10,none⟩=some (S A.a9 (N md.codes) A.c9)/\W'.cell? ⟨q,11,none⟩=some (S A.a10 (N md.datas) A.c10)/\W'.cell? ⟨q,12,none⟩=some (S A.a11 (N md.customs) A.c11)):=fun {W'} hh=>by obtain⟨n0,n1,n2,n3,n4,n5,n6,n7,n8,n9,ag,af,ae⟩:=CM.o ar.2 hh;exact⟨n0,n1,n2,n3,n4,n5,n6,n7,n8,n9,ag,af,ae,CB.o ar.1 hh⟩
 have aw:Hid (Mo w.heap.size w R w9.drew):=y.drewN 1;have S0:=Hm (SF.o aw.o);have cg:Hid (Below m.heap.size m w9.drew):=db.o.trans (show Below m.heap.size w9 w9.drew from⟨rfl,rfl,rfl,lRz,λ_ _=>rfl⟩);have c0:=Hm (toMd_c md A w9.drew (Y.o _ aw.o.b) HL.o);clear y hR ar;go_upto_region 10 with fail
 go_region_held3 (λw'=>w'.cell? ⟨k,0,none⟩=some (S g.a1 (N md.types) g.c1)/\w'.cell? ⟨k,1,none⟩=some (S g.a2 (N md.imps) g.c2)/\w'.cell? ⟨k,2,none⟩=some (S g.a3 (N md.funcs) g.c3)/\w'.cell? ⟨k,3,none⟩=some (S g.a4 (N md.tabs) g.c4)/\w'.cell? ⟨k,4,none⟩=some (S g.a5 (N md.mems) g.c5)/\w'.cell? ⟨k,5,none⟩=some (S g.a6 (N md.globs) g.c6)/\w'.cell? ⟨k,6,none⟩=some (S g.a7 (N md.exps) g.c7)/\w'.cell? ⟨k,7,none⟩=some (G md.hasS)/\w'.cell? ⟨k,8,none⟩=some (U O md.start)/\w'.cell? ⟨k,9,none⟩=some (S g.a8 (N md.elems) g.c8)/\w'.cell? ⟨k,10,none⟩=some (S g.a9 (N md.codes) g.c9)/\w'.cell? ⟨k,11,none⟩=some (S g.a10 (N md.datas) g.c10)/\w'.cell? ⟨k,12,none⟩=some (S g.a11 (N md.customs) g.c11)/\w'.cell? ⟨q,0,none⟩=some (S A.a1 (N md.types) A.c1)/\w'.cell? ⟨q,1,none⟩=some (S A.a2 (N md.imps) A.c2)/\w'.cell? ⟨q,2,none⟩=some (S A.a3 (N md.funcs) A.c3)/\w'.cell? ⟨q,3,none⟩=some (S A.a4 (N md.tabs) A.c4)/\w'.cell? ⟨q,4,none⟩=some (S A.a5 (N md.mems) A.c5)/\w'.cell? ⟨q,5,none⟩=some (S A.a6 (N md.globs) A.c6)/\w'.cell? ⟨q,6,none⟩=some (S A.a7 (N md.exps) A.c7)/\w'.cell? ⟨q,7,none⟩=some (G md.hasS)/\w'.cell? ⟨q,8,none⟩=some (U O md.start)/\w'.cell? ⟨q,9,none⟩=some (S A.a8 (N md.elems) A.c8)/\w'.cell? ⟨q,10,none⟩=some (S A.a9 (N md.codes) A.c9)/\w'.cell? ⟨q,11,none⟩=some (S A.a10 (N md.datas) A.c10)/\w'.cell? ⟨q,12,none⟩=some (S A.a11 (N md.customs) A.c11))
  (first|with_reducible exact S0.o|with_reducible exact S2.o|with_reducible exact S3.o)
  (first
   | (
    go_at_call 6
    refine Calls.mono c0.o ?_
    rintro e cj ⟨j,rfl,aa,z⟩;have ad:=Hm (aw.o.keep z);have S2:=Hm (SF.o ad.o);have HE:=Hm (reMod_c md g.a1 g.c1 g.a2 g.c2 g.a3 g.c3 g.a4 g.c4 g.a5 g.c5 g.a6 g.c6 g.a7 g.c7 g.a8 g.c8 g.a9 g.c9 g.a10 g.c10 g.a11 g.c11 j.a1 j.c1 j.a2 j.c2 j.a3 j.c3 j.a4 j.c4 j.a5 j.c5 j.a6 j.c6 j.a7 j.c7 j.a8 j.c8 j.a9 j.c9 j.a10 j.c10 j.a11 j.c11 cj (da.o _ (cg.o.trans (z.mono cg.o.size))) aa HL.o);clear z aa)
   | (
    go_at_call 9
    refine Calls.mono HE.o ?_
    rintro e dn ⟨rfl,ab⟩;have ac:=Hm (ad.o.keep ab);have S3:=Hm (SF.o ac.o);clear ab))
 all_goals
  go_wp2_with fail
  go_ret
  exact⟨rfl,ac.o.b⟩
