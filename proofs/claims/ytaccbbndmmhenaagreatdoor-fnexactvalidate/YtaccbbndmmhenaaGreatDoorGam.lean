import Derived.Test.YtaccbbndmmhenaaGreatDoorGak
import Derived.Test.YtaccbbndmmhenaaGreatDoorGaj
set_option linter.all false
set_option maxHeartbeats 400000000
set_option maxRecDepth 100000
namespace Go.Proofs
open Value renaming int->U,slice->S,bool->G,pointer->Yp,string->Xs,agg->Ag
open IntKind renaming i64->O
open Ending renaming returned->Z
open Obj renaming cells->Fc
open Go renaming World->J,Calls->Ec,Value->Vu
open Tryz renaming prog->Q
open Tryz
open RowKit.Below renaming refl->Ly,heap_setCell->Mx
open List renaming getD->Kg,getElem?_eq_getElem->Kj,length->N
open IntKind renaming wrap_i64->Kv
open World renaming ownsRow_nil->Hk,frozen?_alloc_new->Lw,ownsRow_lit->Mz
namespace YtaccbbndmmhenaaGreatDoor
open Go.RowKit Go.Sort
def szs (x:Mod):List Int:=[0,N x.types,N x.imps,N x.funcs,N x.tabs,N x.mems,N x.globs,N x.exps,(if x.hasS then 1 else 0),N x.elems,N x.codes,N x.datas]
def writ (x:Mod)(n:Int):Bool:=decide (0<=n/\n<12)&&decide (0<(szs x).getD n.toNat 0)
def Mod.Ln (x:Mod):Prop:=N x.types<=1048576/\N x.imps<=1048576/\N x.funcs<=1048576/\N x.tabs<=1048576/\N x.mems<=1048576/\N x.globs<=1048576/\N x.exps<=1048576/\N x.elems<=1048576/\N x.codes<=1048576/\N x.datas<=1048576/\N x.customs<=1048576
def szN (x:Mod)(n:Int):Int:=if 0<=n/\n<12 then(szs x).getD n.toNat 0 else 0
theorem szN_writ (x:Mod)(n:Int):decide (0<szN x n)=writ x n:=by
 unfold szN writ;by_cases h:0<=n/\n<12
 . simp[h]
 simp[h]
theorem hidx_c (a:Option Addr)(n:Int)(w:J):Ec Q 165 #[S a 12 12,U O n] w λe w'=>e=Z (G (decide (0<=n/\n<12)))/\w=w':=by
 by_cases c:0<=n
 . by_cases b:n<12
   . (have hd:decide (0<=n/\n<12)=true:=by simp[c,b]);rw[hd];clear hd;go_enter func165,ntmps165;go_wp2;go_ret;exact⟨rfl,rfl⟩
   (have hd:decide (0<=n/\n<12)=false:=by simp[b]);rw[hd];clear hd;go_enter func165,ntmps165;go_wp2;go_ret;exact⟨rfl,rfl⟩
 have hd:decide (0<=n/\n<12)=false:=by simp[c]
 rw[hd];clear hd;go_enter func165,ntmps165;go_wp2;go_ret;exact⟨rfl,rfl⟩
theorem isz_x:(∀(x:Mod) (C:Option Addr) (c1:Nat) (B:Option Addr) (c2:Nat) (A:Option Addr) (c3:Nat) (z:Option Addr) (c4:Nat) (y:Option Addr) (c5:Nat) (v:Option Addr) (r:Nat) (u:Option Addr) (q:Nat) (t:Option Addr) (p:Nat) (s:Option Addr) (m:Nat) (g:Option Addr) (d:Nat) (f:Option Addr) (c:Nat) (n:Int) (w:J) (L:x.Ln) (E:x.hasS=false),Ec Q 130 #[Ag #[S C (N x.types) c1,S B (N x.imps) c2,S A (N x.funcs) c3,S z (N x.tabs) c4,S y (N x.mems) c5,S v (N x.globs) r,S u (N x.exps) q,G x.hasS,U O x.start,S t (N x.elems) p,S s (N x.codes) m,S g (N x.datas) d,S f (N x.customs) c],U O n] w λe w'=>e=Z (U O (szN x n))/\Below w.heap.size w w')/\(∀(x:Mod) (C:Option Addr) (c1:Nat) (B:Option Addr) (c2:Nat) (A:Option Addr) (c3:Nat) (z:Option Addr) (c4:Nat) (y:Option Addr) (c5:Nat) (v:Option Addr) (r:Nat) (u:Option Addr) (q:Nat) (t:Option Addr) (p:Nat) (s:Option Addr) (m:Nat) (g:Option Addr) (d:Nat) (f:Option Addr) (c:Nat) (n:Int) (w:J) (L:x.Ln) (E:x.hasS=true),Ec Q 130 #[Ag #[S C (N x.types) c1,S B (N x.imps) c2,S A (N x.funcs) c3,S z (N x.tabs) c4,S y (N x.mems) c5,S v (N x.globs) r,S u (N x.exps) q,G x.hasS,U O x.start,S t (N x.elems) p,S s (N x.codes) m,S g (N x.datas) d,S f (N x.customs) c],U O n] w λe w'=>e=Z (U O (szN x n))/\Below w.heap.size w w'):=by
 refine⟨?c0,?c1⟩;case' c0=>have j:=0
 case' c1=>have Y:=0
 all_goals
  intro x C c1 B c2 A c3 z c4 y c5 v r u q t p s m g d f c n w L E
  obtain⟨l1,l2,l3,l4,l5,l6,l7,l8,l9,ap,ao⟩:=L;have F:=Hm (λa w=>hidx_c a n w);have D:=Hm E;clear E
  go_enter func130,ntmps130
  go_upto_region 1 with fail
  refine Qp (λW=>Bk W w.heap.size [S C (N x.types) c1,S B (N x.imps) c2,S A (N x.funcs) c3,S z (N x.tabs) c4,S y (N x.mems) c5,S v (N x.globs) r,S u (N x.exps) q,G x.hasS,U O x.start,S t (N x.elems) p,S s (N x.codes) m,S g (N x.datas) d,S f (N x.customs) c]/\Below w.heap.size w W/\W.heap.size=w.heap.size+1) ⟨Bk.new,bFz.alloc lRz _,by simp⟩ ?_
  rintro W ⟨b,k,hs⟩;have q0:=b.2.1 0 _ rfl;have q1:=b.2.1 1 _ rfl;have q2:=b.2.1 2 _ rfl;have q3:=b.2.1 3 _ rfl;have q4:=b.2.1 4 _ rfl;have q5:=b.2.1 5 _ rfl;have q6:=b.2.1 6 _ rfl;have R:=b.2.1 7 _ rfl;have q9:=b.2.1 9 _ rfl;have I:=b.2.1 10 _ rfl;have H:=b.2.1 11 _ rfl;rw[D.o]at R;clear hs
  go_upto_region 5 with fail
  first|(replace j:=j;refine Qp (λV=>Bk V W.heap.size [U O 0,U O (N x.types),U O (N x.imps),U O (N x.funcs),U O (N x.tabs),U O (N x.mems),U O (N x.globs),U O (N x.exps),U O 0,U O (N x.elems),U O (N x.codes),U O (N x.datas)]/\Below w.heap.size w V) ⟨Bk.new,k.trans (((Ly _ W).alloc lRz _).mono k.size)⟩ ?_)|(refine Qp (λV=>Bk V W.heap.size [U O 0,U O (N x.types),U O (N x.imps),U O (N x.funcs),U O (N x.tabs),U O (N x.mems),U O (N x.globs),U O (N x.exps),U O 1,U O (N x.elems),U O (N x.codes),U O (N x.datas)]/\Below w.heap.size w V) ⟨Bk.new,k.trans (((Ly _ W).alloc lRz _).mono k.size)⟩ ?_)
  clear b k q0 q1 q2 q3 q4 q5 q6 R q9 I H;rintro V ⟨b,k⟩;have p0:=b.2.1 0 _ rfl;have p1:=b.2.1 1 _ rfl;have p2:=b.2.1 2 _ rfl;have p3:=b.2.1 3 _ rfl;have p4:=b.2.1 4 _ rfl;have p5:=b.2.1 5 _ rfl;have p6:=b.2.1 6 _ rfl;have p7:=b.2.1 7 _ rfl
  first|(replace j:=j;have p8:V.cell? ⟨W.heap.size,8,none⟩=some (U O 0):=b.2.1 8 _ rfl)|(have p8:V.cell? ⟨W.heap.size,8,none⟩=some (U O 1):=b.2.1 8 _ rfl)
  have p9:=b.2.1 9 _ rfl;have ak:=b.2.1 10 _ rfl;have aj:=b.2.1 11 _ rfl;clear b
  by_cases l:0<=n/\n<12
  . have M:n=0\/n=1\/n=2\/n=3\/n=4\/n=5\/n=6\/n=7\/n=8\/n=9\/n=10\/n=11:=by omega
    rw[decide_eq_true l]at F;clear l
    rcases M with rfl|rfl|rfl|rfl|rfl|rfl|rfl|rfl|rfl|rfl|rfl|rfl
    all_goals
     go_wp2_with (go_at_call 165;refine(F.o _ _).mono ?_;rintro e X ⟨rfl,rfl⟩)
     go_ret
     refine⟨?_,k⟩
     have h0:=D.o
     simp[szN,szs,h0]
  . have HF:Hid (szN x n=0):=by show _=_;simp[szN,l]
    rw[decide_eq_false l]at F;clear l
    go_wp2_with (go_at_call 165;refine(F.o _ _).mono ?_;rintro e X ⟨rfl,rfl⟩)
    go_ret
    exact⟨by rw[HF.o];rfl,k⟩
def isz_false:=isz_x.1
def isz_true:=isz_x.2
theorem isz_c (x:Mod)(u:Option Addr)(c1:Nat)(t:Option Addr)(c2:Nat)(s:Option Addr)(c3:Nat)(r:Option Addr)(c4:Nat)(q:Option Addr)(c5:Nat)(p:Option Addr)(k:Nat)(o:Option Addr)(j:Nat)(m:Option Addr)(g:Nat)(l:Option Addr)(f:Nat)(d:Option Addr)(b:Nat)(c:Option Addr)(a:Nat)(n:Int)(w:J)(v:x.Ln):Ec Q 130 #[Ag #[S u (N x.types) c1,S t (N x.imps) c2,S s (N x.funcs) c3,S r (N x.tabs) c4,S q (N x.mems) c5,S p (N x.globs) k,S o (N x.exps) j,G x.hasS,U O x.start,S m (N x.elems) g,S l (N x.codes) f,S d (N x.datas) b,S c (N x.customs) a],U O n] w λe w'=>e=Z (U O (szN x n))/\Below w.heap.size w w':=by
 cases h:x.hasS
 . have:=isz_false x u c1 t c2 s c3 r c4 q c5 p k o j m g l f d b c a n w v h;rw[h]at this;exact this
 have:=isz_true x u c1 t c2 s c3 r c4 q c5 p k o j m g l f d b c a n w v h;rw[h]at this;exact this
theorem isec_c (x:Mod)(D:Option Addr)(c1:Nat)(C:Option Addr)(c2:Nat)(B:Option Addr)(c3:Nat)(A:Option Addr)(c4:Nat)(y:Option Addr)(c5:Nat)(v:Option Addr)(r:Nat)(u:Option Addr)(q:Nat)(t:Option Addr)(p:Nat)(s:Option Addr)(m:Nat)(f:Option Addr)(c:Nat)(d:Option Addr)(b:Nat)(n:Int)(w:J)(hl:x.Ln):Ec Q 164 #[Ag #[S D (N x.types) c1,S C (N x.imps) c2,S B (N x.funcs) c3,S A (N x.tabs) c4,S y (N x.mems) c5,S v (N x.globs) r,S u (N x.exps) q,G x.hasS,U O x.start,S t (N x.elems) p,S s (N x.codes) m,S f (N x.datas) c,S d (N x.customs) b],U O n] w λe w'=>e=Z (G (writ x n))/\Below w.heap.size w w':=by
 have KZ:=Hm (λ(w:J)=>isz_c x D c1 C c2 B c3 A c4 y c5 v r u q t p s m f c d b n w hl);have HW:=Hm (szN_writ x n);generalize szN x n=z at *;go_enter func164,ntmps164;go_upto_region 1 with fail
 refine Qp (λW=>Bk W w.heap.size [S D (N x.types) c1,S C (N x.imps) c2,S B (N x.funcs) c3,S A (N x.tabs) c4,S y (N x.mems) c5,S v (N x.globs) r,S u (N x.exps) q,G x.hasS,U O x.start,S t (N x.elems) p,S s (N x.codes) m,S f (N x.datas) c,S d (N x.customs) b]/\Below w.heap.size w W/\W.heap.size=w.heap.size+1) ⟨Bk.new,bFz.alloc lRz _,by simp⟩ ?_;rintro W ⟨a,F,hs⟩;have q0:=a.2.1 0 _ rfl;have q1:=a.2.1 1 _ rfl;have q2:=a.2.1 2 _ rfl;have Y:=a.2.1 3 _ rfl;have X:=a.2.1 4 _ rfl;have V:=a.2.1 5 _ rfl;have R:=a.2.1 6 _ rfl;have M:=a.2.1 7 _ rfl;have L:=a.2.1 8 _ rfl;have I:=a.2.1 9 _ rfl;have l:=a.2.1 10 _ rfl;have k:=a.2.1 11 _ rfl;have j:=a.2.1 12 _ rfl;have H:=Hm F;clear a F hs;go_wp2_with fail
 refine(KZ.o _).mono ?_;rintro e w2 ⟨rfl,g⟩;have E:=Hm (H.o.trans (g.mono H.o.size));clear g q0 q1 q2 Y X V R M L I l k j;go_wp2;go_ret;exact⟨by rw[<- HW.o];rfl,E.o⟩
end YtaccbbndmmhenaaGreatDoor
namespace YtaccbbndmmhenaaGreatDoor.Va
open Go.RowKit Go.Sort
def QQ (n:Int):List Grp->List Int
 |[]=>[]
 |g::gs=>(n+g.n)::QQ (n+g.n) gs
theorem endsM_len:∀(n:Int) (gs:List Grp),(QQ n gs).length=N gs
 |n,[]=>rfl
 |n,g::gs=>by simp[QQ,endsM_len (n+g.n) gs]
def QL (gs:List Grp):Int:=(gs.map (·.n)).sum
theorem X8 (g:Grp)(gs:List Grp):QL (g::gs)=g.n+QL gs:=by simp[QL]
theorem sumG_nn {gs:List Grp}(h:∀g∈gs,0<=g.n):0<=QL gs:=by
 induction gs with
 |nil=>simp[QL]
 |cons g gs ih =>
  rw[X8]
  have:=h g (by simp)
  have:=ih λx hx=>h x (by simp[hx])
  omega
theorem endsM_snoc:∀(n:Int) (gs:List Grp) (g:Grp),QQ n (gs++[g])=QQ n gs++[n+QL gs+g.n]
 |n,[],g=>by simp[QQ,QL]
 |n,x::gs,g=>by simp only[List.cons_append,QQ,endsM_snoc (n+x.n) gs g,X8,<- Int.add_assoc]
theorem endsM_ge:∀(n:Int) (gs:List Grp),(∀g∈gs,0<=g.n)->∀x∈QQ n gs,n<=x
 |n,[],_,x,a=>by cases a
 |n,g::gs,h,x,a=>by
  have b:=h g (by simp)
  rcases List.mem_cons.1 a with rfl|a
  . omega
  . have:=endsM_ge (n+g.n) gs (λy hy=>h y (by simp[hy])) x a;omega
theorem endsM_sorted:∀(n:Int) (gs:List Grp),(∀g∈gs,0<=g.n)->(QQ n gs).Pairwise (·<=·)
 |n,[],_=>.nil
 |n,g::gs,h=>by
  refine .cons (λx hx=>endsM_ge _ gs (λy hy=>h y (by simp[hy])) x hx) (endsM_sorted _ gs λy hy=>h y (by simp[hy]))
theorem pw_getD {xs:List Int}(h:xs.Pairwise (·<=·))(i j:Nat)(b:i<=j)(c:j<N xs):xs.getD i 0<=xs.getD j 0:=by
 rcases Nat.lt_or_eq_of_le b with a|rfl
 . have:=List.pairwise_iff_getElem.1 h i j (by omega) c a;simpa[Kg,Kj c,Kj (show i<N xs by omega)]using this
 exact Int.le_refl _
theorem ends_find:∀(gs:List Grp) (n i:Int),n<=i->(∀g∈gs,0<=g.n)->∀k,k<=N gs->(∀q,q<k->(QQ n gs).getD q 0<i+1)->(∀q,k<=q->q<N gs->i+1<=(QQ n gs).getD q 0) ->
    (k=N gs->XQ gs (i-n)=0/\¬(i-n<QL gs))/\(k<N gs->XQ gs (i-n)=(gs.getD k Grp.z).ty/\i-n<QL gs)
 |[],n,i,hn,h,k,hk,h1,h2=>⟨λ_=>⟨rfl,by simp[QL];omega⟩,λh=>by simp at h⟩
 |g::gs,n,i,hn,h,k,hk,h1,h2=>by
  have d:=h g (by simp);have c:=sumG_nn λy hy=>h y (List.mem_cons_of_mem g hy);rw[X8]
  cases k with
  |zero =>
   have:=h2 0 lRz (by simp)
   simp[QQ]at this
   refine⟨λe=>by simp at e,λ_=>⟨?_,by omega⟩⟩
   simp only[XQ]
   rw[if_pos (by omega)];rfl
  |succ k =>
   have b:=h1 0 (by omega)
   simp[QQ]at b
   have a:=ends_find gs (n+g.n) i (by omega) (λy hy=>h y (by simp[hy])) k (by simp at hk;omega) (λq hq=>by have:=h1 (q+1) (by omega);simpa[QQ]using this) (λq hq hq2=>by have:=h2 (q+1) (by omega) (by simp;omega);simpa[QQ]using this)
   have e:XQ (g::gs) (i-n)=XQ gs (i-(n+g.n)):=by
    simp only[XQ]
    rw[if_neg (by omega),show i-n-g.n=i-(n+g.n) by omega]
   rw[e]
   refine⟨λhk'=>?_,λhk'=>?_⟩
   . have:=a.1 (by simpa using hk');exact⟨this.1,by omega⟩
   . have:=a.2 (by simpa using hk');exact⟨by rw[this.1];simp,by omega⟩
def GrL (D:Nat)(w0:J)(a:Option Addr)(gs:List Grp):Prop:=gs=[]\/∃b off,a=some ⟨b,off,none⟩/\b<D/\∀i,i<N gs->w0.cell? ⟨b,off+i*2,none⟩=some (U O (gs.getD i Grp.z).n)/\w0.cell? ⟨b,off+i*2+1,none⟩=some (U O (gs.getD i Grp.z).ty)
def JS (D:Nat)(w0:J)(ks:List Qc)(l:Lo)(ps:List Int)(gs:List Grp):Prop:=Ty D w0 ks l.pv ps/\(∃a c,l.gv=S a (N gs) c/\GrL D w0 a gs)/\Ty D w0 ks l.ev (QQ (N ps) gs)
theorem ifind_c {D w0 V ks}{l:Lo}{c:List Int}{gs:List Grp}(i:Int)(I:Mo D w0 ks V)(h:JS D w0 ks l c gs)(h0:0<=i)(hi:i<=4294967295)(hn:∀g∈gs,0<=g.n)(bd:N c<=1048577)(bf:N gs<=1048577):Ec Q 250 #[Ag #[l.pv,l.gv,l.ev],U O i] V λe w'=>e=Z (.tuple #[U O (if i<N c then c.getD i.toNat 0 else XQ gs (i-N c)),G (decide (i<N c+QL gs))])/\Below V.heap.size V w':=by
 obtain⟨pv,gv,ev⟩:=l;obtain⟨t1,⟨ga,gc,hg,E⟩,t2⟩:=h;obtain⟨pa,pc,hp,hP⟩:=t1.shape I λr hr=>hr;obtain⟨ea,ec,he,hE⟩:=t2.shape I λr hr=>hr;dsimp only at hg hp he;subst hg hp he;have hs:=sumG_nn hn;have v:(QQ (N c) gs).length=N gs:=endsM_len _ _;rw[v];obtain⟨W,M⟩:∃W,W=V.alloc (Fc #[S pa (N c) pc,S ga (N gs) gc,S ea (N gs) ec] 334):=⟨_,rfl⟩;have H:Below V.heap.size V W:=by rw[M];exact bFz.alloc lRz _
 have kk:Bk W V.heap.size [S pa (N c) pc,S ga (N gs) gc,S ea (N gs) ec]:=by rw[M];exact Bk.new
 have e0:=kk.2.1 0 _ rfl;have e1:=kk.2.1 1 _ rfl;have e2:=kk.2.1 2 _ rfl;have B:=Hm (hi_int64 pa (N c) pc i);by_cases A:i<N c
 . (have u:Xk (N c) i=true:=by simp[Xk,h0,A]);rw[u]at B;obtain⟨j,rfl⟩:∃j:Nat,i=j:=⟨i.toNat,by omega⟩;(have hj:j<N c:=by omega);rcases hP.keep H with hx|⟨b,off,F,R⟩
   . subst hx;simp at hj
   subst F;have d:=R j hj;(have t:(if(j:Int)<N c then c.getD (j:Int).toNat 0 else XQ gs ((j:Int)-N c))=c.getD j 0:=by rw[if_pos A];simp);(have f:decide ((j:Int)<N c+QL gs)=true:=by simp;omega);rw[t,f];obtain⟨y,hy⟩:∃y,y=c.getD j 0:=⟨_,rfl⟩;rw[<- hy]at d⊢;clear hy R t f E hE hP t1 t2 kk v I u;have C:=Hm H;clear H;go_enter func250,ntmps250;(go_wp2_with fail);rw[<- M];clear M;refine(B.o _).mono ?_;rintro e w1 ⟨rfl,rfl⟩;go_wp2;(go_ret2);exact⟨rfl,C.o⟩
 have u:Xk (N c) i=false:=by simp[Xk];omega
 rw[u]at B;have t:(if i<N c then c.getD i.toNat 0 else XQ gs (i-N c))=XQ gs (i-N c):=by rw[if_neg A]
 rw[t];obtain⟨L,hL⟩:∃L,L=XQ gs (i-N c):=⟨_,rfl⟩;obtain⟨dd,f⟩:∃dd,dd=decide (i<N c+QL gs):=⟨_,rfl⟩;rw[<- hL,<- f];have Y:=Hm hL;have aa:=Hm f;clear hL f;have HF:=Hm (ends_find gs (N c) i (by omega) hn);have hw:IntKind.i64.wrap (i+1)=i+1:=by rw[Kv];omega
 have ab:=Hm (bs_c ea ec (QQ (N c) gs) (i+1) W (by omega) (hE.keep H) (λa b h1 h2=>pw_getD (endsM_sorted _ gs hn) a b h1 h2));rw[v]at ab;have a1:=Hm v;have az:Hid (GrL D w0 ga gs):=E;have ay:=Hm (I.b.trans (H.mono I.le));have C:=Hm H;clear hE hP t1 t2 kk v I E H t u A;go_enter func250,ntmps250;go_wp2_with fail
 rw[<- M];clear M;refine(B.o _).mono ?_;rintro e w1 ⟨rfl,rfl⟩;go_wp2_with fail
 refine ab.o.mono ?_;rintro e w1 ⟨k,bb,rfl,hk,k1,k2,m,rfl⟩;rw[a1.o]at hk k2;obtain⟨F1,F2⟩:=HF.o k hk k1 k2;by_cases s:k=N gs
 . obtain⟨X,g2⟩:=F1 s;(have q:((k:Int)==(N gs:Int))=true:=by simp[s]);(have q1:L=0:=by rw[Y.o];exact X);(have q3:dd=false:=by rw[aa.o];simp;omega);subst q1 q3;clear F1 F2 s X g2 k1 k2 HF;go_wp2;(go_ret2);exact⟨rfl,Qo C.o _⟩
 obtain⟨X,g2⟩:=F2 (by omega);have q:((k:Int)==(N gs:Int))=false:=by simp;omega
 have q2:(k:Int)<(N gs:Int):=by omega
 rcases az.o with hx|⟨b,off,F,hb,R⟩
 . subst hx;simp at hk s;omega
 subst F;have d:(W.drewN m).cell? ⟨b,off+k*2+1,none⟩=some (U O (gs.getD k Grp.z).ty):=(ay.o.cell (p:=⟨b,off+k*2+1,none⟩) hb).trans (R k (by omega)).2;rw[<- X,<- Y.o]at d;have q3:dd=true:=by rw[aa.o];simp;omega
 subst q3;clear F1 F2 s X g2 k1 k2 HF R;go_wp2;go_ret2
 exact⟨rfl,Qo C.o _⟩
theorem ichoose_c {D:Nat}{R:J}{p:Nat}{Y:Vu}{l:Lo}{ks:List Qc}{s:Fn}{V:J}(h:ISt D R p Y l ks s V)(n:s.blocks≠[])(r:N s.blocks<=1048577)(E:N s.stack<=1099511627776):Ec Q 240 #[Yp (some ⟨p,0,none⟩)] V (FnP D R p Y l ks ((Q4 s 127).bind λz=>(pop z 0).bind λp=>(pop p.2 p.1).map λq=>push q.2 [q.1])):=by
 obtain⟨M,B⟩:∃M,M=(Q4 s 127).bind λz=>(pop z 0).bind λp=>(pop p.2 p.1).map λq=>push q.2 [q.1]:=⟨_,rfl⟩;rw[<- B];have L:=Hm (ipop_c 127 h n r E);clear h;go_enter func240,ntmps240;go_wp2_with fail
 refine L.o.mono ?_;rintro e w1 ⟨c,j⟩;rcases c.cases with ⟨f,a,rfl,A⟩|⟨u,z,a,rfl,k⟩
 . (have b:Hid (M=.error f):=by show M=_;rw[B,Q4,a];rfl);clear c a L j B;go_wp2;go_ret;exact FnP.err b.o A
 have g:M=(pop z 0).bind λp=>(pop p.2 p.1).map λq=>push q.2 [q.1]:=by rw[B,Q4,a];rfl
 have C:=(Jo a).1;have b2:=JV a;have v:=Hm (ipop_c 0 k (by rw[C];exact n) (by rw[C];exact r) (by omega));clear c a L j k B;go_wp2_with fail
 refine v.o.mono ?_;rintro e w2 ⟨c,j⟩;rcases c.cases with ⟨f,a,rfl,A⟩|⟨X,s2,a,rfl,k⟩
 . (have b:Hid (M=.error f):=by show M=_;rw[g,a];rfl);clear c a v j g;go_wp2;go_ret;exact FnP.err b.o A
 have d:M=(pop s2 X).map λq=>push q.2 [q.1]:=by rw[g,a];rfl
 have H:=(Jo a).1;have b4:=JV a;have t:=Hm (ipop_c X k (by rw[H,C];exact n) (by rw[H,C];exact r) (by omega));clear c a v j k g;go_wp2_with fail
 refine t.o.mono ?_;rintro e m ⟨c,j⟩;rcases c.cases with ⟨f,a,rfl,A⟩|⟨y,s3,a,rfl,k⟩
 . (have b:Hid (M=.error f):=by show M=_;rw[d,a];rfl);clear c a t j d;go_wp2;go_ret;exact FnP.err b.o A
 have b:Hid (M=.ok (push s3 [y])):=by show M=_;rw[d,a];rfl
 have b6:=JV a;have hk:Below m.heap.size m (m.alloc (Fc #[U O y] 2)):=bFz.alloc lRz _;have hh:Has (m.alloc (Fc #[U O y] 2)) (some ⟨m.heap.size,0,none⟩) [y]:=.inr ⟨m.heap.size,0,rfl,fun i hi=>by
  have:i=0:=by simp at hi;omega
  subst this
  exact Qf rfl rfl⟩
 have I:=Hm (ipush_c (some ⟨m.heap.size,0,none⟩) 1 [y] (k.keep hk) hh (by simp) (by omega));clear c a t j d k hk hh C b2 H b4 b6;go_wp2_with (go_at_call 254;refine I.o.mono ?_;rintro e w4 ⟨rfl,F⟩)
 go_ret;exact FnP.ok b.o F
theorem ilabel_c (p g k c:Nat)(n:Int)(w:J)(q:w.cell? ⟨p,5,none⟩=some (S (some ⟨g,0,none⟩) (k+1) c))(o:k<=1099511627776)(hn:0<=n)(a:n<=k):Ec Q 237 #[Yp (some ⟨p,0,none⟩),U O n] w λe w'=>e=Z (Yp (some ⟨g,(k-n.toNat)*5,none⟩))/\∃m,w'=w.drewN m:=by
 obtain⟨j,rfl⟩:∃j:Nat,n=j:=⟨n.toNat,by omega⟩;have l:IntKind.i64.wrap (((k+1:Nat):Int)-1)=k:=by rw[Kv];omega
 obtain⟨i,b⟩:∃i:Nat,i=k-j:=⟨_,rfl⟩;have d:IntKind.i64.wrap ((k:Int)-(j:Int))=i:=by rw[Kv];omega
 have f:(i:Int)<((k+1:Nat):Int):=by omega
 simp only[Int.toNat_natCast];rw[<- b];clear b hn a;go_enter func237,ntmps237;go_wp2;go_quiet (fail)
 go_wp2;go_ret;exact⟨rfl,_,rfl⟩
theorem Xw (w:J)(a b:Nat):(w.drewN a).drewN b=w.drewN (a+b):=by simp[World.drewN,Nat.add_assoc]
theorem ieq_c (a b)(ca cb:Nat)(xs c:List Int)(w)(hx:N xs<=1099511627776)(M:N c<=1099511627776)(z:Has w a xs)(v:Has w b c):Ec Q 219 #[S a (N xs) ca,S b (N c) cb] w λe w'=>e=Z (G (decide (xs=c)))/\∃n,w'=w.drewN n:=by
 by_cases s:N xs=N c
 . have A:=Hm s;rw[<- s];(have F:((N xs:Int) != (N xs:Int))=false:=by simp);have HA:=Hm z;have HB:=Hm v;clear z v s M;go_enter func219,ntmps219;go_wp2;(go_loopw [13] (λi wr=>∃k:Nat,k<=N xs/\i=U O k/\(∀j,j<k->xs.getD j 0=c.getD j 0)/\∃m,wr=w.drewN m) (λi _=>N xs-(intOf i).toNat));(case atStart=>exact⟨0,Nat.zero_le _,rfl,λj h=>by omega,0,rfl⟩);obtain⟨k,hk,rfl,d,m,rfl⟩:=hrel;have f:=Hm d;clear d;by_cases r:k<N xs
   . rcases HA.o with h|⟨b1,I,rfl,u⟩
     . subst h;simp at r
     rcases HB.o with h|⟨b2,H,rfl,t⟩
     . have B:=A.o;rw[h]at B;simp only[List.length_nil]at B;omega
     have Y:w.cell? ⟨b1,I+k,none⟩=some (U O (xs.getD k 0)):=u k r;have X:w.cell? ⟨b2,H+k,none⟩=some (U O (c.getD k 0)):=t k (by have:=A.o;omega);(have R:(k:Int)<(N xs:Int):=by omega);obtain⟨x,l⟩:∃x,x=xs.getD k 0:=⟨_,rfl⟩;obtain⟨y,g⟩:∃y,y=c.getD k 0:=⟨_,rfl⟩;rw[<- l]at Y;rw[<- g]at X;have E:=Hm l;have D:=Hm g;clear l g u t;by_cases q:x=y
     . (have L:(x != y)=false:=by simp[q]);have p:=Hm q;clear q;go_wp2;(go_quiet (fail));go_wp2;go_roundw
       case rel=>exact⟨k+1,by omega,by go_num,fun j hj=>by
        rcases(by omega:j<k\/j=k)with h|h
        . exact f.o j h
        . subst h;rw[<- E.o,<- D.o];exact p.o,_,by first | rfl | exact Xw _ _ _⟩
       case measure=>simp[intOf];omega
     (have L:(x != y)=true:=by simp[q]);(have p:Hid (decide (xs=c)=false):=by show decide _=_;simp;intro e;subst e;exact q (E.o.trans D.o.symm));clear q;go_wp2;(go_quiet (fail));go_wp2;go_ret;exact⟨by rw[p.o];rfl,_,by first|rfl|exact Xw _ _ _⟩
   (have e:k=N xs:=by omega);subst e;(have p:Hid (decide (xs=c)=true):=by show decide _=_;simp;apply List.ext_getElem A.o;intro i C V;have:=f.o i C;simpa[Kg,Kj C,Kj V]using this);go_wp2;go_ret;exact⟨by rw[p.o];rfl,m,rfl⟩
 have F:((N xs:Int) != (N c:Int))=true:=by simp;omega
 have p:Hid (decide (xs=c)=false):=by show decide _=_;simp;intro e;subst e;exact s rfl
 clear z v s;go_enter func219,ntmps219;go_wp2;go_ret;exact⟨by rw[p.o];rfl,0,rfl⟩
theorem all_x:(∀(a:Option Addr) (c:Nat) (l:List Int) (C B:Nat) (P:Int->Bool) (w:J) (hn:N l<=1099511627776) (r:Has w a l) (n:∀x,x∈l->∀m,Ec Q 255 #[U O x,Yp (some ⟨C,0,none⟩),Yp (some ⟨B,0,none⟩)] (w.drewN m) λe w'=>e=Z (G (P x))/\∃k,w'=(w.drewN m).drewN k),Ec Q 114 #[S a (N l) c,.func (.func 255) #[] #[Yp (some ⟨C,0,none⟩),Yp (some ⟨B,0,none⟩)]] w λe w'=>e=Z (G (l.all P))/\∃m,w'=w.drewN m)/\(∀(a:Option Addr) (c:Nat) (l:List Int) (p:Nat) (P:Int->Bool) (w:J) (hn:N l<=1099511627776) (r:Has w a l) (n:∀x,x∈l->∀m,Ec Q 229 #[Yp (some ⟨p,0,none⟩),U O x] (w.drewN m) λe w'=>e=Z (G (P x))/\∃k,w'=(w.drewN m).drewN k),Ec Q 114 #[S a (N l) c,.func (.func 229) #[Yp (some ⟨p,0,none⟩)] #[]] w λe w'=>e=Z (G (l.all P))/\∃m,w'=w.drewN m):=by
 refine⟨?c0,?c1⟩;case' c0=>intro a c l C B P w hn r n;have L:=0
 case' c1=>intro a c l p P w hn r n;have I:=0
 all_goals
  have u:=Hm r;have X:=Hm n;clear r n
  go_enter func114,ntmps114
  go_wp2_with fail
  go_loopw [9] (λi wr=>∃k:Nat,k<=N l/\i=U O k/\(∀j,j<k->P (l.getD j 0)=true)/\∃m,wr=w.drewN m) (λi _=>N l-(intOf i).toNat)
  case atStart=>exact⟨0,Nat.zero_le _,rfl,λj h=>by omega,0,rfl⟩
  case round =>
   obtain⟨k,Y,rfl,b,m,rfl⟩:=hrel
   by_cases g:k<N l
   . have R:(k:Int)<(N l:Int):=by omega
     rcases u.o with v|⟨D,M,V,A⟩
     . subst v;simp at g
     have d:(w.drewN m).cell? ⟨D,M+k,none⟩=some (U O (l.getD k 0)):=A k g;subst V;have H:=Hm (X.o (l.getD k 0) (by simp[Kg,g]) m);generalize t:l.getD k 0=y at *;generalize s:P y=z at *
     cases z
     . have f:Hid (l.all P=false):=by
         show l.all P=false
         rw[List.all_eq_false]
         exact⟨y,by rw[<- t];simp[Kg,g],by simp[s]⟩
       clear b A t s u
       go_wp2_with (refine H.o.mono ?_;rintro e w1 ⟨rfl,q,rfl⟩)
       go_ret
       exact⟨by rw[f.o];rfl,_,by first|rfl|exact Xw _ _ _⟩
     . have E:Hid (∀j,j<k+1->P (l.getD j 0)=true):=λj hj=>by
         rcases(by omega:j<k\/j=k)with h|h
         . exact b j h
         . subst h;rw[t];exact s
       clear b A t s u
       go_wp2_with (refine H.o.mono ?_;rintro e w1 ⟨rfl,q,rfl⟩)
       go_roundw
       case rel=>exact⟨k+1,by omega,by go_num,E.o,_,by first|rfl|exact Xw _ _ _⟩
       case measure=>simp[intOf];omega
   . have e:k=N l:=by omega
     subst e
     have f:Hid (l.all P=true):=by
      show l.all P=true
      rw[List.all_eq_true]
      intro x v
      obtain⟨i,F,rfl⟩:=List.getElem_of_mem v
      have:=b i F
      simpa[Kg,F]using this
     clear b u
     go_wp2
     go_ret
     exact⟨by rw[f.o];rfl,m,rfl⟩
def allT_c:=all_x.1
def allL_c:=all_x.2
theorem XY (p n c:Nat)(a:Option Addr)(i:Int)(w:J)(b:w.cell? ⟨p,5,none⟩=some (S a n c)):Ec Q 229 #[Yp (some ⟨p,0,none⟩),U O i] w λe w'=>e=Z (G (Xk n i))/\w=w':=by
 have H:=Hm (hi_validBlock a n c i);go_enter func229,ntmps229;go_wp2_with (go_at_call 249;refine(H.o _).mono ?_;rintro e w1 ⟨rfl,rfl⟩)
 go_ret;exact⟨rfl,rfl⟩
theorem ihasFunc_c (q n c:Nat)(a:Option Addr)(i:Int)(w:J)(b:w.cell? ⟨q,1,none⟩=some (S a n c)):Ec Q 220 #[Yp (some ⟨q,0,none⟩),U O i] w λe w'=>e=Z (G (Xk n i))/\w=w':=by
 have H:=Hm (XZ a n c i);go_enter func220,ntmps220;go_wp2_with (go_at_call 198;refine(H.o _).mono ?_;rintro e w1 ⟨rfl,rfl⟩)
 go_ret;exact⟨rfl,rfl⟩
end YtaccbbndmmhenaaGreatDoor.Va
namespace YtaccbbndmmhenaaGreatDoor
open Go.RowKit
variable {g:Int}{w w1 wr:J}{pre:List Int}{n G3 G4:Nat}{x y:Vu}
theorem OT.start (r:Row)(j:Below (w.alloc (Fc #[S none 0 0,S none 0 0] 148)).heap.size (w.alloc (Fc #[S none 0 0,S none 0 0] 148)) w1):OT w w1.heap.size (w1.heap.size+1) (S none 0 0) [] r.g ((w1.alloc (Fc #[Xs r.nm,U O r.f,U O r.a,U O r.b,U O r.g] 341)).alloc (Fc #[S none 0 0,S none 0 0] 148)):=by
 have l:w.heap.size<(w.alloc (Fc #[S none 0 0,S none 0 0] 148)).heap.size:=by simp
 have k:=j.size;simp only[World.size_alloc]at k;have d:(w1.alloc (Fc #[Xs r.nm,U O r.f,U O r.a,U O r.b,U O r.g] 341)).heap.size=w1.heap.size+1:=by simp
 have c:((w1.alloc (Fc #[Xs r.nm,U O r.f,U O r.a,U O r.b,U O r.g] 341)).alloc (Fc #[S none 0 0,S none 0 0] 148)).heap[w.heap.size]?=some (Fc #[S none 0 0,S none 0 0] 148):=by rw[QM _ _ _ (by simp;omega),QM _ _ _ (by omega),j.block _ l];exact heap_new _ _
 refine⟨Hk _ _ _ _,Qf d.symm rfl,Qf d.symm rfl,?_,?_,?_,?_,?_,?_,?_,?_,by omega,by omega,by simp⟩
 . rw[<- d];exact Lw _ _ _ _
 . rw[<- d];exact Lw _ _ _ _
 . rw[World.cell?_alloc_past _ _ _ (by simp)];exact Qf rfl rfl
 . simp only[World.cell?,c];rfl
 . simp only[World.cell?,c];rfl
 . simp only[World.frozen?,c];rfl
 . simp only[World.frozen?,c];rfl
 exact((up1 j).alloc (by omega) _).alloc (by simp;omega) _
theorem FT.sets {C:Nat}{p r:Vu}{m:Nat}{xs j:List Int}(h:FT w1 (w.heap.size+1) C p r n m xs j)(t:w.heap.size+1<=w1.heap.size)(f:Below w.heap.size w w1)(k:C=w1.heap.size):FT ((w1.setCell ⟨w.heap.size,0,none⟩ x).setCell ⟨w.heap.size,1,none⟩ y) w.heap.size ((w1.setCell ⟨w.heap.size,0,none⟩ x).setCell ⟨w.heap.size,1,none⟩ y).heap.size p r n m xs j/\Below w.heap.size w ((w1.setCell ⟨w.heap.size,0,none⟩ x).setCell ⟨w.heap.size,1,none⟩ y):=by
 have o:∀b,b≠w.heap.size->((w1.setCell ⟨w.heap.size,0,none⟩ x).setCell ⟨w.heap.size,1,none⟩ y).heap[b]?=w1.heap[b]?:=λb hb=>(Mx _ _ _ _ hb).trans (Mx _ _ _ _ hb);have own:∀{v:Vu} {n:Nat} {a:List Vu},w1.ownsRow (w.heap.size+1) 2 1 v n a->((w1.setCell ⟨w.heap.size,0,none⟩ x).setCell ⟨w.heap.size,1,none⟩ y).ownsRow w.heap.size 2 1 v n a:=by
  intro v n a h;refine⟨h.1,?_⟩;rcases h.2 with s|⟨g,d,c,l,u,q,r⟩
  . exact .inl s
  exact .inr ⟨g,d,c,l,by omega,(o g (by omega)).trans q,r⟩
 exact⟨⟨own h.hp,own h.hr,h.ne,by simp;rw[<- k];exact h.ltp,by simp;rw[<- k];exact h.ltr,lRz⟩,(f.setCell lRz _).setCell lRz _⟩
theorem OT.fin2 {v:Vu}(h:OT w G3 G4 v pre g wr):FT ((wr.setCell ⟨w.heap.size,0,none⟩ x).setCell ⟨w.heap.size,1,none⟩ y) w.heap.size ((wr.setCell ⟨w.heap.size,0,none⟩ x).setCell ⟨w.heap.size,1,none⟩ y).heap.size v (S none 0 0) (N pre) 0 pre []/\Below w.heap.size w ((wr.setCell ⟨w.heap.size,0,none⟩ x).setCell ⟨w.heap.size,1,none⟩ y):=by
 have m:=h.l1;have l:=h.l2;have k:=h.l3;refine FT.sets (C:=wr.heap.size) ⟨?_,Hk _ _ _ _,?_,own_lt h.own,?_,lRz⟩ (by omega) h.bel rfl
 . refine⟨h.own.1,?_⟩;rcases h.own.2 with f|⟨g,c,b,d,n,r⟩
   . exact .inl f
   exact .inr ⟨g,c,b,d,by omega,r⟩
 . intro i j _ a;cases a
 intro j a;cases a
theorem OT.fin3 {v z:Vu}(h:OT w G3 G4 v pre g wr):FT ((((wr.setCell ⟨G4,1,none⟩ x).setCell ⟨w.heap.size,0,none⟩ y).setCell ⟨w.heap.size,1,none⟩ z).alloc (Fc #[U O g] 2)) w.heap.size ((((wr.setCell ⟨G4,1,none⟩ x).setCell ⟨w.heap.size,0,none⟩ y).setCell ⟨w.heap.size,1,none⟩ z).alloc (Fc #[U O g] 2)).heap.size v (S (some ⟨wr.heap.size,0,none⟩) 1 1) (N pre) [g].length pre [g]/\Below w.heap.size w ((((wr.setCell ⟨G4,1,none⟩ x).setCell ⟨w.heap.size,0,none⟩ y).setCell ⟨w.heap.size,1,none⟩ z).alloc (Fc #[U O g] 2)):=by
 have B:=h.l1;have A:=h.l2;have u:=h.l3;obtain⟨W,d⟩:∃W,W=((wr.setCell ⟨G4,1,none⟩ x).setCell ⟨w.heap.size,0,none⟩ y).setCell ⟨w.heap.size,1,none⟩ z:=⟨_,rfl⟩;have p:∀b,b≠w.heap.size->b≠G4->W.heap[b]?=wr.heap[b]?:=λb hb hb'=>by rw[d];exact(Mx _ _ _ _ hb).trans ((Mx _ _ _ _ hb).trans (Mx _ _ _ _ hb'))
 have f:W.heap.size=wr.heap.size:=by rw[d];simp
 have m:Below w.heap.size w W:=by rw[d];exact((h.bel.setCell (by show w.heap.size<=G4;omega) _).setCell lRz _).setCell lRz _
 rw[<- d];have o:W.ownsRow w.heap.size 2 1 v (N pre) (I pre):=by
  refine⟨h.own.1,?_⟩;rcases h.own.2 with t|⟨g,l,k,n,C,s,r⟩
  . exact .inl t
  exact .inr ⟨g,l,k,n,by omega,(p g (by omega) (by omega)).trans s,r⟩
 have a:=own_lt h.own;refine⟨⟨o.alloc _,?_,?_,?_,?_,lRz⟩,m.alloc (by omega) _⟩
 . have:=Mz (base:=w.heap.size) (e:=2) (size:=1) W #[U O g] 1 (by omega) (by unfold maxLen;omega) rfl;rw[f]at this;exact this
 . intro i j q c;cases c;have:=a i q;show i≠wr.heap.size;omega
 . intro j c;have:=a j c;simp[f];omega
 intro j c;cases c;show wr.heap.size<_;simp[f]
theorem own_slice {B:Nat}{v:Vu}{b:List Vu}(h:w.ownsRow B 2 1 v n b):∃a c,v=S a n c:=by
 rcases h.2 with ⟨e,f⟩|⟨g,k,j,d,_⟩
 . rw[f];exact⟨_,_,e⟩
 exact⟨_,_,d⟩
theorem OT.skip {v:Vu}(h:OT w G3 G4 v pre g wr):OT w G3 G4 v (pre++[]) g wr:=by simpa using h
theorem itype_c (op:Int)(w:J):Ec Q 217 #[U O op] w λe w'=>∃p r,e=Z (Ag #[p,r])/\FT w' w.heap.size w'.heap.size p r (nz [(Qb op).a,(Qb op).b]).length (nz [(Qb op).g]).length (nz [(Qb op).a,(Qb op).b]) (nz [(Qb op).g])/\Below w.heap.size w w':=by
 have Y:=Hm (find_c op (w.alloc (Fc #[S none 0 0,S none 0 0] 148)));generalize Qb op=r at *;obtain⟨i0,hi,D,C,B⟩:=info_parts info2;have l:=ix44 r.a r.b;go_enter func217,ntmps217;go_wp2_with fail
 refine Y.o.mono ?_;rintro e w1 ⟨rfl,hb⟩;have u:=OT.start r hb;clear hb;go_wp2_with fail
 go_loopw [11] (λi wr=>∃k:Nat,k<=2/\i=U O k/\∃v,OT w w1.heap.size (w1.heap.size+1) v (nz ([r.a,r.b].take k)) r.g wr) (λi _=>2-(intOf i).toNat)
 case atStart=>exact⟨0,by omega,rfl,_,u⟩
 obtain⟨k,hk,rfl,v,c⟩:=hrel;clear u Y;by_cases s:k<2
 . (have aq:(k:Int)<2:=by omega);have hx:=l k s;have q:=nz_step r.a r.b k s;have ap:(nz (List.take k [r.a,r.b])).length<=2:=Nat.le_trans (nz_len _) (by simp;omega);generalize Kg [r.a,r.b] k 0=x at hx q;generalize nz (List.take k [r.a,r.b])=pre at *;by_cases j:x=0
   . subst j;rw[if_pos rfl]at q;have L:=Hm q;have m:=Hm c;clear q c l;go_wp2;(go_roundw);(case rel=>exact⟨k+1,by omega,by go_num,v,by rw[L.o];exact m.o.skip⟩);case measure=>simp[intOf];omega
   rw[if_neg j]at q;(have I:(x==0)=false:=by simpa using j);(have ab:(x != 0)=true:=by simpa using j);have L:=Hm q;have m:=Hm c;have own:=c.own;have M:=c.t0;have X:=c.l3;clear q c l;(go_wp2_with (at_builtin;refine wpList_append_own _ rfl _ _ 24 rfl (w1.heap.size+1+1) 2 i0 (U O 0) 1 8 underlying24 hi D C B rfl (by decide) _ _ _ rfl (own.alloc _) ⟨wr.heap.size,0,none⟩ 1 1 [U O x] rfl rfl (cell_one_new _ _ _) (oneI _) (by unfold maxLen;omega) (by omega) (by simp;omega) ?_;intro v' w2 d f F;have t:=Hm (m.o.push d f);have c0:=t.o.2.1;have cf:=t.o.2.2;obtain⟨A,z,rfl⟩:=own_slice d;clear d f F own M X m));(go_roundw);(case rel=>exact⟨k+1,by omega,by go_num,_,by rw[L.o];exact t.o.1⟩);case measure=>simp[intOf];omega
 have H:k=2:=by omega
 subst H;have e2:List.take 2 [r.a,r.b]=[r.a,r.b]:=rfl;rw[e2]at c;obtain⟨y,n⟩:∃y,y=nz [r.a,r.b]:=⟨_,rfl⟩;rw[<- n]at c;have HX:=Hm n;clear n;obtain⟨A,z,rfl,_⟩:=XN c.own;have m:=Hm c;have M:=c.t0;have t1:=c.t1;have ae:=c.tf1;have g3:=c.g3;have V:=c.r0;have R:=c.r1;have ag:=c.rf0;have af:=c.rf1;have l1:=c.l1;have X:=c.l3;clear c l s e2;by_cases j:r.g=0
 . rw[j]at g3;(have E:nz [r.g]=[]:=by simp[nz,j]);rw[j]at m;go_wp2;exact bodyPost_ret (v:=Ag #[S A (N y) z,S none 0 0]) (by simp[results,results217,go_sem,V,R]) rfl ⟨_,_,rfl,by rw[E,<- HX.o];exact m.o.fin2⟩
 have I:(r.g != 0)=true:=by simpa using j
 have q1:w.heap.size≠w1.heap.size+1:=by omega
 have q2:w1.heap.size+1≠w.heap.size:=by omega
 have q3:w.heap.size<wr.heap.size:=by omega
 have E:nz [r.g]=[r.g]:=by simp[nz,j]
 go_wp2;exact bodyPost_ret (v:=Ag #[S A (N y) z,S (some ⟨wr.heap.size,0,none⟩) 1 1]) (by simp[results,results217,go_sem,V,R,q1,q2,q3]) rfl ⟨_,_,rfl,by rw[E,<- HX.o];exact m.o.fin3⟩
def Qy (s:ByteArray):Int:=if s.size<3 then 0 else
 if(s.extract 0 3).data.toList=[105,51,50]then 127 else if(s.extract 0 3).data.toList=[105,54,52]then 126 else if(s.extract 0 3).data.toList=[102,51,50]then 125 else if(s.extract 0 3).data.toList=[102,54,52]then 124 else 0
theorem Je (s:ByteArray)(w:J):Ec Q 188 #[Xs s] w λe w'=>e=Z (U O (Qy s))/\w=w':=by
 by_cases h:s.size<3
 . (have a:(s.size:Int)<3:=by omega);go_enter func188,ntmps188;go_wp2;go_ret;exact⟨by simp[Qy,h],rfl⟩
 have a:¬(s.size:Int)<3:=by omega
 go_enter func188,ntmps188;go_wp2
 all_goals
  go_ret
  refine⟨?_,rfl⟩
  simp only[ByteArray.toList_eq,beq_iff_eq,beq_eq_false_iff_ne,ne_eq]at *
  simp_all[Qy]
theorem sig_c (a:Option Addr)(n c:Nat)(t:Int)(w:J):Ec Q 190 #[S a n c,U O t] w λe w'=>∃ga gc,e=Z (Ag #[S a n c,S ga 1 gc])/\w'.ownsRow w.heap.size 2 1 (S ga 1 gc) 1 (I [t])/\Below w.heap.size w w':=by
 go_enter func190,ntmps190;go_wp2;exact bodyPost_ret (v:=Ag #[S a n c,S (some ⟨w.heap.size+1,0,none⟩) 1 1]) (by simp[results,results190,go_sem]) rfl ⟨_,_,rfl,by
  have:=Mz (base:=w.heap.size) (e:=2) (size:=1) (w.alloc (Fc #[S a n c,S (some ⟨w.heap.size+1,0,none⟩) 1 1] 148)) #[U O t] 1 (by simp) (by unfold maxLen;omega) rfl
  simpa using this,(bFz.alloc lRz _).alloc (by simp) _⟩
structure RB (w:J)(wr:J):Prop where
 r0:wr.cell? ⟨w.heap.size,0,none⟩=some (S none 0 0)
 r1:wr.cell? ⟨w.heap.size,1,none⟩=some (S none 0 0)
 rf0:wr.frozen? ⟨w.heap.size,0,none⟩=false
 rf1:wr.frozen? ⟨w.heap.size,1,none⟩=false
 lt:w.heap.size<wr.heap.size
 bel:Below w.heap.size w wr
theorem RB.new (w:J):RB w (w.alloc (Fc #[S none 0 0,S none 0 0] 148)) :=
 ⟨Qf rfl rfl,Qf rfl rfl,Lw _ _ _ _,Lw _ _ _ _,by simp,bFz.alloc lRz _⟩
theorem RB.keep (h:RB w wr)(a:Below wr.heap.size wr w1):RB w w1 :=
 ⟨(a.cell (p:=⟨w.heap.size,0,none⟩) h.lt).trans h.r0,(a.cell (p:=⟨w.heap.size,1,none⟩) h.lt).trans h.r1,(a.frozen (p:=⟨w.heap.size,0,none⟩) h.lt).trans h.rf0,(a.frozen (p:=⟨w.heap.size,1,none⟩) h.lt).trans h.rf1,Nat.lt_of_lt_of_le h.lt a.size,h.bel.trans (a.mono (Nat.le_of_lt h.lt))⟩
theorem RB.past (h:RB w wr)(o:Obj):RB w (wr.alloc o):=h.keep (bFz.alloc lRz _)
theorem base_down {B d:Nat}{v:Vu}{c:List Vu}(h:w.ownsRow B 2 1 v n c)(l:d<=B):w.ownsRow d 2 1 v n c:=by
 refine⟨h.1,?_⟩;rcases h.2 with j|⟨g,b,a,f,k,r⟩
 . exact .inl j
 exact .inr ⟨g,b,a,f,by omega,r⟩
theorem RB.both {a:J}(h:RB w w1)(xs b:List Int)(cs:Array Vu)(f:cs=(I xs).toArray)(n:Nat)(hn:n=N xs)(p:N xs<=1000){r:Vu}(hr:a.ownsRow (w1.alloc (Fc cs 2)).heap.size 2 1 r (N b) (I b))(k:Below (w1.alloc (Fc cs 2)).heap.size (w1.alloc (Fc cs 2)) a):FT a (w.heap.size+1) a.heap.size (S (some ⟨w1.heap.size,0,none⟩) n n) r (N xs) (N b) xs b/\RB w a:=by
 subst f hn;have m:=h.lt;have c:(w1.alloc (Fc (I xs).toArray 2)).heap.size=w1.heap.size+1:=by simp
 have l:=Mz (base:=w.heap.size+1) (e:=2) (size:=1) w1 (I xs).toArray (N xs) (by omega) (by unfold maxLen;omega) (by simp);have g:=own_keep l k (λj d=>by cases d;show w1.heap.size<_;rw[c];omega);refine⟨⟨by simpa using g,base_down hr (by rw[c];omega),?_,own_lt g,own_lt hr,lRz⟩,(h.past _).keep k⟩;intro i j o d;cases o;have:=(hr.lt j d).1;rw[c]at this;show w1.heap.size≠j;omega
theorem RB.one (h:RB w w1)(xs:List Int)(cs:Array Vu)(a:cs=(I xs).toArray)(n:Nat)(hn:n=N xs)(b:N xs<=1000) :
    FT (w1.alloc (Fc cs 2)) (w.heap.size+1) (w1.alloc (Fc cs 2)).heap.size (S (some ⟨w1.heap.size,0,none⟩) n n) (S none 0 0) (N xs) 0 xs []/\RB w (w1.alloc (Fc cs 2)) :=
 h.both xs [] cs a n hn b (Hk _ _ _ _) bFz
theorem RB.none (h:RB w w1):FT w1 (w.heap.size+1) w1.heap.size (S none 0 0) (S none 0 0) 0 0 [] [] :=
 ⟨Hk _ _ _ _,Hk _ _ _ _,λ_ _ hi=>(by cases hi),λ_ hi=>(by cases hi),λ_ hi=>(by cases hi),lRz⟩
