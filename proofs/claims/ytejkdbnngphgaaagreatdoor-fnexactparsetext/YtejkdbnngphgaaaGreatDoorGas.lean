import Derived.Test.YtejkdbnngphgaaaGreatDoorGap
import Derived.Test.YtejkdbnngphgaaaGreatDoorGar
set_option linter.all false
set_option maxHeartbeats 400000000
set_option maxRecDepth 100000
namespace Go.Proofs
open Value renaming int->U,slice->S,bool->G,pointer->Yp,string->Xs
open IntKind renaming i64->O,u64->Ou
open Ending renaming returned->Z
open Obj renaming cells->Fc
open Go renaming World->J,Calls->Ec,Value->Vu,Addr->Ad
open Go.RowKit renaming Below->Bw
open Tryz renaming prog->Q
open Tryz
open List renaming cons_append->Tv,getElem?_eq_getElem->Kv,drop_eq_getElem_cons->Tx,getElem?_append_left->Hb,getElem?_drop->Pj,getElem?_append_right->Lz,append_nil->Tb,set_cons_zero->Tm,set_cons_succ->Th,append_assoc->Kd,getD->Ty,getD_cons_zero->Tg,length_cons->Kj,mem_singleton->An,mem_append->Ay,drop_zero->Rh,tail_cons->Ij,length->N
open Nat renaming add_sub_cancel_left->Rw,zero_le->Hw,zero_add->Kk
open World renaming ownsRow->Lq,block_lt_of_cell?->Kh
open IntKind renaming wrap_i64->Kw
open Int renaming toNat_natCast->Rn
open Instr renaming index->Lf
namespace YtejkdbnngphgaaaGreatDoor
open Go.RowKit
open Go.RowKit Go.Sort
end YtejkdbnngphgaaaGreatDoor
namespace YtejkdbnngphgaaaGreatDoor.Ms
open Go.RowKit Go.Sort
variable {c1 cx c2:List Vu}{n j m:Nat}{α:Type}{u:Vu}
theorem QR {W:J}{B e sz:Nat}{v:Vu}{b:List Vu}(h:W.ownsRow B e sz v n b)(f:0<n):∃g c,v=S (some ⟨g,0,none⟩) n c/\n<=c:=by
 rcases h.2 with ⟨k,j⟩|⟨g,a,d,hv,_,_,hc,_⟩
 . omega
 exact⟨g,a,hv,hc⟩
theorem JF (w:J)(q o:Nat)(v:Vu):w.grownBy (w.setCell ⟨q,o,none⟩ v) (some q) :=
 ⟨rfl,rfl,rfl,by simp[World.setCell],λk hk hne=>Below.heap_setCell w ⟨q,o,none⟩ v k (by simpa using hne)⟩
def QM {α:Type}(mk:Int->α->α)(sz:α->Nat):Int->List α->List α
 |_,[]=>[]
 |k,x::xs=>mk k x::QM mk sz (k+sz x) xs
def Qa {α:Type}(sz:α->Nat)(xs:List α):Nat:=(xs.map sz).sum
section
variable {α:Type}{mk:Int->α->α}{sz:α->Nat}
theorem Qz:∀(a:List α) (k:Int),(QM mk sz k a).length=N a
 |[],k=>rfl
 |x::a,k=>by simp[QM,Qz a]
theorem Qw (a:List α)(x:α):Qa sz (a++[x])=Qa sz a+sz x:=by simp[Qa]
theorem QK (a:List α)(x:α):Qa sz (x::a)=sz x+Qa sz a:=by simp[Qa]
theorem QS (b a:List α):Qa sz (b++a)=Qa sz b+Qa sz a:=by simp[Qa]
theorem Jh:∀(a:List α) (x:α) (k:Int),QM mk sz k (a++[x])=QM mk sz k a++[mk (k+Qa sz a) x]
 |[],x,k=>by simp[QM,Qa]
 |y::a,x,k=>by
  rw[Tv,QM,Jh a x,QM,Tv,QK]
  congr 3
  congr 1
  push_cast;omega
end
structure Mo (B:Nat)(w0:J)(rs:List Qb)(V:J):Prop where
 own:Own B V rs
 b:Bw B w0 V
 le:B<=V.heap.size
section
variable {B:Nat}{w0 V W:J}{rs rs':List Qb}
theorem Mo.perm (h:Mo B w0 rs V)(p:rs.Perm rs'):Mo B w0 rs' V:=⟨h.own.perm p,h.b,h.le⟩
theorem Mo.keep (h:Mo B w0 rs V)(a:Bw V.heap.size V W):Mo B w0 rs W:=⟨h.own.keep a,h.b.trans (a.mono h.le),Nat.le_trans h.le a.size⟩
theorem Mo.drewN (h:Mo B w0 rs V)(n:Nat):Mo B w0 rs (V.drewN n):=h.keep ⟨rfl,rfl,rfl,lRz,λ_ _=>rfl⟩
theorem Mo.row (h:Mo B w0 rs V){r:Qb}(hr:r∈rs):r.Ok B V:=h.own.all r hr
theorem Mo.set {T sz g c:Nat}{cs:List Vu}(h:Mo B w0 (⟨T,sz,n,S (some ⟨g,0,none⟩) n c,cs⟩::rs) V)(j:Nat)(u:Vu):Mo B w0 (⟨T,sz,n,S (some ⟨g,0,none⟩) n c,cs.set j u⟩::rs) (V.setCell ⟨g,j,none⟩ u):=by
 have f:V.ownsRow B T sz (S (some ⟨g,0,none⟩) n c) n cs:=h.own.head;have a:=(World.ownsRow.stored f j u).1;have d:=JF V g j u;have k:=World.ownsRow.lt f g rfl;refine⟨h.own.push (r':=⟨T,sz,n,S (some ⟨g,0,none⟩) n c,cs.set j u⟩) d a (.inl rfl),h.b.setCell k.1 _,by simpa using h.le⟩
theorem Mo.cell {T sz g c:Nat}{cs:List Vu}(h:Mo B w0 (⟨T,sz,n,S (some ⟨g,0,none⟩) n c,cs⟩::rs) V)(d:j<n*sz)(b:cs[j]?=some u):V.cell? ⟨g,j,none⟩=some u/\V.frozen? ⟨g,j,none⟩=false:=by
 have a:V.ownsRow B T sz (S (some ⟨g,0,none⟩) n c) n cs:=h.own.head;exact⟨(World.ownsRow.cellAt a j d).trans b,World.ownsRow.frozenAt a j⟩
end
theorem LR.zip {b:α->List Vu->List Qb->Prop}{X Y:List α}{x:α}{c k}(h:LR b (X++x::Y) c k):∃c1 cx c2 k1 kx k2,c=c1++(cx++c2)/\k=k1++(kx++k2)/\LR b X c1 k1/\b x cx kx/\LR b Y c2 k2:=by
 obtain⟨a,m,j,rfl,rfl⟩:=h;have n:N a=N X+(N Y+1):=by simpa using m
 obtain⟨e,g⟩:∃e,a[N X]?=some e:=⟨_,Kv (by omega)⟩;have f:a=a.take (N X)++(e::a.drop (N X+1)):=by
  have d:N X<N a:=by omega
  conv=>lhs;rw[<- List.take_append_drop (N X) a]
  congr 1
  rw[Tx d];rw[Kv d]at g;cases g;rfl
 refine⟨(a.take (N X)).flatMap (·.cs),e.cs,(a.drop (N X+1)).flatMap (·.cs),(a.take (N X)).flatMap (·.rs),e.rs,(a.drop (N X+1)).flatMap (·.rs),?_,?_,⟨_,by simp;omega,λi y ev hy hev=>?_,rfl,rfl⟩,j (N X) x e (by simp) g,⟨_,by simp;omega,λi y ev hy hev=>?_,rfl,rfl⟩⟩
 . conv=>lhs;rw[f]
   simp
 . conv=>lhs;rw[f]
   simp
 . have l:i<N X:=(List.getElem?_eq_some_iff.1 hy).1;refine j i y ev (by rw[Hb l];exact hy) ?_;rw[List.getElem?_take]at hev;simpa[l]using hev
 refine j (N X+1+i) y ev ?_ (by rw[Pj]at hev;exact hev);rw[Lz (by omega),show(N X)+1+i-N X=i+1 by omega,List.getElem?_cons_succ];exact hy
theorem LR.app {a:α->List Vu->List Qb->Prop}{X Y:List α}{c1 c2 k1 k2}(h1:LR a X c1 k1)(d:LR a Y c2 k2):LR a (X++Y) (c1++c2) (k1++k2):=by
 obtain⟨g,b,k,rfl,rfl⟩:=h1;obtain⟨f,b1,j,rfl,rfl⟩:=d;refine⟨g++f,by simp[b,b1],λi y ev hy he=>?_,by simp,by simp⟩;by_cases c:i<N X
 . rw[Hb c]at hy;rw[Hb (by omega)]at he;exact k i y ev hy he
 rw[Lz (by omega)]at hy he;rw[b]at he;exact j _ y ev hy he
theorem LR.one {a:α->List Vu->List Qb->Prop}{x:α}{c:List Vu}{k:List Qb}(h:a x c k):LR a [x] c k:=by
 have:=(LR.nil a).snoc h;simpa using this
theorem LR.len {b:α->List Vu->List Qb->Prop}{sz:Nat}(d:∀x cs rs,b x cs rs->N cs=sz):∀{a:List α} {c:List Vu} {k:List Qb},LR b a c k->N c=N a*sz:=by
 intro a;induction a with
 |nil =>
  rintro c k ⟨g,f,j,rfl,rfl⟩
  have:g=[]:=by simpa using f
  subst this;simp
 |cons x a ih =>
  intro c k h
  obtain⟨c1,cx,c2,p,n,o,rfl,rfl,f,hx,j⟩:=LR.zip (X:=[]) h
  have l:c1=[]:=by
   obtain⟨g,m,q,rfl,rfl⟩:=f
   have:g=[]:=by simpa using m
   subst this;rfl
  subst l
  have:=ih j
  have:=d _ _ _ hx
  simp[Nat.add_mul];omega
def mkI (k:Int)(n:Nat):List Int:=(List.range n).map λ(i:Nat)=>k+(i:Int)
theorem JW (k:Int)(n:Nat):(mkI k n).length=n:=by simp[mkI]
theorem mkI_succ (k:Int)(n:Nat):mkI k (n+1)=mkI k n++[k+(n:Int)]:=by simp[mkI,List.range_succ]
def mkB (k:Int)(n:Nat):List Int:=(mkI k n).map λx=>x%256
theorem mkB_len (k:Int)(n:Nat):(mkB k n).length=n:=by simp[mkB,mkI]
theorem mkB_succ (k:Int)(n:Nat):mkB k (n+1)=mkB k n++[(k+(n:Int))%256]:=by simp[mkB,mkI_succ]
theorem drop_at (l:List α)(j:Nat)(h:j<N l):∃x,l.drop j=x::l.drop (j+1):=⟨_,Tx h⟩
theorem set_mid (X R:List α)(n:Nat)(y u:α)(a:N X=n):(X++y::R).set n u=X++u::R:=by
 subst a;simp
theorem Qk (h:N c1=m)(a:cx[j]?=some u):(c1++(cx++c2))[m+j]?=some u:=by
 subst h;rw[Lz (by omega),Rw,Hb (List.getElem?_eq_some_iff.1 a).1];exact a
theorem Q1 (h:N c1=m)(a:j<N cx):(c1++(cx++c2)).set (m+j) u=c1++(cx.set j u++c2):=by
 subst h;rw[List.set_append_right _ _ (by omega),Rw,List.set_append_left _ _ a]
theorem QX (h:N c1=m)(a:cx[0]?=some u):(c1++(cx++c2))[m]?=some u:=Qk (j:=0) h a
theorem XA (h:N c1=m)(a:0<N cx):(c1++(cx++c2)).set m u=c1++(cx.set 0 u++c2):=Q1 (j:=0) h a
theorem JB {sz:α->Nat}(h:∀x,1<=sz x):∀xs:List α,N xs<=Qa sz xs
 |[]=>Hw _
 |x::xs=>by have:=h x;have:=JB h xs;rw[QK];simp;omega
def MkP {α:Type}(Rep:α->List Vu->List Qb->Prop)(l:List α)(ks:List Qb)(T sz n:Nat)(v:Vu)(k:Int)(B:Nat)(w0:J)(rs:List Qb)(e:Ending)(w':J):Prop:=∃C,e=Z (U O k)/\LR Rep l C ks/\Mo B w0 (⟨T,sz,n,v,C⟩::rs) w'
def mkLim (K:Int)(x:Qp):Qp:=⟨(K),(K+1),((K+1+1)%3==0)⟩
def Qo (x:Qp):Nat:=3
def mkGrp (K:Int)(x:Grp):Grp:=⟨(K),(K+1)⟩
def QT (x:Grp):Nat:=2
theorem markLim_c (l:List Qp)(a:Option Ad)(c:Nat)(C:List Vu)(r:Int){B w0}{rs:List Qb}{w}(h:Mo B w0 (⟨120,3,N l,S a (N l) c,C⟩::rs) w)(d:LR RLim l C [])(h0:0<=r)(h1:r+Qa Qo l<=1000000000):Ec Q 49 #[S a (N l) c,U O r] w (MkP RLim (QM mkLim Qo r l) [] 120 3 (N l) (S a (N l) c) (r+(Qa Qo l:Nat)) B w0 rs):=by
 have H:=Hm h;have q:=Hm d;clear h d;go_enter func49,ntmps49;go_wp2_with fail
 go_loopw [1,5] (λkv iv wr=>∃(X Y:List Qp) (C:List Vu),l=X++Y/\kv=U O (r+(Qa Qo X:Nat))/\iv=U O (N X:Int)/\LR RLim (QM mkLim Qo r X++Y) C []/\Mo B w0 (⟨120,3,N l,S a (N l) c,C⟩::rs) wr) (λ_ i _=>N l-(intOf i).toNat)
 case atStart=>exact⟨[],l,C,rfl,by simp[Qa],rfl,q.o,H.o⟩
 obtain⟨X,Y,C,p,rfl,rfl,d,s⟩:=hrel;clear H q;have A:=Hm p;have f:N l=N X+N Y:=by rw[p];simp
 have m:Qa Qo l=Qa Qo X+Qa Qo Y:=by rw[p,QS]
 clear p;rcases Y with _|⟨x,Y⟩
 . (have F:¬(N X:Int)<(N l:Int):=by simp at f;omega);(have HE:Hid (l=X):=by show _=_;have:=A.o;simpa using this);have HS:=Hm s;have q:=Hm d;clear s d f m;(go_wp2_with fail);go_ret;refine⟨C,by rw[HE.o];rfl,?_,HS.o⟩;have:=q.o;rw[Tb]at this;rw[HE.o];exact this
 have F:(N X:Int)<(N l:Int):=by simp at f;omega
 obtain⟨c1,cx,c2,k1,kx,k2,rfl,y,I,hx,R⟩:=LR.zip d;obtain⟨rfl,rfl⟩:=hx;have z:k1=[]/\k2=[]:=by simpa using y.symm
 obtain⟨rfl,rfl⟩:=z;have k:N c1=N X*3:=by rw[LR.len (sz:=3) (by rintro x cs rs ⟨rfl,rfl⟩;rfl) I,Qz]
 obtain⟨g,cc,hv,-⟩:=QR (show Lq _ B 120 3 (S a (N l) c) (N l) _ from s.own.head) (by omega);injection hv with hv1 _ hv2;subst hv1 hv2;have v:Qo x=3:=rfl;rw[QK,v]at m;obtain⟨b,n⟩:∃b:Int,b=r+(Qa Qo X:Nat):=⟨_,rfl⟩;have M:0<=b:=by omega
 have L:b+3<=1000000000:=by omega
 have ak:Qa Qo X ≥ (N X):=JB (λx=>by simp[Qo];try omega) X;have ag:IntKind.i64.wrap ((N X:Int)+1)=(N X:Int)+1:=by rw[Kw];omega
 have D:=Hm n;rw[<- n];clear n y;have aj:IntKind.i64.wrap (b+1)=b+1:=by rw[Kw];omega
 have ai:IntKind.i64.wrap (b+1+1)=b+1+1:=by rw[Kw];omega
 have ah:IntKind.i64.wrap (b+1+1+1)=b+1+1+1:=by rw[Kw];omega
 clear f m v;obtain⟨y0,ad⟩:=s.cell (j:=N X*3) (by omega) (QX k rfl);have u:=s.set (N X*3) (U O (b));rw[XA k (by simp)]at u;simp only[Tm,Th]at u;clear s;obtain⟨y1,ac⟩:=u.cell (j:=N X*3+1) (by omega) (Qk k (j:=1) rfl);have t:=u.set (N X*3+1) (U O (b+1));rw[Q1 k (j:=1) (by simp)]at t;simp only[Tm,Th]at t;clear u;obtain⟨y2,ab⟩:=t.cell (j:=N X*3+2) (by omega) (Qk k (j:=2) rfl);have E:=t.set (N X*3+2) (G ((b+1+1)%3==0));rw[Q1 k (j:=2) (by simp)]at E;simp only[Tm,Th]at E;clear t;have HF:=Hm E;have HX:=Hm I;have HY:=Hm R;clear E I R d;go_wp2_with fail
 go_roundw
 case rel=>
  refine⟨X++[x],Y,_,by rw[A.o];simp,?_,by rw[show(((X++[x]).length:Nat):Int)=(N X:Int)+1 by simp],?_,HF.o⟩
  . rw[Qw,D.o];rw[show Qo x=3 from rfl];congr 1;push_cast;omega
  rw[Jh,Kd];have V:=LR.app HX.o (LR.app (LR.one (show RLim (mkLim b x) [U O (b),U O (b+1),G ((b+1+1)%3==0)] []from⟨rfl,rfl⟩)) HY.o);rw[D.o]at V⊢;exact V
 have:N X<N l:=by omega
 simp[intOf];omega
theorem markGrp_c (l:List Grp)(a:Option Ad)(c:Nat)(C:List Vu)(r:Int){B w0}{rs:List Qb}{w}(h:Mo B w0 (⟨206,2,N l,S a (N l) c,C⟩::rs) w)(b:LR RGrp l C [])(h0:0<=r)(h1:r+Qa QT l<=1000000000):Ec Q 132 #[S a (N l) c,U O r] w (MkP RGrp (QM mkGrp QT r l) [] 206 2 (N l) (S a (N l) c) (r+(Qa QT l:Nat)) B w0 rs):=by
 have H:=Hm h;have q:=Hm b;clear h b;go_enter func132,ntmps132;go_wp2_with fail
 go_loopw [1,5] (λkv iv wr=>∃(X Y:List Grp) (C:List Vu),l=X++Y/\kv=U O (r+(Qa QT X:Nat))/\iv=U O (N X:Int)/\LR RGrp (QM mkGrp QT r X++Y) C []/\Mo B w0 (⟨206,2,N l,S a (N l) c,C⟩::rs) wr) (λ_ i _=>N l-(intOf i).toNat)
 case atStart=>exact⟨[],l,C,rfl,by simp[Qa],rfl,q.o,H.o⟩
 obtain⟨X,Y,C,p,rfl,rfl,b,s⟩:=hrel;clear H q;have z:=Hm p;have d:N l=N X+N Y:=by rw[p];simp
 have k:Qa QT l=Qa QT X+Qa QT Y:=by rw[p,QS]
 clear p;rcases Y with _|⟨x,Y⟩
 . (have E:¬(N X:Int)<(N l:Int):=by simp at d;omega);(have V:Hid (l=X):=by show _=_;have:=z.o;simpa using this);have HS:=Hm s;have q:=Hm b;clear s b d k;(go_wp2_with fail);go_ret;refine⟨C,by rw[V.o];rfl,?_,HS.o⟩;have:=q.o;rw[Tb]at this;rw[V.o];exact this
 have E:(N X:Int)<(N l:Int):=by simp at d;omega
 obtain⟨c1,cx,c2,k1,kx,k2,rfl,v,F,hx,M⟩:=LR.zip b;obtain⟨rfl,rfl⟩:=hx;have y:k1=[]/\k2=[]:=by simpa using v.symm
 obtain⟨rfl,rfl⟩:=y;have n:N c1=N X*2:=by rw[LR.len (sz:=2) (by rintro x cs rs ⟨rfl,rfl⟩;rfl) F,Qz]
 obtain⟨g,cc,hv,-⟩:=QR (show Lq _ B 206 2 (S a (N l) c) (N l) _ from s.own.head) (by omega);injection hv with hv1 _ hv2;subst hv1 hv2;have u:QT x=2:=rfl;rw[QK,u]at k;obtain⟨f,m⟩:∃f:Int,f=r+(Qa QT X:Nat):=⟨_,rfl⟩;have L:0<=f:=by omega
 have I:f+2<=1000000000:=by omega
 have ah:Qa QT X ≥ (N X):=JB (λx=>by simp[QT];try omega) X;have ae:IntKind.i64.wrap ((N X:Int)+1)=(N X:Int)+1:=by rw[Kw];omega
 have A:=Hm m;rw[<- m];clear m v;have ag:IntKind.i64.wrap (f+1)=f+1:=by rw[Kw];omega
 have af:IntKind.i64.wrap (f+1+1)=f+1+1:=by rw[Kw];omega
 clear d k u;obtain⟨y0,ab⟩:=s.cell (j:=N X*2) (by omega) (QX n rfl);have t:=s.set (N X*2) (U O (f));rw[XA n (by simp)]at t;simp only[Tm,Th]at t;clear s;obtain⟨y1,aa⟩:=t.cell (j:=N X*2+1) (by omega) (Qk n (j:=1) rfl);have D:=t.set (N X*2+1) (U O (f+1));rw[Q1 n (j:=1) (by simp)]at D;simp only[Tm,Th]at D;clear t;have HF:=Hm D;have HX:=Hm F;have HY:=Hm M;clear D F M b;go_wp2_with fail
 go_roundw
 case rel=>
  refine⟨X++[x],Y,_,by rw[z.o];simp,?_,by rw[show(((X++[x]).length:Nat):Int)=(N X:Int)+1 by simp],?_,HF.o⟩
  . rw[Qw,A.o];rw[show QT x=2 from rfl];congr 1;push_cast;omega
  rw[Jh,Kd];have R:=LR.app HX.o (LR.app (LR.one (show RGrp (mkGrp f x) [U O (f),U O (f+1)] []from⟨rfl,rfl⟩)) HY.o);rw[A.o]at R⊢;exact R
 have:N X<N l:=by omega
 simp[intOf];omega
end YtejkdbnngphgaaaGreatDoor.Ms
namespace YtejkdbnngphgaaaGreatDoor.Yz
open Go.RowKit Go.Sort
variable [PK]
theorem own_cells {w:J}{B:Nat}{v:Vu}{vs:List Int}(h:w.ownsRow B 2 1 v (N vs) (I vs))(d:1<=N vs):∃g a,v=S (some ⟨g,0,none⟩) (N vs) a/\B<=g/\N vs<=a/\∀i,i<N vs->w.cell? ⟨g,i,none⟩=some (U O (vs.getD i 0)):=by
 rcases h.2 with ⟨_,j⟩|⟨g,a,c,hv,b,f,hc,_⟩
 . omega
 subst hv;refine⟨g,a,rfl,b,hc,λi hi=>?_⟩;rw[h.cellAt i (by omega)];simp[I,Ty,hi]
theorem sri_5 (p b o c:Nat)(s:Wd)(r:List Wd)(w:J)(h:Pb w p false)(hb:b<PK.hi/\b≠p)(hc:∀i,i<(s::r).length->w.cell? ⟨b,o+i,none⟩=some (Xs (Sz0 ((s::r).getD i []))))(m:(s::r).length<=c)(hl:∀x∈s::r,N x<=1099511627776)(bh:N r<=1099511627776)(hf:QD (Qe (Qt s))=5):Ec Q 23 #[Yp (some ⟨p,0,none⟩),S (some ⟨b,o,none⟩) (s::r).length c] w (SiP 5 (Qt s) r w p):=by
 have cx:=hc 0 (by simp);simp only[Nat.add_zero,Tg]at cx;obtain⟨W,hW⟩:∃W,W=w.alloc (Fc #[U O 0,U O 0,U O 0,U Ou 0,S none 0 0] 70):=⟨_,rfl⟩;have aa:Bw w.heap.size w W:=by rw[hW];exact bFz.alloc lRz _
 have R:Hid (W.heap.size=w.heap.size+1):=by show _=_;rw[hW];simp
 have az:C5 W w.heap.size 0 (U O 0) (U O 0) (U O 0) (U Ou 0) (S none 0 0):=by rw[hW];exact C5.new
 have bk:W.cell? ⟨b,o,none⟩=some (Xs (Sz0 s)):=(aa.cell (p:=⟨b,o,none⟩) (Kh w _ cx)).trans cx;have KC:=Hm (Xi (Sz0 s) W);rw[QB]at KC;have HW:=Hm hW;simp only[Kj]at m⊢;have a8:=Hm (Xg hb hc m);have a3:∀x∈r,N x<=1099511627776:=λx hx=>hl x (by simp[hx]);have HL:=Hm a3;have ba:=Hm h;have D:=h.lt2;have KF:=Hm (λUz0=>Xh (Qt s) Uz0);rw[hf]at KF;clear cx hW hc hl a3 h hf;generalize Qt s=op at *;go_enter func23,ntmps23;go_upto_region 1 with fail
 rw[<- HW.o];go_wp2_with fail
 refine KC.o.mono ?_;rintro e A ⟨rfl,n⟩;go_upto_region 3 with fail
 generalize(if c=1 then(some ⟨b,o,none⟩:Option Ad)else some ⟨b,o+1,none⟩)=ra at *;generalize c-1=rc at *;have a1:w.heap.size<A.heap.size:=by have:=n.size;have:=R.o;omega
 have d:Bw w.heap.size w A:=aa.trans (n.mono (by have:=R.o;omega));have a0:C5 A w.heap.size 0 (U O 0) (U O 0) (U O 0) (U Ou 0) (S none 0 0):=az.keep n;refine Qh (λUz0=>Sx w p A.heap.size ra r false (U O op) (U O 0) (U O 0) (U Ou 0) (S none 0 0) Uz0) ⟨C5.new,a0.past,ba.o.keep (d.alloc d.size _),Qu (d.alloc d.size _),a8.o.keep (d.alloc d.size _) D,D,a1⟩ ?_;rintro Uz0 ab;have SU:=Hm ab;have M:=ab.x.1.1;clear ab a8 ba aa R az bk KC HW m n d a0 a1;go_wp2_with fail
 refine(KF.o _).mono ?_;rintro e w2 ⟨rfl,rfl⟩;clear KF M;have KR:=Hm (srn_c p ra rc r false _ SU.o.pb SU.o.wv HL.o bh);go_wp2_with fail
 refine KR.o.mono ?_;rintro e w3 ⟨v,vs,b2,rfl,f,a2,k,l,A1,A2⟩;have S3:=Hm (SU.o.call l k);have HA:=Hm (And.intro a2 (And.intro A1 A2));have cb:A.heap.size<Uz0.heap.size:=Kh Uz0 _ SU.o.x.1.1;obtain⟨va,vc,rfl⟩:=QL f;clear k l A1 A2 KR SU a2;by_cases h2:N vs=2
 . obtain⟨C,B,rfl⟩:∃C B,vs=[C,B]:=by
    match vs,h2 with
    |[a,b],_=>exact⟨a,b,rfl⟩
   obtain⟨g,cd,e,hg,Y,X⟩:=own_cells f (by simp);cases e;have d0:=X 0 (by simp);have d1:=X 1 (by simp);simp only[Tg,List.getD_cons_succ]at d0 d1;simp only[Kj,List.length_nil,Kk,Nat.reduceAdd]at Y⊢;have u:=S3.o.x.1.2.1;have aj:=S3.o.x.2 1;simp only[Kk]at u aj;clear X f h2;(go_upto_region 34 with fail);refine Qh (λV=>Sx w p A.heap.size ra r b2 (U O op) (U O C) (U O 0) (U Ou 0) (S none 0 0) V/\V.cell? ⟨g,1,none⟩=some (U O B)) ⟨S3.o.set1,by rw[World.cell?_setCell_other _ _ _ _ (λe=>by have e2:A.heap.size=g:=congrArg Addr.block e;omega)];exact d1⟩ ?_;rintro V4 ⟨q,e1⟩;have SV:=Hm q;have y1:=q.x.1.2.2.1;have ai:=q.x.2 2;simp only[Kk]at y1 ai;clear q u aj d0 d1 S3;(go_upto_region 46 with fail);refine Qh (λV=>Sx w p A.heap.size ra r b2 (U O op) (U O C) (U O B) (U Ou 0) (S none 0 0) V) SV.o.set2 ?_;rintro V6 a6;have SY:=Hm a6;clear a6 y1 ai e1 SV;obtain⟨⟨M,u,x2,x3,x4⟩,-⟩:=SY.o.x;obtain⟨⟨z0,z1,z2,z3,z4⟩,j⟩:=SY.o.z;simp only[Kk]at M u x2 x3 x4 z0 z1 z2 z3 z4;have L:=j 0;have I:=j 1;have H:=j 2;have F:=j 3;have E:=j 4;clear j;go_wp2;refine Qx (λV=>C5 V w.heap.size 0 (U O op) (U O C) (U O B) (U Ou 0) (S none 0 0)/\Pb V p b2/\w.grownBy V (some p)) (SY.o.fin _ _ _ _ _) ?_;rintro V ⟨⟨⟨t0,t1,t2,t3,t4⟩,-⟩,tU,gU⟩;simp only[Kk]at t0 t1 t2 t3 t4;have HU:=Hm (And.intro tU gU);clear tU gU M u x2 x3 x4 z0 z1 z2 z3 z4 L I H F E;exact bodyPost_ret (v := inV ⟨op, C, B, 0, []⟩ none 0) (by simp[results, results23, go_sem, t0, t1, t2, t3, t4]) rfl ⟨⟨op, C, B, 0, []⟩, none, 0, b2, rfl, rfl, QQ _, HU.o.1, HU.o.2, fun h => ⟨by decide, by
         rw[arg_5];have hn:=(HA.o.2.1 h).2
         match r,hn with
         | [s1,s2],hn=>exact⟨s1,s2,C,B,rfl,hn.1,hn.2.1,rfl⟩⟩,fun _ ⟨y,hy⟩=>by
         rw[arg_5]at hy;obtain⟨s1,s2,u1,u2,rfl,n1,n2,-⟩:=hy
         exact HA.o.2.2 trivial (fun t ht=>by
          simp at ht
          rcases ht with rfl|rfl
          . exact n1.1
          . exact n2.1)⟩
 have b8:¬(N vs:Int)=2:=by omega
 have H2:=Hm h2;clear h2 f;have KB:=Hm (QG p _ _ S3.o.pb);go_wp2_with fail
 refine KB.o.mono ?_;rintro e w9 ⟨rfl,k,l⟩;have S9:=Hm (S3.o.call l k);clear k l KB S3;obtain⟨⟨M,u,x2,x3,x4⟩,-⟩:=S9.o.x;obtain⟨⟨z0,z1,z2,z3,z4⟩,j⟩:=S9.o.z;simp only[Kk]at M u x2 x3 x4 z0 z1 z2 z3 z4;have L:=j 0;have I:=j 1;have H:=j 2;have F:=j 3;have E:=j 4;clear j;go_wp2;refine Qx (λV=>C5 V w.heap.size 0 (U O op) (U O 0) (U O 0) (U Ou 0) (S none 0 0)/\Pb V p true/\w.grownBy V (some p)) (S9.o.fin _ _ _ _ _) ?_;rintro V ⟨⟨⟨t0,t1,t2,t3,t4⟩,-⟩,tU,gU⟩;simp only[Kk]at t0 t1 t2 t3 t4;have HU:=Hm (And.intro tU gU);clear tU gU M u x2 x3 x4 z0 z1 z2 z3 z4 L I H F E;exact bodyPost_ret (v := inV ⟨op, 0, 0, 0, []⟩ none 0) (by simp[results, results23, go_sem, t0, t1, t2, t3, t4]) rfl ⟨⟨op, 0, 0, 0, []⟩, none, 0, true, rfl, rfl, QQ _, HU.o.1, HU.o.2, fun h => absurd h (by decide), fun _ ⟨y, hy⟩ => by
       rw[arg_5]at hy;obtain⟨s1,s2,u1,u2,rfl,-⟩:=hy
       exact absurd HA.o.1 H2.o⟩
end YtejkdbnngphgaaaGreatDoor.Yz
namespace YtejkdbnngphgaaaGreatDoor.Yz
open Go.RowKit Go.Sort
variable {r:List Wd}{k j:Nat}{s l l0:Wd}
theorem XJ {lo hi:Int}{u v:Int}(h:Nm lo hi s u)(g:Nm lo hi s v):u=v:=by
 have:=h.2.symm.trans g.2;simpa using this
theorem nms_uniq:∀(b:List Wd) (a vs:List Int),Nms b a->Nms b vs->a=vs
 |[],[],[],_,_=>rfl
 |[],[],_::_,_,g=>g.elim
 |[],_::_,_,h,_=>h.elim
 |_::_,[],_,h,_=>h.elim
 |_::_,_::_,[],_,g=>g.elim
 |s::b,u::a,v::vs,h,g=>by rw[XJ h.1 g.1,nms_uniq b a vs h.2 g.2]
theorem bits_uniq {n u v:Nat}(b:u<16 ^ n)(hv:v<16 ^ n)(h:Jj n u=s)(g:Jj n v=s):u=v:=by
 have c:=(XW n s u).2 ⟨b,h⟩;have a:=(XW n s v).2 ⟨hv,g⟩;rw[c]at a;simpa using a
theorem arg_uniq (op:Int)(r:List Wd)(x y:In)(h:Arg (QD (Qe op)) r x)(g:Arg (QD (Qe op)) r y)(e:x.op=y.op):x=y:=by
 have K:∀{A B C:Int} {L:List Int},x=⟨x.op,A,B,C,L⟩->y=⟨y.op,A,B,C,L⟩->x=y:=λh1 h2=>by rw[h1,h2,e]
 rcases X9 op with f|f|f|f|f|f|f|f|f|f|f|f<;>rw[f]at h g
 . simp[Arg]at h g;exact K h.2 g.2
 . simp[Arg]at h g;exact K h.2 g.2
 . rw[arg_1]at h g;rcases h with ⟨b,h⟩|⟨t,b,_,h⟩<;>rcases g with ⟨a,g⟩|⟨q,a,_,g⟩
   . exact K h g
   . rw[b]at a;cases a
   . rw[b]at a;cases a
   rw[b]at a;cases a;exact K h g
 . rw[arg_2]at h g;obtain⟨s,v,b,d,h⟩:=h;obtain⟨j,k,a,c,g⟩:=g;rw[b]at a;cases a;cases XJ d c;exact K h g
 . rw[arg_3]at h g;obtain⟨F,s,vs,v,b,d,o,h⟩:=h;obtain⟨z,j,p,k,a,c,m,g⟩:=g;rw[b]at a;obtain⟨rfl,D⟩:=List.append_inj' a rfl;cases D;cases nms_uniq _ _ _ d c;cases XJ o m;exact K h g
 . rw[arg_4]at h g;obtain⟨s,v,b,d,h⟩:=h;obtain⟨j,k,a,c,g⟩:=g;rw[b]at a;cases a;cases XJ d c;exact K h g
 . rw[arg_5]at h g;obtain⟨s,t,v,u,b,d,o,h⟩:=h;obtain⟨j,q,k,l,a,c,m,g⟩:=g;rw[b]at a;cases a;cases XJ d c;cases XJ o m;exact K h g
 . simp[Arg]at h g;exact K h.2 g.2
 . rw[arg_7]at h g;obtain⟨s,v,b,d,h⟩:=h;obtain⟨j,k,a,c,g⟩:=g;rw[b]at a;cases a;cases XJ d c;exact K h g
 . rw[arg_8]at h g;obtain⟨s,v,b,d,h⟩:=h;obtain⟨j,k,a,c,g⟩:=g;rw[b]at a;cases a;cases XJ d c;exact K h g
 . rw[arg_9]at h g;obtain⟨s,u,b,_,b1,d,h⟩:=h;obtain⟨j,l,a,_,E,c,g⟩:=g;rw[b]at a;cases a;cases bits_uniq (n:=8) (by show u<4294967296;omega) (by show l<4294967296;omega) d c;exact K h g
 rw[arg_10]at h g;obtain⟨s,u,b,_,b1,d,h⟩:=h;obtain⟨j,l,a,_,E,c,g⟩:=g;rw[b]at a;cases a;cases bits_uniq (n:=16) (by show u<18446744073709551616;omega) (by show l<18446744073709551616;omega) d c;exact K h g
theorem find_form:∀(k:Nat) (s:List UInt8) (j:Nat),k<=192->JT k s=some j->j<192/\(nm j).data.toList=s/\s≠[]
 |0,s,j,_,h=>by cases h
 |k+1,s,j,hk,h=>by
  simp only[JT]at h
  split at h
  · rename_i hc;cases h;exact⟨by omega,hc.1,hc.2⟩
  . exact find_form k s j (by omega) h
theorem named_form (j:Nat)(a:j<192)(h:(nm j).data.toList≠[]):0<=QD (Qe (j:Int)):=by
 have e:=of_decide_eq_true (rng 0 192 (λi=>decide ((tbl.getD i Z0).nm.data.toList≠[]->0<=QD (tbl.getD i Z0))) (by decide +kernel) (j:Int) (by omega) (by omega));have b:Qe (j:Int)=tbl.getD j Z0:=by simp only[Qe,show(0:Int)<=j/\(j:Int)<192 by omega,and_self,if_true,Rn]
 rw[nm_tbl j a]at h;rw[b];rw[Rn]at e;exact e h
theorem code_form (s:Wd)(h:0<=Qt s):0<=QD (Qe (Qt s))/\∃j,Qt s=(j:Nat)/\j<192/\(nm j).data.toList=s/\s≠[]:=by
 unfold Qt at h⊢;cases hf:JT 192 s with
 |none=>rw[hf]at h;simp at h
 |some j =>
  obtain⟨c,b,a⟩:=find_form 192 s j (by omega) hf
  exact⟨named_form j c (by rw[b];exact a),j,rfl,c,b,a⟩
theorem form_code (op:Int)(h:0<=QD (Qe op)):0<=op:=by
 by_cases hc:0<=op/\op<192
 . exact hc.1
 have a:Qe op=Z0:=by simp only[Qe,hc,if_false]
 rw[a]at h;exact absurd h (by decide)
def Cln (s:Wd):Prop:=s≠[]/\(34:UInt8)∉s
theorem decD_cln (u:Nat):Cln (Lib.decDigits u):=by
 refine⟨XL u,?_⟩;induction u using Nat.strongRecOn with
 |_ u ih =>
  have a:∀i,i<10->(34:UInt8)≠UInt8.ofNat (48+i):=by
   have:∀i:Fin 10,(34:UInt8)≠UInt8.ofNat (48+i.val):=by decide
   exact λi hi=>this ⟨i,hi⟩
  rw[Lib.decDigits]
  split
  · rename_i h;simp only[An];exact a u h
  . rename_i h
    simp only[Ay,An,not_or]
    exact⟨ih (u / 10) (by omega),a _ (by omega)⟩
theorem itoa_cln (v:Int):Cln (Lib.itoa v):=by
 unfold Lib.itoa;split
 · have:=decD_cln v.natAbs;exact⟨by simp,by simp;exact this.2⟩
 exact decD_cln _
theorem X4 {lo hi:Int}{v:Int}(h:Nm lo hi s v):Cln s:=by
 obtain⟨a,b⟩:=h;unfold okN at a;rw[b]at a;simp at a;rw[<- a.2.2];exact itoa_cln v
theorem nms_cln:∀(c:List Wd) (vs:List Int),Nms c vs->∀s∈c,Cln s
 |[],_,_,s,b=>by cases b
 |_::_,[],g,_,_=>g.elim
 |a::c,v::vs,g,s,b=>by
  rcases List.mem_cons.1 b with rfl|b
  . exact X4 g.1
  . exact nms_cln c vs g.2 s b
theorem hexN_cln:∀(n u:Nat),(34:UInt8)∉JG n u
 |0,_=>by simp[JG]
 |n+1,u=>by
  have a:∀i:Fin 16,(34:UInt8)≠hx i.val:=by decide
  rw[JG]
  simp only[Ay,An,not_or]
  exact⟨hexN_cln n _,a ⟨u%16,by omega⟩⟩
theorem bits_cln (n u:Nat):Cln (Jj n u):=⟨by simp[Jj],by
 unfold Jj
 simp only[Ay,not_or]
 exact⟨by decide,hexN_cln n u⟩⟩
theorem ty_cln {t:Wd}(h:tyN t≠0):Cln t:=by
 have:t=tyW 0\/t=tyW 1\/t=tyW 2\/t=tyW 3:=by
  unfold tyN at h;by_cases d:t=tyW 0
  . exact .inl d
  by_cases c:t=tyW 1
  . exact .inr (.inl c)
  by_cases b:t=tyW 2
  . exact .inr (.inr (.inl b))
  by_cases a:t=tyW 3
  . exact .inr (.inr (.inr a))
  rw[if_neg d,if_neg c,if_neg b,if_neg a]at h;exact absurd rfl h
 rcases this with rfl|rfl|rfl|rfl<;>exact⟨by decide,by decide⟩
theorem name_cln (j:Nat)(a:j<192)(h:(nm j).data.toList≠[]):Cln (nm j).data.toList:=by
 refine⟨h,?_⟩;have e:=of_decide_eq_true (rng 0 192 (λi=>decide ((34:UInt8)∉(tbl.getD i Z0).nm.data.toList)) (by decide +kernel) (j:Int) (by omega) (by omega));rw[Rn]at e;rw[nm_tbl j a];exact e
theorem arg_cln (op:Int)(r:List Wd)(x:In)(h:Arg (QD (Qe op)) r x):∀t∈r,Cln t:=by
 rcases X9 op with f|f|f|f|f|f|f|f|f|f|f|f<;>rw[f]at h
 . simp[Arg]at h;rw[h.1];simp
 . simp[Arg]at h;rw[h.1];simp
 . rw[arg_1]at h;rcases h with ⟨e,_⟩|⟨t,e,d,_⟩
   . rw[e];simp
   rw[e];intro u a;simp at a;subst a;exact ty_cln d
 . rw[arg_2]at h;obtain⟨s,v,e,n,_⟩:=h;rw[e];intro u a;simp at a;subst a;exact X4 n
 . rw[arg_3]at h;obtain⟨c,s,vs,v,e,n,m,_⟩:=h;rw[e];intro u a;rcases List.mem_append.1 a with a|a
   . exact nms_cln c vs n u a
   simp at a;subst a;exact X4 m
 . rw[arg_4]at h;obtain⟨s,v,e,n,_⟩:=h;rw[e];intro u a;simp at a;subst a;exact X4 n
 . rw[arg_5]at h;obtain⟨s,t,v,u,e,n,m,_⟩:=h;rw[e];intro y b;simp at b;rcases b with rfl|rfl
   . exact X4 n
   exact X4 m
 . simp[Arg]at h;rw[h.1];simp
 . rw[arg_7]at h;obtain⟨s,v,e,n,_⟩:=h;rw[e];intro u a;simp at a;subst a;exact X4 n
 . rw[arg_8]at h;obtain⟨s,v,e,n,_⟩:=h;rw[e];intro u a;simp at a;subst a;exact X4 n
 . rw[arg_9]at h;obtain⟨s,u,e,_,_,n,_⟩:=h;rw[e];intro y b;simp at b;subst b;rw[<- n];exact bits_cln 8 u
 rw[arg_10]at h;obtain⟨s,u,e,_,_,n,_⟩:=h;rw[e];intro y b;simp at b;subst b;rw[<- n];exact bits_cln 16 u
def run (f:UInt8->Bool)(l:Wd):Nat:=(l.takeWhile f).length
theorem run_le (f:UInt8->Bool)(l:Wd):run f l<=N l:=(List.takeWhile_sublist f).length_le
theorem run_nil (f:UInt8->Bool):run f []=0:=rfl
theorem run_cons (f:UInt8->Bool)(c:UInt8)(l:Wd):run f (c::l)=if f c then run f l+1 else 0:=by
 unfold run;rw[List.takeWhile_cons];split<;>simp
theorem run_in:∀(f:UInt8->Bool) (l:Wd) (i:Nat) (c:UInt8),i<run f l->l[i]?=some c->f c=true
 |f,[],i,c,h,e=>by simp[run_nil]at h
 |f,a::l,i,c,h,e=>by
  rw[run_cons]at h
  split at h
  · rename_i ha
    cases i with
    |zero=>simp at e;subst e;exact ha
    |succ i=>exact run_in f l i c (by omega) (by simpa using e)
  . omega
theorem run_at:∀(f:UInt8->Bool) (l:Wd) (c:UInt8),l[run f l]?=some c->f c=false
 |f,[],c,e=>by simp at e
 |f,a::l,c,e=>by
  rw[run_cons]at e
  split at e
  · exact run_at f l c (by simpa using e)
  . rename_i ha;simp at e;subst e;simpa using ha
theorem run_eq {f:UInt8->Bool}(h:∀i c,i<k->l[i]?=some c->f c=true)(d:k=N l\/∃c,l[k]?=some c/\f c=false)(hl:k<=N l):run f l=k:=by
 rcases Nat.lt_trichotomy (run f l) k with a|a|a
 . (have b:run f l<N l:=by omega);have e:=Kv b;have:=run_at f l _ e;rw[h _ _ a e]at this;cases this
 . exact a
 rcases d with rfl|⟨c,e,hc⟩
 . have:=run_le f l;omega
 have:=run_in f l k c a e;rw[hc]at this;cases this
def nq (c:UInt8):Bool:=!(c==34)
def nw (c:UInt8):Bool:=!(c==32)&&!(c==34)
def XH (l:Wd):Option Nat :=
 if l.head?=some 34 then(if run nq l.tail<N l.tail then some (run nq l.tail+2)else none)
 else (if run nw l=0 then none else some (run nw l))
def QV (l:Wd):Option (List Wd) :=
 match XH l with
 |none=>none
 |some j=>if h:j<N l then(if l[j]?=some 32 then(QV (l.drop (j+1))).map (λr=>l.take j::r)else none)else some [l]
termination_by (N l)
decreasing_by simp;omega
theorem from_plain (h:l.head?≠some 34):JX l=0:=by
 unfold JX
 have:Lib.hasPrefix l [34]=false:=by
  cases l with
  |nil=>rfl
  |cons a l=>simp at h;simp[Lib.hasPrefix,List.isPrefixOf];first|exact h|exact(λe=>h (Eq.symm e))|(intro e;trace_state;exact absurd e h)
 rw[this];rfl
theorem end_plain (h:l.head?≠some 34):(Jb l=N l/\∀k:Nat,l[k]?≠some 32)\/(l[Jb l]?=some 32/\∀k:Nat,k<Jb l->l[k]?≠some 32):=by
 unfold Jb;rw[from_plain h];simp only[Rh,Kk];rcases Jc l 32 with e|⟨o,e,a,_⟩
 . left;rw[e];exact⟨by simp,Lib.indexByte_none e⟩
 right;rw[e,if_pos (by omega),Rn];exact Lib.indexByte_some e
attribute [-go_sem] run_index_string
def SwP (l:Wd)(w:J)(e:Ending)(w':J):Prop:=∃v,e=Z (.tuple #[v,G (QV l).isSome])/\Bw w.heap.size w w'/\∀ws,QV l=some ws->w'.ownsRow w.heap.size 9 1 v (N ws) (Sv ws)
def Wm (l0:Wd)(k:Nat)(r:List Wd):Prop:=QV l0=(QV (l0.drop k)).map (r++·)
theorem wm_none (h:Wm l0 k r)(a:XH (l0.drop k)=none):QV l0=none:=by
 rw[h,QV,a];rfl
theorem wm_bad (h:Wm l0 k r)(a:XH (l0.drop k)=some (j-k))(f:k<=j)(g:j<N l0)(b:l0.getD j 0≠32):QV l0=none:=by
 have d:j-k<(l0.drop k).length:=by simp;omega
 have c:(l0.drop k)[j-k]?≠some 32:=by rw[Pj,show k+(j-k)=j by omega];intro e;apply b;simp[Ty,e]
 rw[h,QV,a];simp only;rw[dif_pos d,if_neg c];rfl
theorem wm_end (h:Wm l0 k r)(a:XH (l0.drop k)=some (j-k))(c:k<=j)(d:j=N l0):QV l0=some (r++[(l0.take j).drop k]):=by
 have b:¬j-k<(l0.drop k).length:=by simp;omega
 rw[h,QV,a];simp only;rw[dif_neg b,List.take_of_length_le (by omega)];rfl
theorem wm_more (h:Wm l0 k r)(c:XH (l0.drop k)=some (j-k))(g:k<=j)(a:j<N l0)(b:l0.getD j 0=32):Wm l0 (j+1) (r++[(l0.take j).drop k]):=by
 have f:j-k<(l0.drop k).length:=by simp;omega
 have d:(l0.drop k)[j-k]?=some 32:=by rw[Pj,show k+(j-k)=j by omega,Kv a];simp[Ty,Kv a]at b;rw[b]
 unfold Wm;rw[h,QV,c];simp only;rw[dif_pos f,if_pos d,List.drop_drop,show k+(j-k+1)=j+1 by omega];rw[List.drop_take];cases QV (l0.drop (j+1))<;>simp
theorem sw_no {w w'}{v:Vu}(h:QV l0=none)(a:Bw w.heap.size w w'):SwP l0 w (Z (.tuple #[v,G false])) w' :=
 ⟨v,by rw[h];rfl,a,λws e=>by rw[h]at e;cases e⟩
theorem sw_yes {w w'}{v:Vu}{x:Wd}(h:QV l0=some (r++[x]))(b:Bw w.heap.size w w')(a:w'.ownsRow w.heap.size 9 1 v (N r+1) (Sv r++[Xs (Sz0 x)])):SwP l0 w (Z (.tuple #[v,G true])) w' :=
 ⟨v,by rw[h];rfl,b,λws e=>by rw[h]at e;cases e;rw[Sv_app,List.length_append];exact a⟩
theorem wl_q (d:k<N l0)(m:l0.getD k 0=34)(n:k+1<=j)(a:∀i,k+1<=i->i<j->l0.getD i 0≠34)(f:j<N l0)(g:l0.getD j 0=34):XH (l0.drop k)=some (j+1-k):=by
 have o:l0.drop k=l0[k]::l0.drop (k+1):=Tx d;have b:l0[k]=34:=by simpa[Ty,Kv d]using m
 have l:run nq (l0.drop (k+1))=j-(k+1):=by
  refine run_eq (λi c hi e=>?_) (.inr ⟨34,?_,by decide⟩) (by simp;omega)
  . rw[Pj]at e;have:=a (k+1+i) (by omega) (by omega);simp[Ty,e]at this;simp[nq,this]
  rw[Pj,show k+1+(j-(k+1))=j by omega,Kv f];simp[Ty,Kv f]at g;rw[g]
 unfold XH;rw[o,if_pos (by simp[b]),Ij,l,if_pos (by simp;omega)];congr 1;omega
theorem wl_q0 (d:k<N l0)(g:l0.getD k 0=34)(a:∀i,k+1<=i->i<j->l0.getD i 0≠34)(m:j=N l0):XH (l0.drop k)=none:=by
 have l:l0.drop k=l0[k]::l0.drop (k+1):=Tx d;have b:l0[k]=34:=by simpa[Ty,Kv d]using g
 have f:run nq (l0.drop (k+1))=(l0.drop (k+1)).length:=by refine run_eq (λi c hi e=>?_) (.inl rfl) lRz;rw[Pj]at e;simp at hi;have:=a (k+1+i) (by omega) (by omega);simp[Ty,e]at this;simp[nq,this]
 unfold XH;rw[l,if_pos (by simp[b]),Ij,f,if_neg (by omega)]
theorem wl_run (d:k<=j)(b:∀i,k<=i->i<j->l0.getD i 0≠32/\l0.getD i 0≠34)(g:j=N l0\/(j<N l0/\(l0.getD j 0=32\/l0.getD j 0=34)))(f:j<=N l0):run nw (l0.drop k)=j-k:=by
 refine run_eq (λi c hi e=>?_) ?_ (by simp;omega)
 . rw[Pj]at e;have:=b (k+i) (by omega) (by omega);simp[Ty,e]at this;simp[nw,this]
 rcases g with h|⟨h,a⟩
 . left;simp;omega
 right;refine⟨l0.getD j 0,?_,?_⟩
 . rw[Pj,show k+(j-k)=j by omega,Kv h];simp[Ty,Kv h]
 rcases a with a|a<;>rw[a]<;>decide
theorem wl_w (d:k<N l0->l0.getD k 0≠34)(a:k<=j)(c:∀i,k<=i->i<j->l0.getD i 0≠32/\l0.getD i 0≠34)(g:j=N l0\/(j<N l0/\(l0.getD j 0=32\/l0.getD j 0=34)))(b:j<=N l0):XH (l0.drop k)=if j=k then none else some (j-k):=by
 have l:(l0.drop k).head?≠some 34:=by
  rw[List.head?_drop];intro e;have f:k<N l0:=by
   rcases Nat.lt_or_ge k (N l0)with h|h
   . exact h
   rw[List.getElem?_eq_none h]at e;cases e
  exact d f (by simp[Ty,e])
 unfold XH;rw[if_neg l,wl_run a c g b];by_cases h:j=k
 . rw[if_pos (by omega),if_pos h]
 rw[if_neg (by omega),if_neg h]
theorem wm_zero (l0:Wd):Wm l0 0 []:=by
 unfold Wm;rw[Rh];cases QV l0<;>rfl
theorem words_c (l0:Wd)(w:J)(hl:N l0<=1048576):Ec Q 19 #[Xs (Sz0 l0)] w (SwP l0 w):=by
 have hz:(Sz0 l0).size=N l0:=QJ l0;go_enter func19,ntmps19;go_wp2;go_loopw [4,5,6] (λvo vi vj wr=>∃(k:Nat) (r:List Wd),vi=U O (k:Int)/\k<=N l0/\N r<=k/\Wm l0 k r/\wr.ownsRow w.heap.size 9 1 vo (N r) (Sv r)/\Bw w.heap.size w wr) (λ_ vi _ _=>N l0+1-(intOf vi).toNat)
 case atStart=>exact⟨0,[],rfl,Hw _,lRz,wm_zero l0,⟨by simp[Sv],.inr ⟨w.heap.size,0,#[],rfl,lRz,Array.getElem?_push_size,lRz,Hw _,rfl,rfl⟩⟩,bFz.alloc lRz _⟩
 obtain⟨k,r,rfl,hk,a4,ah,C,hb⟩:=hrel;have Y:=Hm ah;have HB:=Hm hb;have D:=hb.size;obtain⟨va,vc,rfl⟩:=QO C;clear ah hb;by_cases hq:k<N l0/\l0.getD k 0=34
 . obtain⟨y,hc⟩:=hq;(have aj:(k:Int)<(N l0:Int):=by omega);(have M:∀w,(Lf 9 (Xs (Sz0 l0)) (U O (k:Int))).run Q w=.ok (U .u8 34) w:=λw=>by have:=Q4 l0 k w y;rw[hc]at this;exact this);(have w1:IntKind.i64.wrap ((k:Int)+1)=(k:Int)+1:=by rw[Kw];omega);have HC:=Hm hc;clear hc;(go_upto_region 6 with fail);clear M;(go_loop [6] (λvj=>∃j:Nat,vj=U O (j:Int)/\k+1<=j/\j<=N l0/\Hid (∀i,k+1<=i->i<j->l0.getD i 0≠34)) (λvj=>N l0-(intOf vj).toNat));(case atStart=>exact⟨k+1,(by first|rfl|(congr 1;omega)),by omega,by omega,λi h1 h2=>by omega⟩);obtain⟨j,rfl,L,X,A⟩:=hrel;by_cases l:j<N l0
   . (have ad:(j:Int)<(N l0:Int):=by omega);by_cases hc:l0.getD j 0=34
     . (have au:¬(N l0:Int)<=(j:Int):=by omega);obtain⟨m,hm⟩:∃m,m=j+1:=⟨_,rfl⟩;(have a3:IntKind.i64.wrap ((j:Int)+1)=((m:Nat):Int):=by rw[Kw];omega);have c:=Hm (show XH (l0.drop k)=some (m-k) by rw[hm];exact wl_q y HC.o L A.o l hc);(have a5:m<=N l0:=by omega);(have a6:k+2<=m:=by omega);(have M:∀w,(Lf 9 (Xs (Sz0 l0)) (U O (j:Int))).run Q w=.ok (U .u8 34) w:=λw=>by have:=Q4 l0 j w l;rw[hc]at this;exact this);clear hc hm A;by_cases p:m=N l0
       . have u:=Hm (wm_end Y.o c.o (by omega) p);(have R:((m:Int)==(N l0:Int))=true:=by simp;omega);(have s:(k:Int)<=(m:Int):=by omega);clear p c;(go_wp2_with (at_builtin;refine wal info9 (C.alloc _) [Xs ((Sz0 l0).extract k m)] (cell_one_new _ _ _) (oneS _) ?_;intro v' w2 a b n d;have f:=Hm (And.intro a b);obtain⟨F,E,rfl⟩:=QO a;clear a b n d));(go_ret2);have V:=f.o.1;rw[XX]at V;exact sw_yes u.o (HB.o.alloc D _ |>.grown f.o.2 (by simp;omega) (λj hj=>(C.lt j hj).1)) V
       (have q:m<N l0:=by omega);clear p;by_cases g:l0.getD m 0=32
       . have u:=Hm (wm_more Y.o c.o (by omega) q g);(have R:¬(m:Int)=(N l0:Int):=by omega);(have s:(k:Int)<=(m:Int):=by omega);(have a0:∀w,(Lf 9 (Xs (Sz0 l0)) (U O (m:Int))).run Q w=.ok (U .u8 32) w:=λw=>by have:=Q4 l0 m w q;rw[g]at this;exact this);(have ao:IntKind.i64.wrap ((m:Int)+1)=(m:Int)+1:=by rw[Kw];omega);clear g c;(go_wp2_with (at_builtin;refine wal info9 (C.alloc _) [Xs ((Sz0 l0).extract k m)] (cell_one_new _ _ _) (oneS _) ?_;intro v' w2 a b n d;have f:=Hm (And.intro a b);obtain⟨F,E,rfl⟩:=QO a;clear a b n d));refine⟨⟨m+1,r++[(l0.take m).drop k],(by first|rfl|(congr 1;omega)),by omega,by simp;omega,u.o,?_,(HB.o.alloc D _ |>.grown f.o.2 (by simp;omega) (λj hj=>(C.lt j hj).1))⟩,by simp[intOf];omega⟩;have V:=f.o.1;rw[XX]at V;rw[show(r++[(l0.take m).drop k]).length=N r+1 by simp,Sv_app];exact V
       have u:=Hm (wm_bad Y.o c.o (by omega) q g);(have R:¬(m:Int)=(N l0:Int):=by omega);(have s:(k:Int)<=(m:Int):=by omega);have t:=λw=>Q4 l0 m w q;have v:¬((l0.getD m 0).toNat:Int)=32:=λe=>g (UInt8.toNat_inj.1 (by have:(32:UInt8).toNat=32:=rfl;omega));generalize(l0.getD m 0).toNat=yn at t v;clear g c;(go_wp2_with (at_builtin;refine wal info9 (C.alloc _) [Xs ((Sz0 l0).extract k m)] (cell_one_new _ _ _) (oneS _) ?_;intro v' w2 a b n d;have f:=Hm (And.intro a b);obtain⟨F,E,rfl⟩:=QO a;clear a b n d));(go_ret2);exact sw_no u.o (HB.o.alloc D _ |>.grown f.o.2 (by simp;omega) (λj hj=>(C.lt j hj).1))
     have t:=λw=>Q4 l0 j w l;have v:¬((l0.getD j 0).toNat:Int)=34:=λe=>hc (UInt8.toNat_inj.1 (by have:(34:UInt8).toNat=34:=rfl;omega));have HH:Hid (∀i,k+1<=i->i<j+1->l0.getD i 0≠34):=λi h1 h2=>by
      by_cases e:i=j
      . rw[e];exact hc
      exact A.o i h1 (by omega)
     (have w2:IntKind.i64.wrap ((j:Int)+1)=(j:Int)+1:=by rw[Kw];omega);generalize(l0.getD j 0).toNat=yn at t v;clear hc A;go_wp2;exact⟨⟨j+1,(by first|rfl|(congr 1;omega)),by omega,by omega,HH⟩,by simp[intOf];omega⟩
   (have ej:j=N l0:=by omega);have u:=Hm (wm_none Y.o (wl_q0 y HC.o A.o ej));(have ad:¬(j:Int)<(N l0:Int):=by omega);(have au:(N l0:Int)<=(j:Int):=by omega);clear ej A;go_wp2;(go_ret2);exact sw_no u.o HB.o
 by_cases y:k<N l0
 . have hc:l0.getD k 0≠34:=λe=>hq ⟨y,e⟩;have HC:=Hm hc;(have aj:(k:Int)<(N l0:Int):=by omega);have ab:=λw=>Q4 l0 k w y;have ai:¬((l0.getD k 0).toNat:Int)=34:=λe=>hc (UInt8.toNat_inj.1 (by have:(34:UInt8).toNat=34:=rfl;omega));obtain⟨yk,ag⟩:∃yk,yk=(l0.getD k 0).toNat:=⟨_,rfl⟩;rw[<- ag]at ab ai;clear hc hq ag;(go_upto_region 11 with fail);clear ab ai;(go_loop [6] (λvj=>∃j:Nat,vj=U O (j:Int)/\k<=j/\j<=N l0/\Hid (∀i,k<=i->i<j->l0.getD i 0≠32/\l0.getD i 0≠34)) (λvj=>N l0-(intOf vj).toNat));(case atStart=>exact⟨k,rfl,by omega,by omega,λi h1 h2=>by omega⟩);obtain⟨j,rfl,L,X,A⟩:=hrel;by_cases l:j<N l0
   . (have ad:(j:Int)<(N l0:Int):=by omega);by_cases hc:l0.getD j 0=32
     . have c:=Hm (wl_w (λ_=>HC.o) L A.o (.inr ⟨l,.inl hc⟩) X);have g:=hc;(have ar:∀w,(Lf 9 (Xs (Sz0 l0)) (U O (j:Int))).run Q w=.ok (U .u8 32) w:=λw=>by have:=Q4 l0 j w l;rw[hc]at this;exact this);clear hc A;by_cases z:j=k
       . have u:=Hm (wm_none Y.o (c.o.trans (if_pos z)));(have I:((j:Int)==(k:Int))=true:=by simp;omega);clear z g c;go_wp2;(go_ret2);exact sw_no u.o HB.o
       have c:=Hm (c.o.trans (if_neg z));(have I:¬(j:Int)=(k:Int):=by omega);have q:=l;have u:=Hm (wm_more Y.o c.o (by omega) q g);(have R:¬(j:Int)=(N l0:Int):=by omega);(have s:(k:Int)<=(j:Int):=by omega);(have aq:∀w,(Lf 9 (Xs (Sz0 l0)) (U O (j:Int))).run Q w=.ok (U .u8 32) w:=λw=>by have:=Q4 l0 j w q;rw[g]at this;exact this);(have ao:IntKind.i64.wrap ((j:Int)+1)=(j:Int)+1:=by rw[Kw];omega);clear g c;(go_wp2_with (at_builtin;refine wal info9 (C.alloc _) [Xs ((Sz0 l0).extract k j)] (cell_one_new _ _ _) (oneS _) ?_;intro v' w2 a b n d;have f:=Hm (And.intro a b);obtain⟨F,E,rfl⟩:=QO a;clear a b n d));refine⟨⟨j+1,r++[(l0.take j).drop k],(by first|rfl|(congr 1;omega)),by omega,by simp;omega,u.o,?_,(HB.o.alloc D _ |>.grown f.o.2 (by simp;omega) (λj hj=>(C.lt j hj).1))⟩,by simp[intOf];omega⟩;have V:=f.o.1;rw[XX]at V;rw[show(r++[(l0.take j).drop k]).length=N r+1 by simp,Sv_app];exact V
     by_cases B:l0.getD j 0=34
     . have c:=Hm (wl_w (λ_=>HC.o) L A.o (.inr ⟨l,.inr B⟩) X);have g:=hc;clear A;(have az:∀w,(Lf 9 (Xs (Sz0 l0)) (U O (j:Int))).run Q w=.ok (U .u8 34) w:=λw=>by have:=Q4 l0 j w l;rw[B]at this;exact this);have z:¬j=k:=λe=>HC.o (by rw[<- e];exact B);have c:=Hm (c.o.trans (if_neg z));(have I:¬(j:Int)=(k:Int):=by omega);have q:=l;have u:=Hm (wm_bad Y.o c.o (by omega) q g);(have R:¬(j:Int)=(N l0:Int):=by omega);(have s:(k:Int)<=(j:Int):=by omega);clear g c hc B;(go_wp2_with (at_builtin;refine wal info9 (C.alloc _) [Xs ((Sz0 l0).extract k j)] (cell_one_new _ _ _) (oneS _) ?_;intro v' w2 a b n d;have f:=Hm (And.intro a b);obtain⟨F,E,rfl⟩:=QO a;clear a b n d));(go_ret2);exact sw_no u.o (HB.o.alloc D _ |>.grown f.o.2 (by simp;omega) (λj hj=>(C.lt j hj).1))
     have t:=λw=>Q4 l0 j w l;have v:¬((l0.getD j 0).toNat:Int)=32:=λe=>hc (UInt8.toNat_inj.1 (by have:(32:UInt8).toNat=32:=rfl;omega));have H:¬((l0.getD j 0).toNat:Int)=34:=λe=>B (UInt8.toNat_inj.1 (by have:(34:UInt8).toNat=34:=rfl;omega));have HH:Hid (∀i,k<=i->i<j+1->l0.getD i 0≠32/\l0.getD i 0≠34):=λi h1 h2=>by
      by_cases e:i=j
      . rw[e];exact⟨hc,B⟩
      exact A.o i h1 (by omega)
     (have w2:IntKind.i64.wrap ((j:Int)+1)=(j:Int)+1:=by rw[Kw];omega);generalize(l0.getD j 0).toNat=yn at t v H;(have a9:((yn:Int) != 32)=true:=by simpa using v);(have a8:((yn:Int) != 34)=true:=by simpa using H);clear hc B A v H;go_wp2;exact⟨⟨j+1,(by first|rfl|(congr 1;omega)),by omega,by omega,HH⟩,by simp[intOf];omega⟩
   (have p:j=N l0:=by omega);have c:=Hm (wl_w (λ_=>HC.o) L A.o (.inl p) X);(have z:¬j=k:=by omega);have c:=Hm (c.o.trans (if_neg z));(have ad:¬(j:Int)<(N l0:Int):=by omega);(have I:¬(j:Int)=(k:Int):=by omega);clear A l;have u:=Hm (wm_end Y.o c.o (by omega) p);(have R:((j:Int)==(N l0:Int))=true:=by simp;omega);(have s:(k:Int)<=(j:Int):=by omega);clear p c;(go_wp2_with (at_builtin;refine wal info9 (C.alloc _) [Xs ((Sz0 l0).extract k j)] (cell_one_new _ _ _) (oneS _) ?_;intro v' w2 a b n d;have f:=Hm (And.intro a b);obtain⟨F,E,rfl⟩:=QO a;clear a b n d));(go_ret2);have V:=f.o.1;rw[XX]at V;exact sw_yes u.o (HB.o.alloc D _ |>.grown f.o.2 (by simp;omega) (λj hj=>(C.lt j hj).1)) V
 have ek:k=N l0:=by omega
 have u:=Hm (wm_none Y.o ((wl_w (l0:=l0) (k:=k) (j:=k) (λh=>absurd h y) lRz (λi h1 h2=>by omega) (.inl ek) hk).trans (if_pos rfl)));have aj:¬(k:Int)<(N l0:Int):=by omega
 clear ek hq;go_upto_region 11 with fail
 go_loop [6] (λvj=>vj=U O (k:Int)) (λvj=>0)
 case atStart=>exact rfl
 subst hrel;go_wp2;go_ret2
 exact sw_no u.o HB.o
end YtejkdbnngphgaaaGreatDoor.Yz
namespace YtejkdbnngphgaaaGreatDoor.Yz
open Go.RowKit Go.Sort
theorem XS:∀(n:Nat) (l:Wd) (ws:List Wd),N l<=n->QV l=some ws->ws≠[]/\N ws<=N l+1/\∀x∈ws,N x<=N l
 |n,l,ws,hn,hw=>by
  rw[QV]at hw
  cases hj:XH l with
  |none=>rw[hj]at hw;cases hw
  |some j =>
   rw[hj]at hw
   simp only at hw
   by_cases h:j<N l
   . rw[dif_pos h]at hw
     split at hw
     · cases hr:QV (l.drop (j+1))with
       |none=>rw[hr]at hw;cases hw
       |some r =>
        rw[hr]at hw
        simp at hw
        subst hw;have a:(l.drop (j+1)).length=N l-(j+1):=by simp
        obtain⟨d,c,b⟩:=XS (n-1) (l.drop (j+1)) r (by rw[a];omega) hr;rw[a]at c b
        refine⟨by simp,by simp only[Kj];omega,λx hx=>?_⟩
        simp only[List.mem_cons]at hx
        rcases hx with rfl|hx
        . simp;omega
        . have:=b x hx;omega
     . cases hw
   . rw[dif_neg h]at hw
     cases hw
     exact⟨by simp,by simp,λx hx=>by simp at hx;subst hx;exact lRz⟩
termination_by n l=>N l
decreasing_by simp;omega
