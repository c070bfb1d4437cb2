import Derived.Deep.Slices
import Derived.OpenShut
import Derived.Test.YtaccbbndmmhenaaGreatDoorGau
import Derived.Stop.Asserts
import Derived.RowKitTokens
set_option linter.all false
set_option maxHeartbeats 400000000
set_option maxRecDepth 100000
namespace Go.Proofs
open Value renaming int->U,slice->S,bool->G,pointer->Yp,string->Xs,agg->Ag,nilIface->Nf,iface->If
open IntKind renaming i64->O,u64->Ou
open Ending renaming returned->Z
open Obj renaming cells->Fc
open Go renaming World->J,Calls->Ec,Value->Vu
open Tryz renaming prog->Q
open Tryz
open World renaming cell?_spot->Mg,cells?_some->Md
open Nat renaming zero_le->Kz,lt_or_ge->Iq,le_trans->Ky,lt_of_le_of_lt->Ed,lt_of_lt_of_le->Hw
open List renaming getD->Kg,range->Ev,perm_middle->Ej,length->N
open DataW renaming trod->Lj,trod_struct->Mw,trod_int->Mq
open Extern.ReflectliteValue renaming method->Tv,parts->Hj,set->Pz,flagAddr->Lg,unpack->Tx,methodAny->Mv,valueError->Kx,isNil->Hf,mk->Eh,elem->Lv
open Extern.ReflectliteType renaming toType->Pj,abiMethod->Hy,method->Pq,elem->Py,relation->Kq,implements_->Lh,typeOf->Pw,assignableTo->Kd
open Value renaming int->Rd
open IntKind renaming u8->Ef,wrap_i64->Kv
open Result renaming andThen->Hz
open Instr renaming typeAssert->Rg
open RowKit.Below renaming refl->Ly
namespace YtaccbbndmmhenaaGreatDoor
open Go.RowKit Go.Sort
variable {W:J}{cs:List Vu}{n:Nat}{H:Type}
open Go.RowKit Go.ChangeShapes Go.WideShapes Go.ChangeAt
theorem big (h:n<=maxLen):n<=9223372036854775807:=by unfold maxLen at h;omega
theorem ko2:Q.cellsOf 2=1:=by kernel_rfl
theorem ko4:Q.cellsOf 4=1:=by kernel_rfl
theorem ko5:Q.cellsOf 5=1:=by kernel_rfl
theorem ko9:Q.cellsOf 9=1:=by kernel_rfl
theorem kou:Q.cellsOf 202=1:=by kernel_rfl
theorem koi:Q.cellsOf 24=1:=by kernel_rfl
theorem kob:Q.cellsOf 123=1:=by kernel_rfl
theorem QR:Q.cellsOf 103=3:=by kernel_rfl
theorem Q8:Q.cellsOf 25=1:=by kernel_rfl
theorem Jh:Q.cellsOf 105=2:=by kernel_rfl
theorem Ja:Q.cellsOf 100=2:=by kernel_rfl
theorem Jp:Q.cellsOf 22=1:=by kernel_rfl
theorem Xl:Q.cellsOf 259=5:=by kernel_rfl
theorem Gb:Q.cellsOf 109=1:=by kernel_rfl
theorem JY:Q.cellsOf 107=9:=by kernel_rfl
theorem Xn:Q.cellsOf 23=1:=by kernel_rfl
theorem Jz:Q.cellsOf 111=3:=by kernel_rfl
theorem JN:Q.cellsOf 26=1:=by kernel_rfl
theorem J3:Q.cellsOf 114=3:=by kernel_rfl
theorem Xp:Q.cellsOf 27=1:=by kernel_rfl
theorem J4:Q.cellsOf 117=2:=by kernel_rfl
theorem Xq:Q.cellsOf 28=1:=by kernel_rfl
theorem JZ:Q.cellsOf 276=2:=by kernel_rfl
theorem Xo:Q.cellsOf 119=1:=by kernel_rfl
theorem J7:Q.cellsOf 121=2:=by kernel_rfl
theorem Xt:Q.cellsOf 29=1:=by kernel_rfl
theorem J5:Q.cellsOf 125=2:=by kernel_rfl
theorem Xr:Q.cellsOf 30=1:=by kernel_rfl
theorem J6:Q.cellsOf 128=3:=by kernel_rfl
theorem Xsz0:Q.cellsOf 31=1:=by kernel_rfl
theorem Xh:Q.cellsOf 33=13:=by kernel_rfl
theorem hi_take {k:IntKind}{a:Addr}{len:Nat}{d:List Int}(o:len<=N d)(j:∀i,i<N d->W.cell? (a.add i)=some (U k (d.getD i 0))):HI k 0 W (some a) (d.take len):=by
 by_cases n:len=0
 . subst n;exact .inl (by simp)
 obtain⟨b,off,f⟩:=a;have m:=j 0 (by omega);have c:f=none:=by simpa[Addr.add]using Mg m
 subst c;refine .inr ⟨b,off,rfl,Kz _,λi hi=>?_⟩;have g:i<len:=by simp at hi;omega
 have l:=j i (by omega);have e:(d.take len).getD i 0=d.getD i 0:=by simp[Kg,g]
 rw[e];rwa [Addr.add_lit]at l
theorem val_ints {enc:TypeId × Vu->H}{v:Vu}{y:DataW H × List MemPlace}(g:Lj enc Q W 0 (λ_=>true) true n 24 [v]=some y):∃(a:Option Addr) (c:Nat) (l:List Int),v=S a (N l) c/\N l<=maxLen/\HI O 0 W a l:=by
 rcases open_ints underlying24 underlying2 ko2 g with ⟨b,_⟩|⟨x,len,d,f,b,_,o,m,j,_,k,_⟩
 . simp at b;subst b;exact⟨none,0,[],rfl,Kz _,.inl rfl⟩
 simp at b j;subst b;exact⟨some x,d,f.take len,by simp;omega,by simp;omega,hi_take (by omega) k⟩
theorem val_bytes {enc:TypeId × Vu->H}{v:Vu}{y:DataW H × List MemPlace}(g:Lj enc Q W 0 (λ_=>true) true n 123 [v]=some y):∃(a:Option Addr) (c:Nat) (l:List Int),v=S a (N l) c/\N l<=maxLen/\HI .u8 0 W a l:=by
 rcases open_ints underlying123 underlying5 ko5 g with ⟨b,_⟩|⟨x,len,d,f,b,_,o,m,j,_,k,_⟩
 . simp at b;subst b;exact⟨none,0,[],rfl,Kz _,.inl rfl⟩
 simp at b j;subst b;exact⟨some x,d,f.take len,by simp;omega,by simp;omega,hi_take (by omega) k⟩
theorem QV {R:Type}{enc:TypeId × Vu->H}(z:R)(At:Nat->Nat->R->Prop)(A:R->Prop){t B:TypeId}{sz:Nat}{v:Vu}{y:DataW H × List MemPlace}(L:Q.underlying t=some (.slice B))(M:Q.cellsOf B=sz) (u:∀(d:Addr) (o:List Vu) (n:Nat) (y:DataW H × List MemPlace),W.cells? 0 d sz=some o->Lj enc Q W 0 (λ_=>true) true n B o=some y->∃r:R,d.spot=none/\At d.block d.off r/\A r) (h:Lj enc Q W 0 (λ_=>true) true n t [v]=some y):∃(a:Option Addr) (c:Nat) (xs:List R),v=S a (N xs) c/\N xs<=maxLen/\(xs=[]\/∃b off,a=some ⟨b,off,none⟩/\0<=b/\∀i,i<N xs->At b (off+i*sz) (xs.getD i z))/\∀i,i<N xs->A (xs.getD i z):=by
 rcases Go.Deep.open_slice L h with ⟨j,_⟩|⟨d,len,Y,m,n',D,Pl,j,_,hl,hm,s,_,I⟩
 . simp at j;subst j;exact⟨none,0,[],rfl,Kz _,.inl rfl,λi g=>by simp at g⟩
 simp at j;subst j;simp only[if_true]at s;subst s;have F:∀i,i<len->∃r:R,(d.add (i*sz)).spot=none/\At (d.add (i*sz)).block (d.add (i*sz)).off r/\A r:=by intro i g;obtain⟨o,E,V⟩:=I i (by omega);rw[M]at E;exact u _ _ _ _ E V
 obtain⟨q,C⟩:∃q:Nat->R,∀i,i<len->(d.add (i*sz)).spot=none/\At (d.add (i*sz)).block (d.add (i*sz)).off (q i)/\A (q i):=⟨λi=>if h:i<len then Classical.choose (F i h)else z,λi g=>by simp only[g,dif_pos];exact Classical.choose_spec (F i g)⟩;have k:∀i,i<len->((Ev len).map q).getD i z=q i:=λi g=>by simp[Kg,g]
 refine⟨some d,m,(Ev len).map q,by simp,by simp;omega,?_,λi g=>?_⟩
 . by_cases X:len=0
   . subst X;exact .inl (by simp)
   obtain⟨b,off,p⟩:=d;(have l:p=none:=by simpa[Addr.add]using (C 0 (by omega)).1);subst l;refine .inr ⟨b,off,rfl,Kz _,λi g=>?_⟩;(have f:i<len:=by simpa using g);rw[k i f];have:=(C i f).2.1;rwa [Addr.add_lit]at this
 have f:i<len:=by simpa using g
 rw[k i f];exact(C i f).2.2
theorem pos_of {xs:List In}(h:∀i,i<N xs->0<=(xs.getD i I0).v):QT xs:=by
 intro i;by_cases a:i<N xs
 . exact h i a
 have:xs.getD i I0=I0:=by simp[Kg,List.getElem?_eq_none (Nat.le_of_not_lt a)]
 rw[this];simp[I0]
theorem val_Limits {enc:TypeId × Vu->H}{y:DataW H × List MemPlace}(h:Lj enc Q W 0 (λ_=>true) true n 103 cs=some y):∃(r:Qg),cs=[U O r.min,U O r.max,G r.has]/\Qg.Is 0 W r /\Qg.LB 9223372036854775807 r/\(True):=by
 obtain⟨o,k,u,t,a,b,c⟩:=Mw underlying103 h;rw[QR]at a;match o,b,cs,a with
 |[y0,y1,y2],_,[v0,v1,v2],_ =>
  have g:=c 0 _ rfl;have f:=c 1 _ rfl;have d:=c 2 _ rfl
  simp[ko2,ko4,ko5,ko9,kou,koi,kob,QR,Q8,Jh,Ja,Jp,Xl,Gb,JY,Xn,Jz,JN,J3,Xp,J4,Xq,JZ,Xo,J7,Xt,J5,Xr,J6,Xsz0,Xh]at g f d
  obtain⟨s,m,_,_⟩:=Mq underlying2 g
  simp at m
  subst m;obtain⟨q,l,_,_⟩:=Mq underlying2 f
  simp at l
  subst l;obtain⟨p,j,_⟩:=DataW.trod_bool underlying4 d
  simp at j
  subst j
  exact⟨⟨s,q,p⟩,rfl,trivial,trivial,trivial⟩
theorem each_Limits {enc:TypeId × Vu->H}(j:Addr)(g:List Vu)(n:Nat)(y:DataW H × List MemPlace)(u:W.cells? 0 j 3=some g)(t:Lj enc Q W 0 (λ_=>true) true n 103 g=some y):∃r:Qg,j.spot=none/\Qg.At 0 W j.block j.off r/\Qg.LB 9223372036854775807 r/\(True):=by
 obtain⟨_,o,c⟩:=Md u;obtain⟨r,e,s,q,p⟩:=val_Limits t;subst e;obtain⟨b,off,d⟩:=j;have k:=c 0 (by omega);have f:d=none:=by simpa[Addr.add]using Mg (a:=Addr.add ⟨b,off,d⟩ 0) k
 subst f;have m:=c 1 (by omega);have l:=c 2 (by omega);simp only[Addr.add_lit]at k m l;exact⟨r,rfl,⟨⟨by simpa using k,by simpa using m,by simpa using l⟩,s⟩,q,p⟩
theorem val_GType {enc:TypeId × Vu->H}{y:DataW H × List MemPlace}(h:Lj enc Q W 0 (λ_=>true) true n 105 cs=some y):∃(r:Qx),cs=[U O r.ty,G r.mu]/\Qx.Is 0 W r /\Qx.LB 9223372036854775807 r/\(True):=by
 obtain⟨l,k,q,p,a,b,c⟩:=Mw underlying105 h;rw[Jh]at a;match l,b,cs,a with
 |[y0,y1],_,[v0,v1],_ =>
  have f:=c 0 _ rfl;have d:=c 1 _ rfl
  simp[ko2,ko4,ko5,ko9,kou,koi,kob,QR,Q8,Jh,Ja,Jp,Xl,Gb,JY,Xn,Jz,JN,J3,Xp,J4,Xq,JZ,Xo,J7,Xt,J5,Xr,J6,Xsz0,Xh]at f d
  obtain⟨o,j,_,_⟩:=Mq underlying2 f
  simp at j
  subst j;obtain⟨m,g,_⟩:=DataW.trod_bool underlying4 d
  simp at g
  subst g
  exact⟨⟨o,m⟩,rfl,trivial,trivial,trivial⟩
theorem val_FType {enc:TypeId × Vu->H}{y:DataW H × List MemPlace}(h:Lj enc Q W 0 (λ_=>true) true n 100 cs=some y):∃(r:Qe) (j:Option Addr) (c1:Nat) (g:Option Addr) (c2:Nat),cs=[S j (N r.ps) c1,S g (N r.rs) c2]/\Qe.Is 0 W r j g/\Qe.LB 9223372036854775807 r/\(True):=by
 obtain⟨l,k,D,t,a,b,c⟩:=Mw underlying100 h;rw[Ja]at a;match l,b,cs,a with
 |[y0,y1],_,[v0,v1],_ =>
  have f:=c 0 _ rfl;have d:=c 1 _ rfl
  simp[ko2,ko4,ko5,ko9,kou,koi,kob,QR,Q8,Jh,Ja,Jp,Xl,Gb,JY,Xn,Jz,JN,J3,Xp,J4,Xq,JZ,Xo,J7,Xt,J5,Xr,J6,Xsz0,Xh]at f d
  obtain⟨o,C,q,A,s,v⟩:=val_ints f;subst A;obtain⟨m,B,p,z,l1,u⟩:=val_ints d;subst z
  exact⟨⟨q,p⟩,o,C,m,B,rfl,⟨v,u⟩,⟨big s,big l1⟩,trivial⟩
theorem each_FType {enc:TypeId × Vu->H}(j:Addr)(g:List Vu)(n:Nat)(y:DataW H × List MemPlace)(t:W.cells? 0 j 2=some g)(s:Lj enc Q W 0 (λ_=>true) true n 100 g=some y):∃r:Qe,j.spot=none/\Qe.At 0 W j.block j.off r/\Qe.LB 9223372036854775807 r/\(True):=by
 obtain⟨_,m,c⟩:=Md t;obtain⟨r,A,v,z,u,e,q,p,o⟩:=val_FType s;subst e;obtain⟨b,off,d⟩:=j;have k:=c 0 (by omega);have f:d=none:=by simpa[Addr.add]using Mg (a:=Addr.add ⟨b,off,d⟩ 0) k
 subst f;have l:=c 1 (by omega);simp only[Addr.add_lit]at k l;exact⟨r,rfl,⟨A,v,z,u,⟨by simpa using k,by simpa using l⟩,q⟩,p,o⟩
theorem val_In {enc:TypeId × Vu->H}{y:DataW H × List MemPlace}(h:Lj enc Q W 0 (λ_=>true) true n 259 cs=some y):∃(r:In) (z:Option Addr) (c1:Nat),cs=[U O r.op,U O r.a,U O r.b,U Ou r.v,S z (N r.l) c1]/\In.Is 0 W r z/\In.LB 9223372036854775807 r/\(0<=r.v):=by
 obtain⟨A,k,hk,R,d,f,c⟩:=Mw underlying259 h;rw[Xl]at d;match A,f,cs,d with
 |[y0,y1,y2,y3,y4],_,[v0,v1,v2,v3,v4],_ =>
  have p:=c 0 _ rfl;have o:=c 1 _ rfl;have m:=c 2 _ rfl;have j:=c 3 _ rfl;have g:=c 4 _ rfl
  simp[ko2,ko4,ko5,ko9,kou,koi,kob,QR,Q8,Jh,Ja,Jp,Xl,Gb,JY,Xn,Jz,JN,J3,Xp,J4,Xq,JZ,Xo,J7,Xt,J5,Xr,J6,Xsz0,Xh]at p o m j g
  obtain⟨L,u,_,_⟩:=Mq underlying2 p
  simp at u
  subst u;obtain⟨I,t,_,_⟩:=Mq underlying2 o
  simp at t
  subst t;obtain⟨F,s,_,_⟩:=Mq underlying2 m
  simp at s
  subst s;obtain⟨E,q,_,B⟩:=Mq underlying202 j
  simp at q
  subst q;obtain⟨V,_⟩:=bounds_u64 B;obtain⟨C,d4,D,Y,M,X⟩:=val_ints g;subst Y
  exact⟨⟨L,I,F,E,D⟩,C,d4,rfl,X,big M,V⟩
theorem each_In {enc:TypeId × Vu->H}(j:Addr)(g:List Vu)(n:Nat)(y:DataW H × List MemPlace)(A:W.cells? 0 j 5=some g)(z:Lj enc Q W 0 (λ_=>true) true n 259 g=some y):∃r:In,j.spot=none/\In.At 0 W j.block j.off r/\In.LB 9223372036854775807 r/\(0<=r.v):=by
 obtain⟨_,q,c⟩:=Md A;obtain⟨r,C,B,e,u,t,s⟩:=val_In z;subst e;obtain⟨b,off,d⟩:=j;have k:=c 0 (by omega);have f:d=none:=by simpa[Addr.add]using Mg (a:=Addr.add ⟨b,off,d⟩ 0) k
 subst f;have p:=c 1 (by omega);have o:=c 2 (by omega);have m:=c 3 (by omega);have l:=c 4 (by omega);simp only[Addr.add_lit]at k p o m l;exact⟨r,rfl,⟨C,B,⟨by simpa using k,by simpa using p,by simpa using o,by simpa using m,by simpa using l⟩,u⟩,t,s⟩
theorem val_Imp {enc:TypeId × Vu->H}{y:DataW H × List MemPlace}(h:Lj enc Q W 0 (λ_=>true) true n 107 cs=some y):∃(r:Imp),cs=[Xs r.mod,Xs r.nm,U O r.kind,U O r.ty,U O r.lim.min,U O r.lim.max,G r.lim.has,U O r.gl.ty,G r.gl.mu]/\Imp.Is 0 W r /\Imp.LB 9223372036854775807 r/\(True):=by
 obtain⟨v,k,M,L,b,c,a⟩:=Mw underlying107 h;rw[JY]at b;match v,c,cs,b with
 |[y0,y1,y2,y3,y4,y5],_,[v0,v1,v2,v3,v4,v5,v6,v7,v8],_ =>
  have m:=a 0 _ rfl;have l:=a 1 _ rfl;have j:=a 2 _ rfl;have g:=a 3 _ rfl;have f:=a 4 _ rfl;have d:=a 5 _ rfl
  simp[ko2,ko4,ko5,ko9,kou,koi,kob,QR,Q8,Jh,Ja,Jp,Xl,Gb,JY,Xn,Jz,JN,J3,Xp,J4,Xq,JZ,Xo,J7,Xt,J5,Xr,J6,Xsz0,Xh]at m l j g f d
  obtain⟨I,u,_,A⟩:=DataW.trod_string underlying9 m
  simp at u
  subst u;obtain⟨F,t,_,z⟩:=DataW.trod_string underlying9 l
  simp at t
  subst t;obtain⟨E,s,_,_⟩:=Mq underlying2 j
  simp at s
  subst s;obtain⟨D,q,_,_⟩:=Mq underlying2 g
  simp at q
  subst q;obtain⟨C,p,_,_,_⟩:=val_Limits f
  simp at p
  obtain⟨rfl,rfl,rfl⟩:=p;obtain⟨B,o,_,_,_⟩:=val_GType d
  simp at o
  obtain⟨rfl,rfl⟩:=o
  exact⟨⟨I,F,E,D,C,B⟩,rfl,trivial,⟨big A,big z⟩,trivial⟩
theorem each_Imp {enc:TypeId × Vu->H}(j:Addr)(g:List Vu)(n:Nat)(y:DataW H × List MemPlace)(D:W.cells? 0 j 9=some g)(C:Lj enc Q W 0 (λ_=>true) true n 107 g=some y):∃r:Imp,j.spot=none/\Imp.At 0 W j.block j.off r/\Imp.LB 9223372036854775807 r/\(True):=by
 obtain⟨_,v,c⟩:=Md D;obtain⟨r,e,B,A,z⟩:=val_Imp C;subst e;obtain⟨b,off,d⟩:=j;have k:=c 0 (by omega);have f:d=none:=by simpa[Addr.add]using Mg (a:=Addr.add ⟨b,off,d⟩ 0) k
 subst f;have u:=c 1 (by omega);have t:=c 2 (by omega);have s:=c 3 (by omega);have q:=c 4 (by omega);have p:=c 5 (by omega);have o:=c 6 (by omega);have m:=c 7 (by omega);have l:=c 8 (by omega);simp only[Addr.add_lit]at k u t s q p o m l;exact⟨r,rfl,⟨⟨by simpa using k,by simpa using u,by simpa using t,by simpa using s,by simpa using q,by simpa using p,by simpa using o,by simpa using m,by simpa using l⟩,B⟩,A,z⟩
theorem val_Glob {enc:TypeId × Vu->H}{y:DataW H × List MemPlace}(h:Lj enc Q W 0 (λ_=>true) true n 111 cs=some y):∃(r:Qn) (p:Option Addr) (c1:Nat),cs=[U O r.ty.ty,G r.ty.mu,S p (N r.ini) c1]/\Qn.Is 0 W r p/\Qn.LB 9223372036854775807 r/\(QT r.ini):=by
 obtain⟨q,k,C,z,a,c,g⟩:=Mw underlying111 h;rw[Jz]at a;match q,c,cs,a with
 |[y0,y1],_,[v0,v1,v2],_ =>
  have l:=g 0 _ rfl;have j:=g 1 _ rfl
  simp[ko2,ko4,ko5,ko9,kou,koi,kob,QR,Q8,Jh,Ja,Jp,Xl,Gb,JY,Xn,Jz,JN,J3,Xp,J4,Xq,JZ,Xo,J7,Xt,J5,Xr,J6,Xsz0,Xh]at l j
  obtain⟨u,m,_,_,_⟩:=val_GType l
  simp at m
  obtain⟨rfl,rfl⟩:=m;obtain⟨s,B,t,A,l1,d,f⟩:=QV I0 (λb o x=>In.At 0 W b o x) (λx=>In.LB 9223372036854775807 x/\(0<=x.v)) underlying109 Xl (λad cs' n y d h2=>each_In ad cs' n y d h2) j;subst A
  exact⟨⟨u,t⟩,s,B,rfl,d,⟨big l1,λi hi=>(f i hi).1⟩,pos_of λi hi=>(f i hi).2⟩
theorem each_Glob {enc:TypeId × Vu->H}(j:Addr)(g:List Vu)(n:Nat)(y:DataW H × List MemPlace)(u:W.cells? 0 j 3=some g)(t:Lj enc Q W 0 (λ_=>true) true n 111 g=some y):∃r:Qn,j.spot=none/\Qn.At 0 W j.block j.off r/\Qn.LB 9223372036854775807 r/\(QT r.ini):=by
 obtain⟨_,o,c⟩:=Md u;obtain⟨r,z,v,e,s,q,p⟩:=val_Glob t;subst e;obtain⟨b,off,d⟩:=j;have k:=c 0 (by omega);have f:d=none:=by simpa[Addr.add]using Mg (a:=Addr.add ⟨b,off,d⟩ 0) k
 subst f;have m:=c 1 (by omega);have l:=c 2 (by omega);simp only[Addr.add_lit]at k m l;exact⟨r,rfl,⟨z,v,⟨by simpa using k,by simpa using m,by simpa using l⟩,s⟩,q,p⟩
theorem val_Exp {enc:TypeId × Vu->H}{y:DataW H × List MemPlace}(h:Lj enc Q W 0 (λ_=>true) true n 114 cs=some y):∃(r:Exp),cs=[Xs r.nm,U O r.kind,U O r.ix]/\Exp.Is 0 W r /\Exp.LB 9223372036854775807 r/\(True):=by
 obtain⟨o,k,v,u,a,b,c⟩:=Mw underlying114 h;rw[J3]at a;match o,b,cs,a with
 |[y0,y1,y2],_,[v0,v1,v2],_ =>
  have g:=c 0 _ rfl;have f:=c 1 _ rfl;have d:=c 2 _ rfl
  simp[ko2,ko4,ko5,ko9,kou,koi,kob,QR,Q8,Jh,Ja,Jp,Xl,Gb,JY,Xn,Jz,JN,J3,Xp,J4,Xq,JZ,Xo,J7,Xt,J5,Xr,J6,Xsz0,Xh]at g f d
  obtain⟨t,m,_,p⟩:=DataW.trod_string underlying9 g
  simp at m
  subst m;obtain⟨s,l,_,_⟩:=Mq underlying2 f
  simp at l
  subst l;obtain⟨q,j,_,_⟩:=Mq underlying2 d
  simp at j
  subst j
  exact⟨⟨t,s,q⟩,rfl,trivial,big p,trivial⟩
theorem each_Exp {enc:TypeId × Vu->H}(j:Addr)(g:List Vu)(n:Nat)(y:DataW H × List MemPlace)(u:W.cells? 0 j 3=some g)(t:Lj enc Q W 0 (λ_=>true) true n 114 g=some y):∃r:Exp,j.spot=none/\Exp.At 0 W j.block j.off r/\Exp.LB 9223372036854775807 r/\(True):=by
 obtain⟨_,o,c⟩:=Md u;obtain⟨r,e,s,q,p⟩:=val_Exp t;subst e;obtain⟨b,off,d⟩:=j;have k:=c 0 (by omega);have f:d=none:=by simpa[Addr.add]using Mg (a:=Addr.add ⟨b,off,d⟩ 0) k
 subst f;have m:=c 1 (by omega);have l:=c 2 (by omega);simp only[Addr.add_lit]at k m l;exact⟨r,rfl,⟨⟨by simpa using k,by simpa using m,by simpa using l⟩,s⟩,q,p⟩
theorem val_Ele {enc:TypeId × Vu->H}{y:DataW H × List MemPlace}(h:Lj enc Q W 0 (λ_=>true) true n 117 cs=some y):∃(r:Ele) (p:Option Addr) (c1:Nat) (m:Option Addr) (c2:Nat),cs=[S p (N r.off) c1,S m (N r.fs) c2]/\Ele.Is 0 W r p m/\Ele.LB 9223372036854775807 r/\(QT r.off):=by
 obtain⟨q,k,L,B,a,c,g⟩:=Mw underlying117 h;rw[J4]at a;match q,c,cs,a with
 |[y0,y1],_,[v0,v1],_ =>
  have l:=g 0 _ rfl;have j:=g 1 _ rfl
  simp[ko2,ko4,ko5,ko9,kou,koi,kob,QR,Q8,Jh,Ja,Jp,Xl,Gb,JY,Xn,Jz,JN,J3,Xp,J4,Xq,JZ,Xo,J7,Xt,J5,Xr,J6,Xsz0,Xh]at l j
  obtain⟨t,I,z,E,A,C,f⟩:=QV I0 (λb o x=>In.At 0 W b o x) (λx=>In.LB 9223372036854775807 x/\(0<=x.v)) underlying109 Xl (λad cs' n y d h2=>each_In ad cs' n y d h2) l;subst E;obtain⟨s,F,u,D,l1,d⟩:=val_ints j;subst D
  exact⟨⟨z,u⟩,t,I,s,F,rfl,⟨C,d⟩,⟨⟨big A,λi hi=>(f i hi).1⟩,big l1⟩,pos_of λi hi=>(f i hi).2⟩
theorem each_Ele {enc:TypeId × Vu->H}(j:Addr)(g:List Vu)(n:Nat)(y:DataW H × List MemPlace)(t:W.cells? 0 j 2=some g)(s:Lj enc Q W 0 (λ_=>true) true n 117 g=some y):∃r:Ele,j.spot=none/\Ele.At 0 W j.block j.off r/\Ele.LB 9223372036854775807 r/\(QT r.off):=by
 obtain⟨_,m,c⟩:=Md t;obtain⟨r,A,v,z,u,e,q,p,o⟩:=val_Ele s;subst e;obtain⟨b,off,d⟩:=j;have k:=c 0 (by omega);have f:d=none:=by simpa[Addr.add]using Mg (a:=Addr.add ⟨b,off,d⟩ 0) k
 subst f;have l:=c 1 (by omega);simp only[Addr.add_lit]at k l;exact⟨r,rfl,⟨A,v,z,u,⟨by simpa using k,by simpa using l⟩,q⟩,p,o⟩
theorem val_Grp {enc:TypeId × Vu->H}{y:DataW H × List MemPlace}(h:Lj enc Q W 0 (λ_=>true) true n 276 cs=some y):∃(r:Grp),cs=[U O r.n,U O r.ty]/\Grp.Is 0 W r /\Grp.LB 9223372036854775807 r/\(True):=by
 obtain⟨l,k,q,p,a,b,c⟩:=Mw underlying276 h;rw[JZ]at a;match l,b,cs,a with
 |[y0,y1],_,[v0,v1],_ =>
  have f:=c 0 _ rfl;have d:=c 1 _ rfl
  simp[ko2,ko4,ko5,ko9,kou,koi,kob,QR,Q8,Jh,Ja,Jp,Xl,Gb,JY,Xn,Jz,JN,J3,Xp,J4,Xq,JZ,Xo,J7,Xt,J5,Xr,J6,Xsz0,Xh]at f d
  obtain⟨o,j,_,_⟩:=Mq underlying2 f
  simp at j
  subst j;obtain⟨m,g,_,_⟩:=Mq underlying2 d
  simp at g
  subst g
  exact⟨⟨o,m⟩,rfl,trivial,trivial,trivial⟩
theorem each_Grp {enc:TypeId × Vu->H}(j:Addr)(g:List Vu)(n:Nat)(y:DataW H × List MemPlace)(t:W.cells? 0 j 2=some g)(s:Lj enc Q W 0 (λ_=>true) true n 276 g=some y):∃r:Grp,j.spot=none/\Grp.At 0 W j.block j.off r/\Grp.LB 9223372036854775807 r/\(True):=by
 obtain⟨_,m,c⟩:=Md t;obtain⟨r,e,q,p,o⟩:=val_Grp s;subst e;obtain⟨b,off,d⟩:=j;have k:=c 0 (by omega);have f:d=none:=by simpa[Addr.add]using Mg (a:=Addr.add ⟨b,off,d⟩ 0) k
 subst f;have l:=c 1 (by omega);simp only[Addr.add_lit]at k l;exact⟨r,rfl,⟨⟨by simpa using k,by simpa using l⟩,q⟩,p,o⟩
theorem val_Cod {enc:TypeId × Vu->H}{y:DataW H × List MemPlace}(h:Lj enc Q W 0 (λ_=>true) true n 121 cs=some y):∃(r:Cod) (p:Option Addr) (c1:Nat) (m:Option Addr) (c2:Nat),cs=[S p (N r.locs) c1,S m (N r.body) c2]/\Cod.Is 0 W r p m/\Cod.LB 9223372036854775807 r/\(QT r.body):=by
 obtain⟨s,k,R,D,a,d,g⟩:=Mw underlying121 h;rw[J7]at a;match s,d,cs,a with
 |[y0,y1],_,[v0,v1],_ =>
  have l:=g 0 _ rfl;have j:=g 1 _ rfl
  simp[ko2,ko4,ko5,ko9,kou,koi,kob,QR,Q8,Jh,Ja,Jp,Xl,Gb,JY,Xn,Jz,JN,J3,Xp,J4,Xq,JZ,Xo,J7,Xt,J5,Xr,J6,Xsz0,Xh]at l j
  obtain⟨u,M,B,I,C,E,q⟩:=QV Grp.z (λb o x=>Grp.At 0 W b o x) (λx=>Grp.LB 9223372036854775807 x/\(True)) underlying119 JZ (λad cs' n y c h2=>each_Grp ad cs' n y c h2) l;subst I;obtain⟨t,L,A,F,l1,c,f⟩:=QV I0 (λb o x=>In.At 0 W b o x) (λx=>In.LB 9223372036854775807 x/\(0<=x.v)) underlying109 Xl (λad cs' n y c h2=>each_In ad cs' n y c h2) j;subst F
  exact⟨⟨B,A⟩,u,M,t,L,rfl,⟨E,c⟩,⟨⟨big C,λi hi=>(q i hi).1⟩,⟨big l1,λi hi=>(f i hi).1⟩⟩,pos_of λi hi=>(f i hi).2⟩
theorem each_Cod {enc:TypeId × Vu->H}(j:Addr)(g:List Vu)(n:Nat)(y:DataW H × List MemPlace)(t:W.cells? 0 j 2=some g)(s:Lj enc Q W 0 (λ_=>true) true n 121 g=some y):∃r:Cod,j.spot=none/\Cod.At 0 W j.block j.off r/\Cod.LB 9223372036854775807 r/\(QT r.body):=by
 obtain⟨_,m,c⟩:=Md t;obtain⟨r,A,v,z,u,e,q,p,o⟩:=val_Cod s;subst e;obtain⟨b,off,d⟩:=j;have k:=c 0 (by omega);have f:d=none:=by simpa[Addr.add]using Mg (a:=Addr.add ⟨b,off,d⟩ 0) k
 subst f;have l:=c 1 (by omega);simp only[Addr.add_lit]at k l;exact⟨r,rfl,⟨A,v,z,u,⟨by simpa using k,by simpa using l⟩,q⟩,p,o⟩
theorem val_Dat {enc:TypeId × Vu->H}{y:DataW H × List MemPlace}(h:Lj enc Q W 0 (λ_=>true) true n 125 cs=some y):∃(r:Dat) (p:Option Addr) (c1:Nat) (m:Option Addr) (c2:Nat),cs=[S p (N r.off) c1,S m (N r.bs) c2]/\Dat.Is 0 W r p m/\Dat.LB 9223372036854775807 r/\(QT r.off):=by
 obtain⟨q,k,L,B,a,c,g⟩:=Mw underlying125 h;rw[J5]at a;match q,c,cs,a with
 |[y0,y1],_,[v0,v1],_ =>
  have l:=g 0 _ rfl;have j:=g 1 _ rfl
  simp[ko2,ko4,ko5,ko9,kou,koi,kob,QR,Q8,Jh,Ja,Jp,Xl,Gb,JY,Xn,Jz,JN,J3,Xp,J4,Xq,JZ,Xo,J7,Xt,J5,Xr,J6,Xsz0,Xh]at l j
  obtain⟨t,I,z,E,A,C,f⟩:=QV I0 (λb o x=>In.At 0 W b o x) (λx=>In.LB 9223372036854775807 x/\(0<=x.v)) underlying109 Xl (λad cs' n y d h2=>each_In ad cs' n y d h2) l;subst E;obtain⟨s,F,u,D,l1,d⟩:=val_bytes j;subst D
  exact⟨⟨z,u⟩,t,I,s,F,rfl,⟨C,d⟩,⟨⟨big A,λi hi=>(f i hi).1⟩,big l1⟩,pos_of λi hi=>(f i hi).2⟩
theorem each_Dat {enc:TypeId × Vu->H}(j:Addr)(g:List Vu)(n:Nat)(y:DataW H × List MemPlace)(t:W.cells? 0 j 2=some g)(s:Lj enc Q W 0 (λ_=>true) true n 125 g=some y):∃r:Dat,j.spot=none/\Dat.At 0 W j.block j.off r/\Dat.LB 9223372036854775807 r/\(QT r.off):=by
 obtain⟨_,m,c⟩:=Md t;obtain⟨r,A,v,z,u,e,q,p,o⟩:=val_Dat s;subst e;obtain⟨b,off,d⟩:=j;have k:=c 0 (by omega);have f:d=none:=by simpa[Addr.add]using Mg (a:=Addr.add ⟨b,off,d⟩ 0) k
 subst f;have l:=c 1 (by omega);simp only[Addr.add_lit]at k l;exact⟨r,rfl,⟨A,v,z,u,⟨by simpa using k,by simpa using l⟩,q⟩,p,o⟩
theorem val_Cus {enc:TypeId × Vu->H}{y:DataW H × List MemPlace}(h:Lj enc Q W 0 (λ_=>true) true n 128 cs=some y):∃(r:Cus) (m:Option Addr) (c1:Nat),cs=[U O r.aft,Xs r.nm,S m (N r.bs) c1]/\Cus.Is 0 W r m/\Cus.LB 9223372036854775807 r/\(True):=by
 obtain⟨o,k,C,v,a,b,c⟩:=Mw underlying128 h;rw[J6]at a;match o,b,cs,a with
 |[y0,y1,y2],_,[v0,v1,v2],_ =>
  have g:=c 0 _ rfl;have f:=c 1 _ rfl;have d:=c 2 _ rfl
  simp[ko2,ko4,ko5,ko9,kou,koi,kob,QR,Q8,Jh,Ja,Jp,Xl,Gb,JY,Xn,Jz,JN,J3,Xp,J4,Xq,JZ,Xo,J7,Xt,J5,Xr,J6,Xsz0,Xh]at g f d
  obtain⟨u,l,_,_⟩:=Mq underlying2 g
  simp at l
  subst l;obtain⟨t,j,_,p⟩:=DataW.trod_string underlying9 f
  simp at j
  subst j;obtain⟨q,B,s,A,l2,z⟩:=val_bytes d;subst A
  exact⟨⟨u,t,s⟩,q,B,rfl,z,⟨big p,big l2⟩,trivial⟩
theorem each_Cus {enc:TypeId × Vu->H}(j:Addr)(g:List Vu)(n:Nat)(y:DataW H × List MemPlace)(u:W.cells? 0 j 3=some g)(t:Lj enc Q W 0 (λ_=>true) true n 128 g=some y):∃r:Cus,j.spot=none/\Cus.At 0 W j.block j.off r/\Cus.LB 9223372036854775807 r/\(True):=by
 obtain⟨_,o,c⟩:=Md u;obtain⟨r,z,v,e,s,q,p⟩:=val_Cus t;subst e;obtain⟨b,off,d⟩:=j;have k:=c 0 (by omega);have f:d=none:=by simpa[Addr.add]using Mg (a:=Addr.add ⟨b,off,d⟩ 0) k
 subst f;have m:=c 1 (by omega);have l:=c 2 (by omega);simp only[Addr.add_lit]at k m l;exact⟨r,rfl,⟨z,v,⟨by simpa using k,by simpa using m,by simpa using l⟩,s⟩,q,p⟩
theorem val_Mod {enc:TypeId × Vu->H}{y:DataW H × List MemPlace}(h:Lj enc Q W 0 (λ_=>true) true n 33 cs=some y):∃(r:Mod) (a1:Option Addr) (c1:Nat) (a2:Option Addr) (c2:Nat) (a3:Option Addr) (c3:Nat) (a4:Option Addr) (c4:Nat) (a5:Option Addr) (c5:Nat) (a6:Option Addr) (c6:Nat) (a7:Option Addr) (c7:Nat) (a8:Option Addr) (c8:Nat) (a9:Option Addr) (c9:Nat) (s:Option Addr) (ag:Nat) (q:Option Addr) (af:Nat),cs=[S a1 (N r.types) c1,S a2 (N r.imps) c2,S a3 (N r.funcs) c3,S a4 (N r.tabs) c4,S a5 (N r.mems) c5,S a6 (N r.globs) c6,S a7 (N r.exps) c7,G r.hasS,U O r.start,S a8 (N r.elems) c8,S a9 (N r.codes) c9,S s (N r.datas) ag,S q (N r.customs) af]/\Mod.Is 0 W r a1 a2 a3 a4 a5 a6 a7 a8 a9 s q/\Mod.LB 9223372036854775807 r/\(r.Pos):=by
 obtain⟨xs,k,hk,ch,j,L,d⟩:=Mw underlying33 h;rw[Xh]at j;match xs,L,cs,j with
 |[y0,y1,y2,y3,y4,y5,y6,y7,y8,y9,y10,y11,y12],_,[v0,v1,v2,v3,v4,v5,v6,v7,v8,v9,v10,v11,v12],_ =>
  have g0:=d 0 _ rfl;have g1:=d 1 _ rfl;have g2:=d 2 _ rfl;have g3:=d 3 _ rfl;have g4:=d 4 _ rfl;have g5:=d 5 _ rfl;have g6:=d 6 _ rfl;have g7:=d 7 _ rfl;have g8:=d 8 _ rfl;have g9:=d 9 _ rfl;have p:=d 10 _ rfl;have m:=d 11 _ rfl;have l:=d 12 _ rfl
  simp[ko2,ko4,ko5,ko9,kou,koi,kob,QR,Q8,Jh,Ja,Jp,Xl,Gb,JY,Xn,Jz,JN,J3,Xp,J4,Xq,JZ,Xo,J7,Xt,J5,Xr,J6,Xsz0,Xh]at g0 g1 g2 g3 g4 g5 g6 g7 g8 g9 p m l
  obtain⟨p0,d0,n0,e0,l0,h0,z0⟩:=QV Qe.z (λb o x=>Qe.At 0 W b o x) (λx=>Qe.LB 9223372036854775807 x/\(True)) underlying22 Ja (λad cs' n y c a=>each_FType ad cs' n y c a) g0;subst e0;obtain⟨p1,d1,n1,e1,l1,c,z1⟩:=QV Imp.z (λb o x=>Imp.At 0 W b o x) (λx=>Imp.LB 9223372036854775807 x/\(True)) underlying23 JY (λad cs' n y c a=>each_Imp ad cs' n y c a) g1;subst e1;obtain⟨p2,d2,n2,e2,l2,a⟩:=val_ints g2;subst e2;obtain⟨p3,d3,n3,e3,l3,h3,z3⟩:=QV Qg.z (λb o x=>Qg.At 0 W b o x) (λx=>Qg.LB 9223372036854775807 x/\(True)) underlying25 QR (λad cs' n y c a=>each_Limits ad cs' n y c a) g3;subst e3;obtain⟨p4,d4,n4,e4,l4,h4,z4⟩:=QV Qg.z (λb o x=>Qg.At 0 W b o x) (λx=>Qg.LB 9223372036854775807 x/\(True)) underlying25 QR (λad cs' n y c a=>each_Limits ad cs' n y c a) g4;subst e4;obtain⟨p5,d5,n5,e5,l5,h5,z5⟩:=QV Qn.z (λb o x=>Qn.At 0 W b o x) (λx=>Qn.LB 9223372036854775807 x/\(QT x.ini)) underlying26 Jz (λad cs' n y c a=>each_Glob ad cs' n y c a) g5;subst e5;obtain⟨p6,d6,n6,e6,l6,h6,z6⟩:=QV Exp.z (λb o x=>Exp.At 0 W b o x) (λx=>Exp.LB 9223372036854775807 x/\(True)) underlying27 J3 (λad cs' n y c a=>each_Exp ad cs' n y c a) g6;subst e6;obtain⟨n7,e7,_⟩:=DataW.trod_bool underlying4 g7
  simp at e7
  subst e7;obtain⟨n8,e8,_,_⟩:=Mq underlying2 g8
  simp at e8
  subst e8;obtain⟨p9,d9,n9,e9,l9,h9,z9⟩:=QV Ele.z (λb o x=>Ele.At 0 W b o x) (λx=>Ele.LB 9223372036854775807 x/\(QT x.off)) underlying28 J4 (λad cs' n y c a=>each_Ele ad cs' n y c a) g9;subst e9;obtain⟨A,ae,D,aa,I,V,g⟩:=QV Cod.z (λb o x=>Cod.At 0 W b o x) (λx=>Cod.LB 9223372036854775807 x/\(QT x.body)) underlying29 J7 (λad cs' n y c a=>each_Cod ad cs' n y c a) p;subst aa;obtain⟨v,ac,C,Y,F,R,f⟩:=QV Dat.z (λb o x=>Dat.At 0 W b o x) (λx=>Dat.LB 9223372036854775807 x/\(QT x.off)) underlying30 J5 (λad cs' n y c a=>each_Dat ad cs' n y c a) m;subst Y;obtain⟨u,ab,B,X,E,M,t⟩:=QV Cus.z (λb o x=>Cus.At 0 W b o x) (λx=>Cus.LB 9223372036854775807 x/\(True)) underlying31 J6 (λad cs' n y c a=>each_Cus ad cs' n y c a) l;subst X
  exact⟨⟨n0,n1,n2,n3,n4,n5,n6,n7,n8,n9,D,C,B⟩,p0,d0,p1,d1,p2,d2,p3,d3,p4,d4,p5,d5,p6,d6,p9,d9,A,ae,v,ac,u,ab,rfl,⟨h0,c,a,h3,h4,h5,h6,h9,V,R,M⟩,⟨⟨big l0,λi hi=>(z0 i hi).1⟩,⟨big l1,λi hi=>(z1 i hi).1⟩,big l2,⟨big l3,λi hi=>(z3 i hi).1⟩,⟨big l4,λi hi=>(z4 i hi).1⟩,⟨big l5,λi hi=>(z5 i hi).1⟩,⟨big l6,λi hi=>(z6 i hi).1⟩,⟨big l9,λi hi=>(z9 i hi).1⟩,⟨big I,λi hi=>(g i hi).1⟩,⟨big F,λi hi=>(f i hi).1⟩,⟨big E,λi hi=>(t i hi).1⟩⟩,⟨λi hi=>(z5 i hi).2,λi hi=>(z9 i hi).2,λi hi=>(g i hi).2,λi hi=>(f i hi).2⟩⟩
end YtaccbbndmmhenaaGreatDoor
namespace YtaccbbndmmhenaaGreatDoor.Va
open Go.RowKit Go.Sort
variable {w:J}{l1 l2:List Qc}{md:Mod}{q g:Nat}
theorem szN_lenS {n:Nat}(b:1<=n)(a:n<=11):szN md (n:Int)=(QH md n:Int):=by
 rcases(by omega:n=1\/n=2\/n=3\/n=4\/n=5\/n=6\/n=7\/n=8\/n=9\/n=10\/n=11)with rfl|rfl|rfl|rfl|rfl|rfl|rfl|rfl|rfl|rfl|rfl;all_goals simp[szN,szs,QH]
 split<;>rfl
theorem JW {c:Prop}[Decidable c]{x y K:Nat}(b:x<=K)(a:y<=K):(if c then x else y)<=K:=by split<;>assumption
theorem lenS_le (m:Mod.Ln md)(n:Nat):QH md n<=1048576:=by
 obtain⟨l1,l2,k,j,g,f,d,c,b,a,l⟩:=m;unfold QH;exact JW l1 (JW l2 (JW k (JW j (JW g (JW f (JW d (JW (JW (by decide) (Kz _)) (JW c (JW b (JW a (Kz _)))))))))))
def atEnt (i:Nat)(v:Vu):Vu:=If 177 (Ag #[U O (i:Int),v])
def OkTo (md:Mod)(n k:Nat):Prop:=∀j,j<k->Js md n j (Qz md n j)=.ok (Qz md n (j+1))
def SecI (D:Nat)(w0:J)(b q:Nat)(ks:List Qc)(md:Mod)(n k:Nat)(V:J):Prop:=∃w1,Sc w0 w1/\Below b w0 w1/\Gg b w1 (Qz md n k).ns/\SSt D w1 q (Qz md n k).x (Qz md n k).fo (Qz md n k).go (Qz md n k).bd (.map (some b)) ks V/\(Qz md n k).x.tables<=1/\(Qz md n k).x.mems<=1
def SecP (D:Nat)(w0:J)(b q:Nat)(ks:List Qc)(md:Mod)(n:Nat)(e:Ending)(w':J):Prop:=(∃i er,i<QH md n/\OkTo md n i/\Js md n i (Qz md n i)=.error er/\e=Z (atEnt i (erV er))/\Below b w0 w')\/(OkTo md n (QH md n)/\e=Z Nf/\SecI D w0 b q ks md (n+1) 0 w')
theorem isect_c {D:Nat}{y:J}{b:Nat}{ks:List Qc}{V:J}{Bm:Nat}(hw:wfB md=true)(hL:Mod.LB 1048576 md)(hA:Mod.At 0 y Bm 0 md)(hC:CD D y){n:Nat}(h1:1<=n)(C:n<=11)(hb:b<D)(h:SecI D y b q ks md n 0 V):Ec Q 80 #[Yp (some ⟨q,0,none⟩),Yp (some ⟨Bm,0,none⟩),U O (n:Int)] V (SecP D y b q ks md n):=by
 have HN:=Hm (stAt_next md n);have KE:=Hm (λ(z:J) (k:Nat) (hk:k<QH md n) (e:Sc y z) (V:J) (s:SSt D z q (Qz md n k).x (Qz md n k).fo (Qz md n k).go (Qz md n k).bd (.map (some b)) ks V) (hN:Gg b z (Qz md n k).ns) (ht:(Qz md n k).x.tables<=1) (hm:(Qz md n k).x.mems<=1)=>ient_c hw hL (e.mod hA) (hC.sc e) h1 C hk s hb hN ht hm);have KO:=Hm (λ(k:Nat) (hk:k<QH md n) (s':St) (he:Js md n k (Qz md n k)=.ok s')=>ent_ok hw h1 C hk he);have hZ:=szN_lenS (md:=md) h1 C;have bf:=lenS_le (modLn hL) n;obtain⟨a1,c1,a2,c2,a3,c3,a4,c4,a5,c5,a6,c6,a7,c7,a8,c8,a9,c9,aq,ao,ap,ak,⟨m0,m1,B,m3,m4,m5,m6,m7,m8,m9,M,I,H⟩,_⟩:=hA;obtain⟨z,v,d,l,g,a,c⟩:=h;have m:=λ(o:Nat) (u:Vu) (hu:y.cell? ⟨Bm,o,none⟩=some u)=>(g.mo.b.cell (p:=⟨Bm,o,none⟩) (hC Bm o u hu)).trans ((congrFun (show z.cell?=y.cell? from v) _).trans hu);have d0:=m _ _ m0;have d1:=m _ _ m1;have d2:=m _ _ B;have d3:=m _ _ m3;have d4:=m _ _ m4;have d5:=m _ _ m5;have d6:=m _ _ m6;have d7:=m _ _ m7;have d8:=m _ _ m8;have d9:=m _ _ m9;have aj:=m _ _ M;have ai:=m _ _ I;have ah:=m _ _ H;have KZ:=isz_c md a1 c1 a2 c2 a3 c3 a4 c4 a5 c5 a6 c6 a7 c7 a8 c8 a9 c9 aq ao ap ak (n:Int) V (modLn hL);rw[hZ]at KZ;have HZ:=Hm KZ;have HS:=Hm (λ(W:J) (hB:Below V.heap.size V W)=>(⟨z,v,d,l,g.keep hB,a,c⟩:SecI D y b q ks md n 0 W));generalize hl:QH md n=L at *;clear KZ hZ m m0 m1 B m3 m4 m5 m6 m7 m8 m9 M I H g l d v a c hw hL;go_enter func80,ntmps80;go_wp2_with (go_at_call 130;refine HZ.o.mono ?_;rintro e w2 ⟨rfl,Y⟩)
 have F:=Hm (HS.o _ Y);clear HS HZ Y d0 d1 d2 d3 d4 d5 d6 d7 d8 d9 aj ai ah;go_loopw [14] (λi wr=>∃k:Nat,k<=L/\i=U O k/\SecI D y b q ks md n k wr/\OkTo md n k) (λi _=>L-(intOf i).toNat)
 case atStart=>exact⟨0,Kz _,rfl,F.o,λj hj=>absurd hj (Nat.not_lt_zero _)⟩
 obtain⟨k,hk,rfl,⟨z,v,d,l,g,a,c⟩,t⟩:=hrel;by_cases R:k<L
 . (have br:(k:Int)<(L:Int):=by omega);have HE:=Hm (KE.o z k R v wr g l a c);have HR:=Hm (And.intro v (And.intro d (And.intro a (And.intro c t))));clear g l v d a c t F KE;(go_wp2_with fail);refine HE.o.mono ?_;rintro e w3 (⟨er,A,rfl,hb3⟩|⟨s',A,rfl,hI3⟩)
   . have E:=Hm A;clear A;obtain⟨f,_|j⟩:=er
     . simp only[erV,flt];go_wp2;go_ret;exact .inl ⟨k,(f,none),by omega,HR.o.2.2.2.2,E.o,rfl,HR.o.2.1.trans hb3⟩
     simp only[erV,atIns,flt];go_wp2;go_ret;exact .inl ⟨k,(f,some j),by omega,HR.o.2.2.2.2,E.o,rfl,HR.o.2.1.trans hb3⟩
   obtain⟨rfl,t2,B⟩:=KO.o k R s' A;have E:=Hm (And.intro A (And.intro hI3 (And.intro t2 B)));clear A hI3 t2 B;go_wp2;go_roundw
   case rel=>
    obtain⟨A,⟨w4,e4,b4,n4,s4⟩,t2,B⟩:=E.o;obtain⟨v,d,a,c,t⟩:=HR.o;refine⟨k+1,by omega,by go_num,⟨w4,Eq.trans e4 v,d.trans b4,n4,s4,t2 a,B c⟩,λj hj=>?_⟩;rcases Iq j k with X|X
    . exact t j X
    (obtain rfl:j=k:=by omega);exact A
   case measure=>simp[intOf];omega
 have e:k=L:=by omega
 subst e;have E:=Hm (And.intro (show SecI D y b q ks md n k wr from⟨z,v,d,l,g,a,c⟩) t);clear g l v d a c t F KE;go_wp2;go_ret;refine .inr ⟨by rw[hl];exact E.o.2,rfl,?_⟩;have r:=E.o.1;unfold SecI at r⊢;rw[<- HN.o];exact r
theorem stAt10 (md:Mod):Qz md 1 0=⟨⟨[],[],[],(Jc md (N md.imps)).length,0,0⟩,0,0,0,[]⟩:=by
 simp[Qz,kk,cxA,Jq,Jc,QZ]
theorem sec0 {W:J}(md:Mod)(h:SSt (w.heap.size+1) (w.alloc (.map #[] 0)) (w.heap.size+1) ⟨[],[],[],0,0,0⟩ 0 0 0 (.map (some w.heap.size)) [] W):SecI (w.heap.size+1) (w.alloc (.map #[] 0)) w.heap.size (w.heap.size+1) [] md 1 0 W:=by
 refine⟨w.alloc (.map #[] 0),rfl,bFz,?_⟩;rw[stAt10];obtain⟨m,e,b,a⟩:=h;exact⟨Gg.start w,⟨m,e,b,⟨a.tt,a.ft,a.gt⟩⟩,Kz _,Kz _⟩
theorem fin4 {V W}{x0 x1 x2 x3 g f d c:Vu}(j:Below V.heap.size V W)(b:V.heap.size<=q)(c0:W.cell? ⟨q,0,none⟩=some g)(c1:W.cell? ⟨q,1,none⟩=some f)(c2:W.cell? ⟨q,2,none⟩=some d)(c3:W.cell? ⟨q,3,none⟩=some c):∀a,a=(((W.setCell ⟨q,0,none⟩ x0).setCell ⟨q,1,none⟩ x1).setCell ⟨q,2,none⟩ x2).setCell ⟨q,3,none⟩ x3->a.cell? ⟨q,0,none⟩=some x0/\a.cell? ⟨q,1,none⟩=some x1/\a.cell? ⟨q,2,none⟩=some x2/\a.cell? ⟨q,3,none⟩=some x3/\Below V.heap.size V a:=by
 intro a h;subst h;exact⟨QE (QE (QE (QY c0) (by decide)) (by decide)) (by decide),QE (QE (QY (QE c1 (by decide))) (by decide)) (by decide),QE (QY (QE (QE c2 (by decide)) (by decide))) (by decide),QY (QE (QE (QE c3 (by decide)) (by decide)) (by decide)),(((j.setCell b _).setCell b _).setCell b _).setCell b _⟩
open Go.RowKit Go.Extern.Stop Go.Stop Go.Extern
abbrev RT (t:Nat):Vu:=If 291 (Ag #[Yp (some ⟨1,t,none⟩)])
abbrev RV (t:Nat)(a:Addr)(f:Int):Vu:=Ag #[Yp (some ⟨1,t,none⟩),Yp (some a),U Ou f]
theorem rlm (z:Sem Vu)(f:TypeId->Addr->Nat->Nat->Sem Vu)(v:Vu) :
    Tv z f #[v]=(do match <- Hj v with|none=>z|some (t,a,fl)=>f t a fl (fl%32)):=rfl
theorem rls (v x:Vu):Pz #[v,x]=(do
    let (some (dst,a,fl),some (src,b,_)):=(<- Hj v,<- Hj x)
     |unsupported (.noEntry "extern/(internal/reflectlite.Value).Set.zeroValue")
    if fl / Lg%2==0 then unsupported (.noEntry "extern/(internal/reflectlite.Value).Set.unaddressable")
    let val <- loadVar src b
    if <- Rtype.directlyAssignable dst src then storeVar dst a val
    else if <- Rtype.implements dst src then
     if(<- Rtype.kind src)==20 then
      match val with
      |Nf=>unsupported (.noEntry "extern/reflectlite: a nil value of one interface type handed on as a value of another")
      |_=>storeVar dst a val
     else storeVar dst a (If src val)
    else panicString ("reflectlite.Set: value of type "++(<- Rtype.spelt src)++ " is not assignable to type "++(<- Rtype.spelt dst))
    pure (.tuple #[])):=rfl
theorem mKind (h:Vu)(w:J):(Go.method 415 291 (Ag #[h]) "Kind").run Q w=.ok (281,h) w:=by kernel_rfl
theorem mElem (h:Vu)(w:J):(Go.method 415 291 (Ag #[h]) "Elem").run Q w=.ok (295,Ag #[h]) w:=by kernel_rfl
theorem mImpl (h:Vu)(w:J):(Go.method 415 291 (Ag #[h]) "Implements").run Q w=.ok (296,Ag #[h]) w:=by kernel_rfl
theorem mAssg (h:Vu)(w:J):(Go.method 415 291 (Ag #[h]) "AssignableTo").run Q w=.ok (293,Ag #[h]) w:=by kernel_rfl
theorem vOfF (t:Addr)(w:J):(Tx (If 180 (Yp (some t)))).run Q w=.ok (RV 180 ⟨w.heap.size,0,none⟩ 150) (w.alloc (Fc #[Yp (some t)] 180)):=by kernel_rfl
theorem tyF (a:Addr)(w:J):(Mv (Kx "reflectlite.Value.Type" 0) (λt _ _ _=>Pj t) #[RV 180 a 150]).run Q w=.ok (RT 180) w:=by kernel_rfl
theorem kdPF (w:J):((Hy λt=>(λa:Nat=>Rd Ef (a:Int)) <$> Rtype.kind t) #[Yp (some ⟨1,180,none⟩)]).run Q w=.ok (U .u8 22) w:=by kernel_rfl
theorem kdF (w:J):((Hy λt=>(λa:Nat=>Rd Ef (a:Int)) <$> Rtype.kind t) #[Yp (some ⟨1,169,none⟩)]).run Q w=.ok (U .u8 6) w:=by kernel_rfl
theorem ptPF (a:Addr)(w:J):(Hj (RV 180 a 150)).run Q w=.ok (some (180,a,150)) w:=by kernel_rfl
theorem nilF (a p:Addr)(W:J)(b:W.cell? a=some (Yp (some p))):(Tv (Kx "reflectlite.Value.IsNil" 0) Hf #[RV 180 a 150]).run Q W=.ok (G false) W:=by
 rw[rlm];simp only[Sem.run_bind,ptPF,Hz];simp[Hf,loadVar,isAgg,underlying,underlying180,b,Hz]
theorem elF (w:J):(Pq Py #[Ag #[Yp (some ⟨1,180,none⟩)]]).run Q w=.ok (RT 169) w:=by kernel_rfl
theorem imF (w:J):(Kq "Implements" Lh #[Ag #[Yp (some ⟨1,169,none⟩)],RT 84]).run Q w=.ok (G true) w:=by kernel_rfl
theorem tOF (v:Vu)(w:J):(Pw #[If 169 v]).run Q w=.ok (RT 169) w:=by kernel_rfl
theorem elOF (w:J):(Rtype.elem? 180).run Q w=.ok (some 169) w:=by kernel_rfl
theorem mkF (p:Addr)(w:J):(Eh 169 p Lg).run Q w=.ok (RV 169 p 390) w:=by kernel_rfl
theorem elVF (a p:Addr)(W:J)(b:W.cell? a=some (Yp (some p))):(Tv (Kx "reflectlite.Value.Elem" 0) Lv #[RV 180 a 150]).run Q W=.ok (RV 169 p 390) W:=by
 rw[rlm];simp only[Sem.run_bind,ptPF,Hz];simp[Lv,loadVar,isAgg,underlying,underlying180,b,Hz,elOF,mkF]
theorem ptFa (a:Addr)(w:J):(Hj (RV 169 a 390)).run Q w=.ok (some (169,a,390)) w:=by kernel_rfl
theorem ptF (a:Addr)(w:J):(Hj (RV 169 a 134)).run Q w=.ok (some (169,a,134)) w:=by kernel_rfl
theorem dirF (w:J):(Rtype.directlyAssignable 169 169).run Q w=.ok true w:=by kernel_rfl
theorem vOF (x:Int)(w:J):(Tx (If 169 (U O x))).run Q w=.ok (RV 169 ⟨w.heap.size,0,none⟩ 134) (w.alloc (Fc #[U O x] 169)):=by kernel_rfl
theorem asFF (w:J):(Kq "AssignableTo" Kd #[Ag #[Yp (some ⟨1,169,none⟩)],RT 169]).run Q w=.ok (G true) w:=by kernel_rfl
theorem asFS (w:J):(Kq "AssignableTo" Kd #[Ag #[Yp (some ⟨1,176,none⟩)],RT 169]).run Q w=.ok (G false) w:=by kernel_rfl
theorem asFE (w:J):(Kq "AssignableTo" Kd #[Ag #[Yp (some ⟨1,177,none⟩)],RT 169]).run Q w=.ok (G false) w:=by kernel_rfl
theorem asFI (w:J):(Kq "AssignableTo" Kd #[Ag #[Yp (some ⟨1,178,none⟩)],RT 169]).run Q w=.ok (G false) w:=by kernel_rfl
theorem noAsF (v:Vu)(a:TypeId)(w:J):(Rg (If 169 v) a 296 true).run Q w=.ok (.tuple #[Nf,G false]) w:=run_typeAssert_lacksB underlying296 (by kernel_rfl) (by kernel_rfl) v a w
theorem noUF (v:Vu)(a:TypeId)(w:J):(Rg (If 169 v) a 299 true).run Q w=.ok (.tuple #[Nf,G false]) w:=run_typeAssert_lacksB underlying299 (by kernel_rfl) (by kernel_rfl) v a w
theorem noLF (v:Vu)(a:TypeId)(w:J):(Rg (If 169 v) a 301 true).run Q w=.ok (.tuple #[Nf,G false]) w:=run_typeAssert_lacksB underlying301 (by kernel_rfl) (by kernel_rfl) v a w
theorem vOfS (t:Addr)(w:J):(Tx (If 181 (Yp (some t)))).run Q w=.ok (RV 181 ⟨w.heap.size,0,none⟩ 150) (w.alloc (Fc #[Yp (some t)] 181)):=by kernel_rfl
theorem tyS (a:Addr)(w:J):(Mv (Kx "reflectlite.Value.Type" 0) (λt _ _ _=>Pj t) #[RV 181 a 150]).run Q w=.ok (RT 181) w:=by kernel_rfl
theorem kdPS (w:J):((Hy λt=>(λa:Nat=>Rd Ef (a:Int)) <$> Rtype.kind t) #[Yp (some ⟨1,181,none⟩)]).run Q w=.ok (U .u8 22) w:=by kernel_rfl
theorem kdS (w:J):((Hy λt=>(λa:Nat=>Rd Ef (a:Int)) <$> Rtype.kind t) #[Yp (some ⟨1,176,none⟩)]).run Q w=.ok (U .u8 25) w:=by kernel_rfl
theorem ptPS (a:Addr)(w:J):(Hj (RV 181 a 150)).run Q w=.ok (some (181,a,150)) w:=by kernel_rfl
theorem nilS (a p:Addr)(W:J)(b:W.cell? a=some (Yp (some p))):(Tv (Kx "reflectlite.Value.IsNil" 0) Hf #[RV 181 a 150]).run Q W=.ok (G false) W:=by
 rw[rlm];simp only[Sem.run_bind,ptPS,Hz];simp[Hf,loadVar,isAgg,underlying,underlying181,b,Hz]
theorem elS (w:J):(Pq Py #[Ag #[Yp (some ⟨1,181,none⟩)]]).run Q w=.ok (RT 176) w:=by kernel_rfl
theorem imS (w:J):(Kq "Implements" Lh #[Ag #[Yp (some ⟨1,176,none⟩)],RT 84]).run Q w=.ok (G true) w:=by kernel_rfl
theorem tOS (v:Vu)(w:J):(Pw #[If 176 v]).run Q w=.ok (RT 176) w:=by kernel_rfl
theorem elOS (w:J):(Rtype.elem? 181).run Q w=.ok (some 176) w:=by kernel_rfl
theorem mkS (p:Addr)(w:J):(Eh 176 p Lg).run Q w=.ok (RV 176 p 409) w:=by kernel_rfl
theorem elVS (a p:Addr)(W:J)(b:W.cell? a=some (Yp (some p))):(Tv (Kx "reflectlite.Value.Elem" 0) Lv #[RV 181 a 150]).run Q W=.ok (RV 176 p 409) W:=by
 rw[rlm];simp only[Sem.run_bind,ptPS,Hz];simp[Lv,loadVar,isAgg,underlying,underlying181,b,Hz,elOS,mkS]
theorem ptSa (a:Addr)(w:J):(Hj (RV 176 a 409)).run Q w=.ok (some (176,a,409)) w:=by kernel_rfl
theorem ptS (a:Addr)(w:J):(Hj (RV 176 a 153)).run Q w=.ok (some (176,a,153)) w:=by kernel_rfl
theorem dirS (w:J):(Rtype.directlyAssignable 176 176).run Q w=.ok true w:=by kernel_rfl
theorem vOS (x y:Vu)(w:J):(Tx (If 176 (Ag #[x,y]))).run Q w=.ok (RV 176 ⟨w.heap.size,0,none⟩ 153) (w.alloc (Fc #[x,y] 176)):=by kernel_rfl
theorem asSF (w:J):(Kq "AssignableTo" Kd #[Ag #[Yp (some ⟨1,169,none⟩)],RT 176]).run Q w=.ok (G false) w:=by kernel_rfl
theorem asSS (w:J):(Kq "AssignableTo" Kd #[Ag #[Yp (some ⟨1,176,none⟩)],RT 176]).run Q w=.ok (G true) w:=by kernel_rfl
theorem asSE (w:J):(Kq "AssignableTo" Kd #[Ag #[Yp (some ⟨1,177,none⟩)],RT 176]).run Q w=.ok (G false) w:=by kernel_rfl
theorem asSI (w:J):(Kq "AssignableTo" Kd #[Ag #[Yp (some ⟨1,178,none⟩)],RT 176]).run Q w=.ok (G false) w:=by kernel_rfl
theorem noAsS (v:Vu)(a:TypeId)(w:J):(Rg (If 176 v) a 296 true).run Q w=.ok (.tuple #[Nf,G false]) w:=run_typeAssert_lacksB underlying296 (by kernel_rfl) (by kernel_rfl) v a w
theorem hasUS (v:Vu)(a:TypeId)(w:J):(Rg (If 176 v) a 299 true).run Q w=.ok (.tuple #[If 176 v,G true]) w:=run_typeAssert_hasB underlying299 (by kernel_rfl) v a w
theorem mUS (x:Int)(y:Vu)(w:J):(Go.method 415 176 (Ag #[U O x,y]) "Unwrap").run Q w=.ok (287,Ag #[U O x,y]) w:=by kernel_rfl
theorem vOfE (t:Addr)(w:J):(Tx (If 182 (Yp (some t)))).run Q w=.ok (RV 182 ⟨w.heap.size,0,none⟩ 150) (w.alloc (Fc #[Yp (some t)] 182)):=by kernel_rfl
theorem tyE (a:Addr)(w:J):(Mv (Kx "reflectlite.Value.Type" 0) (λt _ _ _=>Pj t) #[RV 182 a 150]).run Q w=.ok (RT 182) w:=by kernel_rfl
theorem kdPE (w:J):((Hy λt=>(λa:Nat=>Rd Ef (a:Int)) <$> Rtype.kind t) #[Yp (some ⟨1,182,none⟩)]).run Q w=.ok (U .u8 22) w:=by kernel_rfl
theorem kdE (w:J):((Hy λt=>(λa:Nat=>Rd Ef (a:Int)) <$> Rtype.kind t) #[Yp (some ⟨1,177,none⟩)]).run Q w=.ok (U .u8 25) w:=by kernel_rfl
theorem ptPE (a:Addr)(w:J):(Hj (RV 182 a 150)).run Q w=.ok (some (182,a,150)) w:=by kernel_rfl
theorem nilE (a p:Addr)(W:J)(b:W.cell? a=some (Yp (some p))):(Tv (Kx "reflectlite.Value.IsNil" 0) Hf #[RV 182 a 150]).run Q W=.ok (G false) W:=by
 rw[rlm];simp only[Sem.run_bind,ptPE,Hz];simp[Hf,loadVar,isAgg,underlying,underlying182,b,Hz]
theorem elE (w:J):(Pq Py #[Ag #[Yp (some ⟨1,182,none⟩)]]).run Q w=.ok (RT 177) w:=by kernel_rfl
theorem imE (w:J):(Kq "Implements" Lh #[Ag #[Yp (some ⟨1,177,none⟩)],RT 84]).run Q w=.ok (G true) w:=by kernel_rfl
theorem tOE (v:Vu)(w:J):(Pw #[If 177 v]).run Q w=.ok (RT 177) w:=by kernel_rfl
theorem elOE (w:J):(Rtype.elem? 182).run Q w=.ok (some 177) w:=by kernel_rfl
theorem mkE (p:Addr)(w:J):(Eh 177 p Lg).run Q w=.ok (RV 177 p 409) w:=by kernel_rfl
theorem elVE (a p:Addr)(W:J)(b:W.cell? a=some (Yp (some p))):(Tv (Kx "reflectlite.Value.Elem" 0) Lv #[RV 182 a 150]).run Q W=.ok (RV 177 p 409) W:=by
 rw[rlm];simp only[Sem.run_bind,ptPE,Hz];simp[Lv,loadVar,isAgg,underlying,underlying182,b,Hz,elOE,mkE]
theorem ptEa (a:Addr)(w:J):(Hj (RV 177 a 409)).run Q w=.ok (some (177,a,409)) w:=by kernel_rfl
theorem ptE (a:Addr)(w:J):(Hj (RV 177 a 153)).run Q w=.ok (some (177,a,153)) w:=by kernel_rfl
theorem dirE (w:J):(Rtype.directlyAssignable 177 177).run Q w=.ok true w:=by kernel_rfl
theorem vOE (x y:Vu)(w:J):(Tx (If 177 (Ag #[x,y]))).run Q w=.ok (RV 177 ⟨w.heap.size,0,none⟩ 153) (w.alloc (Fc #[x,y] 177)):=by kernel_rfl
theorem asEF (w:J):(Kq "AssignableTo" Kd #[Ag #[Yp (some ⟨1,169,none⟩)],RT 177]).run Q w=.ok (G false) w:=by kernel_rfl
theorem asES (w:J):(Kq "AssignableTo" Kd #[Ag #[Yp (some ⟨1,176,none⟩)],RT 177]).run Q w=.ok (G false) w:=by kernel_rfl
theorem asEE (w:J):(Kq "AssignableTo" Kd #[Ag #[Yp (some ⟨1,177,none⟩)],RT 177]).run Q w=.ok (G true) w:=by kernel_rfl
theorem asEI (w:J):(Kq "AssignableTo" Kd #[Ag #[Yp (some ⟨1,178,none⟩)],RT 177]).run Q w=.ok (G false) w:=by kernel_rfl
theorem noAsE (v:Vu)(a:TypeId)(w:J):(Rg (If 177 v) a 296 true).run Q w=.ok (.tuple #[Nf,G false]) w:=run_typeAssert_lacksB underlying296 (by kernel_rfl) (by kernel_rfl) v a w
theorem hasUE (v:Vu)(a:TypeId)(w:J):(Rg (If 177 v) a 299 true).run Q w=.ok (.tuple #[If 177 v,G true]) w:=run_typeAssert_hasB underlying299 (by kernel_rfl) v a w
theorem mUE (x:Int)(y:Vu)(w:J):(Go.method 415 177 (Ag #[U O x,y]) "Unwrap").run Q w=.ok (287,Ag #[U O x,y]) w:=by kernel_rfl
theorem vOfI (t:Addr)(w:J):(Tx (If 183 (Yp (some t)))).run Q w=.ok (RV 183 ⟨w.heap.size,0,none⟩ 150) (w.alloc (Fc #[Yp (some t)] 183)):=by kernel_rfl
theorem tyI (a:Addr)(w:J):(Mv (Kx "reflectlite.Value.Type" 0) (λt _ _ _=>Pj t) #[RV 183 a 150]).run Q w=.ok (RT 183) w:=by kernel_rfl
theorem kdPI (w:J):((Hy λt=>(λa:Nat=>Rd Ef (a:Int)) <$> Rtype.kind t) #[Yp (some ⟨1,183,none⟩)]).run Q w=.ok (U .u8 22) w:=by kernel_rfl
theorem kdI (w:J):((Hy λt=>(λa:Nat=>Rd Ef (a:Int)) <$> Rtype.kind t) #[Yp (some ⟨1,178,none⟩)]).run Q w=.ok (U .u8 25) w:=by kernel_rfl
theorem ptPI (a:Addr)(w:J):(Hj (RV 183 a 150)).run Q w=.ok (some (183,a,150)) w:=by kernel_rfl
theorem nilI (a p:Addr)(W:J)(b:W.cell? a=some (Yp (some p))):(Tv (Kx "reflectlite.Value.IsNil" 0) Hf #[RV 183 a 150]).run Q W=.ok (G false) W:=by
 rw[rlm];simp only[Sem.run_bind,ptPI,Hz];simp[Hf,loadVar,isAgg,underlying,underlying183,b,Hz]
theorem elI (w:J):(Pq Py #[Ag #[Yp (some ⟨1,183,none⟩)]]).run Q w=.ok (RT 178) w:=by kernel_rfl
theorem imI (w:J):(Kq "Implements" Lh #[Ag #[Yp (some ⟨1,178,none⟩)],RT 84]).run Q w=.ok (G true) w:=by kernel_rfl
theorem tOI (v:Vu)(w:J):(Pw #[If 178 v]).run Q w=.ok (RT 178) w:=by kernel_rfl
theorem elOI (w:J):(Rtype.elem? 183).run Q w=.ok (some 178) w:=by kernel_rfl
theorem mkI (p:Addr)(w:J):(Eh 178 p Lg).run Q w=.ok (RV 178 p 409) w:=by kernel_rfl
theorem elVI (a p:Addr)(W:J)(b:W.cell? a=some (Yp (some p))):(Tv (Kx "reflectlite.Value.Elem" 0) Lv #[RV 183 a 150]).run Q W=.ok (RV 178 p 409) W:=by
 rw[rlm];simp only[Sem.run_bind,ptPI,Hz];simp[Lv,loadVar,isAgg,underlying,underlying183,b,Hz,elOI,mkI]
theorem ptIa (a:Addr)(w:J):(Hj (RV 178 a 409)).run Q w=.ok (some (178,a,409)) w:=by kernel_rfl
theorem ptI (a:Addr)(w:J):(Hj (RV 178 a 153)).run Q w=.ok (some (178,a,153)) w:=by kernel_rfl
theorem dirI (w:J):(Rtype.directlyAssignable 178 178).run Q w=.ok true w:=by kernel_rfl
theorem vOI (x y:Vu)(w:J):(Tx (If 178 (Ag #[x,y]))).run Q w=.ok (RV 178 ⟨w.heap.size,0,none⟩ 153) (w.alloc (Fc #[x,y] 178)):=by kernel_rfl
theorem asIF (w:J):(Kq "AssignableTo" Kd #[Ag #[Yp (some ⟨1,169,none⟩)],RT 178]).run Q w=.ok (G false) w:=by kernel_rfl
theorem asIS (w:J):(Kq "AssignableTo" Kd #[Ag #[Yp (some ⟨1,176,none⟩)],RT 178]).run Q w=.ok (G false) w:=by kernel_rfl
theorem asIE (w:J):(Kq "AssignableTo" Kd #[Ag #[Yp (some ⟨1,177,none⟩)],RT 178]).run Q w=.ok (G false) w:=by kernel_rfl
theorem asII (w:J):(Kq "AssignableTo" Kd #[Ag #[Yp (some ⟨1,178,none⟩)],RT 178]).run Q w=.ok (G true) w:=by kernel_rfl
theorem noAsI (v:Vu)(a:TypeId)(w:J):(Rg (If 178 v) a 296 true).run Q w=.ok (.tuple #[Nf,G false]) w:=run_typeAssert_lacksB underlying296 (by kernel_rfl) (by kernel_rfl) v a w
theorem hasUI (v:Vu)(a:TypeId)(w:J):(Rg (If 178 v) a 299 true).run Q w=.ok (.tuple #[If 178 v,G true]) w:=run_typeAssert_hasB underlying299 (by kernel_rfl) v a w
theorem mUI (x:Int)(y:Vu)(w:J):(Go.method 415 178 (Ag #[U O x,y]) "Unwrap").run Q w=.ok (287,Ag #[U O x,y]) w:=by kernel_rfl
inductive Ch where
 |f (n:Int)
 |s (n:Int) (c:Ch)
 |e (n:Int) (c:Ch)
 |i (n:Int) (c:Ch)
def Ch.v:Ch->Vu
 |.f n=>If 169 (U O n)
 |.s n c=>If 176 (Ag #[U O n,c.v])
 |.e n c=>If 177 (Ag #[U O n,c.v])
 |.i n c=>If 178 (Ag #[U O n,c.v])
def fdF:Ch->Option (List Vu)
 |.f n=>some [U O n]
 |.s _ c=>fdF c
 |.e _ c=>fdF c
 |.i _ c=>fdF c
def fdS:Ch->Option (List Vu)
 |.f _=>none
 |.s n c=>some [U O n,c.v]
 |.e _ c=>fdS c
 |.i _ c=>fdS c
def fdE:Ch->Option (List Vu)
 |.f _=>none
 |.s _ c=>fdE c
 |.e n c=>some [U O n,c.v]
 |.i _ c=>fdE c
def fdI:Ch->Option (List Vu)
 |.f _=>none
 |.s _ c=>fdI c
 |.e _ c=>fdI c
 |.i n c=>some [U O n,c.v]
def setN (w:J)(g:Nat):List Vu->J
 |[a]=>w.setCell ⟨g,0,none⟩ a
 |[a,b]=>(w.setCell ⟨g,0,none⟩ a).setCell ⟨g,1,none⟩ b
 |_=>w
def AsP (w:J)(g:Nat)(r:Option (List Vu))(e:Ending)(w':J):Prop:=(r=none/\e=Z (G false)/\Below w.heap.size w w')\/∃cs,r=some cs/\e=Z (G true)/\∃w1,Below w.heap.size w w1/\w'=setN w1 g cs
theorem Ch.ne (c:Ch):∃T u,c.v=If T u:=by cases c<;>exact⟨_,_,rfl⟩
theorem unw_c (n:Int)(v:Vu)(hv:∃T u,v=If T u)(w:J):Ec Q 287 #[Ag #[U O n,v]] w λe w'=>e=Z v/\Below w.heap.size w w':=by
 obtain⟨T,u,rfl⟩:=hv;go_enter func287,ntmps287;go_wp2;go_ret;exact⟨rfl,bFz.alloc lRz _⟩
theorem setF (a b:Addr)(x:Int)(c:Vu)(W:J)(g:W.cell? b=some (U O x))(d:W.cell? a=some c)(f:W.frozen? a=false):(Pz #[RV 169 a 390,RV 169 b 134]).run Q W=.ok (.tuple #[]) (W.setCell a (U O x)):=by
 rw[rls];simp only[Sem.run_bind,ptFa,ptF,Hz];simp[Lg,loadVar,isAgg,underlying,underlying169,g,Hz,dirF,storeVar,Value.cells,storeCells,Addr.add];rw[run_store Q W a _ _ (by rfl)];simp[d,f]
theorem setx:(∀(g b:Nat) (x y r o:Vu) (W:J) (t:x.oneCell'=true) (s:y.oneCell'=true) (n:W.cell? ⟨b,0,none⟩=some x) (m:W.cell? ⟨b,1,none⟩=some y) (f:W.cell? ⟨g,0,none⟩=some r) (l:W.frozen? ⟨g,0,none⟩=false) (d:W.cell? ⟨g,1,none⟩=some o) (k:W.frozen? ⟨g,1,none⟩=false),(Pz #[RV 176 ⟨g,0,none⟩ 409,RV 176 ⟨b,0,none⟩ 153]).run Q W=.ok (.tuple #[]) ((W.setCell ⟨g,0,none⟩ x).setCell ⟨g,1,none⟩ y))/\(∀(g b:Nat) (x y r o:Vu) (W:J) (t:x.oneCell'=true) (s:y.oneCell'=true) (n:W.cell? ⟨b,0,none⟩=some x) (m:W.cell? ⟨b,1,none⟩=some y) (f:W.cell? ⟨g,0,none⟩=some r) (l:W.frozen? ⟨g,0,none⟩=false) (d:W.cell? ⟨g,1,none⟩=some o) (k:W.frozen? ⟨g,1,none⟩=false),(Pz #[RV 177 ⟨g,0,none⟩ 409,RV 177 ⟨b,0,none⟩ 153]).run Q W=.ok (.tuple #[]) ((W.setCell ⟨g,0,none⟩ x).setCell ⟨g,1,none⟩ y))/\(∀(g b:Nat) (x y r o:Vu) (W:J) (t:x.oneCell'=true) (s:y.oneCell'=true) (n:W.cell? ⟨b,0,none⟩=some x) (m:W.cell? ⟨b,1,none⟩=some y) (f:W.cell? ⟨g,0,none⟩=some r) (l:W.frozen? ⟨g,0,none⟩=false) (d:W.cell? ⟨g,1,none⟩=some o) (k:W.frozen? ⟨g,1,none⟩=false),(Pz #[RV 178 ⟨g,0,none⟩ 409,RV 178 ⟨b,0,none⟩ 153]).run Q W=.ok (.tuple #[]) ((W.setCell ⟨g,0,none⟩ x).setCell ⟨g,1,none⟩ y)):=by
 refine⟨?c0,?c1,?c2⟩;case' c0=>have c:=0
 case' c1=>have a:=0
 case' c2=>have z:=0
 all_goals
  intro g b x y r o W t s n m f l d k
  rw[rls]
  first|(replace c:=c;simp only[Sem.run_bind,ptSa,ptS,Hz])|(replace a:=a;simp only[Sem.run_bind,ptEa,ptE,Hz])|(simp only[Sem.run_bind,ptIa,ptI,Hz])
  have A:=run_loadCells_list (P:=Q) (w:=W) ⟨b,0,none⟩ [x,y] (fun j v hv=>by
   match j,hv with
   |0,hv=>cases hv;exact n
   |1,hv=>cases hv;exact m
   | j+2,hv=>cases hv)
  have q:=run_store Q W ⟨g,0,none⟩ x .plain t;have p:=run_store Q (W.setCell ⟨g,0,none⟩ x) ⟨g,1,none⟩ y .plain s;have c1:(W.setCell ⟨g,0,none⟩ x).cell? ⟨g,1,none⟩=some o:=(World.cell?_setCell_other _ _ _ _ (by simp)).trans d;have B:(W.setCell ⟨g,0,none⟩ x).frozen? ⟨g,1,none⟩=false:=by rw[World.frozen?_setCell];exact k
  rw[f,l]at q;rw[c1,B]at p
  simp only[Option.isSome_some,if_true,Bool.false_eq_true,if_false]at q p
  first|(replace c:=c;simp[Lg,loadVar,isAgg,underlying,underlying176,Hz,dirS,storeVar,Value.cells])|(replace a:=a;simp[Lg,loadVar,isAgg,underlying,underlying177,Hz,dirE,storeVar,Value.cells])|(simp[Lg,loadVar,isAgg,underlying,underlying178,Hz,dirI,storeVar,Value.cells])
  have u:Sem.run Q (loadCells ⟨b,0,none⟩ 2) W=.ok #[x,y] W:=A;rw[u]
  simp[storeCells,Addr.add,Hz,q,p]
def setS:=setx.1
def setE:=setx.2.1
def setI:=setx.2.2
theorem aslF (c:Ch)(g u:Nat)(w:J)(F:Vu)(E:w.cell? ⟨g,0,none⟩=some F)(f0:w.frozen? ⟨g,0,none⟩=false)(M:w.cell? ⟨u,0,none⟩=some (Yp (some ⟨g,0,none⟩))):Ec Q 135 #[c.v,If 180 (Yp (some ⟨g,0,none⟩)),RV 180 ⟨u,0,none⟩ 150,RT 169] w (AsP w g (fdF c)):=by
 have aa:=@run_callFunc_extern Q 132 _ (λargs=>Tx (args.getD 0 (.tuple #[]))) func132 (by kernel_rfl) (by kernel_rfl) (by kernel_rfl) (by kernel_rfl);have Y:=@run_callFunc_extern Q 176 _ Pw func176 (by kernel_rfl) (by kernel_rfl) (by kernel_rfl) (by kernel_rfl);have R:=@run_callFunc_extern Q 293 _ (Kq "AssignableTo" Kd) func293 (by kernel_rfl) (by kernel_rfl) (by kernel_rfl) (by kernel_rfl);have X:=@run_callFunc_extern Q 177 _ (Tv (Kx "reflectlite.Value.Elem" 0) Lv) func177 (by kernel_rfl) (by kernel_rfl) (by kernel_rfl) (by kernel_rfl);have V:=@run_callFunc_extern Q 178 _ Pz func178 (by kernel_rfl) (by kernel_rfl) (by kernel_rfl) (by kernel_rfl);have mA:=mAssg;have tF:=tOF;have tS:=tOS;have tE:=tOE;have tI:=tOI;have a1:=asFF;have a2:=asFS;have a3:=asFE;have a4:=asFI;have n1:=noAsF;have n2:=noAsS;have n3:=noAsE;have n4:=noAsI;have n5:=noUF;have n6:=noLF;have n7:=hasUS;have n8:=hasUE;have n9:=hasUI;have m1:=mUS;have m2:=mUE;have m3:=mUI;obtain⟨W,p⟩:∃W,W=w.alloc (Fc #[Yp (some ⟨1,180,none⟩),Yp (some ⟨u,0,none⟩),U Ou 150] 244):=⟨_,rfl⟩;obtain⟨q,s⟩:∃q,q=w.heap.size:=⟨_,rfl⟩;have A:Below w.heap.size w W:=by rw[p];exact bFz.alloc lRz _
 have c0:W.cell? ⟨q,0,none⟩=some (Yp (some ⟨1,180,none⟩)):=by rw[p,s];exact Qf rfl rfl
 have c1:W.cell? ⟨q,1,none⟩=some (Yp (some ⟨u,0,none⟩)):=by rw[p,s];exact Qf rfl rfl
 have c2:W.cell? ⟨q,2,none⟩=some (U Ou 150):=by rw[p,s];exact Qf rfl rfl
 have KC:Hid (∀W',Below W.heap.size W W'->W'.cell? ⟨q,0,none⟩=some (Yp (some ⟨1,180,none⟩))/\W'.cell? ⟨q,1,none⟩=some (Yp (some ⟨u,0,none⟩))/\W'.cell? ⟨q,2,none⟩=some (U Ou 150)/\W'.cell? ⟨u,0,none⟩=some (Yp (some ⟨g,0,none⟩))/\W'.cell? ⟨g,0,none⟩=some F/\W'.frozen? ⟨g,0,none⟩=false):=λW' hb=>by have z:=λ(a:Addr) (v:Vu) (h:W.cell? a=some v)=>(hb.cell (block_lt_of_cell h)).trans h;have y:=λ(a:Addr) (v:Vu) (h:w.cell? a=some v)=>z a v ((A.cell (block_lt_of_cell h)).trans h);have f:=λ(a:Addr) (v:Vu) (h:w.cell? a=some v) (hf:w.frozen? a=false)=>((A.trans (hb.mono A.size)).frozen (block_lt_of_cell h)).trans hf;exact⟨z _ _ c0,z _ _ c1,z _ _ c2,y _ _ M,y _ _ E,f _ _ E f0⟩
 have I:=Hm A;clear A c0 c1 c2 M E f0;go_enter func135,ntmps135;go_upto_region 1 with fail
 rw[<- p,<- s];clear p s;go_loopw [0] (λv wr=>∃d:Ch,v=d.v/\fdF c=fdF d/\Below W.heap.size W wr) (λv _=>SizeOf.sizeOf v)
 case atStart=>exact⟨c,rfl,rfl,bFz⟩
 obtain⟨d,rfl,t,m⟩:=hrel;obtain⟨d0,d1,d2,du,B,H⟩:=KC.o wr m;have j:=Hm (And.intro t m);clear t m;rcases d with n|⟨n,d⟩|⟨n,d⟩|⟨n,d⟩
 . simp only[Ch.v];have el:=elVF ⟨u,0,none⟩ ⟨g,0,none⟩ wr du;have vo:=vOF n wr;have st:=setF ⟨g,0,none⟩ ⟨wr.heap.size,0,none⟩ n F (wr.alloc (Fc #[U O n] 169)) (Qf rfl rfl) (Qd B) (((bFz.alloc lRz _).frozen (block_lt_of_cell B)).trans H);go_wp2;go_ret;refine .inr ⟨_,j.o.1,rfl,_,?_,rfl⟩;exact(I.o.trans (j.o.2.mono I.o.size)).alloc (Ky I.o.size j.o.2.size) _
 . obtain⟨C,r,b⟩:=d.ne;have l:=Hm b;simp only[Ch.v];rw[b];have D:=Hm (unw_c n (If C r) ⟨_,_,rfl⟩ wr);clear b;(go_wp2_with (go_at_call 287;refine D.o.mono ?_;rintro e L ⟨rfl,k⟩));(go_roundw);(case rel=>exact⟨d,l.o.symm,j.o.1,j.o.2.trans (k.mono j.o.2.size)⟩);case measure=>simp;omega
 . obtain⟨C,r,b⟩:=d.ne;have l:=Hm b;simp only[Ch.v];rw[b];have D:=Hm (unw_c n (If C r) ⟨_,_,rfl⟩ wr);clear b;(go_wp2_with (go_at_call 287;refine D.o.mono ?_;rintro e L ⟨rfl,k⟩));(go_roundw);(case rel=>exact⟨d,l.o.symm,j.o.1,j.o.2.trans (k.mono j.o.2.size)⟩);case measure=>simp;omega
 obtain⟨C,r,b⟩:=d.ne;have l:=Hm b;simp only[Ch.v];rw[b];have D:=Hm (unw_c n (If C r) ⟨_,_,rfl⟩ wr);clear b;go_wp2_with (go_at_call 287;refine D.o.mono ?_;rintro e L ⟨rfl,k⟩)
 go_roundw
 case rel=>exact⟨d,l.o.symm,j.o.1,j.o.2.trans (k.mono j.o.2.size)⟩
 case measure=>simp;omega
theorem aslS (c:Ch)(g u:Nat)(w:J)(L I:Vu)(H:w.cell? ⟨g,0,none⟩=some L)(f0:w.frozen? ⟨g,0,none⟩=false)(F:w.cell? ⟨g,1,none⟩=some I)(f1:w.frozen? ⟨g,1,none⟩=false)(X:w.cell? ⟨u,0,none⟩=some (Yp (some ⟨g,0,none⟩))):Ec Q 135 #[c.v,If 181 (Yp (some ⟨g,0,none⟩)),RV 181 ⟨u,0,none⟩ 150,RT 176] w (AsP w g (fdS c)):=by
 have ad:=@run_callFunc_extern Q 132 _ (λargs=>Tx (args.getD 0 (.tuple #[]))) func132 (by kernel_rfl) (by kernel_rfl) (by kernel_rfl) (by kernel_rfl);have ac:=@run_callFunc_extern Q 176 _ Pw func176 (by kernel_rfl) (by kernel_rfl) (by kernel_rfl) (by kernel_rfl);have Y:=@run_callFunc_extern Q 293 _ (Kq "AssignableTo" Kd) func293 (by kernel_rfl) (by kernel_rfl) (by kernel_rfl) (by kernel_rfl);have ab:=@run_callFunc_extern Q 177 _ (Tv (Kx "reflectlite.Value.Elem" 0) Lv) func177 (by kernel_rfl) (by kernel_rfl) (by kernel_rfl) (by kernel_rfl);have aa:=@run_callFunc_extern Q 178 _ Pz func178 (by kernel_rfl) (by kernel_rfl) (by kernel_rfl) (by kernel_rfl);have mA:=mAssg;have tF:=tOF;have tS:=tOS;have tE:=tOE;have tI:=tOI;have a1:=asSF;have a2:=asSS;have a3:=asSE;have a4:=asSI;have n1:=noAsF;have n2:=noAsS;have n3:=noAsE;have n4:=noAsI;have n5:=noUF;have n6:=noLF;have n7:=hasUS;have n8:=hasUE;have n9:=hasUI;have m1:=mUS;have m2:=mUE;have m3:=mUI;obtain⟨W,s⟩:∃W,W=w.alloc (Fc #[Yp (some ⟨1,181,none⟩),Yp (some ⟨u,0,none⟩),U Ou 150] 244):=⟨_,rfl⟩;obtain⟨q,t⟩:∃q,q=w.heap.size:=⟨_,rfl⟩;have B:Below w.heap.size w W:=by rw[s];exact bFz.alloc lRz _
 have c0:W.cell? ⟨q,0,none⟩=some (Yp (some ⟨1,181,none⟩)):=by rw[s,t];exact Qf rfl rfl
 have c1:W.cell? ⟨q,1,none⟩=some (Yp (some ⟨u,0,none⟩)):=by rw[s,t];exact Qf rfl rfl
 have c2:W.cell? ⟨q,2,none⟩=some (U Ou 150):=by rw[s,t];exact Qf rfl rfl
 have KC:Hid (∀W',Below W.heap.size W W'->W'.cell? ⟨q,0,none⟩=some (Yp (some ⟨1,181,none⟩))/\W'.cell? ⟨q,1,none⟩=some (Yp (some ⟨u,0,none⟩))/\W'.cell? ⟨q,2,none⟩=some (U Ou 150)/\W'.cell? ⟨u,0,none⟩=some (Yp (some ⟨g,0,none⟩))/\W'.cell? ⟨g,0,none⟩=some L/\W'.frozen? ⟨g,0,none⟩=false/\W'.cell? ⟨g,1,none⟩=some I/\W'.frozen? ⟨g,1,none⟩=false):=λW' hb=>by have z:=λ(a:Addr) (v:Vu) (h:W.cell? a=some v)=>(hb.cell (block_lt_of_cell h)).trans h;have y:=λ(a:Addr) (v:Vu) (h:w.cell? a=some v)=>z a v ((B.cell (block_lt_of_cell h)).trans h);have f:=λ(a:Addr) (v:Vu) (h:w.cell? a=some v) (hf:w.frozen? a=false)=>((B.trans (hb.mono B.size)).frozen (block_lt_of_cell h)).trans hf;exact⟨z _ _ c0,z _ _ c1,z _ _ c2,y _ _ X,y _ _ H,f _ _ H f0,y _ _ F,f _ _ F f1⟩
 have E:=Hm B;clear B c0 c1 c2 X H f0 F f1;go_enter func135,ntmps135;go_upto_region 1 with fail
 rw[<- s,<- t];clear s t;go_loopw [0] (λv wr=>∃d:Ch,v=d.v/\fdS c=fdS d/\Below W.heap.size W wr) (λv _=>SizeOf.sizeOf v)
 case atStart=>exact⟨c,rfl,rfl,bFz⟩
 obtain⟨d,rfl,A,p⟩:=hrel;obtain⟨d0,d1,d2,du,D,R,C,M⟩:=KC.o wr p;have j:=Hm (And.intro A p);clear A p;rcases d with n|⟨n,d⟩|⟨n,d⟩|⟨n,d⟩
 . simp only[Ch.v];go_wp2;go_ret;exact .inl ⟨j.o.1,rfl,E.o.trans (j.o.2.mono E.o.size)⟩
 . obtain⟨m,l,b⟩:=d.ne;have k:=Hm b;simp only[Ch.v];rw[b];have el:=elVS ⟨u,0,none⟩ ⟨g,0,none⟩ wr du;have vo:=vOS (U O n) (If m l) wr;have st:=setS g wr.heap.size (U O n) (If m l) L I (wr.alloc (Fc #[U O n,If m l] 176)) rfl rfl (Qf rfl rfl) (Qf rfl rfl) (Qd D) (((bFz.alloc lRz _).frozen (block_lt_of_cell D)).trans R) (Qd C) (((bFz.alloc lRz _).frozen (block_lt_of_cell C)).trans M);clear b;go_wp2;go_ret;refine .inr ⟨_,j.o.1,rfl,wr.alloc (Fc #[U O n,If m l] 176),?_,?_⟩
   . exact(E.o.trans (j.o.2.mono E.o.size)).alloc (Ky E.o.size j.o.2.size) _
   simp only[setN];rw[k.o]
 . obtain⟨m,l,b⟩:=d.ne;have k:=Hm b;simp only[Ch.v];rw[b];have V:=Hm (unw_c n (If m l) ⟨_,_,rfl⟩ wr);clear b;(go_wp2_with (go_at_call 287;refine V.o.mono ?_;rintro e w2 ⟨rfl,r⟩));(go_roundw);(case rel=>exact⟨d,k.o.symm,j.o.1,j.o.2.trans (r.mono j.o.2.size)⟩);case measure=>simp;omega
 obtain⟨m,l,b⟩:=d.ne;have k:=Hm b;simp only[Ch.v];rw[b];have V:=Hm (unw_c n (If m l) ⟨_,_,rfl⟩ wr);clear b;go_wp2_with (go_at_call 287;refine V.o.mono ?_;rintro e w2 ⟨rfl,r⟩)
 go_roundw
 case rel=>exact⟨d,k.o.symm,j.o.1,j.o.2.trans (r.mono j.o.2.size)⟩
 case measure=>simp;omega
theorem aslE (c:Ch)(g u:Nat)(w:J)(L I:Vu)(H:w.cell? ⟨g,0,none⟩=some L)(f0:w.frozen? ⟨g,0,none⟩=false)(F:w.cell? ⟨g,1,none⟩=some I)(f1:w.frozen? ⟨g,1,none⟩=false)(X:w.cell? ⟨u,0,none⟩=some (Yp (some ⟨g,0,none⟩))):Ec Q 135 #[c.v,If 182 (Yp (some ⟨g,0,none⟩)),RV 182 ⟨u,0,none⟩ 150,RT 177] w (AsP w g (fdE c)):=by
 have ad:=@run_callFunc_extern Q 132 _ (λargs=>Tx (args.getD 0 (.tuple #[]))) func132 (by kernel_rfl) (by kernel_rfl) (by kernel_rfl) (by kernel_rfl);have ac:=@run_callFunc_extern Q 176 _ Pw func176 (by kernel_rfl) (by kernel_rfl) (by kernel_rfl) (by kernel_rfl);have Y:=@run_callFunc_extern Q 293 _ (Kq "AssignableTo" Kd) func293 (by kernel_rfl) (by kernel_rfl) (by kernel_rfl) (by kernel_rfl);have ab:=@run_callFunc_extern Q 177 _ (Tv (Kx "reflectlite.Value.Elem" 0) Lv) func177 (by kernel_rfl) (by kernel_rfl) (by kernel_rfl) (by kernel_rfl);have aa:=@run_callFunc_extern Q 178 _ Pz func178 (by kernel_rfl) (by kernel_rfl) (by kernel_rfl) (by kernel_rfl);have mA:=mAssg;have tF:=tOF;have tS:=tOS;have tE:=tOE;have tI:=tOI;have a1:=asEF;have a2:=asES;have a3:=asEE;have a4:=asEI;have n1:=noAsF;have n2:=noAsS;have n3:=noAsE;have n4:=noAsI;have n5:=noUF;have n6:=noLF;have n7:=hasUS;have n8:=hasUE;have n9:=hasUI;have m1:=mUS;have m2:=mUE;have m3:=mUI;obtain⟨W,s⟩:∃W,W=w.alloc (Fc #[Yp (some ⟨1,182,none⟩),Yp (some ⟨u,0,none⟩),U Ou 150] 244):=⟨_,rfl⟩;obtain⟨q,t⟩:∃q,q=w.heap.size:=⟨_,rfl⟩;have B:Below w.heap.size w W:=by rw[s];exact bFz.alloc lRz _
 have c0:W.cell? ⟨q,0,none⟩=some (Yp (some ⟨1,182,none⟩)):=by rw[s,t];exact Qf rfl rfl
 have c1:W.cell? ⟨q,1,none⟩=some (Yp (some ⟨u,0,none⟩)):=by rw[s,t];exact Qf rfl rfl
 have c2:W.cell? ⟨q,2,none⟩=some (U Ou 150):=by rw[s,t];exact Qf rfl rfl
 have KC:Hid (∀W',Below W.heap.size W W'->W'.cell? ⟨q,0,none⟩=some (Yp (some ⟨1,182,none⟩))/\W'.cell? ⟨q,1,none⟩=some (Yp (some ⟨u,0,none⟩))/\W'.cell? ⟨q,2,none⟩=some (U Ou 150)/\W'.cell? ⟨u,0,none⟩=some (Yp (some ⟨g,0,none⟩))/\W'.cell? ⟨g,0,none⟩=some L/\W'.frozen? ⟨g,0,none⟩=false/\W'.cell? ⟨g,1,none⟩=some I/\W'.frozen? ⟨g,1,none⟩=false):=λW' hb=>by have z:=λ(a:Addr) (v:Vu) (h:W.cell? a=some v)=>(hb.cell (block_lt_of_cell h)).trans h;have y:=λ(a:Addr) (v:Vu) (h:w.cell? a=some v)=>z a v ((B.cell (block_lt_of_cell h)).trans h);have f:=λ(a:Addr) (v:Vu) (h:w.cell? a=some v) (hf:w.frozen? a=false)=>((B.trans (hb.mono B.size)).frozen (block_lt_of_cell h)).trans hf;exact⟨z _ _ c0,z _ _ c1,z _ _ c2,y _ _ X,y _ _ H,f _ _ H f0,y _ _ F,f _ _ F f1⟩
 have E:=Hm B;clear B c0 c1 c2 X H f0 F f1;go_enter func135,ntmps135;go_upto_region 1 with fail
 rw[<- s,<- t];clear s t;go_loopw [0] (λv wr=>∃d:Ch,v=d.v/\fdE c=fdE d/\Below W.heap.size W wr) (λv _=>SizeOf.sizeOf v)
 case atStart=>exact⟨c,rfl,rfl,bFz⟩
 obtain⟨d,rfl,A,p⟩:=hrel;obtain⟨d0,d1,d2,du,D,R,C,M⟩:=KC.o wr p;have j:=Hm (And.intro A p);clear A p;rcases d with n|⟨n,d⟩|⟨n,d⟩|⟨n,d⟩
 . simp only[Ch.v];go_wp2;go_ret;exact .inl ⟨j.o.1,rfl,E.o.trans (j.o.2.mono E.o.size)⟩
 . obtain⟨m,l,b⟩:=d.ne;have k:=Hm b;simp only[Ch.v];rw[b];have V:=Hm (unw_c n (If m l) ⟨_,_,rfl⟩ wr);clear b;(go_wp2_with (go_at_call 287;refine V.o.mono ?_;rintro e w2 ⟨rfl,r⟩));(go_roundw);(case rel=>exact⟨d,k.o.symm,j.o.1,j.o.2.trans (r.mono j.o.2.size)⟩);case measure=>simp;omega
 . obtain⟨m,l,b⟩:=d.ne;have k:=Hm b;simp only[Ch.v];rw[b];have el:=elVE ⟨u,0,none⟩ ⟨g,0,none⟩ wr du;have vo:=vOE (U O n) (If m l) wr;have st:=setE g wr.heap.size (U O n) (If m l) L I (wr.alloc (Fc #[U O n,If m l] 177)) rfl rfl (Qf rfl rfl) (Qf rfl rfl) (Qd D) (((bFz.alloc lRz _).frozen (block_lt_of_cell D)).trans R) (Qd C) (((bFz.alloc lRz _).frozen (block_lt_of_cell C)).trans M);clear b;go_wp2;go_ret;refine .inr ⟨_,j.o.1,rfl,wr.alloc (Fc #[U O n,If m l] 177),?_,?_⟩
   . exact(E.o.trans (j.o.2.mono E.o.size)).alloc (Ky E.o.size j.o.2.size) _
   simp only[setN];rw[k.o]
 obtain⟨m,l,b⟩:=d.ne;have k:=Hm b;simp only[Ch.v];rw[b];have V:=Hm (unw_c n (If m l) ⟨_,_,rfl⟩ wr);clear b;go_wp2_with (go_at_call 287;refine V.o.mono ?_;rintro e w2 ⟨rfl,r⟩)
 go_roundw
 case rel=>exact⟨d,k.o.symm,j.o.1,j.o.2.trans (r.mono j.o.2.size)⟩
 case measure=>simp;omega
theorem aslI (c:Ch)(g u:Nat)(w:J)(L I:Vu)(H:w.cell? ⟨g,0,none⟩=some L)(f0:w.frozen? ⟨g,0,none⟩=false)(F:w.cell? ⟨g,1,none⟩=some I)(f1:w.frozen? ⟨g,1,none⟩=false)(X:w.cell? ⟨u,0,none⟩=some (Yp (some ⟨g,0,none⟩))):Ec Q 135 #[c.v,If 183 (Yp (some ⟨g,0,none⟩)),RV 183 ⟨u,0,none⟩ 150,RT 178] w (AsP w g (fdI c)):=by
 have ad:=@run_callFunc_extern Q 132 _ (λargs=>Tx (args.getD 0 (.tuple #[]))) func132 (by kernel_rfl) (by kernel_rfl) (by kernel_rfl) (by kernel_rfl);have ac:=@run_callFunc_extern Q 176 _ Pw func176 (by kernel_rfl) (by kernel_rfl) (by kernel_rfl) (by kernel_rfl);have Y:=@run_callFunc_extern Q 293 _ (Kq "AssignableTo" Kd) func293 (by kernel_rfl) (by kernel_rfl) (by kernel_rfl) (by kernel_rfl);have ab:=@run_callFunc_extern Q 177 _ (Tv (Kx "reflectlite.Value.Elem" 0) Lv) func177 (by kernel_rfl) (by kernel_rfl) (by kernel_rfl) (by kernel_rfl);have aa:=@run_callFunc_extern Q 178 _ Pz func178 (by kernel_rfl) (by kernel_rfl) (by kernel_rfl) (by kernel_rfl);have mA:=mAssg;have tF:=tOF;have tS:=tOS;have tE:=tOE;have tI:=tOI;have a1:=asIF;have a2:=asIS;have a3:=asIE;have a4:=asII;have n1:=noAsF;have n2:=noAsS;have n3:=noAsE;have n4:=noAsI;have n5:=noUF;have n6:=noLF;have n7:=hasUS;have n8:=hasUE;have n9:=hasUI;have m1:=mUS;have m2:=mUE;have m3:=mUI;obtain⟨W,s⟩:∃W,W=w.alloc (Fc #[Yp (some ⟨1,183,none⟩),Yp (some ⟨u,0,none⟩),U Ou 150] 244):=⟨_,rfl⟩;obtain⟨q,t⟩:∃q,q=w.heap.size:=⟨_,rfl⟩;have B:Below w.heap.size w W:=by rw[s];exact bFz.alloc lRz _
 have c0:W.cell? ⟨q,0,none⟩=some (Yp (some ⟨1,183,none⟩)):=by rw[s,t];exact Qf rfl rfl
 have c1:W.cell? ⟨q,1,none⟩=some (Yp (some ⟨u,0,none⟩)):=by rw[s,t];exact Qf rfl rfl
 have c2:W.cell? ⟨q,2,none⟩=some (U Ou 150):=by rw[s,t];exact Qf rfl rfl
 have KC:Hid (∀W',Below W.heap.size W W'->W'.cell? ⟨q,0,none⟩=some (Yp (some ⟨1,183,none⟩))/\W'.cell? ⟨q,1,none⟩=some (Yp (some ⟨u,0,none⟩))/\W'.cell? ⟨q,2,none⟩=some (U Ou 150)/\W'.cell? ⟨u,0,none⟩=some (Yp (some ⟨g,0,none⟩))/\W'.cell? ⟨g,0,none⟩=some L/\W'.frozen? ⟨g,0,none⟩=false/\W'.cell? ⟨g,1,none⟩=some I/\W'.frozen? ⟨g,1,none⟩=false):=λW' hb=>by have z:=λ(a:Addr) (v:Vu) (h:W.cell? a=some v)=>(hb.cell (block_lt_of_cell h)).trans h;have y:=λ(a:Addr) (v:Vu) (h:w.cell? a=some v)=>z a v ((B.cell (block_lt_of_cell h)).trans h);have f:=λ(a:Addr) (v:Vu) (h:w.cell? a=some v) (hf:w.frozen? a=false)=>((B.trans (hb.mono B.size)).frozen (block_lt_of_cell h)).trans hf;exact⟨z _ _ c0,z _ _ c1,z _ _ c2,y _ _ X,y _ _ H,f _ _ H f0,y _ _ F,f _ _ F f1⟩
 have E:=Hm B;clear B c0 c1 c2 X H f0 F f1;go_enter func135,ntmps135;go_upto_region 1 with fail
 rw[<- s,<- t];clear s t;go_loopw [0] (λv wr=>∃d:Ch,v=d.v/\fdI c=fdI d/\Below W.heap.size W wr) (λv _=>SizeOf.sizeOf v)
 case atStart=>exact⟨c,rfl,rfl,bFz⟩
 obtain⟨d,rfl,A,p⟩:=hrel;obtain⟨d0,d1,d2,du,D,R,C,M⟩:=KC.o wr p;have j:=Hm (And.intro A p);clear A p;rcases d with n|⟨n,d⟩|⟨n,d⟩|⟨n,d⟩
 . simp only[Ch.v];go_wp2;go_ret;exact .inl ⟨j.o.1,rfl,E.o.trans (j.o.2.mono E.o.size)⟩
 . obtain⟨m,l,b⟩:=d.ne;have k:=Hm b;simp only[Ch.v];rw[b];have V:=Hm (unw_c n (If m l) ⟨_,_,rfl⟩ wr);clear b;(go_wp2_with (go_at_call 287;refine V.o.mono ?_;rintro e w2 ⟨rfl,r⟩));(go_roundw);(case rel=>exact⟨d,k.o.symm,j.o.1,j.o.2.trans (r.mono j.o.2.size)⟩);case measure=>simp;omega
 . obtain⟨m,l,b⟩:=d.ne;have k:=Hm b;simp only[Ch.v];rw[b];have V:=Hm (unw_c n (If m l) ⟨_,_,rfl⟩ wr);clear b;(go_wp2_with (go_at_call 287;refine V.o.mono ?_;rintro e w2 ⟨rfl,r⟩));(go_roundw);(case rel=>exact⟨d,k.o.symm,j.o.1,j.o.2.trans (r.mono j.o.2.size)⟩);case measure=>simp;omega
 obtain⟨m,l,b⟩:=d.ne;have k:=Hm b;simp only[Ch.v];rw[b];have el:=elVI ⟨u,0,none⟩ ⟨g,0,none⟩ wr du;have vo:=vOI (U O n) (If m l) wr;have st:=setI g wr.heap.size (U O n) (If m l) L I (wr.alloc (Fc #[U O n,If m l] 178)) rfl rfl (Qf rfl rfl) (Qf rfl rfl) (Qd D) (((bFz.alloc lRz _).frozen (block_lt_of_cell D)).trans R) (Qd C) (((bFz.alloc lRz _).frozen (block_lt_of_cell C)).trans M);clear b;go_wp2;go_ret;refine .inr ⟨_,j.o.1,rfl,wr.alloc (Fc #[U O n,If m l] 178),?_,?_⟩
 . exact(E.o.trans (j.o.2.mono E.o.size)).alloc (Ky E.o.size j.o.2.size) _
 simp only[setN];rw[k.o]
theorem AsP.val {r:Option (List Vu)}{e:Ending}{d:J}(h:AsP w g r e d):∃b,e=Z (G b)/\AsP w g r (Z (G b)) d:=by
 rcases h with ⟨c,rfl,a⟩|⟨cs,c,rfl,a⟩
 . exact⟨false,rfl,.inl ⟨c,rfl,a⟩⟩
 exact⟨true,rfl,.inr ⟨cs,c,rfl,a⟩⟩
theorem AsP.up {w W}{r:Option (List Vu)}{e:Ending}{f:J}(a:Below w.heap.size w W)(h:AsP W g r e f):AsP w g r e f:=by
 rcases h with ⟨d,c,b⟩|⟨cs,d,c,j,b,k⟩
 . exact .inl ⟨d,c,a.trans (b.mono a.size)⟩
 exact .inr ⟨cs,d,c,j,a.trans (b.mono a.size),k⟩
theorem As_nil (t:Vu)(w:J):Ec Q 81 #[Nf,t] w λe w'=>e=Z (G false)/\w'=w:=by
 go_enter func81,ntmps81;go_wp2;go_ret;exact⟨rfl,rfl⟩
theorem Jd {cs:Array Vu}{t:TypeId}{o:Nat}{v:Vu}(h:q=w.heap.size/\cs[o]?=some v):(w.alloc (Fc cs t)).cell? ⟨q,o,none⟩=some v:=by
 obtain⟨rfl,h⟩:=h;rw[World.cell?_alloc_at _ _ _ _ rfl];simpa using h
theorem AsF (c:Ch)(g:Nat)(w:J)(k:Vu)(j:w.cell? ⟨g,0,none⟩=some k)(C:w.frozen? ⟨g,0,none⟩=false)(p:w.cell? ⟨0,0,none⟩=some (RT 84)):Ec Q 81 #[c.v,If 180 (Yp (some ⟨g,0,none⟩))] w (AsP w g (fdF c)):=by
 have A:=@run_callFunc_extern Q 132 _ (λargs=>Tx (args.getD 0 (.tuple #[]))) func132 (by kernel_rfl) (by kernel_rfl) (by kernel_rfl) (by kernel_rfl);have z:=@run_callFunc_extern Q 133 _ (Mv (Kx "reflectlite.Value.Type" 0) (λt _ _ _=>Pj t)) func133 (by kernel_rfl) (by kernel_rfl) (by kernel_rfl) (by kernel_rfl);have y:=@run_callFunc_extern Q 134 _ (Tv (Kx "reflectlite.Value.IsNil" 0) Hf) func134 (by kernel_rfl) (by kernel_rfl) (by kernel_rfl) (by kernel_rfl);have u:=@run_callFunc_extern Q 281 _ (Hy λt=>do pure (U .u8 (<- Rtype.kind t))) func281 (by kernel_rfl) (by kernel_rfl) (by kernel_rfl) (by kernel_rfl);have s:=@run_callFunc_extern Q 295 _ (Pq Py) func295 (by kernel_rfl) (by kernel_rfl) (by kernel_rfl) (by kernel_rfl);have r:=@run_callFunc_extern Q 296 _ (Kq "Implements" Lh) func296 (by kernel_rfl) (by kernel_rfl) (by kernel_rfl) (by kernel_rfl);have L:=vOfF;have ty:=tyF;have X:=kdPF;have V:=kdF;have el:=elF;have Y:=imF;have B:=λ(a:Addr) (v:Vu) (h:w.cell? a=some v) (hf:w.frozen? a=false)=>((((Ly w.heap.size w).alloc lRz (Fc #[Yp (some ⟨g,0,none⟩)] 180)).alloc (by simp) (Fc #[Yp (some ⟨1,180,none⟩),Yp (some ⟨w.heap.size,0,none⟩),U Ou 150] 244)).frozen (block_lt_of_cell h)).trans hf;obtain⟨W,b⟩:∃W,W=(w.alloc (Fc #[Yp (some ⟨g,0,none⟩)] 180)).alloc (Fc #[Yp (some ⟨1,180,none⟩),Yp (some ⟨w.heap.size,0,none⟩),U Ou 150] 244):=⟨_,rfl⟩;obtain⟨q,f⟩:∃q,q=w.heap.size:=⟨_,rfl⟩;have n:W.cell? ⟨q,0,none⟩=some (Yp (some ⟨g,0,none⟩)):=by rw[b,f];exact Qd (Qf rfl rfl)
 have D:Hid (Ec Q 135 #[c.v,If 180 (Yp (some ⟨g,0,none⟩)),RV 180 ⟨q,0,none⟩ 150,RT 169] W (AsP W g (fdF c))):=by have h:=aslF c g q W k (by rw[b];exact Qd (Qd j)) (by rw[b];exact B _ _ j C) n;exact h
 have H:Hid (Below w.heap.size w W):=by show Below w.heap.size w W;rw[b];exact((Ly w.heap.size w).alloc lRz _).alloc (by simp) _
 have c0:W.cell? ⟨q+1,0,none⟩=some (Yp (some ⟨1,180,none⟩)):=by rw[b,f];exact Jd (by simp)
 have c1:W.cell? ⟨q+1,1,none⟩=some (Yp (some ⟨q,0,none⟩)):=by rw[b,f];exact Jd (by simp)
 have c2:W.cell? ⟨q+1,2,none⟩=some (U Ou 150):=by rw[b,f];exact Jd (by simp)
 have E:W.cell? ⟨0,0,none⟩=some (RT 84):=by rw[b];exact Qd (Qd p)
 have R:=nilF ⟨q,0,none⟩ ⟨g,0,none⟩ W n;obtain⟨T',M,d⟩:=c.ne;rw[d]at D;rw[d];clear d B j C p;go_enter func81,ntmps81;go_upto_region 6 with fail
 rw[<- b,<- f];clear b f;go_wp2_with (go_at_call 135;refine D.o.mono ?_;intro e I m;obtain⟨bb,rfl,l⟩:=m.val;have F:=Hm l;clear m l)
 go_ret;exact AsP.up H.o F.o
theorem AsS (c:Ch)(g:Nat)(w:J)(n m:Vu)(k:w.cell? ⟨g,0,none⟩=some n)(F:w.frozen? ⟨g,0,none⟩=false)(j:w.cell? ⟨g,1,none⟩=some m)(E:w.frozen? ⟨g,1,none⟩=false)(u:w.cell? ⟨0,0,none⟩=some (RT 84)):Ec Q 81 #[c.v,If 181 (Yp (some ⟨g,0,none⟩))] w (AsP w g (fdS c)):=by
 have D:=@run_callFunc_extern Q 132 _ (λargs=>Tx (args.getD 0 (.tuple #[]))) func132 (by kernel_rfl) (by kernel_rfl) (by kernel_rfl) (by kernel_rfl);have C:=@run_callFunc_extern Q 133 _ (Mv (Kx "reflectlite.Value.Type" 0) (λt _ _ _=>Pj t)) func133 (by kernel_rfl) (by kernel_rfl) (by kernel_rfl) (by kernel_rfl);have B:=@run_callFunc_extern Q 134 _ (Tv (Kx "reflectlite.Value.IsNil" 0) Hf) func134 (by kernel_rfl) (by kernel_rfl) (by kernel_rfl) (by kernel_rfl);have A:=@run_callFunc_extern Q 281 _ (Hy λt=>do pure (U .u8 (<- Rtype.kind t))) func281 (by kernel_rfl) (by kernel_rfl) (by kernel_rfl) (by kernel_rfl);have z:=@run_callFunc_extern Q 295 _ (Pq Py) func295 (by kernel_rfl) (by kernel_rfl) (by kernel_rfl) (by kernel_rfl);have y:=@run_callFunc_extern Q 296 _ (Kq "Implements" Lh) func296 (by kernel_rfl) (by kernel_rfl) (by kernel_rfl) (by kernel_rfl);have V:=vOfS;have ty:=tyS;have k1:=kdPS;have k2:=kdS;have el:=elS;have im:=imS;have l:=λ(a:Addr) (v:Vu) (h:w.cell? a=some v) (hf:w.frozen? a=false)=>((((Ly w.heap.size w).alloc lRz (Fc #[Yp (some ⟨g,0,none⟩)] 181)).alloc (by simp) (Fc #[Yp (some ⟨1,181,none⟩),Yp (some ⟨w.heap.size,0,none⟩),U Ou 150] 244)).frozen (block_lt_of_cell h)).trans hf;obtain⟨W,b⟩:∃W,W=(w.alloc (Fc #[Yp (some ⟨g,0,none⟩)] 181)).alloc (Fc #[Yp (some ⟨1,181,none⟩),Yp (some ⟨w.heap.size,0,none⟩),U Ou 150] 244):=⟨_,rfl⟩;obtain⟨q,f⟩:∃q,q=w.heap.size:=⟨_,rfl⟩;have s:W.cell? ⟨q,0,none⟩=some (Yp (some ⟨g,0,none⟩)):=by rw[b,f];exact Qd (Qf rfl rfl)
 have H:Hid (Ec Q 135 #[c.v,If 181 (Yp (some ⟨g,0,none⟩)),RV 181 ⟨q,0,none⟩ 150,RT 176] W (AsP W g (fdS c))):=by have h:=aslS c g q W n m (by rw[b];exact Qd (Qd k)) (by rw[b];exact l _ _ k F) (by rw[b];exact Qd (Qd j)) (by rw[b];exact l _ _ j E) s;exact h
 have M:Hid (Below w.heap.size w W):=by show Below w.heap.size w W;rw[b];exact((Ly w.heap.size w).alloc lRz _).alloc (by simp) _
 have c0:W.cell? ⟨q+1,0,none⟩=some (Yp (some ⟨1,181,none⟩)):=by rw[b,f];exact Jd (by simp)
 have c1:W.cell? ⟨q+1,1,none⟩=some (Yp (some ⟨q,0,none⟩)):=by rw[b,f];exact Jd (by simp)
 have c2:W.cell? ⟨q+1,2,none⟩=some (U Ou 150):=by rw[b,f];exact Jd (by simp)
 have I:W.cell? ⟨0,0,none⟩=some (RT 84):=by rw[b];exact Qd (Qd u)
 have Y:=nilS ⟨q,0,none⟩ ⟨g,0,none⟩ W s;obtain⟨T',X,d⟩:=c.ne;rw[d]at H;rw[d];clear d l k F u j E;go_enter func81,ntmps81;go_upto_region 6 with fail
 rw[<- b,<- f];clear b f;go_wp2_with (go_at_call 135;refine H.o.mono ?_;intro e R r;obtain⟨bb,rfl,p⟩:=r.val;have L:=Hm p;clear r p)
 go_ret;exact AsP.up M.o L.o
theorem AsE (c:Ch)(g:Nat)(w:J)(n m:Vu)(k:w.cell? ⟨g,0,none⟩=some n)(F:w.frozen? ⟨g,0,none⟩=false)(j:w.cell? ⟨g,1,none⟩=some m)(E:w.frozen? ⟨g,1,none⟩=false)(u:w.cell? ⟨0,0,none⟩=some (RT 84)):Ec Q 81 #[c.v,If 182 (Yp (some ⟨g,0,none⟩))] w (AsP w g (fdE c)):=by
 have D:=@run_callFunc_extern Q 132 _ (λargs=>Tx (args.getD 0 (.tuple #[]))) func132 (by kernel_rfl) (by kernel_rfl) (by kernel_rfl) (by kernel_rfl);have C:=@run_callFunc_extern Q 133 _ (Mv (Kx "reflectlite.Value.Type" 0) (λt _ _ _=>Pj t)) func133 (by kernel_rfl) (by kernel_rfl) (by kernel_rfl) (by kernel_rfl);have B:=@run_callFunc_extern Q 134 _ (Tv (Kx "reflectlite.Value.IsNil" 0) Hf) func134 (by kernel_rfl) (by kernel_rfl) (by kernel_rfl) (by kernel_rfl);have A:=@run_callFunc_extern Q 281 _ (Hy λt=>do pure (U .u8 (<- Rtype.kind t))) func281 (by kernel_rfl) (by kernel_rfl) (by kernel_rfl) (by kernel_rfl);have z:=@run_callFunc_extern Q 295 _ (Pq Py) func295 (by kernel_rfl) (by kernel_rfl) (by kernel_rfl) (by kernel_rfl);have y:=@run_callFunc_extern Q 296 _ (Kq "Implements" Lh) func296 (by kernel_rfl) (by kernel_rfl) (by kernel_rfl) (by kernel_rfl);have V:=vOfE;have ty:=tyE;have k1:=kdPE;have k2:=kdE;have el:=elE;have im:=imE;have l:=λ(a:Addr) (v:Vu) (h:w.cell? a=some v) (hf:w.frozen? a=false)=>((((Ly w.heap.size w).alloc lRz (Fc #[Yp (some ⟨g,0,none⟩)] 182)).alloc (by simp) (Fc #[Yp (some ⟨1,182,none⟩),Yp (some ⟨w.heap.size,0,none⟩),U Ou 150] 244)).frozen (block_lt_of_cell h)).trans hf;obtain⟨W,b⟩:∃W,W=(w.alloc (Fc #[Yp (some ⟨g,0,none⟩)] 182)).alloc (Fc #[Yp (some ⟨1,182,none⟩),Yp (some ⟨w.heap.size,0,none⟩),U Ou 150] 244):=⟨_,rfl⟩;obtain⟨q,f⟩:∃q,q=w.heap.size:=⟨_,rfl⟩;have s:W.cell? ⟨q,0,none⟩=some (Yp (some ⟨g,0,none⟩)):=by rw[b,f];exact Qd (Qf rfl rfl)
 have H:Hid (Ec Q 135 #[c.v,If 182 (Yp (some ⟨g,0,none⟩)),RV 182 ⟨q,0,none⟩ 150,RT 177] W (AsP W g (fdE c))):=by have h:=aslE c g q W n m (by rw[b];exact Qd (Qd k)) (by rw[b];exact l _ _ k F) (by rw[b];exact Qd (Qd j)) (by rw[b];exact l _ _ j E) s;exact h
 have M:Hid (Below w.heap.size w W):=by show Below w.heap.size w W;rw[b];exact((Ly w.heap.size w).alloc lRz _).alloc (by simp) _
 have c0:W.cell? ⟨q+1,0,none⟩=some (Yp (some ⟨1,182,none⟩)):=by rw[b,f];exact Jd (by simp)
 have c1:W.cell? ⟨q+1,1,none⟩=some (Yp (some ⟨q,0,none⟩)):=by rw[b,f];exact Jd (by simp)
 have c2:W.cell? ⟨q+1,2,none⟩=some (U Ou 150):=by rw[b,f];exact Jd (by simp)
 have I:W.cell? ⟨0,0,none⟩=some (RT 84):=by rw[b];exact Qd (Qd u)
 have Y:=nilE ⟨q,0,none⟩ ⟨g,0,none⟩ W s;obtain⟨T',X,d⟩:=c.ne;rw[d]at H;rw[d];clear d l k F u j E;go_enter func81,ntmps81;go_upto_region 6 with fail
 rw[<- b,<- f];clear b f;go_wp2_with (go_at_call 135;refine H.o.mono ?_;intro e R r;obtain⟨bb,rfl,p⟩:=r.val;have L:=Hm p;clear r p)
 go_ret;exact AsP.up M.o L.o
theorem AsI (c:Ch)(g:Nat)(w:J)(n m:Vu)(k:w.cell? ⟨g,0,none⟩=some n)(F:w.frozen? ⟨g,0,none⟩=false)(j:w.cell? ⟨g,1,none⟩=some m)(E:w.frozen? ⟨g,1,none⟩=false)(u:w.cell? ⟨0,0,none⟩=some (RT 84)):Ec Q 81 #[c.v,If 183 (Yp (some ⟨g,0,none⟩))] w (AsP w g (fdI c)):=by
 have D:=@run_callFunc_extern Q 132 _ (λargs=>Tx (args.getD 0 (.tuple #[]))) func132 (by kernel_rfl) (by kernel_rfl) (by kernel_rfl) (by kernel_rfl);have C:=@run_callFunc_extern Q 133 _ (Mv (Kx "reflectlite.Value.Type" 0) (λt _ _ _=>Pj t)) func133 (by kernel_rfl) (by kernel_rfl) (by kernel_rfl) (by kernel_rfl);have B:=@run_callFunc_extern Q 134 _ (Tv (Kx "reflectlite.Value.IsNil" 0) Hf) func134 (by kernel_rfl) (by kernel_rfl) (by kernel_rfl) (by kernel_rfl);have A:=@run_callFunc_extern Q 281 _ (Hy λt=>do pure (U .u8 (<- Rtype.kind t))) func281 (by kernel_rfl) (by kernel_rfl) (by kernel_rfl) (by kernel_rfl);have z:=@run_callFunc_extern Q 295 _ (Pq Py) func295 (by kernel_rfl) (by kernel_rfl) (by kernel_rfl) (by kernel_rfl);have y:=@run_callFunc_extern Q 296 _ (Kq "Implements" Lh) func296 (by kernel_rfl) (by kernel_rfl) (by kernel_rfl) (by kernel_rfl);have V:=vOfI;have ty:=tyI;have k1:=kdPI;have k2:=kdI;have el:=elI;have im:=imI;have l:=λ(a:Addr) (v:Vu) (h:w.cell? a=some v) (hf:w.frozen? a=false)=>((((Ly w.heap.size w).alloc lRz (Fc #[Yp (some ⟨g,0,none⟩)] 183)).alloc (by simp) (Fc #[Yp (some ⟨1,183,none⟩),Yp (some ⟨w.heap.size,0,none⟩),U Ou 150] 244)).frozen (block_lt_of_cell h)).trans hf;obtain⟨W,b⟩:∃W,W=(w.alloc (Fc #[Yp (some ⟨g,0,none⟩)] 183)).alloc (Fc #[Yp (some ⟨1,183,none⟩),Yp (some ⟨w.heap.size,0,none⟩),U Ou 150] 244):=⟨_,rfl⟩;obtain⟨q,f⟩:∃q,q=w.heap.size:=⟨_,rfl⟩;have s:W.cell? ⟨q,0,none⟩=some (Yp (some ⟨g,0,none⟩)):=by rw[b,f];exact Qd (Qf rfl rfl)
 have H:Hid (Ec Q 135 #[c.v,If 183 (Yp (some ⟨g,0,none⟩)),RV 183 ⟨q,0,none⟩ 150,RT 178] W (AsP W g (fdI c))):=by have h:=aslI c g q W n m (by rw[b];exact Qd (Qd k)) (by rw[b];exact l _ _ k F) (by rw[b];exact Qd (Qd j)) (by rw[b];exact l _ _ j E) s;exact h
 have M:Hid (Below w.heap.size w W):=by show Below w.heap.size w W;rw[b];exact((Ly w.heap.size w).alloc lRz _).alloc (by simp) _
 have c0:W.cell? ⟨q+1,0,none⟩=some (Yp (some ⟨1,183,none⟩)):=by rw[b,f];exact Jd (by simp)
 have c1:W.cell? ⟨q+1,1,none⟩=some (Yp (some ⟨q,0,none⟩)):=by rw[b,f];exact Jd (by simp)
 have c2:W.cell? ⟨q+1,2,none⟩=some (U Ou 150):=by rw[b,f];exact Jd (by simp)
 have I:W.cell? ⟨0,0,none⟩=some (RT 84):=by rw[b];exact Qd (Qd u)
 have Y:=nilI ⟨q,0,none⟩ ⟨g,0,none⟩ W s;obtain⟨T',X,d⟩:=c.ne;rw[d]at H;rw[d];clear d l k F u j E;go_enter func81,ntmps81;go_upto_region 6 with fail
 rw[<- b,<- f];clear b f;go_wp2_with (go_at_call 135;refine H.o.mono ?_;intro e R r;obtain⟨bb,rfl,p⟩:=r.val;have L:=Hm p;clear r p)
 go_ret;exact AsP.up M.o L.o
open Go.RowKit Go.Sort
def Upto (md:Mod)(n:Nat):Prop:=∀m,1<=m->m<n->OkTo md m (QH md m)
def atSec (n:Nat)(v:Vu):Vu:=If 176 (Ag #[U O (n:Int),v])
structure Fst (md:Mod)(n i:Nat)(er:Er):Prop where
 h1:1<=n
 h11:n<=11
 up:Upto md n
 hi:i<QH md n
 ok:OkTo md n i
 er:Js md n i (Qz md n i)=.error er
def VmP (w:J)(md:Mod)(e:Ending)(w':J):Prop :=
 (wfB md=false/\e=Z (.tuple #[Yp none,flt 1])/\Below w.heap.size w w') \/
 (wfB md=true/\∃n i er,Fst md n i er/\e=Z (.tuple #[Yp none,atSec n (atEnt i (erV er))])/\Below w.heap.size w w') \/
 (wfB md=true/\Upto md 12/\∃D w0 b q,w.heap.size<=b/\b<D/\Below w.heap.size w w0/\CD D w0/\e=Z (.tuple #[Yp (some ⟨q,0,none⟩),Nf])/\SecI D w0 b q [] md 12 0 w')
theorem bk_at {W q}{A:MdA}(k:Bk W q (mdC md A).toList)(h:Mod.Is 0 W md A.a1 A.a2 A.a3 A.a4 A.a5 A.a6 A.a7 A.a8 A.a9 A.a10 A.a11):Mod.At 0 W q 0 md :=
 ⟨A.a1,A.c1,A.a2,A.c2,A.a3,A.c3,A.a4,A.c4,A.a5,A.c5,A.a6,A.c6,A.a7,A.c7,A.a8,A.c8,A.a9,A.c9,A.a10,A.c10,A.a11,A.c11,⟨k.2.1 0 _ rfl,k.2.1 1 _ rfl,k.2.1 2 _ rfl,k.2.1 3 _ rfl,k.2.1 4 _ rfl,k.2.1 5 _ rfl,k.2.1 6 _ rfl,k.2.1 7 _ rfl,k.2.1 8 _ rfl,k.2.1 9 _ rfl,k.2.1 10 _ rfl,k.2.1 11 _ rfl,k.2.1 12 _ rfl⟩,h⟩
theorem ivm_c (md:Mod)(A:MdA)(w:J)(hI:Mod.Is 0 w md A.a1 A.a2 A.a3 A.a4 A.a5 A.a6 A.a7 A.a8 A.a9 A.a10 A.a11)(hL:Mod.LB 1048576 md)(hp:md.Pos):Ec Q 34 #[mdV md A] w (VmP w md):=by
 obtain⟨W,Y⟩:∃W,W=w.alloc (Fc (mdC md A) 48):=⟨_,rfl⟩;obtain⟨q0,j⟩:∃q,q=w.heap.size:=⟨_,rfl⟩;have k:Bk W q0 (mdC md A).toList:=by rw[Y,j];exact Bk.new
 have HB:Hid (Below w.heap.size w W):=by show Below w.heap.size w W;rw[Y];exact bFz.alloc lRz _
 have r:=hI.up (Qa HB.o);have L:=Hm (iwf_c md A.a1 A.c1 A.a2 A.c2 A.a3 A.c3 A.a4 A.c4 A.a5 A.c5 A.a6 A.c6 A.a7 A.c7 A.a8 A.c8 A.a9 A.c9 A.a10 A.c10 A.a11 A.c11 W r hL hp);have R:Hid (∀W',Below W.heap.size W W'->Mod.At 0 W' q0 0 md):=λW' I=>bk_at (k.keep I) (r.up (Qa I));have d0:=k.2.1 0 _ rfl;have d1:=k.2.1 1 _ rfl;have d2:=k.2.1 2 _ rfl;have d3:=k.2.1 3 _ rfl;have d4:=k.2.1 4 _ rfl;have d5:=k.2.1 5 _ rfl;have d6:=k.2.1 6 _ rfl;have d7:=k.2.1 7 _ rfl;have d8:=k.2.1 8 _ rfl;have d9:=k.2.1 9 _ rfl;have aj:=k.2.1 10 _ rfl;have ai:=k.2.1 11 _ rfl;have ah:=k.2.1 12 _ rfl;have HL:=Hm hL;clear k hI r hp hL;go_enter func34,ntmps34;go_upto_region 1 with fail
 rw[<- Y,<- j];clear Y j;go_wp2_with fail
 refine L.o.mono ?_;rintro e c ⟨rfl,d⟩;clear L d0 d1 d2 d3 d4 d5 d6 d7 d8 d9 aj ai ah;have f:=Hm (HB.o.trans (d.mono HB.o.size));have y:=Hm (R.o (c.alloc (.map #[] 0)) (d.trans (bFz.alloc d.size _)));clear d HB R;by_cases B:wfB md=true
 . rw[B];have HN:=Hm (inew_c c);(go_wp2_with (go_at_call 79;refine HN.o.mono ?_;rintro e w2 ⟨rfl,hS⟩));have p:=sec0 md hS;(have hC:CD (c.heap.size+1) (c.alloc (.map #[] 0)):=by have:=CD.at (c.alloc (.map #[] 0));simpa using this);have E:=f.o.size;have u:Hid (Below w.heap.size w (c.alloc (.map #[] 0))):=f.o.alloc E _;obtain⟨b,I⟩:∃b,b=c.heap.size:=⟨_,rfl⟩;obtain⟨q,j⟩:∃q,q=c.heap.size+1:=⟨_,rfl⟩;obtain⟨z,a⟩:∃z,z=c.alloc (.map #[] 0):=⟨_,rfl⟩;(have X:Hid (Mod.At 0 z q0 0 md):=by rw[a];exact y.o);rw[<- a,<- j,<- I]at p;rw[<- a]at u;rw[<- a,<- j]at hC;rw[<- j];(have H:b<q:=by omega);(have C:w.heap.size<=b:=by omega);have KS:=Hm (λ(n:Nat) (s:1<=n) (h11:n<=11) (V:J) (h:SecI q z b q [] md n 0 V)=>isect_c B HL.o X.o hC s h11 H h);have M:=Hm p;have HC:=Hm hC;have HW:=Hm B;clear B hS p hC j I a HN y X E f HL;(go_loopw [5] (λi wr=>∃n:Nat,1<=n/\n<=12/\i=U O n/\SecI q z b q [] md n 0 wr/\Upto md n) (λi _=>12-(intOf i).toNat));(case atStart=>exact⟨1,by omega,by omega,rfl,M.o,λm s h2=>by omega⟩);obtain⟨n,s,az,rfl,g,D⟩:=hrel;have HU:=Hm D;have t:=Hm g;clear D g M;by_cases F:n<=11
   . (have ay:(n:Int)<=11:=by omega);have HE:=Hm (KS.o n s F wr t.o);clear KS t;(go_wp2_with fail);refine HE.o.mono ?_;rintro e w3 (⟨i,er,hi,hok,he,rfl,hb3⟩|⟨hok,rfl,hs3⟩)
     . have HX:Hid (Fst md n i er):=⟨s,F,HU.o,hi,hok,he⟩;have ar:=Hm (u.o.trans (hb3.mono C));obtain⟨v,hv⟩:∃v,v=erV er:=⟨_,rfl⟩;have HV:Hid (v=erV er):=hv;rw[<- hv];clear hi hok he hb3 hv HE;simp only[atEnt];go_wp2;(go_ret2);refine .inr (.inl ⟨HW.o,n,i,er,HX.o,?_,ar.o⟩);rw[<- HV.o];rfl
     have HX:=Hm (And.intro hok hs3);clear hok hs3 HE;go_wp2;go_roundw
     case rel=>
      refine⟨n+1,by omega,by omega,by go_num,HX.o.2,λm s h2=>?_⟩;rcases Iq m n with hm|hm
      . exact HU.o m s hm
      (obtain rfl:m=n:=by omega);exact HX.o.1
     case measure=>simp[intOf];omega
   (obtain rfl:n=12:=by omega);clear KS;go_wp2;(go_ret2);exact .inr (.inr ⟨HW.o,HU.o,q,z,b,q,C,H,u.o,HC.o,rfl,t.o⟩)
 have l:wfB md=false:=by simpa using B
 rw[l];have HW:=Hm l;clear B l y HL;go_wp2;go_ret2
 exact .inl ⟨HW.o,rfl,f.o⟩
theorem perm6 (a b c d e f:Qc):[a,b,c,d,e,f].Perm [e,f,d,c,b,a]:=by
 classical
 rw[List.perm_iff_count];intro x;simp[List.count_cons];omega
theorem fdF_sh:∀(c:Ch) (cs:List Vu),fdF c=some cs->∃n,cs=[U O n]
 |.f n,cs,h=>by cases h;exact⟨_,rfl⟩
 |.s n c,cs,h=>fdF_sh c cs h
 |.e n c,cs,h=>fdF_sh c cs h
 |.i n c,cs,h=>fdF_sh c cs h
theorem AsMoF {D w0 V}(c:Ch)(f:Mo D w0 (l1++box 169 1 g [U O 0]::l2) V)(l:w0.cell? ⟨0,0,none⟩=some (RT 84))(m:0<D):Ec Q 81 #[c.v,If 180 (Yp (some ⟨g,0,none⟩))] V λe w'=>(fdF c=none/\e=Z (G false)/\Mo D w0 (l1++box 169 1 g [U O 0]::l2) w')\/∃cs,fdF c=some cs/\e=Z (G true)/\Mo D w0 (l1++box 169 1 g cs::l2) w':=by
 have a:=f.perm Ej;have k:=a.b0 0 (u:=U O 0);have j:=(f.b.cell (p:=⟨0,0,none⟩) m).trans l;refine(AsF c g V _ k.1 k.2 j).mono ?_;rintro e w' (⟨h1,h2,h3⟩|⟨cs,h1,h2,w1,h3,rfl⟩)
 . exact .inl ⟨h1,h2,f.keep h3⟩
 refine .inr ⟨cs,h1,h2,Mo.perm ?_ List.perm_middle.symm⟩;have d:=a.keep h3;obtain⟨n,rfl⟩:=fdF_sh c cs h1;exact d.set 0 (U O n)
theorem fdS_sh:∀(c:Ch) (cs:List Vu),fdS c=some cs->∃n v,cs=[U O n,v]
 |.f n,cs,h=>by cases h
 |.s n c,cs,h=>by cases h;exact⟨_,_,rfl⟩
 |.e n c,cs,h=>fdS_sh c cs h
 |.i n c,cs,h=>fdS_sh c cs h
theorem AsMoS {D w0 V}(c:Ch)(f:Mo D w0 (l1++box 176 2 g [U O 0,Nf]::l2) V)(m:w0.cell? ⟨0,0,none⟩=some (RT 84))(o:0<D):Ec Q 81 #[c.v,If 181 (Yp (some ⟨g,0,none⟩))] V λe w'=>(fdS c=none/\e=Z (G false)/\Mo D w0 (l1++box 176 2 g [U O 0,Nf]::l2) w')\/∃cs,fdS c=some cs/\e=Z (G true)/\Mo D w0 (l1++box 176 2 g cs::l2) w':=by
 have a:=f.perm Ej;have l:=a.b0 0 (u:=U O 0);have k:=a.b0 1 (u:=Nf);have j:=(f.b.cell (p:=⟨0,0,none⟩) o).trans m;refine(AsS c g V _ _ l.1 l.2 k.1 k.2 j).mono ?_;rintro e w' (⟨h1,h2,h3⟩|⟨cs,h1,h2,w1,h3,rfl⟩)
 . exact .inl ⟨h1,h2,f.keep h3⟩
 refine .inr ⟨cs,h1,h2,Mo.perm ?_ List.perm_middle.symm⟩;have d:=a.keep h3;obtain⟨n,v,rfl⟩:=fdS_sh c cs h1;exact(d.set 0 (U O n)).set 1 v
theorem fdE_sh:∀(c:Ch) (cs:List Vu),fdE c=some cs->∃n v,cs=[U O n,v]
 |.f n,cs,h=>by cases h
 |.s n c,cs,h=>fdE_sh c cs h
 |.e n c,cs,h=>by cases h;exact⟨_,_,rfl⟩
 |.i n c,cs,h=>fdE_sh c cs h
theorem AsMoE {D w0 V}(c:Ch)(f:Mo D w0 (l1++box 177 2 g [U O 0,Nf]::l2) V)(m:w0.cell? ⟨0,0,none⟩=some (RT 84))(o:0<D):Ec Q 81 #[c.v,If 182 (Yp (some ⟨g,0,none⟩))] V λe w'=>(fdE c=none/\e=Z (G false)/\Mo D w0 (l1++box 177 2 g [U O 0,Nf]::l2) w')\/∃cs,fdE c=some cs/\e=Z (G true)/\Mo D w0 (l1++box 177 2 g cs::l2) w':=by
 have a:=f.perm Ej;have l:=a.b0 0 (u:=U O 0);have k:=a.b0 1 (u:=Nf);have j:=(f.b.cell (p:=⟨0,0,none⟩) o).trans m;refine(AsE c g V _ _ l.1 l.2 k.1 k.2 j).mono ?_;rintro e w' (⟨h1,h2,h3⟩|⟨cs,h1,h2,w1,h3,rfl⟩)
 . exact .inl ⟨h1,h2,f.keep h3⟩
 refine .inr ⟨cs,h1,h2,Mo.perm ?_ List.perm_middle.symm⟩;have d:=a.keep h3;obtain⟨n,v,rfl⟩:=fdE_sh c cs h1;exact(d.set 0 (U O n)).set 1 v
theorem fdI_sh:∀(c:Ch) (cs:List Vu),fdI c=some cs->∃n v,cs=[U O n,v]
 |.f n,cs,h=>by cases h
 |.s n c,cs,h=>fdI_sh c cs h
 |.e n c,cs,h=>fdI_sh c cs h
 |.i n c,cs,h=>by cases h;exact⟨_,_,rfl⟩
theorem AsMoI {D w0 V}(c:Ch)(f:Mo D w0 (l1++box 178 2 g [U O 0,Nf]::l2) V)(m:w0.cell? ⟨0,0,none⟩=some (RT 84))(o:0<D):Ec Q 81 #[c.v,If 183 (Yp (some ⟨g,0,none⟩))] V λe w'=>(fdI c=none/\e=Z (G false)/\Mo D w0 (l1++box 178 2 g [U O 0,Nf]::l2) w')\/∃cs,fdI c=some cs/\e=Z (G true)/\Mo D w0 (l1++box 178 2 g cs::l2) w':=by
 have a:=f.perm Ej;have l:=a.b0 0 (u:=U O 0);have k:=a.b0 1 (u:=Nf);have j:=(f.b.cell (p:=⟨0,0,none⟩) o).trans m;refine(AsI c g V _ _ l.1 l.2 k.1 k.2 j).mono ?_;rintro e w' (⟨h1,h2,h3⟩|⟨cs,h1,h2,w1,h3,rfl⟩)
 . exact .inl ⟨h1,h2,f.keep h3⟩
 refine .inr ⟨cs,h1,h2,Mo.perm ?_ List.perm_middle.symm⟩;have d:=a.keep h3;obtain⟨n,v,rfl⟩:=fdI_sh c cs h1;exact(d.set 0 (U O n)).set 1 v
theorem ians_0 (w:J)(V:w.cell? ⟨0,0,none⟩=some (RT 84)):Ec Q 35 #[Nf] w λe w'=>e=Z (Ag #[U O 0,U O 0,U O 0,U O 0])/\Below w.heap.size w w':=by
 obtain⟨W,t⟩:∃W,W=((((((w.alloc (Fc #[U O 0,U O 0,U O 0,U O 0] 36)).alloc (Fc #[U O 0,U O 0,U O 0,U O 0] 36)).alloc (Fc #[U O 0] 169)).alloc (Fc #[U O 0,Nf] 176)).alloc (Fc #[U O 0,Nf] 177)).alloc (Fc #[U O 0,Nf] 178)):=⟨_,rfl⟩;obtain⟨q,r⟩:∃q,q=w.heap.size:=⟨_,rfl⟩;have m:Mo w.heap.size w [box 36 4 (q+1) [U O 0,U O 0,U O 0,U O 0],box 36 4 q [U O 0,U O 0,U O 0,U O 0],box 169 1 (q+2) [U O 0],box 176 2 (q+3) [U O 0,Nf],box 177 2 (q+4) [U O 0,Nf],box 178 2 (q+5) [U O 0,Nf]] W:=by have Y:Mo w.heap.size w [] w:=⟨Own.nil _ _,bFz,lRz⟩;have:=(((((Y.box (cur:=#[U O 0,U O 0,U O 0,U O 0]) 36 4 rfl).box (cur:=#[U O 0,U O 0,U O 0,U O 0]) 36 4 rfl).box (cur:=#[U O 0]) 169 1 rfl).box (cur:=#[U O 0,Nf]) 176 2 rfl).box (cur:=#[U O 0,Nf]) 177 2 rfl).box (cur:=#[U O 0,Nf]) 178 2 rfl;rw[t,r];have X:=this.perm (perm6 _ _ _ _ _ _);simpa using X
 have C:=Hm m;clear m;go_enter func35,ntmps35;go_upto_region 6 with fail
 rw[<- t,<- r];clear t r;go_wp2_with fail
 refine(As_nil _ W).mono ?_;rintro e w1 ⟨rfl,l⟩;rw[l];clear l;have B:=C;go_upto_region 8 with fail
 go_wp2_with fail
 refine(As_nil _ W).mono ?_;rintro e w2 ⟨rfl,k⟩;rw[k];clear k;have A:=B;go_upto_region 10 with fail
 go_wp2_with fail
 refine(As_nil _ W).mono ?_;rintro e w3 ⟨rfl,j⟩;rw[j];clear j;have z:=A;go_upto_region 12 with fail
 go_wp2_with fail
 refine(As_nil _ W).mono ?_;rintro e w4 ⟨rfl,f⟩;rw[f];clear f;have y:=z;go_upto_region 14 with fail
 have a:=y.o;have r0:=(a.b0 0 (u:=U O 0)).1;have r1:=(a.b0 1 (u:=U O 0)).1;have r2:=(a.b0 2 (u:=U O 0)).1;have r3:=(a.b0 3 (u:=U O 0)).1;obtain⟨H,y0⟩:=a.tail.b0 0 (u:=U O 0);obtain⟨F,y1⟩:=a.tail.b0 1 (u:=U O 0);obtain⟨E,y2⟩:=a.tail.b0 2 (u:=U O 0);obtain⟨D,y3⟩:=a.tail.b0 3 (u:=U O 0);have p:w.heap.size<=q:=(a.tail.lt (T:=36) (sz:=4) (n:=1) (g:=q) (c:=1) (cs:=[U O 0,U O 0,U O 0,U O 0]) (by simp)).1;have HF:=Hm (fin4 (x0:=U O 0) (x1:=U O 0) (x2:=U O 0) (x3:=U O 0) a.b p H F E D);clear a V;go_wp2;refine Qv (λd=>d.cell? ⟨q,0,none⟩=some (U O 0)/\d.cell? ⟨q,1,none⟩=some (U O 0)/\d.cell? ⟨q,2,none⟩=some (U O 0)/\d.cell? ⟨q,3,none⟩=some (U O 0)/\Below w.heap.size w d) (HF.o _ rfl) ?_;rintro d ⟨R,M,L,I,s⟩;exact bodyPost_ret (v:=Ag #[U O 0,U O 0,U O 0,U O 0]) (by simp[results,results35,go_sem,R,M,L,I]) rfl ⟨rfl,s⟩
theorem ians_1 (f:Int)(w:J)(k:w.cell? ⟨0,0,none⟩=some (RT 84)):Ec Q 35 #[flt f] w λe w'=>e=Z (Ag #[U O f,U O 0,U O 0,U O 0])/\Below w.heap.size w w':=by
 obtain⟨W,D⟩:∃W,W=((((((w.alloc (Fc #[U O 0,U O 0,U O 0,U O 0] 36)).alloc (Fc #[U O 0,U O 0,U O 0,U O 0] 36)).alloc (Fc #[U O 0] 169)).alloc (Fc #[U O 0,Nf] 176)).alloc (Fc #[U O 0,Nf] 177)).alloc (Fc #[U O 0,Nf] 178)):=⟨_,rfl⟩;obtain⟨q,B⟩:∃q,q=w.heap.size:=⟨_,rfl⟩;have z:0<w.heap.size:=Ed (Kz _) (block_lt_of_cell k);have m:Mo w.heap.size w [box 36 4 (q+1) [U O 0,U O 0,U O 0,U O 0],box 36 4 q [U O 0,U O 0,U O 0,U O 0],box 169 1 (q+2) [U O 0],box 176 2 (q+3) [U O 0,Nf],box 177 2 (q+4) [U O 0,Nf],box 178 2 (q+5) [U O 0,Nf]] W:=by have h0:Mo w.heap.size w [] w:=⟨Own.nil _ _,bFz,lRz⟩;have:=(((((h0.box (cur:=#[U O 0,U O 0,U O 0,U O 0]) 36 4 rfl).box (cur:=#[U O 0,U O 0,U O 0,U O 0]) 36 4 rfl).box (cur:=#[U O 0]) 169 1 rfl).box (cur:=#[U O 0,Nf]) 176 2 rfl).box (cur:=#[U O 0,Nf]) 177 2 rfl).box (cur:=#[U O 0,Nf]) 178 2 rfl;rw[D,B];have h2:=this.perm (perm6 _ _ _ _ _ _);simpa using h2
 have M:=Hm m;clear m;go_enter func35,ntmps35;go_upto_region 6 with fail
 rw[<- D,<- B];clear D B;have s:=Hm (AsMoF (g:=q+2) (l1:=[box 36 4 (q+1) [U O 0,U O 0,U O 0,U O 0],box 36 4 q [U O 0,U O 0,U O 0,U O 0]]) (l2:=[box 176 2 (q+3) [U O 0,Nf],box 177 2 (q+4) [U O 0,Nf],box 178 2 (q+5) [U O 0,Nf]]) (Ch.f f) M.o k z);go_wp2_with fail
 refine s.o.mono ?_;rintro e w1 (⟨hc,_⟩|⟨cs,hc,rfl,hh⟩);case inl=>cases hc
 cases hc;have d:Mo w.heap.size w [box 36 4 (q+1) [U O 0,U O 0,U O 0,U O 0],box 36 4 q [U O 0,U O 0,U O 0,U O 0],box 169 1 (q+2) [U O f],box 176 2 (q+3) [U O 0,Nf],box 177 2 (q+4) [U O 0,Nf],box 178 2 (q+5) [U O 0,Nf]] w1:=hh;have aF:=(d.bx (t:=169) (n:=1) (g:=q+2) (cs:=[U O f]) (by simp) 0).1;have E:=d.b0 0 (u:=U O 0);obtain⟨E,fF⟩:=E;obtain⟨V0,j⟩:∃V,V=w1.setCell ⟨q+1,0,none⟩ (U O f):=⟨_,rfl⟩;have L:Hid (Mo w.heap.size w [box 36 4 (q+1) [U O f,U O 0,U O 0,U O 0],box 36 4 q [U O 0,U O 0,U O 0,U O 0],box 169 1 (q+2) [U O f],box 176 2 (q+3) [U O 0,Nf],box 177 2 (q+4) [U O 0,Nf],box 178 2 (q+5) [U O 0,Nf]] V0):=by rw[j];exact d.set 0 (U O f)
 clear hh d s;go_upto_region 8 with fail
 rw[<- j];clear j aF E fF;have p:=Hm (AsMoS (g:=q+3) (l1:=[box 36 4 (q+1) [U O f,U O 0,U O 0,U O 0],box 36 4 q [U O 0,U O 0,U O 0,U O 0],box 169 1 (q+2) [U O f]]) (l2:=[box 177 2 (q+4) [U O 0,Nf],box 178 2 (q+5) [U O 0,Nf]]) (Ch.f f) L.o k z);go_wp2_with fail
 refine p.o.mono ?_;rintro e w2 (⟨_,rfl,hh⟩|⟨cs,hc,_⟩);case inr=>cases hc
 have I:Hid (Mo w.heap.size w [box 36 4 (q+1) [U O f,U O 0,U O 0,U O 0],box 36 4 q [U O 0,U O 0,U O 0,U O 0],box 169 1 (q+2) [U O f],box 176 2 (q+3) [U O 0,Nf],box 177 2 (q+4) [U O 0,Nf],box 178 2 (q+5) [U O 0,Nf]] w2):=hh;clear hh p;go_upto_region 10 with fail
 have y:=Hm (AsMoE (g:=q+4) (l1:=[box 36 4 (q+1) [U O f,U O 0,U O 0,U O 0],box 36 4 q [U O 0,U O 0,U O 0,U O 0],box 169 1 (q+2) [U O f],box 176 2 (q+3) [U O 0,Nf]]) (l2:=[box 178 2 (q+5) [U O 0,Nf]]) (Ch.f f) I.o k z);go_wp2_with fail
 refine y.o.mono ?_;rintro e w3 (⟨_,rfl,hh⟩|⟨cs,hc,_⟩);case inr=>cases hc
 have H:Hid (Mo w.heap.size w [box 36 4 (q+1) [U O f,U O 0,U O 0,U O 0],box 36 4 q [U O 0,U O 0,U O 0,U O 0],box 169 1 (q+2) [U O f],box 176 2 (q+3) [U O 0,Nf],box 177 2 (q+4) [U O 0,Nf],box 178 2 (q+5) [U O 0,Nf]] w3):=hh;clear hh y;go_upto_region 12 with fail
 have r:=Hm (AsMoI (g:=q+5) (l1:=[box 36 4 (q+1) [U O f,U O 0,U O 0,U O 0],box 36 4 q [U O 0,U O 0,U O 0,U O 0],box 169 1 (q+2) [U O f],box 176 2 (q+3) [U O 0,Nf],box 177 2 (q+4) [U O 0,Nf]]) (l2:=[]) (Ch.f f) H.o k z);go_wp2_with fail
 refine r.o.mono ?_;rintro e w4 (⟨_,rfl,hh⟩|⟨cs,hc,_⟩);case inr=>cases hc
 have F:Hid (Mo w.heap.size w [box 36 4 (q+1) [U O f,U O 0,U O 0,U O 0],box 36 4 q [U O 0,U O 0,U O 0,U O 0],box 169 1 (q+2) [U O f],box 176 2 (q+3) [U O 0,Nf],box 177 2 (q+4) [U O 0,Nf],box 178 2 (q+5) [U O 0,Nf]] w4):=hh;clear hh r;go_upto_region 14 with fail
 have a:=F.o;have r0:=(a.b0 0 (u:=U O f)).1;have r1:=(a.b0 1 (u:=U O 0)).1;have r2:=(a.b0 2 (u:=U O 0)).1;have r3:=(a.b0 3 (u:=U O 0)).1;obtain⟨z0,y0⟩:=a.tail.b0 0 (u:=U O 0);obtain⟨Y,y1⟩:=a.tail.b0 1 (u:=U O 0);obtain⟨X,y2⟩:=a.tail.b0 2 (u:=U O 0);obtain⟨R,y3⟩:=a.tail.b0 3 (u:=U O 0);have A:w.heap.size<=q:=(a.tail.lt (T:=36) (sz:=4) (n:=1) (g:=q) (c:=1) (cs:=[U O 0,U O 0,U O 0,U O 0]) (by simp)).1;have HF:=Hm (fin4 (x0:=U O f) (x1:=U O 0) (x2:=U O 0) (x3:=U O 0) a.b A z0 Y X R);clear a k;go_wp2;refine Qv (λl=>l.cell? ⟨q,0,none⟩=some (U O f)/\l.cell? ⟨q,1,none⟩=some (U O 0)/\l.cell? ⟨q,2,none⟩=some (U O 0)/\l.cell? ⟨q,3,none⟩=some (U O 0)/\Below w.heap.size w l) (HF.o _ rfl) ?_;rintro l ⟨u0,u1,u2,u3,C⟩;exact bodyPost_ret (v:=Ag #[U O f,U O 0,U O 0,U O 0]) (by simp[results,results35,go_sem,u0,u1,u2,u3]) rfl ⟨rfl,C⟩
theorem ians_x:(∀(f:Int) (n i:Nat) (w:J) (m:w.cell? ⟨0,0,none⟩=some (RT 84)),Ec Q 35 #[atSec n (atEnt i (flt f))] w λe w'=>e=Z (Ag #[U O f,U O (n:Int),U O (i:Int),U O 0])/\Below w.heap.size w w')/\(∀(f:Int) (n i j:Nat) (w:J) (m:w.cell? ⟨0,0,none⟩=some (RT 84)),Ec Q 35 #[atSec n (atEnt i (atIns j (flt f)))] w λe w'=>e=Z (Ag #[U O f,U O (n:Int),U O (i:Int),U O (j:Int)])/\Below w.heap.size w w'):=by
 refine⟨?c0,?c1⟩;case' c0=>intro f n i w m;have a:=0
 case' c1=>intro f n i j w m;have k:=0
 all_goals
  obtain⟨W,hW⟩:∃W,W=((((((w.alloc (Fc #[U O 0,U O 0,U O 0,U O 0] 36)).alloc (Fc #[U O 0,U O 0,U O 0,U O 0] 36)).alloc (Fc #[U O 0] 169)).alloc (Fc #[U O 0,Nf] 176)).alloc (Fc #[U O 0,Nf] 177)).alloc (Fc #[U O 0,Nf] 178)):=⟨_,rfl⟩;obtain⟨q,hq⟩:∃q,q=w.heap.size:=⟨_,rfl⟩;have A:0<w.heap.size:=Ed (Kz _) (block_lt_of_cell m)
  have M:Mo w.heap.size w [box 36 4 (q+1) [U O 0,U O 0,U O 0,U O 0],box 36 4 q [U O 0,U O 0,U O 0,U O 0],box 169 1 (q+2) [U O 0],box 176 2 (q+3) [U O 0,Nf],box 177 2 (q+4) [U O 0,Nf],box 178 2 (q+5) [U O 0,Nf]] W:=by
   have h0:Mo w.heap.size w [] w:=⟨Own.nil _ _,bFz,lRz⟩
   have:=(((((h0.box (cur:=#[U O 0,U O 0,U O 0,U O 0]) 36 4 rfl).box (cur:=#[U O 0,U O 0,U O 0,U O 0]) 36 4 rfl).box (cur:=#[U O 0]) 169 1 rfl).box (cur:=#[U O 0,Nf]) 176 2 rfl).box (cur:=#[U O 0,Nf]) 177 2 rfl).box (cur:=#[U O 0,Nf]) 178 2 rfl
   rw[hW,hq];have h2:=this.perm (perm6 _ _ _ _ _ _)
   simpa using h2
  have aa:=Hm M;clear M
  go_enter func35,ntmps35
  go_upto_region 6 with fail
  rw[<- hW,<- hq];clear hW hq
  first|(replace a:=a;have H:=Hm (AsMoF (g:=q+2) (l1:=[box 36 4 (q+1) [U O 0,U O 0,U O 0,U O 0],box 36 4 q [U O 0,U O 0,U O 0,U O 0]]) (l2:=[box 176 2 (q+3) [U O 0,Nf],box 177 2 (q+4) [U O 0,Nf],box 178 2 (q+5) [U O 0,Nf]]) (Ch.s n (Ch.e i (Ch.f f))) aa.o m A))|(have H:=Hm (AsMoF (g:=q+2) (l1:=[box 36 4 (q+1) [U O 0,U O 0,U O 0,U O 0],box 36 4 q [U O 0,U O 0,U O 0,U O 0]]) (l2:=[box 176 2 (q+3) [U O 0,Nf],box 177 2 (q+4) [U O 0,Nf],box 178 2 (q+5) [U O 0,Nf]]) (Ch.s n (Ch.e i (Ch.i j (Ch.f f)))) aa.o m A))
  go_wp2_with fail
  refine H.o.mono ?_
  rintro e w1 (⟨hc,_⟩|⟨cs,hc,rfl,hh⟩)
  case inl=>cases hc
  cases hc
  have d:Mo w.heap.size w [box 36 4 (q+1) [U O 0,U O 0,U O 0,U O 0],box 36 4 q [U O 0,U O 0,U O 0,U O 0],box 169 1 (q+2) [U O f],box 176 2 (q+3) [U O 0,Nf],box 177 2 (q+4) [U O 0,Nf],box 178 2 (q+5) [U O 0,Nf]] w1:=hh;have aF:=(d.bx (t:=169) (n:=1) (g:=q+2) (cs:=[U O f]) (by simp) 0).1;have bF:=d.b0 0 (u:=U O 0);obtain⟨bF,fF⟩:=bF;obtain⟨V0,C⟩:∃V,V=w1.setCell ⟨q+1,0,none⟩ (U O f):=⟨_,rfl⟩;have Y:Hid (Mo w.heap.size w [box 36 4 (q+1) [U O f,U O 0,U O 0,U O 0],box 36 4 q [U O 0,U O 0,U O 0,U O 0],box 169 1 (q+2) [U O f],box 176 2 (q+3) [U O 0,Nf],box 177 2 (q+4) [U O 0,Nf],box 178 2 (q+5) [U O 0,Nf]] V0):=by rw[C];exact d.set 0 (U O f)
  clear hh d H
  go_upto_region 8 with fail
  rw[<- C];clear C aF bF fF
  first|(replace a:=a;have F:=Hm (AsMoS (g:=q+3) (l1:=[box 36 4 (q+1) [U O f,U O 0,U O 0,U O 0],box 36 4 q [U O 0,U O 0,U O 0,U O 0],box 169 1 (q+2) [U O f]]) (l2:=[box 177 2 (q+4) [U O 0,Nf],box 178 2 (q+5) [U O 0,Nf]]) (Ch.s n (Ch.e i (Ch.f f))) Y.o m A))|(have F:=Hm (AsMoS (g:=q+3) (l1:=[box 36 4 (q+1) [U O f,U O 0,U O 0,U O 0],box 36 4 q [U O 0,U O 0,U O 0,U O 0],box 169 1 (q+2) [U O f]]) (l2:=[box 177 2 (q+4) [U O 0,Nf],box 178 2 (q+5) [U O 0,Nf]]) (Ch.s n (Ch.e i (Ch.i j (Ch.f f)))) Y.o m A))
  go_wp2_with fail
  refine F.o.mono ?_
  rintro e w2 (⟨hc,_⟩|⟨cs,hc,rfl,hh⟩)
  case inl=>cases hc
  cases hc
  first|(replace a:=a;have d:Mo w.heap.size w [box 36 4 (q+1) [U O f,U O 0,U O 0,U O 0],box 36 4 q [U O 0,U O 0,U O 0,U O 0],box 169 1 (q+2) [U O f],box 176 2 (q+3) [U O (n:Int),(Ch.e i (Ch.f f)).v],box 177 2 (q+4) [U O 0,Nf],box 178 2 (q+5) [U O 0,Nf]] w2:=hh)|(have d:Mo w.heap.size w [box 36 4 (q+1) [U O f,U O 0,U O 0,U O 0],box 36 4 q [U O 0,U O 0,U O 0,U O 0],box 169 1 (q+2) [U O f],box 176 2 (q+3) [U O (n:Int),(Ch.e i (Ch.i j (Ch.f f))).v],box 177 2 (q+4) [U O 0,Nf],box 178 2 (q+5) [U O 0,Nf]] w2:=hh)
  first|(replace a:=a;have aS:=(d.bx (t:=176) (n:=2) (g:=q+3) (cs:=[U O (n:Int),(Ch.e i (Ch.f f)).v]) (by simp) 0).1)|(have aS:=(d.bx (t:=176) (n:=2) (g:=q+3) (cs:=[U O (n:Int),(Ch.e i (Ch.i j (Ch.f f))).v]) (by simp) 0 (by omega) rfl).1)
  have bS:=d.b0 1 (u:=U O 0);obtain⟨bS,fS⟩:=bS;obtain⟨V1,y⟩:∃V,V=w2.setCell ⟨q+1,1,none⟩ (U O (n:Int)):=⟨_,rfl⟩
  first|(replace a:=a;have E:Hid (Mo w.heap.size w [box 36 4 (q+1) [U O f,U O (n:Int),U O 0,U O 0],box 36 4 q [U O 0,U O 0,U O 0,U O 0],box 169 1 (q+2) [U O f],box 176 2 (q+3) [U O (n:Int),(Ch.e i (Ch.f f)).v],box 177 2 (q+4) [U O 0,Nf],box 178 2 (q+5) [U O 0,Nf]] V1):=by rw[y];exact d.set 1 (U O (n:Int)))|(have E:Hid (Mo w.heap.size w [box 36 4 (q+1) [U O f,U O (n:Int),U O 0,U O 0],box 36 4 q [U O 0,U O 0,U O 0,U O 0],box 169 1 (q+2) [U O f],box 176 2 (q+3) [U O (n:Int),(Ch.e i (Ch.i j (Ch.f f))).v],box 177 2 (q+4) [U O 0,Nf],box 178 2 (q+5) [U O 0,Nf]] V1):=by rw[y];exact d.set 1 (U O (n:Int)))
  clear hh d F
  go_upto_region 10 with fail
  rw[<- y];clear y aS bS fS
  first|(replace a:=a;have I:=Hm (AsMoE (g:=q+4) (l1:=[box 36 4 (q+1) [U O f,U O (n:Int),U O 0,U O 0],box 36 4 q [U O 0,U O 0,U O 0,U O 0],box 169 1 (q+2) [U O f],box 176 2 (q+3) [U O (n:Int),(Ch.e i (Ch.f f)).v]]) (l2:=[box 178 2 (q+5) [U O 0,Nf]]) (Ch.s n (Ch.e i (Ch.f f))) E.o m A))|(have I:=Hm (AsMoE (g:=q+4) (l1:=[box 36 4 (q+1) [U O f,U O (n:Int),U O 0,U O 0],box 36 4 q [U O 0,U O 0,U O 0,U O 0],box 169 1 (q+2) [U O f],box 176 2 (q+3) [U O (n:Int),(Ch.e i (Ch.i j (Ch.f f))).v]]) (l2:=[box 178 2 (q+5) [U O 0,Nf]]) (Ch.s n (Ch.e i (Ch.i j (Ch.f f)))) E.o m A))
  go_wp2_with fail
  refine I.o.mono ?_
  rintro e w3 (⟨hc,_⟩|⟨cs,hc,rfl,hh⟩)
  case inl=>cases hc
  cases hc
  first|(replace a:=a;have d:Mo w.heap.size w [box 36 4 (q+1) [U O f,U O (n:Int),U O 0,U O 0],box 36 4 q [U O 0,U O 0,U O 0,U O 0],box 169 1 (q+2) [U O f],box 176 2 (q+3) [U O (n:Int),(Ch.e i (Ch.f f)).v],box 177 2 (q+4) [U O (i:Int),(Ch.f f).v],box 178 2 (q+5) [U O 0,Nf]] w3:=hh)|(have d:Mo w.heap.size w [box 36 4 (q+1) [U O f,U O (n:Int),U O 0,U O 0],box 36 4 q [U O 0,U O 0,U O 0,U O 0],box 169 1 (q+2) [U O f],box 176 2 (q+3) [U O (n:Int),(Ch.e i (Ch.i j (Ch.f f))).v],box 177 2 (q+4) [U O (i:Int),(Ch.i j (Ch.f f)).v],box 178 2 (q+5) [U O 0,Nf]] w3:=hh)
  first|(replace a:=a;have aE:=(d.bx (t:=177) (n:=2) (g:=q+4) (cs:=[U O (i:Int),(Ch.f f).v]) (by simp) 0).1)|(have aE:=(d.bx (t:=177) (n:=2) (g:=q+4) (cs:=[U O (i:Int),(Ch.i j (Ch.f f)).v]) (by simp) 0).1)
  have bE:=d.b0 2 (u:=U O 0);obtain⟨bE,fE⟩:=bE;obtain⟨V2,r⟩:∃V,V=w3.setCell ⟨q+1,2,none⟩ (U O (i:Int)):=⟨_,rfl⟩
  first|(replace a:=a;have D:Hid (Mo w.heap.size w [box 36 4 (q+1) [U O f,U O (n:Int),U O (i:Int),U O 0],box 36 4 q [U O 0,U O 0,U O 0,U O 0],box 169 1 (q+2) [U O f],box 176 2 (q+3) [U O (n:Int),(Ch.e i (Ch.f f)).v],box 177 2 (q+4) [U O (i:Int),(Ch.f f).v],box 178 2 (q+5) [U O 0,Nf]] V2):=by rw[r];exact d.set 2 (U O (i:Int)))|(have D:Hid (Mo w.heap.size w [box 36 4 (q+1) [U O f,U O (n:Int),U O (i:Int),U O 0],box 36 4 q [U O 0,U O 0,U O 0,U O 0],box 169 1 (q+2) [U O f],box 176 2 (q+3) [U O (n:Int),(Ch.e i (Ch.i j (Ch.f f))).v],box 177 2 (q+4) [U O (i:Int),(Ch.i j (Ch.f f)).v],box 178 2 (q+5) [U O 0,Nf]] V2):=by rw[r];exact d.set 2 (U O (i:Int)))
  clear hh d I
  go_upto_region 12 with fail
  rw[<- r];clear r aE bE fE
  first|(replace a:=a;have z:=Hm (AsMoI (g:=q+5) (l1:=[box 36 4 (q+1) [U O f,U O (n:Int),U O (i:Int),U O 0],box 36 4 q [U O 0,U O 0,U O 0,U O 0],box 169 1 (q+2) [U O f],box 176 2 (q+3) [U O (n:Int),(Ch.e i (Ch.f f)).v],box 177 2 (q+4) [U O (i:Int),(Ch.f f).v]]) (l2:=[]) (Ch.s n (Ch.e i (Ch.f f))) D.o m A))|(have z:=Hm (AsMoI (g:=q+5) (l1:=[box 36 4 (q+1) [U O f,U O (n:Int),U O (i:Int),U O 0],box 36 4 q [U O 0,U O 0,U O 0,U O 0],box 169 1 (q+2) [U O f],box 176 2 (q+3) [U O (n:Int),(Ch.e i (Ch.i j (Ch.f f))).v],box 177 2 (q+4) [U O (i:Int),(Ch.i j (Ch.f f)).v]]) (l2:=[]) (Ch.s n (Ch.e i (Ch.i j (Ch.f f)))) D.o m A))
  go_wp2_with fail
  refine z.o.mono ?_
  first|(replace a:=a;rintro e w4 (⟨_,rfl,hh⟩|⟨cs,hc,_⟩))|(rintro e w4 (⟨hc,_⟩|⟨cs,hc,rfl,hh⟩))
  first
  | (
   replace a:=a
   case inr=>cases hc)
  |skip
  first
  | (
   replace k:=k
   case inl=>cases hc)
  |skip
  first
  | (
   replace k:=k
   cases hc)
  |skip
  first
  | (
   replace k:=k;have d:Mo w.heap.size w [box 36 4 (q+1) [U O f,U O (n:Int),U O (i:Int),U O 0],box 36 4 q [U O 0,U O 0,U O 0,U O 0],box 169 1 (q+2) [U O f],box 176 2 (q+3) [U O (n:Int),(Ch.e i (Ch.i j (Ch.f f))).v],box 177 2 (q+4) [U O (i:Int),(Ch.i j (Ch.f f)).v],box 178 2 (q+5) [U O (j:Int),(Ch.f f).v]] w4:=hh)
  |skip
  first
  | (
   replace k:=k;have aI:=(d.bx (t:=178) (n:=2) (g:=q+5) (cs:=[U O (j:Int),(Ch.f f).v]) (by simp) 0).1)
  |skip
  first
  | (
   replace k:=k;have bI:=d.b0 3 (u:=U O 0))
  |skip
  first
  | (
   replace k:=k;obtain⟨bI,fI⟩:=bI)
  |skip
  first
  | (
   replace k:=k;obtain⟨V3,B⟩:∃V,V=w4.setCell ⟨q+1,3,none⟩ (U O (j:Int)):=⟨_,rfl⟩)
  |skip
  first|(replace a:=a;have X:Hid (Mo w.heap.size w [box 36 4 (q+1) [U O f,U O (n:Int),U O (i:Int),U O 0],box 36 4 q [U O 0,U O 0,U O 0,U O 0],box 169 1 (q+2) [U O f],box 176 2 (q+3) [U O (n:Int),(Ch.e i (Ch.f f)).v],box 177 2 (q+4) [U O (i:Int),(Ch.f f).v],box 178 2 (q+5) [U O 0,Nf]] w4):=hh)|(have X:Hid (Mo w.heap.size w [box 36 4 (q+1) [U O f,U O (n:Int),U O (i:Int),U O (j:Int)],box 36 4 q [U O 0,U O 0,U O 0,U O 0],box 169 1 (q+2) [U O f],box 176 2 (q+3) [U O (n:Int),(Ch.e i (Ch.i j (Ch.f f))).v],box 177 2 (q+4) [U O (i:Int),(Ch.i j (Ch.f f)).v],box 178 2 (q+5) [U O (j:Int),(Ch.f f).v]] V3):=by rw[B];exact d.set 3 (U O (j:Int)))
  first|(replace a:=a;clear hh z)|(clear hh d z)
  go_upto_region 14 with fail
  first
  | (
   replace k:=k;rw[<- B])
  |skip
  first
  | (
   replace k:=k;clear B aI bI fI)
  |skip
  have l:=X.o;have r0:=(l.b0 0 (u:=U O f)).1;have r1:=(l.b0 1 (u:=U O (n:Int))).1;have r2:=(l.b0 2 (u:=U O (i:Int))).1
  first|(replace a:=a;have r3:=(l.b0 3 (u:=U O 0)).1)|(have r3:=(l.b0 3 (u:=U O (j:Int))).1)
  obtain⟨z0,y0⟩:=l.tail.b0 0 (u:=U O 0);obtain⟨z1,y1⟩:=l.tail.b0 1 (u:=U O 0);obtain⟨z2,y2⟩:=l.tail.b0 2 (u:=U O 0);obtain⟨z3,y3⟩:=l.tail.b0 3 (u:=U O 0);have L:w.heap.size<=q:=(l.tail.lt (T:=36) (sz:=4) (n:=1) (g:=q) (c:=1) (cs:=[U O 0,U O 0,U O 0,U O 0]) (by simp)).1
  first|(replace a:=a;have HF:=Hm (fin4 (x0:=U O f) (x1:=U O (n:Int)) (x2:=U O (i:Int)) (x3:=U O 0) l.b L z0 z1 z2 z3))|(have HF:=Hm (fin4 (x0:=U O f) (x1:=U O (n:Int)) (x2:=U O (i:Int)) (x3:=U O (j:Int)) l.b L z0 z1 z2 z3))
  clear l m
  go_wp2
  first|(replace a:=a;refine Qv (λp=>p.cell? ⟨q,0,none⟩=some (U O f)/\p.cell? ⟨q,1,none⟩=some (U O (n:Int))/\p.cell? ⟨q,2,none⟩=some (U O (i:Int))/\p.cell? ⟨q,3,none⟩=some (U O 0)/\Below w.heap.size w p) (HF.o _ rfl) ?_)|(refine Qv (λp=>p.cell? ⟨q,0,none⟩=some (U O f)/\p.cell? ⟨q,1,none⟩=some (U O (n:Int))/\p.cell? ⟨q,2,none⟩=some (U O (i:Int))/\p.cell? ⟨q,3,none⟩=some (U O (j:Int))/\Below w.heap.size w p) (HF.o _ rfl) ?_)
  rintro p ⟨u0,u1,u2,u3,R⟩
  first|(replace a:=a;exact bodyPost_ret (v:=Ag #[U O f,U O (n:Int),U O (i:Int),U O 0]) (by simp[results,results35,go_sem,u0,u1,u2,u3]) rfl ⟨rfl,R⟩)|(exact bodyPost_ret (v:=Ag #[U O f,U O (n:Int),U O (i:Int),U O (j:Int)]) (by simp[results,results35,go_sem,u0,u1,u2,u3]) rfl ⟨rfl,R⟩)
def ians_3:=ians_x.1
def ians_4:=ians_x.2
theorem eqV_c (a b c d:Int)(w:J):Ec Q 8 #[Ag #[U O a,U O b,U O c,U O d],Ag #[U O a,U O b,U O c,U O d]] w λe w'=>e=Z (G true)/\Below w.heap.size w w':=by
 obtain⟨W,k⟩:∃W,W=(w.alloc (Fc #[U O a,U O b,U O c,U O d] 36)).alloc (Fc #[U O a,U O b,U O c,U O d] 36):=⟨_,rfl⟩;obtain⟨q,j⟩:∃q,q=w.heap.size:=⟨_,rfl⟩;have g:Mo w.heap.size w [] w:=⟨Own.nil _ _,bFz,lRz⟩;have f:Mo w.heap.size w [box 36 4 (q+1) [U O a,U O b,U O c,U O d],box 36 4 q [U O a,U O b,U O c,U O d]] W:=by have:=(g.box (cur:=#[U O a,U O b,U O c,U O d]) 36 4 rfl).box (cur:=#[U O a,U O b,U O c,U O d]) 36 4 rfl;rw[k,j];simpa using this
 have y:=(f.b0 0 (u:=U O a)).1;have v:=(f.b0 1 (u:=U O b)).1;have t:=(f.b0 2 (u:=U O c)).1;have s:=(f.b0 3 (u:=U O d)).1;have r:=(f.tail.b0 0 (u:=U O a)).1;have p:=(f.tail.b0 1 (u:=U O b)).1;have n:=(f.tail.b0 2 (u:=U O c)).1;have m:=(f.tail.b0 3 (u:=U O d)).1;have l:=Hm f.b;clear g f;go_enter func8,ntmps8;go_upto_region 1 with fail
 rw[<- k,<- j];clear k j;go_wp2;go_ret;exact⟨rfl,l.o⟩
end YtaccbbndmmhenaaGreatDoor.Va
namespace YtaccbbndmmhenaaGreatDoor
open Go.RowKit Go.Sort
theorem rzInts_c (a:Option Addr)(n c:Nat)(left:Int)(w:J)(f:0<=left)(d:left<=1048576)(hn:n<=9223372036854775807):Ec Q 12 #[S a n c,U O left] w λe w'=>∃r:Int,e=Z (U O r)/\Below w.heap.size w w'/\(r=-1\/(0<=r/\r<=left/\n<=1048576)):=by
 have b:IntKind.i64.wrap (left-n)=left-n:=by rw[Kv];omega
 by_cases h:left-n<0
 . go_enter func12,ntmps12;go_wp2;go_ret;exact⟨-1,rfl,bFz,.inl rfl⟩
 go_enter func12,ntmps12;go_wp2;go_ret;exact⟨left-n,rfl,bFz,.inr ⟨by omega,by omega,by omega⟩⟩
theorem rzBytes_c (a:Option Addr)(n c:Nat)(left:Int)(w:J)(f:0<=left)(d:left<=1048576)(hn:n<=9223372036854775807):Ec Q 93 #[S a n c,U O left] w λe w'=>∃r:Int,e=Z (U O r)/\Below w.heap.size w w'/\(r=-1\/(0<=r/\r<=left/\n<=1048576)):=by
 have b:IntKind.i64.wrap (left-n)=left-n:=by rw[Kv];omega
 by_cases h:left-n<0
 . go_enter func93,ntmps93;go_wp2;go_ret;exact⟨-1,rfl,bFz,.inl rfl⟩
 go_enter func93,ntmps93;go_wp2;go_ret;exact⟨left-n,rfl,bFz,.inr ⟨by omega,by omega,by omega⟩⟩
theorem rzLimitss_c (a:Option Addr)(n c:Nat)(left:Int)(w:J)(f:0<=left)(d:left<=1048576)(hn:n<=9223372036854775807):Ec Q 13 #[S a n c,U O left] w λe w'=>∃r:Int,e=Z (U O r)/\Below w.heap.size w w'/\(r=-1\/(0<=r/\r<=left/\n<=1048576)):=by
 have b:IntKind.i64.wrap (left-n)=left-n:=by rw[Kv];omega
 by_cases h:left-n<0
 . go_enter func13,ntmps13;go_wp2;go_ret;exact⟨-1,rfl,bFz,.inl rfl⟩
 go_enter func13,ntmps13;go_wp2;go_ret;exact⟨left-n,rfl,bFz,.inr ⟨by omega,by omega,by omega⟩⟩
theorem rzGrps_c (a:Option Addr)(n c:Nat)(left:Int)(w:J)(f:0<=left)(d:left<=1048576)(hn:n<=9223372036854775807):Ec Q 92 #[S a n c,U O left] w λe w'=>∃r:Int,e=Z (U O r)/\Below w.heap.size w w'/\(r=-1\/(0<=r/\r<=left/\n<=1048576)):=by
 have b:IntKind.i64.wrap (left-n)=left-n:=by rw[Kv];omega
 by_cases h:left-n<0
 . go_enter func92,ntmps92;go_wp2;go_ret;exact⟨-1,rfl,bFz,.inl rfl⟩
 go_enter func92,ntmps92;go_wp2;go_ret;exact⟨left-n,rfl,bFz,.inr ⟨by omega,by omega,by omega⟩⟩
theorem rzFType_c (x:Qe)(q:Option Addr)(c1:Nat)(n:Option Addr)(c2:Nat)(left:Int)(w:J)(Y:0<=left)(X:left<=1048576)(R:Qe.Is 0 w x q n)(L:Qe.LB 9223372036854775807 x):Ec Q 46 #[Ag #[S q (N x.ps) c1,S n (N x.rs) c2],U O left] w λe w'=>∃r:Int,e=Z (U O r)/\Below w.heap.size w w'/\(r=-1\/(0<=r/\r<=left/\Qe.LB 1048576 x)):=by
 obtain⟨F,l1⟩:=L;obtain⟨D,C⟩:=R;clear D C;go_enter func46,ntmps46;go_upto_region 1 with fail
 refine Qp (λW=>(W.cell? ⟨w.heap.size,0,none⟩=some (S q (N x.ps) c1)/\W.cell? ⟨w.heap.size,1,none⟩=some (S n (N x.rs) c2))/\Below w.heap.size w W/\w.heap.size<W.heap.size) ⟨⟨Qf rfl rfl,Qf rfl rfl⟩,bFz.alloc lRz _,by simp⟩ ?_;rintro W ⟨⟨E,s⟩,B,g⟩;have m:=Hm (rzInts_c q (N x.ps) c1 left W (by omega) (by omega) F);go_wp2_with fail
 refine m.o.mono ?_;rintro e v ⟨z,rfl,a,u⟩;have c:Below w.heap.size w v:=B.trans (a.mono B.size);have M:w.heap.size<v.heap.size:=Hw g a.size;have s:=(a.cell (p:=⟨w.heap.size,1,none⟩) g).trans s;clear a m E;rcases u with rfl|⟨A,d,I⟩
 . go_wp2;go_ret;exact⟨-1,rfl,c,.inl rfl⟩
 have d:z<=left:=by omega
 go_upto_region 4 with fail
 have l:=Hm (rzInts_c n (N x.rs) c2 z v (by omega) (by omega) l1);go_wp2_with fail
 refine l.o.mono ?_;rintro e V ⟨y,rfl,j,t⟩;have k:Below w.heap.size w V:=c.trans (j.mono c.size);clear j l s;rcases t with rfl|⟨f,b,H⟩
 . go_wp2;go_ret;exact⟨-1,rfl,k,.inl rfl⟩
 have b:y<=left:=by omega
 go_wp2;go_ret;exact⟨y,rfl,k,.inr ⟨f,b,⟨I,H⟩⟩⟩
theorem rzFTypes_c (a:Option Addr)(c:Nat)(xs:List Qe)(left:Int)(w:J)(h0:0<=left)(h1:left<=1048576)(D:Qe.Ls 0 w a xs)(v:N xs<=9223372036854775807/\∀i,i<N xs->Qe.LB 9223372036854775807 (xs.getD i Qe.z)):Ec Q 10 #[S a (N xs) c,U O left] w λe w'=>∃r:Int,e=Z (U O r)/\Below w.heap.size w w'/\(r=-1\/(0<=r/\r<=left/\N xs<=1048576/\∀i,i<N xs->Qe.LB 1048576 (xs.getD i Qe.z))):=by
 obtain⟨hn,v⟩:=v;have hw:IntKind.i64.wrap (left-N xs)=left-N xs:=by rw[Kv];omega
 by_cases h:left-N xs<0
 . clear D;go_enter func10,ntmps10;go_wp2;go_ret;exact⟨-1,rfl,bFz,.inl rfl⟩
 have L:=Hm D;have H:=Hm v;clear D v;go_enter func10,ntmps10;go_wp2;go_loopw [1,5] (λq i wr=>∃(k:Nat) (r:Int),k<=N xs/\i=U O k/\q=U O r/\0<=r/\r<=left/\(∀i,i<k->Qe.LB 1048576 (xs.getD i Qe.z))/\Below w.heap.size w wr) (λ_ i _=>N xs-(intOf i).toNat)
 case atStart=>exact⟨0,_,Kz _,rfl,rfl,by omega,by omega,λi y=>by omega,bFz⟩
 obtain⟨k,r,hk,rfl,rfl,s,C,d,A⟩:=hrel;by_cases g:k<N xs
 . rcases L.o.up (Qa A)with m|⟨b,o,ea,_,F⟩
   . subst m;simp at g
   subst ea;have l:=F k g;have j:=H.o k g;(have Y:(k:Int)<(N xs:Int):=by omega);obtain⟨x,m⟩:∃x,x=xs.getD k Qe.z:=⟨_,rfl⟩;rw[<- m]at l j;obtain⟨a1,c1,a2,c2,⟨V,R⟩,y⟩:=l;have HX:=Hm m;have HA:=Hm d;have I:=Hm (rzFType_c x a1 c1 a2 c2 r wr s (by omega) y j);clear m F d L y j H;(go_wp2_with fail);refine I.o.mono ?_;rintro e M ⟨E,rfl,u,p⟩;have t:Below w.heap.size w M:=A.trans (u.mono A.size);clear u V R I;rcases p with rfl|⟨B,X,n⟩
   . go_wp2;go_ret;exact⟨-1,rfl,t,.inl rfl⟩
   (have f:¬E<0:=by omega);have HR:=Hm n;clear n;go_wp2;go_roundw
   case rel=>exact⟨k+1,E,by omega,by go_num,rfl,B,by omega,fun i y=>by
    rcases(by omega:i<k\/i=k)with h|h
    . exact HA.o i h
    . subst h;rw[<- HX.o];exact HR.o,t⟩
   case measure=>simp[intOf];omega
 have e:k=N xs:=by omega
 subst e;go_wp2;go_ret;exact⟨r,rfl,A,.inr ⟨s,C,by omega,d⟩⟩
theorem rzIn_c (x:In)(k:Option Addr)(c1:Nat)(left:Int)(w:J)(D:0<=left)(C:left<=1048576)(q:In.Is 0 w x k)(A:In.LB 9223372036854775807 x):Ec Q 140 #[Ag #[U O x.op,U O x.a,U O x.b,U Ou x.v,S k (N x.l) c1],U O left] w λe w'=>∃r:Int,e=Z (U O r)/\Below w.heap.size w w'/\(r=-1\/(0<=r/\r<=left/\In.LB 1048576 x)):=by
 have u:N x.l<=9223372036854775807:=A;have s:=q;clear q;clear s;go_enter func140,ntmps140;go_upto_region 1 with fail
 refine Qp (λW=>(W.cell? ⟨w.heap.size,4,none⟩=some (S k (N x.l) c1))/\Below w.heap.size w W/\w.heap.size<W.heap.size) ⟨Qf rfl rfl,bFz.alloc lRz _,by simp⟩ ?_;rintro W ⟨t,p,z⟩;have j:=Hm (rzInts_c k (N x.l) c1 left W (by omega) (by omega) u);go_wp2_with fail
 refine j.o.mono ?_;rintro e B ⟨n,rfl,f,m⟩;have g:Below w.heap.size w B:=p.trans (f.mono p.size);clear f j t;rcases m with rfl|⟨d,c,y⟩
 . go_wp2;go_ret;exact⟨-1,rfl,g,.inl rfl⟩
 have c:n<=left:=by omega
 go_wp2;go_ret;exact⟨n,rfl,g,.inr ⟨d,c,y⟩⟩
theorem rzIns_c (a:Option Addr)(c:Nat)(xs:List In)(left:Int)(w:J)(h0:0<=left)(h1:left<=1048576)(C:In.Ls 0 w a xs)(v:N xs<=9223372036854775807/\∀i,i<N xs->In.LB 9223372036854775807 (xs.getD i I0)):Ec Q 91 #[S a (N xs) c,U O left] w λe w'=>∃r:Int,e=Z (U O r)/\Below w.heap.size w w'/\(r=-1\/(0<=r/\r<=left/\N xs<=1048576/\∀i,i<N xs->In.LB 1048576 (xs.getD i I0))):=by
 obtain⟨hn,v⟩:=v;have hw:IntKind.i64.wrap (left-N xs)=left-N xs:=by rw[Kv];omega
 by_cases h:left-N xs<0
 . clear C;go_enter func91,ntmps91;go_wp2;go_ret;exact⟨-1,rfl,bFz,.inl rfl⟩
 have I:=Hm C;have F:=Hm v;clear C v;go_enter func91,ntmps91;go_wp2;go_loopw [1,5] (λq i wr=>∃(k:Nat) (r:Int),k<=N xs/\i=U O k/\q=U O r/\0<=r/\r<=left/\(∀i,i<k->In.LB 1048576 (xs.getD i I0))/\Below w.heap.size w wr) (λ_ i _=>N xs-(intOf i).toNat)
 case atStart=>exact⟨0,_,Kz _,rfl,rfl,by omega,by omega,λi y=>by omega,bFz⟩
 obtain⟨k,r,hk,rfl,rfl,s,B,d,z⟩:=hrel;by_cases g:k<N xs
 . rcases I.o.up (Qa z)with m|⟨b,o,ea,_,E⟩
   . subst m;simp at g
   subst ea;have l:=E k g;have j:=F.o k g;(have ab:(k:Int)<(N xs:Int):=by omega);obtain⟨x,m⟩:∃x,x=xs.getD k I0:=⟨_,rfl⟩;rw[<- m]at l j;obtain⟨a1,c1,⟨Y,X,V,R,M⟩,y⟩:=l;have HX:=Hm m;have HA:=Hm d;have H:=Hm (rzIn_c x a1 c1 r wr s (by omega) y j);clear m E d I y j F;(go_wp2_with fail);refine H.o.mono ?_;rintro e L ⟨D,rfl,u,p⟩;have t:Below w.heap.size w L:=z.trans (u.mono z.size);clear u Y X V R M H;rcases p with rfl|⟨A,aa,n⟩
   . go_wp2;go_ret;exact⟨-1,rfl,t,.inl rfl⟩
   (have f:¬D<0:=by omega);have HR:=Hm n;clear n;go_wp2;go_roundw
   case rel=>exact⟨k+1,D,by omega,by go_num,rfl,A,by omega,fun i y=>by
    rcases(by omega:i<k\/i=k)with h|h
    . exact HA.o i h
    . subst h;rw[<- HX.o];exact HR.o,t⟩
   case measure=>simp[intOf];omega
 have e:k=N xs:=by omega
 subst e;go_wp2;go_ret;exact⟨r,rfl,z,.inr ⟨s,B,by omega,d⟩⟩
theorem rzImp_c (x:Imp)(left:Int)(w:J)(u:0<=left)(t:left<=1048576)(s:Imp.Is 0 w x)(n:Imp.LB 9223372036854775807 x):Ec Q 47 #[Ag #[Xs x.mod,Xs x.nm,U O x.kind,U O x.ty,U O x.lim.min,U O x.lim.max,G x.lim.has,U O x.gl.ty,G x.gl.mu],U O left] w λe w'=>∃r:Int,e=Z (U O r)/\Below w.heap.size w w'/\(r=-1\/(0<=r/\r<=left/\Imp.LB 1048576 x)):=by
 obtain⟨q,l1⟩:=n;go_enter func47,ntmps47;go_upto_region 1 with fail
 refine Qp (λW=>(W.cell? ⟨w.heap.size,0,none⟩=some (Xs x.mod)/\W.cell? ⟨w.heap.size,1,none⟩=some (Xs x.nm))/\Below w.heap.size w W/\w.heap.size<W.heap.size) ⟨⟨Qf rfl rfl,Qf rfl rfl⟩,bFz.alloc lRz _,by simp⟩ ?_;rintro W ⟨⟨p,o⟩,c,m⟩;have j:IntKind.i64.wrap (left-(x.mod.size:Int))=left-(x.mod.size:Int):=by rw[Kv];omega
 by_cases l:left-(x.mod.size:Int)<0
 . go_wp2;go_ret;exact⟨-1,rfl,c,.inl rfl⟩
 have f:x.mod.size<=1048576:=by omega
 go_upto_region 4 with fail
 have g:IntKind.i64.wrap ((left-(x.mod.size:Int))-(x.nm.size:Int))=(left-(x.mod.size:Int))-(x.nm.size:Int):=by rw[Kv];omega
 by_cases k:(left-(x.mod.size:Int))-(x.nm.size:Int)<0
 . go_wp2;go_ret;exact⟨-1,rfl,c,.inl rfl⟩
 have d:x.nm.size<=1048576:=by omega
 have b:0<=(left-(x.mod.size:Int))-(x.nm.size:Int):=by omega
 have a:(left-(x.mod.size:Int))-(x.nm.size:Int)<=left:=by omega
 go_wp2;go_ret;exact⟨((left-(x.mod.size:Int))-(x.nm.size:Int)),rfl,c,.inr ⟨b,a,⟨f,d⟩⟩⟩
theorem rzImps_c (a:Option Addr)(c:Nat)(xs:List Imp)(left:Int)(w:J)(h0:0<=left)(h1:left<=1048576)(D:Imp.Ls 0 w a xs)(v:N xs<=9223372036854775807/\∀i,i<N xs->Imp.LB 9223372036854775807 (xs.getD i Imp.z)):Ec Q 11 #[S a (N xs) c,U O left] w λe w'=>∃r:Int,e=Z (U O r)/\Below w.heap.size w w'/\(r=-1\/(0<=r/\r<=left/\N xs<=1048576/\∀i,i<N xs->Imp.LB 1048576 (xs.getD i Imp.z))):=by
 obtain⟨hn,v⟩:=v;have hw:IntKind.i64.wrap (left-N xs)=left-N xs:=by rw[Kv];omega
 by_cases h:left-N xs<0
 . clear D;go_enter func11,ntmps11;go_wp2;go_ret;exact⟨-1,rfl,bFz,.inl rfl⟩
 have L:=Hm D;have H:=Hm v;clear D v;go_enter func11,ntmps11;go_wp2;go_loopw [1,5] (λq i wr=>∃(k:Nat) (r:Int),k<=N xs/\i=U O k/\q=U O r/\0<=r/\r<=left/\(∀i,i<k->Imp.LB 1048576 (xs.getD i Imp.z))/\Below w.heap.size w wr) (λ_ i _=>N xs-(intOf i).toNat)
 case atStart=>exact⟨0,_,Kz _,rfl,rfl,by omega,by omega,λi y=>by omega,bFz⟩
 obtain⟨k,r,hk,rfl,rfl,s,C,d,A⟩:=hrel;by_cases g:k<N xs
 . rcases L.o.up (Qa A)with m|⟨b,o,ea,_,F⟩
   . subst m;simp at g
   subst ea;have l:=F k g;have j:=H.o k g;(have ag:(k:Int)<(N xs:Int):=by omega);obtain⟨x,m⟩:∃x,x=xs.getD k Imp.z:=⟨_,rfl⟩;rw[<- m]at l j;obtain⟨⟨q0,q1,q2,q3,q4,Y,X,V,R⟩,y⟩:=l;have HX:=Hm m;have HA:=Hm d;have I:=Hm (rzImp_c x r wr s (by omega) y j);clear m F d L y j H;(go_wp2_with fail);refine I.o.mono ?_;rintro e M ⟨E,rfl,u,p⟩;have t:Below w.heap.size w M:=A.trans (u.mono A.size);clear u q0 q1 q2 q3 q4 Y X V R I;rcases p with rfl|⟨B,af,n⟩
   . go_wp2;go_ret;exact⟨-1,rfl,t,.inl rfl⟩
   (have f:¬E<0:=by omega);have HR:=Hm n;clear n;go_wp2;go_roundw
   case rel=>exact⟨k+1,E,by omega,by go_num,rfl,B,by omega,fun i y=>by
    rcases(by omega:i<k\/i=k)with h|h
    . exact HA.o i h
    . subst h;rw[<- HX.o];exact HR.o,t⟩
   case measure=>simp[intOf];omega
 have e:k=N xs:=by omega
 subst e;go_wp2;go_ret;exact⟨r,rfl,A,.inr ⟨s,C,by omega,d⟩⟩
theorem rzGlob_c (x:Qn)(g:Option Addr)(c1:Nat)(left:Int)(w:J)(z:0<=left)(y:left<=1048576)(n:Qn.Is 0 w x g)(t:Qn.LB 9223372036854775807 x):Ec Q 48 #[Ag #[U O x.ty.ty,G x.ty.mu,S g (N x.ini) c1],U O left] w λe w'=>∃r:Int,e=Z (U O r)/\Below w.heap.size w w'/\(r=-1\/(0<=r/\r<=left/\Qn.LB 1048576 x)):=by
 have l2:=t;have l:=n;clear n;have v:=Hm l;clear l;go_enter func48,ntmps48;go_upto_region 1 with fail
 refine Qp (λW=>(W.cell? ⟨w.heap.size,2,none⟩=some (S g (N x.ini) c1))/\Below w.heap.size w W/\w.heap.size<W.heap.size) ⟨Qf rfl rfl,bFz.alloc lRz _,by simp⟩ ?_;rintro W ⟨p,k,s⟩;have f:=Hm (rzIns_c g c1 x.ini left W (by omega) (by omega) (v.o.up (Qa k)) l2);go_wp2_with fail
 refine f.o.mono ?_;rintro e u ⟨m,rfl,c,j⟩;have d:Below w.heap.size w u:=k.trans (c.mono k.size);clear c f p;rcases j with rfl|⟨b,a,q⟩
 . go_wp2;go_ret;exact⟨-1,rfl,d,.inl rfl⟩
 have a:m<=left:=by omega
 go_wp2;go_ret;exact⟨m,rfl,d,.inr ⟨b,a,q⟩⟩
theorem rzGlobs_c (a:Option Addr)(c:Nat)(xs:List Qn)(left:Int)(w:J)(h0:0<=left)(h1:left<=1048576)(D:Qn.Ls 0 w a xs)(v:N xs<=9223372036854775807/\∀i,i<N xs->Qn.LB 9223372036854775807 (xs.getD i Qn.z)):Ec Q 14 #[S a (N xs) c,U O left] w λe w'=>∃r:Int,e=Z (U O r)/\Below w.heap.size w w'/\(r=-1\/(0<=r/\r<=left/\N xs<=1048576/\∀i,i<N xs->Qn.LB 1048576 (xs.getD i Qn.z))):=by
 obtain⟨hn,v⟩:=v;have hw:IntKind.i64.wrap (left-N xs)=left-N xs:=by rw[Kv];omega
 by_cases h:left-N xs<0
 . clear D;go_enter func14,ntmps14;go_wp2;go_ret;exact⟨-1,rfl,bFz,.inl rfl⟩
 have L:=Hm D;have H:=Hm v;clear D v;go_enter func14,ntmps14;go_wp2;go_loopw [1,5] (λq i wr=>∃(k:Nat) (r:Int),k<=N xs/\i=U O k/\q=U O r/\0<=r/\r<=left/\(∀i,i<k->Qn.LB 1048576 (xs.getD i Qn.z))/\Below w.heap.size w wr) (λ_ i _=>N xs-(intOf i).toNat)
 case atStart=>exact⟨0,_,Kz _,rfl,rfl,by omega,by omega,λi y=>by omega,bFz⟩
 obtain⟨k,r,hk,rfl,rfl,s,C,d,A⟩:=hrel;by_cases g:k<N xs
 . rcases L.o.up (Qa A)with m|⟨b,o,ea,_,F⟩
   . subst m;simp at g
   subst ea;have l:=F k g;have j:=H.o k g;(have aa:(k:Int)<(N xs:Int):=by omega);obtain⟨x,m⟩:∃x,x=xs.getD k Qn.z:=⟨_,rfl⟩;rw[<- m]at l j;obtain⟨a1,c1,⟨X,V,R⟩,y⟩:=l;have HX:=Hm m;have HA:=Hm d;have I:=Hm (rzGlob_c x a1 c1 r wr s (by omega) y j);clear m F d L y j H;(go_wp2_with fail);refine I.o.mono ?_;rintro e M ⟨E,rfl,u,p⟩;have t:Below w.heap.size w M:=A.trans (u.mono A.size);clear u X V R I;rcases p with rfl|⟨B,Y,n⟩
   . go_wp2;go_ret;exact⟨-1,rfl,t,.inl rfl⟩
   (have f:¬E<0:=by omega);have HR:=Hm n;clear n;go_wp2;go_roundw
   case rel=>exact⟨k+1,E,by omega,by go_num,rfl,B,by omega,fun i y=>by
    rcases(by omega:i<k\/i=k)with h|h
    . exact HA.o i h
    . subst h;rw[<- HX.o];exact HR.o,t⟩
   case measure=>simp[intOf];omega
 have e:k=N xs:=by omega
 subst e;go_wp2;go_ret;exact⟨r,rfl,A,.inr ⟨s,C,by omega,d⟩⟩
theorem rzExp_c (x:Exp)(left:Int)(w:J)(p:0<=left)(o:left<=1048576)(n:Exp.Is 0 w x)(k:Exp.LB 9223372036854775807 x):Ec Q 49 #[Ag #[Xs x.nm,U O x.kind,U O x.ix],U O left] w λe w'=>∃r:Int,e=Z (U O r)/\Below w.heap.size w w'/\(r=-1\/(0<=r/\r<=left/\Exp.LB 1048576 x)):=by
 have m:x.nm.size<=9223372036854775807:=k;go_enter func49,ntmps49;go_upto_region 1 with fail
 refine Qp (λW=>(W.cell? ⟨w.heap.size,0,none⟩=some (Xs x.nm))/\Below w.heap.size w W/\w.heap.size<W.heap.size) ⟨Qf rfl rfl,bFz.alloc lRz _,by simp⟩ ?_;rintro W ⟨l,c,j⟩;have f:IntKind.i64.wrap (left-(x.nm.size:Int))=left-(x.nm.size:Int):=by rw[Kv];omega
 by_cases g:left-(x.nm.size:Int)<0
 . go_wp2;go_ret;exact⟨-1,rfl,c,.inl rfl⟩
 have d:x.nm.size<=1048576:=by omega
 have b:0<=left-(x.nm.size:Int):=by omega
 have a:left-(x.nm.size:Int)<=left:=by omega
 go_wp2;go_ret;exact⟨(left-(x.nm.size:Int)),rfl,c,.inr ⟨b,a,d⟩⟩
theorem rzExps_c (a:Option Addr)(c:Nat)(xs:List Exp)(left:Int)(w:J)(h0:0<=left)(h1:left<=1048576)(D:Exp.Ls 0 w a xs)(v:N xs<=9223372036854775807/\∀i,i<N xs->Exp.LB 9223372036854775807 (xs.getD i Exp.z)):Ec Q 15 #[S a (N xs) c,U O left] w λe w'=>∃r:Int,e=Z (U O r)/\Below w.heap.size w w'/\(r=-1\/(0<=r/\r<=left/\N xs<=1048576/\∀i,i<N xs->Exp.LB 1048576 (xs.getD i Exp.z))):=by
 obtain⟨hn,v⟩:=v;have hw:IntKind.i64.wrap (left-N xs)=left-N xs:=by rw[Kv];omega
 by_cases h:left-N xs<0
 . clear D;go_enter func15,ntmps15;go_wp2;go_ret;exact⟨-1,rfl,bFz,.inl rfl⟩
 have L:=Hm D;have H:=Hm v;clear D v;go_enter func15,ntmps15;go_wp2;go_loopw [1,5] (λq i wr=>∃(k:Nat) (r:Int),k<=N xs/\i=U O k/\q=U O r/\0<=r/\r<=left/\(∀i,i<k->Exp.LB 1048576 (xs.getD i Exp.z))/\Below w.heap.size w wr) (λ_ i _=>N xs-(intOf i).toNat)
 case atStart=>exact⟨0,_,Kz _,rfl,rfl,by omega,by omega,λi y=>by omega,bFz⟩
 obtain⟨k,r,hk,rfl,rfl,s,C,d,A⟩:=hrel;by_cases g:k<N xs
 . rcases L.o.up (Qa A)with m|⟨b,o,ea,_,F⟩
   . subst m;simp at g
   subst ea;have l:=F k g;have j:=H.o k g;(have aa:(k:Int)<(N xs:Int):=by omega);obtain⟨x,m⟩:∃x,x=xs.getD k Exp.z:=⟨_,rfl⟩;rw[<- m]at l j;obtain⟨⟨X,V,R⟩,y⟩:=l;have HX:=Hm m;have HA:=Hm d;have I:=Hm (rzExp_c x r wr s (by omega) y j);clear m F d L y j H;(go_wp2_with fail);refine I.o.mono ?_;rintro e M ⟨E,rfl,u,p⟩;have t:Below w.heap.size w M:=A.trans (u.mono A.size);clear u X V R I;rcases p with rfl|⟨B,Y,n⟩
   . go_wp2;go_ret;exact⟨-1,rfl,t,.inl rfl⟩
   (have f:¬E<0:=by omega);have HR:=Hm n;clear n;go_wp2;go_roundw
   case rel=>exact⟨k+1,E,by omega,by go_num,rfl,B,by omega,fun i y=>by
    rcases(by omega:i<k\/i=k)with h|h
    . exact HA.o i h
    . subst h;rw[<- HX.o];exact HR.o,t⟩
   case measure=>simp[intOf];omega
 have e:k=N xs:=by omega
 subst e;go_wp2;go_ret;exact⟨r,rfl,A,.inr ⟨s,C,by omega,d⟩⟩
theorem rzEle_c (x:Ele)(q:Option Addr)(c1:Nat)(n:Option Addr)(c2:Nat)(left:Int)(w:J)(h0:0<=left)(Y:left<=1048576)(R:Ele.Is 0 w x q n)(L:Ele.LB 9223372036854775807 x):Ec Q 50 #[Ag #[S q (N x.off) c1,S n (N x.fs) c2],U O left] w λe w'=>∃r:Int,e=Z (U O r)/\Below w.heap.size w w'/\(r=-1\/(0<=r/\r<=left/\Ele.LB 1048576 x)):=by
 obtain⟨F,l1⟩:=L;obtain⟨z,D⟩:=R;have X:=Hm z;clear z D;go_enter func50,ntmps50;go_upto_region 1 with fail
 refine Qp (λW=>(W.cell? ⟨w.heap.size,0,none⟩=some (S q (N x.off) c1)/\W.cell? ⟨w.heap.size,1,none⟩=some (S n (N x.fs) c2))/\Below w.heap.size w W/\w.heap.size<W.heap.size) ⟨⟨Qf rfl rfl,Qf rfl rfl⟩,bFz.alloc lRz _,by simp⟩ ?_;rintro W ⟨⟨E,s⟩,v,g⟩;have m:=Hm (rzIns_c q c1 x.off left W (by omega) (by omega) (X.o.up (Qa v)) F);go_wp2_with fail
 refine m.o.mono ?_;rintro e y ⟨B,rfl,a,u⟩;have c:Below w.heap.size w y:=v.trans (a.mono v.size);have M:w.heap.size<y.heap.size:=Hw g a.size;have s:=(a.cell (p:=⟨w.heap.size,1,none⟩) g).trans s;clear a m E;rcases u with rfl|⟨C,d,I⟩
 . go_wp2;go_ret;exact⟨-1,rfl,c,.inl rfl⟩
 have d:B<=left:=by omega
 go_upto_region 4 with fail
 have l:=Hm (rzInts_c n (N x.fs) c2 B y (by omega) (by omega) l1);go_wp2_with fail
 refine l.o.mono ?_;rintro e V ⟨A,rfl,j,t⟩;have k:Below w.heap.size w V:=c.trans (j.mono c.size);clear j l s;rcases t with rfl|⟨f,b,H⟩
 . go_wp2;go_ret;exact⟨-1,rfl,k,.inl rfl⟩
 have b:A<=left:=by omega
 go_wp2;go_ret;exact⟨A,rfl,k,.inr ⟨f,b,⟨I,H⟩⟩⟩
theorem rzEles_c (a:Option Addr)(c:Nat)(xs:List Ele)(left:Int)(w:J)(h0:0<=left)(h1:left<=1048576)(D:Ele.Ls 0 w a xs)(v:N xs<=9223372036854775807/\∀i,i<N xs->Ele.LB 9223372036854775807 (xs.getD i Ele.z)):Ec Q 16 #[S a (N xs) c,U O left] w λe w'=>∃r:Int,e=Z (U O r)/\Below w.heap.size w w'/\(r=-1\/(0<=r/\r<=left/\N xs<=1048576/\∀i,i<N xs->Ele.LB 1048576 (xs.getD i Ele.z))):=by
 obtain⟨hn,v⟩:=v;have hw:IntKind.i64.wrap (left-N xs)=left-N xs:=by rw[Kv];omega
 by_cases h:left-N xs<0
 . clear D;go_enter func16,ntmps16;go_wp2;go_ret;exact⟨-1,rfl,bFz,.inl rfl⟩
 have L:=Hm D;have H:=Hm v;clear D v;go_enter func16,ntmps16;go_wp2;go_loopw [1,5] (λq i wr=>∃(k:Nat) (r:Int),k<=N xs/\i=U O k/\q=U O r/\0<=r/\r<=left/\(∀i,i<k->Ele.LB 1048576 (xs.getD i Ele.z))/\Below w.heap.size w wr) (λ_ i _=>N xs-(intOf i).toNat)
 case atStart=>exact⟨0,_,Kz _,rfl,rfl,by omega,by omega,λi y=>by omega,bFz⟩
 obtain⟨k,r,hk,rfl,rfl,s,C,d,A⟩:=hrel;by_cases g:k<N xs
 . rcases L.o.up (Qa A)with m|⟨b,o,ea,_,F⟩
   . subst m;simp at g
   subst ea;have l:=F k g;have j:=H.o k g;(have Y:(k:Int)<(N xs:Int):=by omega);obtain⟨x,m⟩:∃x,x=xs.getD k Ele.z:=⟨_,rfl⟩;rw[<- m]at l j;obtain⟨a1,c1,a2,c2,⟨V,R⟩,y⟩:=l;have HX:=Hm m;have HA:=Hm d;have I:=Hm (rzEle_c x a1 c1 a2 c2 r wr s (by omega) y j);clear m F d L y j H;(go_wp2_with fail);refine I.o.mono ?_;rintro e M ⟨E,rfl,u,p⟩;have t:Below w.heap.size w M:=A.trans (u.mono A.size);clear u V R I;rcases p with rfl|⟨B,X,n⟩
   . go_wp2;go_ret;exact⟨-1,rfl,t,.inl rfl⟩
   (have f:¬E<0:=by omega);have HR:=Hm n;clear n;go_wp2;go_roundw
   case rel=>exact⟨k+1,E,by omega,by go_num,rfl,B,by omega,fun i y=>by
    rcases(by omega:i<k\/i=k)with h|h
    . exact HA.o i h
    . subst h;rw[<- HX.o];exact HR.o,t⟩
   case measure=>simp[intOf];omega
 have e:k=N xs:=by omega
 subst e;go_wp2;go_ret;exact⟨r,rfl,A,.inr ⟨s,C,by omega,d⟩⟩
theorem rzCod_c (x:Cod)(q:Option Addr)(c1:Nat)(n:Option Addr)(c2:Nat)(left:Int)(w:J)(h0:0<=left)(h1:left<=1048576)(V:Cod.Is 0 w x q n)(M:Cod.LB 9223372036854775807 x):Ec Q 51 #[Ag #[S q (N x.locs) c1,S n (N x.body) c2],U O left] w λe w'=>∃r:Int,e=Z (U O r)/\Below w.heap.size w w'/\(r=-1\/(0<=r/\r<=left/\Cod.LB 1048576 x)):=by
 obtain⟨I,l1⟩:=M;obtain⟨F,A⟩:=V;have Y:=Hm A;clear F A;go_enter func51,ntmps51;go_upto_region 1 with fail
 refine Qp (λW=>(W.cell? ⟨w.heap.size,0,none⟩=some (S q (N x.locs) c1)/\W.cell? ⟨w.heap.size,1,none⟩=some (S n (N x.body) c2))/\Below w.heap.size w W/\w.heap.size<W.heap.size) ⟨⟨Qf rfl rfl,Qf rfl rfl⟩,bFz.alloc lRz _,by simp⟩ ?_;rintro W ⟨⟨H,s⟩,E,g⟩;have m:=Hm (rzGrps_c q (N x.locs) c1 left W (by omega) (by omega) I.1);go_wp2_with fail
 refine m.o.mono ?_;rintro e y ⟨C,rfl,a,v⟩;have b:Below w.heap.size w y:=E.trans (a.mono E.size);have R:w.heap.size<y.heap.size:=Hw g a.size;have s:=(a.cell (p:=⟨w.heap.size,1,none⟩) g).trans s;clear a m H;rcases v with rfl|⟨D,d,t⟩
 . go_wp2;go_ret;exact⟨-1,rfl,b,.inl rfl⟩
 have d:C<=left:=by omega
 have t:N x.locs<=1048576/\∀i,i<N x.locs->Grp.LB 1048576 (x.locs.getD i Grp.z):=⟨t,λ_ _=>trivial⟩;go_upto_region 4 with fail
 have l:=Hm (rzIns_c n c2 x.body C y (by omega) (by omega) (Y.o.up (Qa b)) l1);go_wp2_with fail
 refine l.o.mono ?_;rintro e X ⟨B,rfl,j,u⟩;have k:Below w.heap.size w X:=b.trans (j.mono b.size);clear j l s;rcases u with rfl|⟨f,c,L⟩
 . go_wp2;go_ret;exact⟨-1,rfl,k,.inl rfl⟩
 have c:B<=left:=by omega
 go_wp2;go_ret;exact⟨B,rfl,k,.inr ⟨f,c,⟨t,L⟩⟩⟩
theorem rzCods_c (a:Option Addr)(c:Nat)(xs:List Cod)(left:Int)(w:J)(h0:0<=left)(h1:left<=1048576)(D:Cod.Ls 0 w a xs)(v:N xs<=9223372036854775807/\∀i,i<N xs->Cod.LB 9223372036854775807 (xs.getD i Cod.z)):Ec Q 17 #[S a (N xs) c,U O left] w λe w'=>∃r:Int,e=Z (U O r)/\Below w.heap.size w w'/\(r=-1\/(0<=r/\r<=left/\N xs<=1048576/\∀i,i<N xs->Cod.LB 1048576 (xs.getD i Cod.z))):=by
 obtain⟨hn,v⟩:=v;have hw:IntKind.i64.wrap (left-N xs)=left-N xs:=by rw[Kv];omega
 by_cases h:left-N xs<0
 . clear D;go_enter func17,ntmps17;go_wp2;go_ret;exact⟨-1,rfl,bFz,.inl rfl⟩
 have L:=Hm D;have H:=Hm v;clear D v;go_enter func17,ntmps17;go_wp2;go_loopw [1,5] (λq i wr=>∃(k:Nat) (r:Int),k<=N xs/\i=U O k/\q=U O r/\0<=r/\r<=left/\(∀i,i<k->Cod.LB 1048576 (xs.getD i Cod.z))/\Below w.heap.size w wr) (λ_ i _=>N xs-(intOf i).toNat)
 case atStart=>exact⟨0,_,Kz _,rfl,rfl,by omega,by omega,λi y=>by omega,bFz⟩
 obtain⟨k,r,hk,rfl,rfl,s,C,d,A⟩:=hrel;by_cases g:k<N xs
 . rcases L.o.up (Qa A)with m|⟨b,o,ea,_,F⟩
   . subst m;simp at g
   subst ea;have l:=F k g;have j:=H.o k g;(have Y:(k:Int)<(N xs:Int):=by omega);obtain⟨x,m⟩:∃x,x=xs.getD k Cod.z:=⟨_,rfl⟩;rw[<- m]at l j;obtain⟨a1,c1,a2,c2,⟨V,R⟩,y⟩:=l;have HX:=Hm m;have HA:=Hm d;have I:=Hm (rzCod_c x a1 c1 a2 c2 r wr s (by omega) y j);clear m F d L y j H;(go_wp2_with fail);refine I.o.mono ?_;rintro e M ⟨E,rfl,u,p⟩;have t:Below w.heap.size w M:=A.trans (u.mono A.size);clear u V R I;rcases p with rfl|⟨B,X,n⟩
   . go_wp2;go_ret;exact⟨-1,rfl,t,.inl rfl⟩
   (have f:¬E<0:=by omega);have HR:=Hm n;clear n;go_wp2;go_roundw
   case rel=>exact⟨k+1,E,by omega,by go_num,rfl,B,by omega,fun i y=>by
    rcases(by omega:i<k\/i=k)with h|h
    . exact HA.o i h
    . subst h;rw[<- HX.o];exact HR.o,t⟩
   case measure=>simp[intOf];omega
 have e:k=N xs:=by omega
 subst e;go_wp2;go_ret;exact⟨r,rfl,A,.inr ⟨s,C,by omega,d⟩⟩
theorem rzDat_c (x:Dat)(q:Option Addr)(c1:Nat)(n:Option Addr)(c2:Nat)(left:Int)(w:J)(h0:0<=left)(Y:left<=1048576)(R:Dat.Is 0 w x q n)(L:Dat.LB 9223372036854775807 x):Ec Q 52 #[Ag #[S q (N x.off) c1,S n (N x.bs) c2],U O left] w λe w'=>∃r:Int,e=Z (U O r)/\Below w.heap.size w w'/\(r=-1\/(0<=r/\r<=left/\Dat.LB 1048576 x)):=by
 obtain⟨F,l1⟩:=L;obtain⟨z,D⟩:=R;have X:=Hm z;clear z D;go_enter func52,ntmps52;go_upto_region 1 with fail
 refine Qp (λW=>(W.cell? ⟨w.heap.size,0,none⟩=some (S q (N x.off) c1)/\W.cell? ⟨w.heap.size,1,none⟩=some (S n (N x.bs) c2))/\Below w.heap.size w W/\w.heap.size<W.heap.size) ⟨⟨Qf rfl rfl,Qf rfl rfl⟩,bFz.alloc lRz _,by simp⟩ ?_;rintro W ⟨⟨E,s⟩,v,g⟩;have m:=Hm (rzIns_c q c1 x.off left W (by omega) (by omega) (X.o.up (Qa v)) F);go_wp2_with fail
 refine m.o.mono ?_;rintro e y ⟨B,rfl,a,u⟩;have c:Below w.heap.size w y:=v.trans (a.mono v.size);have M:w.heap.size<y.heap.size:=Hw g a.size;have s:=(a.cell (p:=⟨w.heap.size,1,none⟩) g).trans s;clear a m E;rcases u with rfl|⟨C,d,I⟩
 . go_wp2;go_ret;exact⟨-1,rfl,c,.inl rfl⟩
 have d:B<=left:=by omega
 go_upto_region 4 with fail
 have l:=Hm (rzBytes_c n (N x.bs) c2 B y (by omega) (by omega) l1);go_wp2_with fail
 refine l.o.mono ?_;rintro e V ⟨A,rfl,j,t⟩;have k:Below w.heap.size w V:=c.trans (j.mono c.size);clear j l s;rcases t with rfl|⟨f,b,H⟩
 . go_wp2;go_ret;exact⟨-1,rfl,k,.inl rfl⟩
 have b:A<=left:=by omega
 go_wp2;go_ret;exact⟨A,rfl,k,.inr ⟨f,b,⟨I,H⟩⟩⟩
theorem rzDats_c (a:Option Addr)(c:Nat)(xs:List Dat)(left:Int)(w:J)(h0:0<=left)(h1:left<=1048576)(D:Dat.Ls 0 w a xs)(v:N xs<=9223372036854775807/\∀i,i<N xs->Dat.LB 9223372036854775807 (xs.getD i Dat.z)):Ec Q 18 #[S a (N xs) c,U O left] w λe w'=>∃r:Int,e=Z (U O r)/\Below w.heap.size w w'/\(r=-1\/(0<=r/\r<=left/\N xs<=1048576/\∀i,i<N xs->Dat.LB 1048576 (xs.getD i Dat.z))):=by
 obtain⟨hn,v⟩:=v;have hw:IntKind.i64.wrap (left-N xs)=left-N xs:=by rw[Kv];omega
 by_cases h:left-N xs<0
 . clear D;go_enter func18,ntmps18;go_wp2;go_ret;exact⟨-1,rfl,bFz,.inl rfl⟩
 have L:=Hm D;have H:=Hm v;clear D v;go_enter func18,ntmps18;go_wp2;go_loopw [1,5] (λq i wr=>∃(k:Nat) (r:Int),k<=N xs/\i=U O k/\q=U O r/\0<=r/\r<=left/\(∀i,i<k->Dat.LB 1048576 (xs.getD i Dat.z))/\Below w.heap.size w wr) (λ_ i _=>N xs-(intOf i).toNat)
 case atStart=>exact⟨0,_,Kz _,rfl,rfl,by omega,by omega,λi y=>by omega,bFz⟩
 obtain⟨k,r,hk,rfl,rfl,s,C,d,A⟩:=hrel;by_cases g:k<N xs
 . rcases L.o.up (Qa A)with m|⟨b,o,ea,_,F⟩
   . subst m;simp at g
   subst ea;have l:=F k g;have j:=H.o k g;(have Y:(k:Int)<(N xs:Int):=by omega);obtain⟨x,m⟩:∃x,x=xs.getD k Dat.z:=⟨_,rfl⟩;rw[<- m]at l j;obtain⟨a1,c1,a2,c2,⟨V,R⟩,y⟩:=l;have HX:=Hm m;have HA:=Hm d;have I:=Hm (rzDat_c x a1 c1 a2 c2 r wr s (by omega) y j);clear m F d L y j H;(go_wp2_with fail);refine I.o.mono ?_;rintro e M ⟨E,rfl,u,p⟩;have t:Below w.heap.size w M:=A.trans (u.mono A.size);clear u V R I;rcases p with rfl|⟨B,X,n⟩
   . go_wp2;go_ret;exact⟨-1,rfl,t,.inl rfl⟩
   (have f:¬E<0:=by omega);have HR:=Hm n;clear n;go_wp2;go_roundw
   case rel=>exact⟨k+1,E,by omega,by go_num,rfl,B,by omega,fun i y=>by
    rcases(by omega:i<k\/i=k)with h|h
    . exact HA.o i h
    . subst h;rw[<- HX.o];exact HR.o,t⟩
   case measure=>simp[intOf];omega
 have e:k=N xs:=by omega
 subst e;go_wp2;go_ret;exact⟨r,rfl,A,.inr ⟨s,C,by omega,d⟩⟩
theorem rzCus_c (x:Cus)(g:Option Addr)(c1:Nat)(left:Int)(w:J)(D:0<=left)(C:left<=1048576)(n:Cus.Is 0 w x g)(z:Cus.LB 9223372036854775807 x):Ec Q 53 #[Ag #[U O x.aft,Xs x.nm,S g (N x.bs) c1],U O left] w λe w'=>∃r:Int,e=Z (U O r)/\Below w.heap.size w w'/\(r=-1\/(0<=r/\r<=left/\Cus.LB 1048576 x)):=by
 obtain⟨l1,l2⟩:=z;have p:=n;clear n;clear p;go_enter func53,ntmps53;go_upto_region 1 with fail
 refine Qp (λW=>(W.cell? ⟨w.heap.size,1,none⟩=some (Xs x.nm)/\W.cell? ⟨w.heap.size,2,none⟩=some (S g (N x.bs) c1))/\Below w.heap.size w W/\w.heap.size<W.heap.size) ⟨⟨Qf rfl rfl,Qf rfl rfl⟩,bFz.alloc lRz _,by simp⟩ ?_;rintro W ⟨⟨B,q⟩,k,y⟩;have u:IntKind.i64.wrap (left-(x.nm.size:Int))=left-(x.nm.size:Int):=by rw[Kv];omega
 by_cases v:left-(x.nm.size:Int)<0
 . go_wp2;go_ret;exact⟨-1,rfl,k,.inl rfl⟩
 have t:x.nm.size<=1048576:=by omega
 have m:0<=left-(x.nm.size:Int):=by omega
 go_upto_region 4 with fail
 have f:=Hm (rzBytes_c g (N x.bs) c1 (left-(x.nm.size:Int)) W (by omega) (by omega) l2);go_wp2_with fail
 refine f.o.mono ?_;rintro e A ⟨l,rfl,c,j⟩;have d:Below w.heap.size w A:=k.trans (c.mono k.size);clear c f q;rcases j with rfl|⟨b,a,s⟩
 . go_wp2;go_ret;exact⟨-1,rfl,d,.inl rfl⟩
 have a:l<=left:=by omega
 go_wp2;go_ret;exact⟨l,rfl,d,.inr ⟨b,a,⟨t,s⟩⟩⟩
theorem rzCuss_c (a:Option Addr)(c:Nat)(xs:List Cus)(left:Int)(w:J)(h0:0<=left)(h1:left<=1048576)(D:Cus.Ls 0 w a xs)(v:N xs<=9223372036854775807/\∀i,i<N xs->Cus.LB 9223372036854775807 (xs.getD i Cus.z)):Ec Q 19 #[S a (N xs) c,U O left] w λe w'=>∃r:Int,e=Z (U O r)/\Below w.heap.size w w'/\(r=-1\/(0<=r/\r<=left/\N xs<=1048576/\∀i,i<N xs->Cus.LB 1048576 (xs.getD i Cus.z))):=by
 obtain⟨hn,v⟩:=v;have hw:IntKind.i64.wrap (left-N xs)=left-N xs:=by rw[Kv];omega
 by_cases h:left-N xs<0
 . clear D;go_enter func19,ntmps19;go_wp2;go_ret;exact⟨-1,rfl,bFz,.inl rfl⟩
 have L:=Hm D;have H:=Hm v;clear D v;go_enter func19,ntmps19;go_wp2;go_loopw [1,5] (λq i wr=>∃(k:Nat) (r:Int),k<=N xs/\i=U O k/\q=U O r/\0<=r/\r<=left/\(∀i,i<k->Cus.LB 1048576 (xs.getD i Cus.z))/\Below w.heap.size w wr) (λ_ i _=>N xs-(intOf i).toNat)
 case atStart=>exact⟨0,_,Kz _,rfl,rfl,by omega,by omega,λi y=>by omega,bFz⟩
 obtain⟨k,r,hk,rfl,rfl,s,C,d,A⟩:=hrel;by_cases g:k<N xs
 . rcases L.o.up (Qa A)with m|⟨b,o,ea,_,F⟩
   . subst m;simp at g
   subst ea;have l:=F k g;have j:=H.o k g;(have aa:(k:Int)<(N xs:Int):=by omega);obtain⟨x,m⟩:∃x,x=xs.getD k Cus.z:=⟨_,rfl⟩;rw[<- m]at l j;obtain⟨a1,c1,⟨X,V,R⟩,y⟩:=l;have HX:=Hm m;have HA:=Hm d;have I:=Hm (rzCus_c x a1 c1 r wr s (by omega) y j);clear m F d L y j H;(go_wp2_with fail);refine I.o.mono ?_;rintro e M ⟨E,rfl,u,p⟩;have t:Below w.heap.size w M:=A.trans (u.mono A.size);clear u X V R I;rcases p with rfl|⟨B,Y,n⟩
   . go_wp2;go_ret;exact⟨-1,rfl,t,.inl rfl⟩
   (have f:¬E<0:=by omega);have HR:=Hm n;clear n;go_wp2;go_roundw
   case rel=>exact⟨k+1,E,by omega,by go_num,rfl,B,by omega,fun i y=>by
    rcases(by omega:i<k\/i=k)with h|h
    . exact HA.o i h
    . subst h;rw[<- HX.o];exact HR.o,t⟩
   case measure=>simp[intOf];omega
 have e:k=N xs:=by omega
 subst e;go_wp2;go_ret;exact⟨r,rfl,A,.inr ⟨s,C,by omega,d⟩⟩
theorem rzMod_c (x:Mod)(a1:Option Addr)(c1:Nat)(a2:Option Addr)(c2:Nat)(a3:Option Addr)(c3:Nat)(a4:Option Addr)(c4:Nat)(a5:Option Addr)(c5:Nat)(a6:Option Addr)(c6:Nat)(a7:Option Addr)(c7:Nat)(a8:Option Addr)(c8:Nat)(a9:Option Addr)(c9:Nat)(ag:Option Addr)(ba:Nat)(af:Option Addr)(a0:Nat)(left:Int)(w:J)(h0:0<=left)(h1:left<=1048576)(hI:Mod.Is 0 w x a1 a2 a3 a4 a5 a6 a7 a8 a9 ag af)(hl:Mod.LB 9223372036854775807 x):Ec Q 4 #[Ag #[S a1 (N x.types) c1,S a2 (N x.imps) c2,S a3 (N x.funcs) c3,S a4 (N x.tabs) c4,S a5 (N x.mems) c5,S a6 (N x.globs) c6,S a7 (N x.exps) c7,G x.hasS,U O x.start,S a8 (N x.elems) c8,S a9 (N x.codes) c9,S ag (N x.datas) ba,S af (N x.customs) a0],U O left] w λe w'=>∃r:Int,e=Z (U O r)/\Below w.heap.size w w'/\(r=-1\/(0<=r/\r<=left/\Mod.LB 1048576 x)):=by
 obtain⟨l0,l1,l2,l3,l4,l5,l6,l9,ce,cd,cc⟩:=hl;obtain⟨r1,r2,r3,r4,r5,r6,r7,r8,r9,bf,bd⟩:=hI;have R1:=Hm r1;have R2:=Hm r2;have R6:=Hm r6;have R7:=Hm r7;have R8:=Hm r8;have R9:=Hm r9;have di:=Hm bf;have dh:=Hm bd;clear r1 r2 r3 r4 r5 r6 r7 r8 r9 bf bd;go_enter func4,ntmps4;go_upto_region 1 with fail
 refine Qp (λW=>(W.cell? ⟨w.heap.size,0,none⟩=some (S a1 (N x.types) c1)/\W.cell? ⟨w.heap.size,1,none⟩=some (S a2 (N x.imps) c2)/\W.cell? ⟨w.heap.size,2,none⟩=some (S a3 (N x.funcs) c3)/\W.cell? ⟨w.heap.size,3,none⟩=some (S a4 (N x.tabs) c4)/\W.cell? ⟨w.heap.size,4,none⟩=some (S a5 (N x.mems) c5)/\W.cell? ⟨w.heap.size,5,none⟩=some (S a6 (N x.globs) c6)/\W.cell? ⟨w.heap.size,6,none⟩=some (S a7 (N x.exps) c7)/\W.cell? ⟨w.heap.size,9,none⟩=some (S a8 (N x.elems) c8)/\W.cell? ⟨w.heap.size,10,none⟩=some (S a9 (N x.codes) c9)/\W.cell? ⟨w.heap.size,11,none⟩=some (S ag (N x.datas) ba)/\W.cell? ⟨w.heap.size,12,none⟩=some (S af (N x.customs) a0))/\Below w.heap.size w W/\w.heap.size<W.heap.size) ⟨⟨Qf rfl rfl,Qf rfl rfl,Qf rfl rfl,Qf rfl rfl,Qf rfl rfl,Qf rfl rfl,Qf rfl rfl,Qf rfl rfl,Qf rfl rfl,Qf rfl rfl,Qf rfl rfl⟩,bFz.alloc lRz _,by simp⟩ ?_;rintro W ⟨⟨q0,q1,q2,q3,X,H,D,u,c,b,a⟩,hb,g⟩;have b1:=Hm (rzFTypes_c a1 c1 x.types left W (by omega) (by omega) (R1.o.up (Qa hb)) l0);go_wp2_with fail
 refine b1.o.mono ?_;rintro e W0 ⟨m0,rfl,d,ct⟩;have ae:Below w.heap.size w W0:=hb.trans (d.mono hb.size);have l:w.heap.size<W0.heap.size:=Hw g d.size;have q1:=(d.cell (p:=⟨w.heap.size,1,none⟩) g).trans q1;have q2:=(d.cell (p:=⟨w.heap.size,2,none⟩) g).trans q2;have q3:=(d.cell (p:=⟨w.heap.size,3,none⟩) g).trans q3;have X:=(d.cell (p:=⟨w.heap.size,4,none⟩) g).trans X;have H:=(d.cell (p:=⟨w.heap.size,5,none⟩) g).trans H;have D:=(d.cell (p:=⟨w.heap.size,6,none⟩) g).trans D;have u:=(d.cell (p:=⟨w.heap.size,9,none⟩) g).trans u;have c:=(d.cell (p:=⟨w.heap.size,10,none⟩) g).trans c;have b:=(d.cell (p:=⟨w.heap.size,11,none⟩) g).trans b;have a:=(d.cell (p:=⟨w.heap.size,12,none⟩) g).trans a;clear d b1 q0;rcases ct with rfl|⟨d5,R,k0⟩
 . go_wp2;go_ret;exact⟨-1,rfl,ae,.inl rfl⟩
 have R:m0<=left:=by omega
 go_upto_region 4 with fail
 have bz:=Hm (rzImps_c a2 c2 x.imps m0 W0 (by omega) (by omega) (R2.o.up (Qa ae)) l1);go_wp2_with fail
 refine bz.o.mono ?_;rintro e W1 ⟨m1,rfl,f,cq⟩;have az:Below w.heap.size w W1:=ae.trans (f.mono ae.size);have n:w.heap.size<W1.heap.size:=Hw l f.size;have q2:=(f.cell (p:=⟨w.heap.size,2,none⟩) l).trans q2;have q3:=(f.cell (p:=⟨w.heap.size,3,none⟩) l).trans q3;have X:=(f.cell (p:=⟨w.heap.size,4,none⟩) l).trans X;have H:=(f.cell (p:=⟨w.heap.size,5,none⟩) l).trans H;have D:=(f.cell (p:=⟨w.heap.size,6,none⟩) l).trans D;have u:=(f.cell (p:=⟨w.heap.size,9,none⟩) l).trans u;have c:=(f.cell (p:=⟨w.heap.size,10,none⟩) l).trans c;have b:=(f.cell (p:=⟨w.heap.size,11,none⟩) l).trans b;have a:=(f.cell (p:=⟨w.heap.size,12,none⟩) l).trans a;clear f bz q1;rcases cq with rfl|⟨d4,M,k1⟩
 . go_wp2;go_ret;exact⟨-1,rfl,az,.inl rfl⟩
 have M:m1<=left:=by omega
 go_upto_region 7 with fail
 have bw:=Hm (rzInts_c a3 (N x.funcs) c3 m1 W1 (by omega) (by omega) l2);go_wp2_with fail
 refine bw.o.mono ?_;rintro e W2 ⟨m2,rfl,j,cp⟩;have ay:Below w.heap.size w W2:=az.trans (j.mono az.size);have t:w.heap.size<W2.heap.size:=Hw n j.size;have q3:=(j.cell (p:=⟨w.heap.size,3,none⟩) n).trans q3;have X:=(j.cell (p:=⟨w.heap.size,4,none⟩) n).trans X;have H:=(j.cell (p:=⟨w.heap.size,5,none⟩) n).trans H;have D:=(j.cell (p:=⟨w.heap.size,6,none⟩) n).trans D;have u:=(j.cell (p:=⟨w.heap.size,9,none⟩) n).trans u;have c:=(j.cell (p:=⟨w.heap.size,10,none⟩) n).trans c;have b:=(j.cell (p:=⟨w.heap.size,11,none⟩) n).trans b;have a:=(j.cell (p:=⟨w.heap.size,12,none⟩) n).trans a;clear j bw q2;rcases cp with rfl|⟨d3,I,k2⟩
 . go_wp2;go_ret;exact⟨-1,rfl,ay,.inl rfl⟩
 have I:m2<=left:=by omega
 go_upto_region 10 with fail
 have bv:=Hm (rzLimitss_c a4 (N x.tabs) c4 m2 W2 (by omega) (by omega) l3.1);go_wp2_with fail
 refine bv.o.mono ?_;rintro e W3 ⟨m3,rfl,k,co⟩;have ax:Below w.heap.size w W3:=ay.trans (k.mono ay.size);have y:w.heap.size<W3.heap.size:=Hw t k.size;have X:=(k.cell (p:=⟨w.heap.size,4,none⟩) t).trans X;have H:=(k.cell (p:=⟨w.heap.size,5,none⟩) t).trans H;have D:=(k.cell (p:=⟨w.heap.size,6,none⟩) t).trans D;have u:=(k.cell (p:=⟨w.heap.size,9,none⟩) t).trans u;have c:=(k.cell (p:=⟨w.heap.size,10,none⟩) t).trans c;have b:=(k.cell (p:=⟨w.heap.size,11,none⟩) t).trans b;have a:=(k.cell (p:=⟨w.heap.size,12,none⟩) t).trans a;clear k bv q3;rcases co with rfl|⟨d2,bq,k3⟩
 . go_wp2;go_ret;exact⟨-1,rfl,ax,.inl rfl⟩
 have bq:m3<=left:=by omega
 have k3:N x.tabs<=1048576/\∀i,i<N x.tabs->Qg.LB 1048576 (x.tabs.getD i Qg.z):=⟨k3,λ_ _=>trivial⟩;go_upto_region 13 with fail
 have bu:=Hm (rzLimitss_c a5 (N x.mems) c5 m3 W3 (by omega) (by omega) l4.1);go_wp2_with fail
 refine bu.o.mono ?_;rintro e W4 ⟨m4,rfl,m,cn⟩;have ad:Below w.heap.size w W4:=ax.trans (m.mono ax.size);have F:w.heap.size<W4.heap.size:=Hw y m.size;have H:=(m.cell (p:=⟨w.heap.size,5,none⟩) y).trans H;have D:=(m.cell (p:=⟨w.heap.size,6,none⟩) y).trans D;have u:=(m.cell (p:=⟨w.heap.size,9,none⟩) y).trans u;have c:=(m.cell (p:=⟨w.heap.size,10,none⟩) y).trans c;have b:=(m.cell (p:=⟨w.heap.size,11,none⟩) y).trans b;have a:=(m.cell (p:=⟨w.heap.size,12,none⟩) y).trans a;clear m bu X;rcases cn with rfl|⟨d1,bp,k4⟩
 . go_wp2;go_ret;exact⟨-1,rfl,ad,.inl rfl⟩
 have bp:m4<=left:=by omega
 have k4:N x.mems<=1048576/\∀i,i<N x.mems->Qg.LB 1048576 (x.mems.getD i Qg.z):=⟨k4,λ_ _=>trivial⟩;go_upto_region 16 with fail
 have bt:=Hm (rzGlobs_c a6 c6 x.globs m4 W4 (by omega) (by omega) (R6.o.up (Qa ad)) l5);go_wp2_with fail
 refine bt.o.mono ?_;rintro e W5 ⟨m5,rfl,q,cm⟩;have ac:Below w.heap.size w W5:=ad.trans (q.mono ad.size);have V:w.heap.size<W5.heap.size:=Hw F q.size;have D:=(q.cell (p:=⟨w.heap.size,6,none⟩) F).trans D;have u:=(q.cell (p:=⟨w.heap.size,9,none⟩) F).trans u;have c:=(q.cell (p:=⟨w.heap.size,10,none⟩) F).trans c;have b:=(q.cell (p:=⟨w.heap.size,11,none⟩) F).trans b;have a:=(q.cell (p:=⟨w.heap.size,12,none⟩) F).trans a;clear q bt H;rcases cm with rfl|⟨d0,bo,k5⟩
 . go_wp2;go_ret;exact⟨-1,rfl,ac,.inl rfl⟩
 have bo:m5<=left:=by omega
 go_upto_region 19 with fail
 have bs:=Hm (rzExps_c a7 c7 x.exps m5 W5 (by omega) (by omega) (R7.o.up (Qa ac)) l6);go_wp2_with fail
 refine bs.o.mono ?_;rintro e W6 ⟨m6,rfl,v,cl⟩;have ab:Below w.heap.size w W6:=ac.trans (v.mono ac.size);have Y:w.heap.size<W6.heap.size:=Hw V v.size;have u:=(v.cell (p:=⟨w.heap.size,9,none⟩) V).trans u;have c:=(v.cell (p:=⟨w.heap.size,10,none⟩) V).trans c;have b:=(v.cell (p:=⟨w.heap.size,11,none⟩) V).trans b;have a:=(v.cell (p:=⟨w.heap.size,12,none⟩) V).trans a;clear v bs D;rcases cl with rfl|⟨dz,bn,k6⟩
 . go_wp2;go_ret;exact⟨-1,rfl,ab,.inl rfl⟩
 have bn:m6<=left:=by omega
 go_upto_region 22 with fail
 have br:=Hm (rzEles_c a8 c8 x.elems m6 W6 (by omega) (by omega) (R8.o.up (Qa ab)) l9);go_wp2_with fail
 refine br.o.mono ?_;rintro e W9 ⟨m9,rfl,E,ck⟩;have aa:Below w.heap.size w W9:=ab.trans (E.mono ab.size);have aw:w.heap.size<W9.heap.size:=Hw Y E.size;have c:=(E.cell (p:=⟨w.heap.size,10,none⟩) Y).trans c;have b:=(E.cell (p:=⟨w.heap.size,11,none⟩) Y).trans b;have a:=(E.cell (p:=⟨w.heap.size,12,none⟩) Y).trans a;clear E br u;rcases ck with rfl|⟨dy,bm,k9⟩
 . go_wp2;go_ret;exact⟨-1,rfl,aa,.inl rfl⟩
 have bm:m9<=left:=by omega
 go_upto_region 25 with fail
 have ap:=Hm (rzCods_c a9 c9 x.codes m9 W9 (by omega) (by omega) (R9.o.up (Qa aa)) ce);go_wp2_with fail
 refine ap.o.mono ?_;rintro e bc ⟨bl,rfl,s,R⟩;have C:Below w.heap.size w bc:=aa.trans (s.mono aa.size);have ai:w.heap.size<bc.heap.size:=Hw aw s.size;have b:=(s.cell (p:=⟨w.heap.size,11,none⟩) aw).trans b;have a:=(s.cell (p:=⟨w.heap.size,12,none⟩) aw).trans a;clear s ap c;rcases R with rfl|⟨cs,au,cj⟩
 . go_wp2;go_ret;exact⟨-1,rfl,C,.inl rfl⟩
 have au:bl<=left:=by omega
 go_upto_region 28 with fail
 have ao:=Hm (rzDats_c ag ba x.datas bl bc (by omega) (by omega) (di.o.up (Qa C)) cd);go_wp2_with fail
 refine ao.o.mono ?_;rintro e bb ⟨bj,rfl,A,M⟩;have B:Below w.heap.size w bb:=C.trans (A.mono C.size);have d6:w.heap.size<bb.heap.size:=Hw ai A.size;have a:=(A.cell (p:=⟨w.heap.size,12,none⟩) ai).trans a;clear A ao b;rcases M with rfl|⟨cr,ar,ci⟩
 . go_wp2;go_ret;exact⟨-1,rfl,B,.inl rfl⟩
 have ar:bj<=left:=by omega
 go_upto_region 31 with fail
 have ak:=Hm (rzCuss_c af a0 x.customs bj bb (by omega) (by omega) (dh.o.up (Qa B)) cc);go_wp2_with fail
 refine ak.o.mono ?_;rintro e de ⟨bh,rfl,ah,I⟩;have aj:Below w.heap.size w de:=B.trans (ah.mono B.size);clear ah ak a;rcases I with rfl|⟨av,L,ch⟩
 . go_wp2;go_ret;exact⟨-1,rfl,aj,.inl rfl⟩
 have L:bh<=left:=by omega
 go_wp2;go_ret;exact⟨bh,rfl,aj,.inr ⟨av,L,⟨k0,k1,k2,k3,k4,k5,k6,k9,cj,ci,ch⟩⟩⟩
