import Derived.Deep.Slices
import Derived.OpenShut
import Derived.Test.YtaccbbndmmhenaaGreatGar
import Derived.Test.YtaccbbndmmhenaaGreatGam
set_option linter.all false
set_option maxHeartbeats 400000000
set_option maxRecDepth 100000
namespace Go.Proofs
open Value renaming int->U,slice->S,bool->G,pointer->Yp,string->Xs,agg->Ag,nilIface->Nf,iface->If
open IntKind renaming i64->O,u64->Ou
open Ending renaming returned->Z
open Obj renaming cells->Fc
open Go renaming World->J,Calls->Ec,Value->Vu,Addr->Ad
open Tryz renaming prog->Q
open Tryz
open World renaming cell?_spot->Hd,cells?_some->Hb,block_lt_of_cell?->Kk
open Nat renaming zero_le->Kw,le_of_not_lt->En,lt_or_ge->Lc
open List renaming getD->Kx,range->Mb,getElem?_eq_none->Hq,all_eq_true->Hf,getElem?_eq_getElem->Kj,length->N
open DataW renaming trod->Tp,trod_struct->Hj,trod_int->Hg,trod_bool->Iy,trod_string->Ph
open Bool renaming true_and->Tk,and_eq_true->Ky
open Calls renaming regrown_of->Tz
open Region renaming wanted->Tj
open Exit renaming normal->Tn
namespace YtaccbbndmmhenaaGreat
open Go.RowKit Go.ChangeShapes Go.WideShapes Go.ChangeAt
variable {W:J}{cs:List Vu}{n:Nat}{H:Type}{v:Vu}
theorem big (h:n<=maxLen):n<=9223372036854775807:=by unfold maxLen at h;omega
theorem ko2:Q.cellsOf 2=1:=by kernel_rfl
theorem ko4:Q.cellsOf 4=1:=by kernel_rfl
theorem ko5:Q.cellsOf 5=1:=by kernel_rfl
theorem ko9:Q.cellsOf 9=1:=by kernel_rfl
theorem kou:Q.cellsOf 83=1:=by kernel_rfl
theorem koi:Q.cellsOf 24=1:=by kernel_rfl
theorem kob:Q.cellsOf 160=1:=by kernel_rfl
theorem QT:Q.cellsOf 140=3:=by kernel_rfl
theorem Ja:Q.cellsOf 25=1:=by kernel_rfl
theorem Ji:Q.cellsOf 142=2:=by kernel_rfl
theorem Jc:Q.cellsOf 137=2:=by kernel_rfl
theorem Jq:Q.cellsOf 22=1:=by kernel_rfl
theorem Xp:Q.cellsOf 289=5:=by kernel_rfl
theorem Gf:Q.cellsOf 146=1:=by kernel_rfl
theorem JZ:Q.cellsOf 144=9:=by kernel_rfl
theorem Xr:Q.cellsOf 23=1:=by kernel_rfl
theorem JA:Q.cellsOf 148=3:=by kernel_rfl
theorem JO:Q.cellsOf 26=1:=by kernel_rfl
theorem J4:Q.cellsOf 151=3:=by kernel_rfl
theorem Xt:Q.cellsOf 27=1:=by kernel_rfl
theorem J5:Q.cellsOf 154=2:=by kernel_rfl
theorem Xu:Q.cellsOf 28=1:=by kernel_rfl
theorem J3:Q.cellsOf 301=2:=by kernel_rfl
theorem Xsz0:Q.cellsOf 156=1:=by kernel_rfl
theorem J8:Q.cellsOf 158=2:=by kernel_rfl
theorem Xx:Q.cellsOf 29=1:=by kernel_rfl
theorem J6:Q.cellsOf 162=2:=by kernel_rfl
theorem Xv:Q.cellsOf 30=1:=by kernel_rfl
theorem J7:Q.cellsOf 165=3:=by kernel_rfl
theorem Xw:Q.cellsOf 31=1:=by kernel_rfl
theorem Xl:Q.cellsOf 33=13:=by kernel_rfl
theorem hi_take {k:IntKind}{a:Ad}{len:Nat}{d:List Int}(o:len<=N d)(j:∀i,i<N d->W.cell? (a.add i)=some (U k (d.getD i 0))):HI k 0 W (some a) (d.take len):=by
 by_cases n:len=0
 . subst n;exact .inl (by simp)
 obtain⟨b,off,f⟩:=a;have m:=j 0 (by omega);have c:f=none:=by simpa[Addr.add]using Hd m
 subst c;refine .inr ⟨b,off,rfl,Kw _,λi hi=>?_⟩;have g:i<len:=by simp at hi;omega
 have l:=j i (by omega);have e:(d.take len).getD i 0=d.getD i 0:=by simp[Kx,g]
 rw[e];rwa [Addr.add_lit]at l
theorem val_ints {enc:TypeId × Vu->H}{y:DataW H × List MemPlace}(g:Tp enc Q W 0 (λ_=>true) true n 24 [v]=some y):∃(a:Option Ad) (c:Nat) (l:List Int),v=S a (N l) c/\N l<=maxLen/\HI O 0 W a l:=by
 rcases open_ints underlying24 underlying2 ko2 g with ⟨b,_⟩|⟨x,len,cap,d,b,_,m,k,f,_,j,_⟩
 . simp at b;subst b;exact⟨none,0,[],rfl,Kw _,.inl rfl⟩
 simp at b f;subst b;exact⟨some x,cap,d.take len,by simp;omega,by simp;omega,hi_take (by omega) j⟩
theorem val_bytes {enc:TypeId × Vu->H}{y:DataW H × List MemPlace}(g:Tp enc Q W 0 (λ_=>true) true n 160 [v]=some y):∃(a:Option Ad) (c:Nat) (l:List Int),v=S a (N l) c/\N l<=maxLen/\HI .u8 0 W a l:=by
 rcases open_ints underlying160 underlying5 ko5 g with ⟨b,_⟩|⟨x,len,cap,d,b,_,m,k,f,_,j,_⟩
 . simp at b;subst b;exact⟨none,0,[],rfl,Kw _,.inl rfl⟩
 simp at b f;subst b;exact⟨some x,cap,d.take len,by simp;omega,by simp;omega,hi_take (by omega) j⟩
theorem QX {R:Type}{enc:TypeId × Vu->H}(z:R)(At:Nat->Nat->R->Prop)(A:R->Prop){t B:TypeId}{sz:Nat}{y:DataW H × List MemPlace}(L:Q.underlying t=some (.slice B))(M:Q.cellsOf B=sz) (u:∀(d:Ad) (o:List Vu) (n:Nat) (y:DataW H × List MemPlace),W.cells? 0 d sz=some o->Tp enc Q W 0 (λ_=>true) true n B o=some y->∃r:R,d.spot=none/\At d.block d.off r/\A r) (h:Tp enc Q W 0 (λ_=>true) true n t [v]=some y):∃(a:Option Ad) (c:Nat) (xs:List R),v=S a (N xs) c/\N xs<=maxLen/\(xs=[]\/∃b off,a=some ⟨b,off,none⟩/\0<=b/\∀i,i<N xs->At b (off+i*sz) (xs.getD i z))/\∀i,i<N xs->A (xs.getD i z):=by
 rcases Go.Deep.open_slice L h with ⟨j,_⟩|⟨d,len,cap,m,Y,D,Pl,j,_,hl,hm,s,_,I⟩
 . simp at j;subst j;exact⟨none,0,[],rfl,Kw _,.inl rfl,λi g=>by simp at g⟩
 simp at j;subst j;simp only[if_true]at s;subst s;have F:∀i,i<len->∃r:R,(d.add (i*sz)).spot=none/\At (d.add (i*sz)).block (d.add (i*sz)).off r/\A r:=by intro i g;obtain⟨o,E,V⟩:=I i (by omega);rw[M]at E;exact u _ _ _ _ E V
 obtain⟨q,C⟩:∃q:Nat->R,∀i,i<len->(d.add (i*sz)).spot=none/\At (d.add (i*sz)).block (d.add (i*sz)).off (q i)/\A (q i):=⟨λi=>if h:i<len then Classical.choose (F i h)else z,λi g=>by simp only[g,dif_pos];exact Classical.choose_spec (F i g)⟩;have k:∀i,i<len->((Mb len).map q).getD i z=q i:=λi g=>by simp[Kx,g]
 refine⟨some d,m,(Mb len).map q,by simp,by simp;omega,?_,λi g=>?_⟩
 . by_cases X:len=0
   . subst X;exact .inl (by simp)
   obtain⟨b,off,p⟩:=d;(have l:p=none:=by simpa[Addr.add]using (C 0 (by omega)).1);subst l;refine .inr ⟨b,off,rfl,Kw _,λi g=>?_⟩;(have f:i<len:=by simpa using g);rw[k i f];have:=(C i f).2.1;rwa [Addr.add_lit]at this
 have f:i<len:=by simpa using g
 rw[k i f];exact(C i f).2.2
theorem pos_of {xs:List In}(h:∀i,i<N xs->0<=(xs.getD i I0).v):QV xs:=by
 intro i;by_cases a:i<N xs
 . exact h i a
 have:xs.getD i I0=I0:=by simp[Kx,Hq (En a)]
 rw[this];simp[I0]
theorem val_Limits {enc:TypeId × Vu->H}{y:DataW H × List MemPlace}(h:Tp enc Q W 0 (λ_=>true) true n 140 cs=some y):∃(r:Qd),cs=[U O r.min,U O r.max,G r.has]/\Qd.Is 0 W r /\Qd.LB 9223372036854775807 r/\(True):=by
 obtain⟨o,k,u,t,a,b,c⟩:=Hj underlying140 h;rw[QT]at a;match o,b,cs,a with
 |[y0,y1,y2],_,[v0,v1,v2],_ =>
  have g:=c 0 _ rfl;have f:=c 1 _ rfl;have d:=c 2 _ rfl
  simp[ko2,ko4,ko5,ko9,kou,koi,kob,QT,Ja,Ji,Jc,Jq,Xp,Gf,JZ,Xr,JA,JO,J4,Xt,J5,Xu,J3,Xsz0,J8,Xx,J6,Xv,J7,Xw,Xl]at g f d
  obtain⟨s,m,_,_⟩:=Hg underlying2 g
  simp at m
  subst m;obtain⟨q,l,_,_⟩:=Hg underlying2 f
  simp at l
  subst l;obtain⟨p,j,_⟩:=Iy underlying4 d
  simp at j
  subst j
  exact⟨⟨s,q,p⟩,rfl,trivial,trivial,trivial⟩
theorem each_Limits {enc:TypeId × Vu->H}(j:Ad)(g:List Vu)(n:Nat)(y:DataW H × List MemPlace)(u:W.cells? 0 j 3=some g)(t:Tp enc Q W 0 (λ_=>true) true n 140 g=some y):∃r:Qd,j.spot=none/\Qd.At 0 W j.block j.off r/\Qd.LB 9223372036854775807 r/\(True):=by
 obtain⟨_,o,c⟩:=Hb u;obtain⟨r,e,s,q,p⟩:=val_Limits t;subst e;obtain⟨b,off,d⟩:=j;have k:=c 0 (by omega);have f:d=none:=by simpa[Addr.add]using Hd (a:=Addr.add ⟨b,off,d⟩ 0) k
 subst f;have m:=c 1 (by omega);have l:=c 2 (by omega);simp only[Addr.add_lit]at k m l;exact⟨r,rfl,⟨⟨by simpa using k,by simpa using m,by simpa using l⟩,s⟩,q,p⟩
theorem val_GType {enc:TypeId × Vu->H}{y:DataW H × List MemPlace}(h:Tp enc Q W 0 (λ_=>true) true n 142 cs=some y):∃(r:Qx),cs=[U O r.ty,G r.mu]/\Qx.Is 0 W r /\Qx.LB 9223372036854775807 r/\(True):=by
 obtain⟨l,k,q,p,a,b,c⟩:=Hj underlying142 h;rw[Ji]at a;match l,b,cs,a with
 |[y0,y1],_,[v0,v1],_ =>
  have f:=c 0 _ rfl;have d:=c 1 _ rfl
  simp[ko2,ko4,ko5,ko9,kou,koi,kob,QT,Ja,Ji,Jc,Jq,Xp,Gf,JZ,Xr,JA,JO,J4,Xt,J5,Xu,J3,Xsz0,J8,Xx,J6,Xv,J7,Xw,Xl]at f d
  obtain⟨o,j,_,_⟩:=Hg underlying2 f
  simp at j
  subst j;obtain⟨m,g,_⟩:=Iy underlying4 d
  simp at g
  subst g
  exact⟨⟨o,m⟩,rfl,trivial,trivial,trivial⟩
theorem val_FType {enc:TypeId × Vu->H}{y:DataW H × List MemPlace}(h:Tp enc Q W 0 (λ_=>true) true n 137 cs=some y):∃(r:Qc) (j:Option Ad) (c1:Nat) (g:Option Ad) (c2:Nat),cs=[S j (N r.ps) c1,S g (N r.rs) c2]/\Qc.Is 0 W r j g/\Qc.LB 9223372036854775807 r/\(True):=by
 obtain⟨l,k,E,u,a,b,c⟩:=Hj underlying137 h;rw[Jc]at a;match l,b,cs,a with
 |[y0,y1],_,[v0,v1],_ =>
  have f:=c 0 _ rfl;have d:=c 1 _ rfl
  simp[ko2,ko4,ko5,ko9,kou,koi,kob,QT,Ja,Ji,Jc,Jq,Xp,Gf,JZ,Xr,JA,JO,J4,Xt,J5,Xu,J3,Xsz0,J8,Xx,J6,Xv,J7,Xw,Xl]at f d
  obtain⟨o,D,q,B,t,z⟩:=val_ints f;subst B;obtain⟨m,C,p,A,s,v⟩:=val_ints d;subst A
  exact⟨⟨q,p⟩,o,D,m,C,rfl,⟨z,v⟩,⟨big t,big s⟩,trivial⟩
theorem each_FType {enc:TypeId × Vu->H}(j:Ad)(g:List Vu)(n:Nat)(y:DataW H × List MemPlace)(t:W.cells? 0 j 2=some g)(s:Tp enc Q W 0 (λ_=>true) true n 137 g=some y):∃r:Qc,j.spot=none/\Qc.At 0 W j.block j.off r/\Qc.LB 9223372036854775807 r/\(True):=by
 obtain⟨_,m,c⟩:=Hb t;obtain⟨r,A,v,z,u,e,q,p,o⟩:=val_FType s;subst e;obtain⟨b,off,d⟩:=j;have k:=c 0 (by omega);have f:d=none:=by simpa[Addr.add]using Hd (a:=Addr.add ⟨b,off,d⟩ 0) k
 subst f;have l:=c 1 (by omega);simp only[Addr.add_lit]at k l;exact⟨r,rfl,⟨A,v,z,u,⟨by simpa using k,by simpa using l⟩,q⟩,p,o⟩
theorem val_In {enc:TypeId × Vu->H}{y:DataW H × List MemPlace}(h:Tp enc Q W 0 (λ_=>true) true n 289 cs=some y):∃(r:In) (z:Option Ad) (c1:Nat),cs=[U O r.op,U O r.a,U O r.b,U Ou r.v,S z (N r.l) c1]/\In.Is 0 W r z/\In.LB 9223372036854775807 r/\(0<=r.v):=by
 obtain⟨A,k,hk,R,d,f,c⟩:=Hj underlying289 h;rw[Xp]at d;match A,f,cs,d with
 |[y0,y1,y2,y3,y4],_,[v0,v1,v2,v3,v4],_ =>
  have p:=c 0 _ rfl;have o:=c 1 _ rfl;have m:=c 2 _ rfl;have j:=c 3 _ rfl;have g:=c 4 _ rfl
  simp[ko2,ko4,ko5,ko9,kou,koi,kob,QT,Ja,Ji,Jc,Jq,Xp,Gf,JZ,Xr,JA,JO,J4,Xt,J5,Xu,J3,Xsz0,J8,Xx,J6,Xv,J7,Xw,Xl]at p o m j g
  obtain⟨L,u,_,_⟩:=Hg underlying2 p
  simp at u
  subst u;obtain⟨I,t,_,_⟩:=Hg underlying2 o
  simp at t
  subst t;obtain⟨F,s,_,_⟩:=Hg underlying2 m
  simp at s
  subst s;obtain⟨E,q,_,B⟩:=Hg underlying83 j
  simp at q
  subst q;obtain⟨V,_⟩:=bounds_u64 B;obtain⟨C,d4,D,Y,M,X⟩:=val_ints g;subst Y
  exact⟨⟨L,I,F,E,D⟩,C,d4,rfl,X,big M,V⟩
theorem each_In {enc:TypeId × Vu->H}(j:Ad)(g:List Vu)(n:Nat)(y:DataW H × List MemPlace)(A:W.cells? 0 j 5=some g)(z:Tp enc Q W 0 (λ_=>true) true n 289 g=some y):∃r:In,j.spot=none/\In.At 0 W j.block j.off r/\In.LB 9223372036854775807 r/\(0<=r.v):=by
 obtain⟨_,q,c⟩:=Hb A;obtain⟨r,C,B,e,u,t,s⟩:=val_In z;subst e;obtain⟨b,off,d⟩:=j;have k:=c 0 (by omega);have f:d=none:=by simpa[Addr.add]using Hd (a:=Addr.add ⟨b,off,d⟩ 0) k
 subst f;have p:=c 1 (by omega);have o:=c 2 (by omega);have m:=c 3 (by omega);have l:=c 4 (by omega);simp only[Addr.add_lit]at k p o m l;exact⟨r,rfl,⟨C,B,⟨by simpa using k,by simpa using p,by simpa using o,by simpa using m,by simpa using l⟩,u⟩,t,s⟩
theorem val_Imp {enc:TypeId × Vu->H}{y:DataW H × List MemPlace}(h:Tp enc Q W 0 (λ_=>true) true n 144 cs=some y):∃(r:Imp),cs=[Xs r.mod,Xs r.nm,U O r.kind,U O r.ty,U O r.lim.min,U O r.lim.max,G r.lim.has,U O r.gl.ty,G r.gl.mu]/\Imp.Is 0 W r /\Imp.LB 9223372036854775807 r/\(True):=by
 obtain⟨v,k,M,L,b,c,a⟩:=Hj underlying144 h;rw[JZ]at b;match v,c,cs,b with
 |[y0,y1,y2,y3,y4,y5],_,[v0,v1,v2,v3,v4,v5,v6,v7,v8],_ =>
  have m:=a 0 _ rfl;have l:=a 1 _ rfl;have j:=a 2 _ rfl;have g:=a 3 _ rfl;have f:=a 4 _ rfl;have d:=a 5 _ rfl
  simp[ko2,ko4,ko5,ko9,kou,koi,kob,QT,Ja,Ji,Jc,Jq,Xp,Gf,JZ,Xr,JA,JO,J4,Xt,J5,Xu,J3,Xsz0,J8,Xx,J6,Xv,J7,Xw,Xl]at m l j g f d
  obtain⟨I,u,_,A⟩:=Ph underlying9 m
  simp at u
  subst u;obtain⟨F,t,_,z⟩:=Ph underlying9 l
  simp at t
  subst t;obtain⟨E,s,_,_⟩:=Hg underlying2 j
  simp at s
  subst s;obtain⟨D,q,_,_⟩:=Hg underlying2 g
  simp at q
  subst q;obtain⟨C,p,_,_,_⟩:=val_Limits f
  simp at p
  obtain⟨rfl,rfl,rfl⟩:=p;obtain⟨B,o,_,_,_⟩:=val_GType d
  simp at o
  obtain⟨rfl,rfl⟩:=o
  exact⟨⟨I,F,E,D,C,B⟩,rfl,trivial,⟨big A,big z⟩,trivial⟩
theorem each_Imp {enc:TypeId × Vu->H}(j:Ad)(g:List Vu)(n:Nat)(y:DataW H × List MemPlace)(D:W.cells? 0 j 9=some g)(C:Tp enc Q W 0 (λ_=>true) true n 144 g=some y):∃r:Imp,j.spot=none/\Imp.At 0 W j.block j.off r/\Imp.LB 9223372036854775807 r/\(True):=by
 obtain⟨_,v,c⟩:=Hb D;obtain⟨r,e,B,A,z⟩:=val_Imp C;subst e;obtain⟨b,off,d⟩:=j;have k:=c 0 (by omega);have f:d=none:=by simpa[Addr.add]using Hd (a:=Addr.add ⟨b,off,d⟩ 0) k
 subst f;have u:=c 1 (by omega);have t:=c 2 (by omega);have s:=c 3 (by omega);have q:=c 4 (by omega);have p:=c 5 (by omega);have o:=c 6 (by omega);have m:=c 7 (by omega);have l:=c 8 (by omega);simp only[Addr.add_lit]at k u t s q p o m l;exact⟨r,rfl,⟨⟨by simpa using k,by simpa using u,by simpa using t,by simpa using s,by simpa using q,by simpa using p,by simpa using o,by simpa using m,by simpa using l⟩,B⟩,A,z⟩
theorem val_Glob {enc:TypeId × Vu->H}{y:DataW H × List MemPlace}(h:Tp enc Q W 0 (λ_=>true) true n 148 cs=some y):∃(r:Qm) (p:Option Ad) (c1:Nat),cs=[U O r.ty.ty,G r.ty.mu,S p (N r.ini) c1]/\Qm.Is 0 W r p/\Qm.LB 9223372036854775807 r/\(QV r.ini):=by
 obtain⟨q,k,D,A,a,c,g⟩:=Hj underlying148 h;rw[JA]at a;match q,c,cs,a with
 |[y0,y1],_,[v0,v1,v2],_ =>
  have l:=g 0 _ rfl;have j:=g 1 _ rfl
  simp[ko2,ko4,ko5,ko9,kou,koi,kob,QT,Ja,Ji,Jc,Jq,Xp,Gf,JZ,Xr,JA,JO,J4,Xt,J5,Xu,J3,Xsz0,J8,Xx,J6,Xv,J7,Xw,Xl]at l j
  obtain⟨u,m,_,_,_⟩:=val_GType l
  simp at m
  obtain⟨rfl,rfl⟩:=m;obtain⟨s,C,t,B,z,d,f⟩:=QX I0 (λb o x=>In.At 0 W b o x) (λx=>In.LB 9223372036854775807 x/\(0<=x.v)) underlying146 Xp (λad cs' n y d h2=>each_In ad cs' n y d h2) j;subst B
  exact⟨⟨u,t⟩,s,C,rfl,d,⟨big z,λi hi=>(f i hi).1⟩,pos_of λi hi=>(f i hi).2⟩
theorem each_Glob {enc:TypeId × Vu->H}(j:Ad)(g:List Vu)(n:Nat)(y:DataW H × List MemPlace)(u:W.cells? 0 j 3=some g)(t:Tp enc Q W 0 (λ_=>true) true n 148 g=some y):∃r:Qm,j.spot=none/\Qm.At 0 W j.block j.off r/\Qm.LB 9223372036854775807 r/\(QV r.ini):=by
 obtain⟨_,o,c⟩:=Hb u;obtain⟨r,z,v,e,s,q,p⟩:=val_Glob t;subst e;obtain⟨b,off,d⟩:=j;have k:=c 0 (by omega);have f:d=none:=by simpa[Addr.add]using Hd (a:=Addr.add ⟨b,off,d⟩ 0) k
 subst f;have m:=c 1 (by omega);have l:=c 2 (by omega);simp only[Addr.add_lit]at k m l;exact⟨r,rfl,⟨z,v,⟨by simpa using k,by simpa using m,by simpa using l⟩,s⟩,q,p⟩
theorem val_Exp {enc:TypeId × Vu->H}{y:DataW H × List MemPlace}(h:Tp enc Q W 0 (λ_=>true) true n 151 cs=some y):∃(r:Exp),cs=[Xs r.nm,U O r.kind,U O r.ix]/\Exp.Is 0 W r /\Exp.LB 9223372036854775807 r/\(True):=by
 obtain⟨o,k,v,u,a,b,c⟩:=Hj underlying151 h;rw[J4]at a;match o,b,cs,a with
 |[y0,y1,y2],_,[v0,v1,v2],_ =>
  have g:=c 0 _ rfl;have f:=c 1 _ rfl;have d:=c 2 _ rfl
  simp[ko2,ko4,ko5,ko9,kou,koi,kob,QT,Ja,Ji,Jc,Jq,Xp,Gf,JZ,Xr,JA,JO,J4,Xt,J5,Xu,J3,Xsz0,J8,Xx,J6,Xv,J7,Xw,Xl]at g f d
  obtain⟨t,m,_,p⟩:=Ph underlying9 g
  simp at m
  subst m;obtain⟨s,l,_,_⟩:=Hg underlying2 f
  simp at l
  subst l;obtain⟨q,j,_,_⟩:=Hg underlying2 d
  simp at j
  subst j
  exact⟨⟨t,s,q⟩,rfl,trivial,big p,trivial⟩
theorem each_Exp {enc:TypeId × Vu->H}(j:Ad)(g:List Vu)(n:Nat)(y:DataW H × List MemPlace)(u:W.cells? 0 j 3=some g)(t:Tp enc Q W 0 (λ_=>true) true n 151 g=some y):∃r:Exp,j.spot=none/\Exp.At 0 W j.block j.off r/\Exp.LB 9223372036854775807 r/\(True):=by
 obtain⟨_,o,c⟩:=Hb u;obtain⟨r,e,s,q,p⟩:=val_Exp t;subst e;obtain⟨b,off,d⟩:=j;have k:=c 0 (by omega);have f:d=none:=by simpa[Addr.add]using Hd (a:=Addr.add ⟨b,off,d⟩ 0) k
 subst f;have m:=c 1 (by omega);have l:=c 2 (by omega);simp only[Addr.add_lit]at k m l;exact⟨r,rfl,⟨⟨by simpa using k,by simpa using m,by simpa using l⟩,s⟩,q,p⟩
theorem val_Ele {enc:TypeId × Vu->H}{y:DataW H × List MemPlace}(h:Tp enc Q W 0 (λ_=>true) true n 154 cs=some y):∃(r:Ele) (p:Option Ad) (c1:Nat) (m:Option Ad) (c2:Nat),cs=[S p (N r.off) c1,S m (N r.fs) c2]/\Ele.Is 0 W r p m/\Ele.LB 9223372036854775807 r/\(QV r.off):=by
 obtain⟨q,k,M,C,a,c,g⟩:=Hj underlying154 h;rw[J5]at a;match q,c,cs,a with
 |[y0,y1],_,[v0,v1],_ =>
  have l:=g 0 _ rfl;have j:=g 1 _ rfl
  simp[ko2,ko4,ko5,ko9,kou,koi,kob,QT,Ja,Ji,Jc,Jq,Xp,Gf,JZ,Xr,JA,JO,J4,Xt,J5,Xu,J3,Xsz0,J8,Xx,J6,Xv,J7,Xw,Xl]at l j
  obtain⟨t,L,z,F,B,D,f⟩:=QX I0 (λb o x=>In.At 0 W b o x) (λx=>In.LB 9223372036854775807 x/\(0<=x.v)) underlying146 Xp (λad cs' n y d h2=>each_In ad cs' n y d h2) l;subst F;obtain⟨s,I,u,E,A,d⟩:=val_ints j;subst E
  exact⟨⟨z,u⟩,t,L,s,I,rfl,⟨D,d⟩,⟨⟨big B,λi hi=>(f i hi).1⟩,big A⟩,pos_of λi hi=>(f i hi).2⟩
theorem each_Ele {enc:TypeId × Vu->H}(j:Ad)(g:List Vu)(n:Nat)(y:DataW H × List MemPlace)(t:W.cells? 0 j 2=some g)(s:Tp enc Q W 0 (λ_=>true) true n 154 g=some y):∃r:Ele,j.spot=none/\Ele.At 0 W j.block j.off r/\Ele.LB 9223372036854775807 r/\(QV r.off):=by
 obtain⟨_,m,c⟩:=Hb t;obtain⟨r,A,v,z,u,e,q,p,o⟩:=val_Ele s;subst e;obtain⟨b,off,d⟩:=j;have k:=c 0 (by omega);have f:d=none:=by simpa[Addr.add]using Hd (a:=Addr.add ⟨b,off,d⟩ 0) k
 subst f;have l:=c 1 (by omega);simp only[Addr.add_lit]at k l;exact⟨r,rfl,⟨A,v,z,u,⟨by simpa using k,by simpa using l⟩,q⟩,p,o⟩
theorem val_Grp {enc:TypeId × Vu->H}{y:DataW H × List MemPlace}(h:Tp enc Q W 0 (λ_=>true) true n 301 cs=some y):∃(r:Grp),cs=[U O r.n,U O r.ty]/\Grp.Is 0 W r /\Grp.LB 9223372036854775807 r/\(True):=by
 obtain⟨l,k,q,p,a,b,c⟩:=Hj underlying301 h;rw[J3]at a;match l,b,cs,a with
 |[y0,y1],_,[v0,v1],_ =>
  have f:=c 0 _ rfl;have d:=c 1 _ rfl
  simp[ko2,ko4,ko5,ko9,kou,koi,kob,QT,Ja,Ji,Jc,Jq,Xp,Gf,JZ,Xr,JA,JO,J4,Xt,J5,Xu,J3,Xsz0,J8,Xx,J6,Xv,J7,Xw,Xl]at f d
  obtain⟨o,j,_,_⟩:=Hg underlying2 f
  simp at j
  subst j;obtain⟨m,g,_,_⟩:=Hg underlying2 d
  simp at g
  subst g
  exact⟨⟨o,m⟩,rfl,trivial,trivial,trivial⟩
theorem each_Grp {enc:TypeId × Vu->H}(j:Ad)(g:List Vu)(n:Nat)(y:DataW H × List MemPlace)(t:W.cells? 0 j 2=some g)(s:Tp enc Q W 0 (λ_=>true) true n 301 g=some y):∃r:Grp,j.spot=none/\Grp.At 0 W j.block j.off r/\Grp.LB 9223372036854775807 r/\(True):=by
 obtain⟨_,m,c⟩:=Hb t;obtain⟨r,e,q,p,o⟩:=val_Grp s;subst e;obtain⟨b,off,d⟩:=j;have k:=c 0 (by omega);have f:d=none:=by simpa[Addr.add]using Hd (a:=Addr.add ⟨b,off,d⟩ 0) k
 subst f;have l:=c 1 (by omega);simp only[Addr.add_lit]at k l;exact⟨r,rfl,⟨⟨by simpa using k,by simpa using l⟩,q⟩,p,o⟩
theorem val_Cod {enc:TypeId × Vu->H}{y:DataW H × List MemPlace}(h:Tp enc Q W 0 (λ_=>true) true n 158 cs=some y):∃(r:Cod) (p:Option Ad) (c1:Nat) (m:Option Ad) (c2:Nat),cs=[S p (N r.gq) c1,S m (N r.body) c2]/\Cod.Is 0 W r p m/\Cod.LB 9223372036854775807 r/\(QV r.body):=by
 obtain⟨s,k,V,E,a,d,g⟩:=Hj underlying158 h;rw[J8]at a;match s,d,cs,a with
 |[y0,y1],_,[v0,v1],_ =>
  have l:=g 0 _ rfl;have j:=g 1 _ rfl
  simp[ko2,ko4,ko5,ko9,kou,koi,kob,QT,Ja,Ji,Jc,Jq,Xp,Gf,JZ,Xr,JA,JO,J4,Xt,J5,Xu,J3,Xsz0,J8,Xx,J6,Xv,J7,Xw,Xl]at l j
  obtain⟨u,R,B,L,D,F,q⟩:=QX Grp.z (λb o x=>Grp.At 0 W b o x) (λx=>Grp.LB 9223372036854775807 x/\(True)) underlying156 J3 (λad cs' n y c h2=>each_Grp ad cs' n y c h2) l;subst L;obtain⟨t,M,A,I,C,c,f⟩:=QX I0 (λb o x=>In.At 0 W b o x) (λx=>In.LB 9223372036854775807 x/\(0<=x.v)) underlying146 Xp (λad cs' n y c h2=>each_In ad cs' n y c h2) j;subst I
  exact⟨⟨B,A⟩,u,R,t,M,rfl,⟨F,c⟩,⟨⟨big D,λi hi=>(q i hi).1⟩,⟨big C,λi hi=>(f i hi).1⟩⟩,pos_of λi hi=>(f i hi).2⟩
theorem each_Cod {enc:TypeId × Vu->H}(j:Ad)(g:List Vu)(n:Nat)(y:DataW H × List MemPlace)(t:W.cells? 0 j 2=some g)(s:Tp enc Q W 0 (λ_=>true) true n 158 g=some y):∃r:Cod,j.spot=none/\Cod.At 0 W j.block j.off r/\Cod.LB 9223372036854775807 r/\(QV r.body):=by
 obtain⟨_,m,c⟩:=Hb t;obtain⟨r,A,v,z,u,e,q,p,o⟩:=val_Cod s;subst e;obtain⟨b,off,d⟩:=j;have k:=c 0 (by omega);have f:d=none:=by simpa[Addr.add]using Hd (a:=Addr.add ⟨b,off,d⟩ 0) k
 subst f;have l:=c 1 (by omega);simp only[Addr.add_lit]at k l;exact⟨r,rfl,⟨A,v,z,u,⟨by simpa using k,by simpa using l⟩,q⟩,p,o⟩
theorem val_Dat {enc:TypeId × Vu->H}{y:DataW H × List MemPlace}(h:Tp enc Q W 0 (λ_=>true) true n 162 cs=some y):∃(r:Dat) (p:Option Ad) (c1:Nat) (m:Option Ad) (c2:Nat),cs=[S p (N r.off) c1,S m (N r.bs) c2]/\Dat.Is 0 W r p m/\Dat.LB 9223372036854775807 r/\(QV r.off):=by
 obtain⟨q,k,M,C,a,c,g⟩:=Hj underlying162 h;rw[J6]at a;match q,c,cs,a with
 |[y0,y1],_,[v0,v1],_ =>
  have l:=g 0 _ rfl;have j:=g 1 _ rfl
  simp[ko2,ko4,ko5,ko9,kou,koi,kob,QT,Ja,Ji,Jc,Jq,Xp,Gf,JZ,Xr,JA,JO,J4,Xt,J5,Xu,J3,Xsz0,J8,Xx,J6,Xv,J7,Xw,Xl]at l j
  obtain⟨t,L,z,F,B,D,f⟩:=QX I0 (λb o x=>In.At 0 W b o x) (λx=>In.LB 9223372036854775807 x/\(0<=x.v)) underlying146 Xp (λad cs' n y d h2=>each_In ad cs' n y d h2) l;subst F;obtain⟨s,I,u,E,A,d⟩:=val_bytes j;subst E
  exact⟨⟨z,u⟩,t,L,s,I,rfl,⟨D,d⟩,⟨⟨big B,λi hi=>(f i hi).1⟩,big A⟩,pos_of λi hi=>(f i hi).2⟩
theorem each_Dat {enc:TypeId × Vu->H}(j:Ad)(g:List Vu)(n:Nat)(y:DataW H × List MemPlace)(t:W.cells? 0 j 2=some g)(s:Tp enc Q W 0 (λ_=>true) true n 162 g=some y):∃r:Dat,j.spot=none/\Dat.At 0 W j.block j.off r/\Dat.LB 9223372036854775807 r/\(QV r.off):=by
 obtain⟨_,m,c⟩:=Hb t;obtain⟨r,A,v,z,u,e,q,p,o⟩:=val_Dat s;subst e;obtain⟨b,off,d⟩:=j;have k:=c 0 (by omega);have f:d=none:=by simpa[Addr.add]using Hd (a:=Addr.add ⟨b,off,d⟩ 0) k
 subst f;have l:=c 1 (by omega);simp only[Addr.add_lit]at k l;exact⟨r,rfl,⟨A,v,z,u,⟨by simpa using k,by simpa using l⟩,q⟩,p,o⟩
theorem val_Cus {enc:TypeId × Vu->H}{y:DataW H × List MemPlace}(h:Tp enc Q W 0 (λ_=>true) true n 165 cs=some y):∃(r:Cus) (m:Option Ad) (c1:Nat),cs=[U O r.aft,Xs r.nm,S m (N r.bs) c1]/\Cus.Is 0 W r m/\Cus.LB 9223372036854775807 r/\(True):=by
 obtain⟨o,k,D,z,a,b,c⟩:=Hj underlying165 h;rw[J7]at a;match o,b,cs,a with
 |[y0,y1,y2],_,[v0,v1,v2],_ =>
  have g:=c 0 _ rfl;have f:=c 1 _ rfl;have d:=c 2 _ rfl
  simp[ko2,ko4,ko5,ko9,kou,koi,kob,QT,Ja,Ji,Jc,Jq,Xp,Gf,JZ,Xr,JA,JO,J4,Xt,J5,Xu,J3,Xsz0,J8,Xx,J6,Xv,J7,Xw,Xl]at g f d
  obtain⟨u,l,_,_⟩:=Hg underlying2 g
  simp at l
  subst l;obtain⟨t,j,_,p⟩:=Ph underlying9 f
  simp at j
  subst j;obtain⟨q,C,s,B,v,A⟩:=val_bytes d;subst B
  exact⟨⟨u,t,s⟩,q,C,rfl,A,⟨big p,big v⟩,trivial⟩
theorem each_Cus {enc:TypeId × Vu->H}(j:Ad)(g:List Vu)(n:Nat)(y:DataW H × List MemPlace)(u:W.cells? 0 j 3=some g)(t:Tp enc Q W 0 (λ_=>true) true n 165 g=some y):∃r:Cus,j.spot=none/\Cus.At 0 W j.block j.off r/\Cus.LB 9223372036854775807 r/\(True):=by
 obtain⟨_,o,c⟩:=Hb u;obtain⟨r,z,v,e,s,q,p⟩:=val_Cus t;subst e;obtain⟨b,off,d⟩:=j;have k:=c 0 (by omega);have f:d=none:=by simpa[Addr.add]using Hd (a:=Addr.add ⟨b,off,d⟩ 0) k
 subst f;have m:=c 1 (by omega);have l:=c 2 (by omega);simp only[Addr.add_lit]at k m l;exact⟨r,rfl,⟨z,v,⟨by simpa using k,by simpa using m,by simpa using l⟩,s⟩,q,p⟩
theorem val_Mod {enc:TypeId × Vu->H}{y:DataW H × List MemPlace}(h:Tp enc Q W 0 (λ_=>true) true n 33 cs=some y):∃(r:Mod) (a1:Option Ad) (c1:Nat) (a2:Option Ad) (c2:Nat) (a3:Option Ad) (c3:Nat) (a4:Option Ad) (c4:Nat) (a5:Option Ad) (c5:Nat) (a6:Option Ad) (c6:Nat) (a7:Option Ad) (c7:Nat) (a8:Option Ad) (c8:Nat) (a9:Option Ad) (c9:Nat) (s:Option Ad) (ag:Nat) (q:Option Ad) (af:Nat),cs=[S a1 (N r.types) c1,S a2 (N r.cj) c2,S a3 (N r.jk) c3,S a4 (N r.cw) c4,S a5 (N r.jz) c5,S a6 (N r.ck) c6,S a7 (N r.cv) c7,G r.gz,U O r.start,S a8 (N r.fq) c8,S a9 (N r.fj) c9,S s (N r.fx) ag,S q (N r.fw) af]/\Mod.Is 0 W r a1 a2 a3 a4 a5 a6 a7 a8 a9 s q/\Mod.LB 9223372036854775807 r/\(r.Pos):=by
 obtain⟨xs,k,hk,cl,j,L,d⟩:=Hj underlying33 h;rw[Xl]at j;match xs,L,cs,j with
 |[y0,y1,y2,y3,y4,y5,y6,y7,y8,y9,y10,y11,y12],_,[v0,v1,v2,v3,v4,v5,v6,v7,v8,v9,v10,v11,v12],_ =>
  have g0:=d 0 _ rfl;have g1:=d 1 _ rfl;have g2:=d 2 _ rfl;have g3:=d 3 _ rfl;have g4:=d 4 _ rfl;have g5:=d 5 _ rfl;have g6:=d 6 _ rfl;have g7:=d 7 _ rfl;have g8:=d 8 _ rfl;have g9:=d 9 _ rfl;have p:=d 10 _ rfl;have m:=d 11 _ rfl;have l:=d 12 _ rfl
  simp[ko2,ko4,ko5,ko9,kou,koi,kob,QT,Ja,Ji,Jc,Jq,Xp,Gf,JZ,Xr,JA,JO,J4,Xt,J5,Xu,J3,Xsz0,J8,Xx,J6,Xv,J7,Xw,Xl]at g0 g1 g2 g3 g4 g5 g6 g7 g8 g9 p m l
  obtain⟨p0,d0,n0,e0,l0,h0,z0⟩:=QX Qc.z (λb o x=>Qc.At 0 W b o x) (λx=>Qc.LB 9223372036854775807 x/\(True)) underlying22 Jc (λad cs' n y c a=>each_FType ad cs' n y c a) g0;subst e0;obtain⟨p1,d1,n1,e1,l1,c,z1⟩:=QX Imp.z (λb o x=>Imp.At 0 W b o x) (λx=>Imp.LB 9223372036854775807 x/\(True)) underlying23 JZ (λad cs' n y c a=>each_Imp ad cs' n y c a) g1;subst e1;obtain⟨p2,d2,n2,e2,l2,a⟩:=val_ints g2;subst e2;obtain⟨p3,d3,n3,e3,l3,h3,z3⟩:=QX Qd.z (λb o x=>Qd.At 0 W b o x) (λx=>Qd.LB 9223372036854775807 x/\(True)) underlying25 QT (λad cs' n y c a=>each_Limits ad cs' n y c a) g3;subst e3;obtain⟨p4,d4,n4,e4,l4,h4,z4⟩:=QX Qd.z (λb o x=>Qd.At 0 W b o x) (λx=>Qd.LB 9223372036854775807 x/\(True)) underlying25 QT (λad cs' n y c a=>each_Limits ad cs' n y c a) g4;subst e4;obtain⟨p5,d5,n5,e5,l5,h5,z5⟩:=QX Qm.z (λb o x=>Qm.At 0 W b o x) (λx=>Qm.LB 9223372036854775807 x/\(QV x.ini)) underlying26 JA (λad cs' n y c a=>each_Glob ad cs' n y c a) g5;subst e5;obtain⟨p6,d6,n6,e6,l6,h6,z6⟩:=QX Exp.z (λb o x=>Exp.At 0 W b o x) (λx=>Exp.LB 9223372036854775807 x/\(True)) underlying27 J4 (λad cs' n y c a=>each_Exp ad cs' n y c a) g6;subst e6;obtain⟨n7,e7,_⟩:=Iy underlying4 g7
  simp at e7
  subst e7;obtain⟨n8,e8,_,_⟩:=Hg underlying2 g8
  simp at e8
  subst e8;obtain⟨p9,d9,n9,e9,l9,h9,z9⟩:=QX Ele.z (λb o x=>Ele.At 0 W b o x) (λx=>Ele.LB 9223372036854775807 x/\(QV x.off)) underlying28 J5 (λad cs' n y c a=>each_Ele ad cs' n y c a) g9;subst e9;obtain⟨A,ae,D,aa,I,V,g⟩:=QX Cod.z (λb o x=>Cod.At 0 W b o x) (λx=>Cod.LB 9223372036854775807 x/\(QV x.body)) underlying29 J8 (λad cs' n y c a=>each_Cod ad cs' n y c a) p;subst aa;obtain⟨v,ac,C,Y,F,R,f⟩:=QX Dat.z (λb o x=>Dat.At 0 W b o x) (λx=>Dat.LB 9223372036854775807 x/\(QV x.off)) underlying30 J6 (λad cs' n y c a=>each_Dat ad cs' n y c a) m;subst Y;obtain⟨u,ab,B,X,E,M,t⟩:=QX Cus.z (λb o x=>Cus.At 0 W b o x) (λx=>Cus.LB 9223372036854775807 x/\(True)) underlying31 J7 (λad cs' n y c a=>each_Cus ad cs' n y c a) l;subst X
  exact⟨⟨n0,n1,n2,n3,n4,n5,n6,n7,n8,n9,D,C,B⟩,p0,d0,p1,d1,p2,d2,p3,d3,p4,d4,p5,d5,p6,d6,p9,d9,A,ae,v,ac,u,ab,rfl,⟨h0,c,a,h3,h4,h5,h6,h9,V,R,M⟩,⟨⟨big l0,λi hi=>(z0 i hi).1⟩,⟨big l1,λi hi=>(z1 i hi).1⟩,big l2,⟨big l3,λi hi=>(z3 i hi).1⟩,⟨big l4,λi hi=>(z4 i hi).1⟩,⟨big l5,λi hi=>(z5 i hi).1⟩,⟨big l6,λi hi=>(z6 i hi).1⟩,⟨big l9,λi hi=>(z9 i hi).1⟩,⟨big I,λi hi=>(g i hi).1⟩,⟨big F,λi hi=>(f i hi).1⟩,⟨big E,λi hi=>(t i hi).1⟩⟩,⟨λi hi=>(z5 i hi).2,λi hi=>(z9 i hi).2,λi hi=>(g i hi).2,λi hi=>(f i hi).2⟩⟩
end YtaccbbndmmhenaaGreat
namespace YtaccbbndmmhenaaGreat.Va
open Go.RowKit Go.Sort
variable {md:Mod}
theorem bodyG_snoc (x:Ctx)(frm:Int->Int)(oty:Int->Qc)(y:In)(c:Fn):∀(b:List In) (s a:Fn) (j:Nat),QL x frm oty s j b=.ok a->step x frm oty a y=.ok c->QL x frm oty s j (b++[y])=.ok c
 |[],s,a,j,h,e=>by
  simp only[QL]at h;cases h
  simp only[List.nil_append,QL,e]
 |z::b,s,a,j,h,e=>by
  simp only[List.cons_append,QL]at h⊢
  cases hs:step x frm oty s z with
  |error f=>rw[hs]at h;cases h
  |ok s'=>rw[hs]at h;exact bodyG_snoc x frm oty y c b s' a (j+1) h e
theorem take_snoc (xs:List In)(k:Nat)(h:k<N xs):xs.take (k+1)=xs.take k++[xs.getD k I0]:=by
 rw[List.take_succ];simp[Kx,h]
def PaP (D:Nat)(w0:J)(p:Nat)(sp:Vu)(l:Lo)(ks:List Qb)(r:Except (Int × Nat) Fn)(e:Ending)(w':J):Prop:=∃s' ns,r=.ok s'/\e=Z (.tuple #[])/\ISt D w0 p sp l (ns++ks) s' w'/\N s'.jj<=1099511627776/\N s'.cq<=1048577
theorem ipass_c {D:Nat}{A:J}{p q:Nat}{l:Lo}{ks:List Qb}{s:Fn}{V:J}{x:Ctx}{fo go bd:Int}{m:Spc}(a:Option Ad)(c:Nat)(xs:List In)(n:Nat)(hn:n<=N xs)(sf:Fn)(ap:QL x frm oty s 0 xs=.ok sf)(h:ISt D A p (Yp (some ⟨q,0,none⟩)) l ks s V)(ak:SpR D A q x fo go bd m ks)(ar:JM D A ks l s.ps s.gq)(B:Bd s)(C:CxB x)(bc:N s.cq<=1)(b9:N s.jj=0)(hL:InL D A a xs)(hI:∀y∈xs,InB y)(b7:N xs<=1048576)(au:goM (nst s) xs=true):Ec Q 45 #[Yp (some ⟨p,0,none⟩),S a n c] V (PaP D A p (Yp (some ⟨q,0,none⟩)) l ks (QL x frm oty s 0 (xs.take n))):=by
 have HS:=Hm (⟨h,B,au⟩:ISt D A p (Yp (some ⟨q,0,none⟩)) l ks s V/\Bd s/\goM (nst s) xs=true);have bh:=Hm ak;have ae:=Hm ar;have HL:=Hm hL;have af:=Hm hI;have ad:=Hm ap;have bs:N s.cq<=1:=bc;clear h ak ar B hL hI au ap;go_enter func45,ntmps45;go_wp2;go_loopw [8] (λi wr=>∃(k:Nat) (d:Fn) (ns:List Qb),k<=n/\i=U O k/\ISt D A p (Yp (some ⟨q,0,none⟩)) l (ns++ks) d wr/\Bd d/\N d.cq<=k+1/\N d.jj<=k*1048576/\d.ps=s.ps/\d.gq=s.gq/\goM (nst d) (xs.drop k)=true/\QL x frm oty d k (xs.drop k)=.ok sf/\QL x frm oty s 0 (xs.take k)=.ok d) (λi _=>n-(intOf i).toNat)
 case atStart=>exact⟨0,s,[],Kw _,rfl,HS.o.1,HS.o.2.1,by omega,by omega,rfl,rfl,HS.o.2.2,ad.o,rfl⟩
 obtain⟨k,d,ns,hk,rfl,z,B1,X,I,e1,e2,g,t,E⟩:=hrel;by_cases bq:k<n
 . (have r:k<N xs:=by omega);(have ca:(k:Int)<(n:Int):=by omega);rcases HL.o with hx|⟨b,off,bf,hb,hc⟩
   . subst hx;simp at r
   subst bf;obtain⟨la,lc,c0,c1,c2,c3,c4,tL⟩:=hc k r;have j:=af.o (xs.getD k I0) (by simp[Kx,r]);rw[JP xs k r]at g;have aq:=z.mo.b;have kp:=λ(o:Nat) (u:Vu) (hu:A.cell? ⟨b,o,none⟩=some u)=>(aq.cell (p:=⟨b,o,none⟩) hb).trans hu;have d0:=kp _ _ c0;have d1:=kp _ _ c1;have d2:=kp _ _ c2;have d3:=kp _ _ c3;have d4:=kp _ _ c4;rw[Gs x frm oty d xs k r]at t;have aa:=Hm (take_snoc xs k r);obtain⟨y,hy⟩:∃y,y=xs.getD k I0:=⟨_,rfl⟩;rw[<- hy]at d0 d1 d2 d3 d4 tL j g t aa;have R:gd y=true:=by
    by_cases e:gd y=true
    . exact e
    simp[goM,e]at g
   obtain⟨n',M,H⟩:∃n',QB (nst d) y.op=some n'/\goM n' (xs.drop (k+1))=true:=by
    cases hsm:QB (nst d) y.op with
    |none=>simp[goM,R,hsm]at g
    |some n'=>exact⟨n',rfl,by simpa[goM,R,hsm]using g⟩
   (have L:d.cq≠[]:=λe=>by simp[QB,nst,e]at M);obtain⟨W,hW⟩:∃W,W=wr.alloc (Fc #[U O y.op,U O y.a,U O y.b,U Ou y.v,S la (N y.l) lc] 85):=⟨_,rfl⟩;(have ba:Below wr.heap.size wr W:=by rw[hW];exact bFz.alloc lRz _);(have kk:C5 W wr.heap.size 0 (U O y.op) (U O y.a) (U O y.b) (U Ou y.v) (S la (N y.l) lc):=by rw[hW];exact C5.new);obtain⟨⟨f0,f1,f2,f3,f4⟩,cf⟩:=kk;have bg:=Hm (istep_c y la lc (z.keep ba) (bh.o.sub mem_app) (by rw[e1,e2];exact⟨ae.o.1.sub mem_app,ae.o.2.1,ae.o.2.2.sub mem_app⟩) B1 C L j.a0 j.a1 (by have:=j.ll;omega) tL j.l0);have HK:=Hm (λs' (hs':step x frm oty d y=.ok s')=>step_kp hs' C B1 L j.a0 M);have az:=Hm (λs' n (K:Kp d s' n)=>bd_next B1 K (k:=k) (by omega) X I);have ac:=Hm t;have F:=Hm E;have aw:=Hm H;have ay:=Hm e1;have ax:=Hm e2;clear z B1 X I e1 e2 g t E hc c0 c1 c2 c3 c4 tL j hy R M L ba cf aq kp H HL af HS ad;(go_upto_region 3 with fail);rw[<- hW];clear hW;(go_wp2_with fail);refine bg.o.mono ?_;rintro e w2 (⟨f,hr,rfl,Y⟩|⟨s2,ns2,hr,rfl,hI2⟩)
   . exact absurd ac.o (by rw[hr];intro h;cases h)
   (have bo:Hid (QL x frm oty s2 (k+1) (xs.drop (k+1))=.ok sf):=by have:=ac.o;rw[hr]at this;exact this);(have bj:Hid (QL x frm oty s 0 (xs.take (k+1))=.ok s2):=by show QL x frm oty s 0 (xs.take (k+1))=.ok s2;rw[aa.o];exact bodyG_snoc x frm oty y s2 _ s d 0 F.o hr);have K:=HK.o s2 hr;obtain⟨B2,Y,ao⟩:=az.o s2 _ K;have ab:Hid (s2.ps=s.ps/\s2.gq=s.gq/\goM (nst s2) (xs.drop (k+1))=true):=⟨K.ps.trans ay.o,K.gq.trans ax.o,by rw[K.nst];exact aw.o⟩;(have bn:Hid (ISt D A p (Yp (some ⟨q,0,none⟩)) l ((ns2++ns)++ks) s2 w2):=by show ISt D A p _ l ((ns2++ns)++ks) s2 w2;rw[List.append_assoc];exact hI2);have ag:=Hm (⟨B2,Y,ao⟩:Bd s2/\N s2.cq<=k+1+1/\N s2.jj<=(k+1)*1048576);clear hr K B2 Y ao hI2 HK az ac aw ay ax aa F;go_wp2;(go_roundw);(case rel=>exact⟨k+1,s2,ns2++ns,by omega,by go_num,bn.o,ag.o.1,ag.o.2.1,ag.o.2.2,ab.o.1,ab.o.2.1,ab.o.2.2,bo.o,bj.o⟩);case measure=>simp[intOf];omega
 have e:k=n:=by omega
 subst e;have F:=Hm E;have bl:=Hm z;have bb:k*1048576<=1048576*1048576:=Nat.mul_le_mul_right _ (by omega);have HZ:Hid (N d.jj<=1099511627776/\N d.cq<=1048577):=⟨by omega,by omega⟩;clear bb;clear z B1 X I e1 e2 g t E HL af HS ad;go_wp2;go_end0;exact⟨d,ns,F.o,rfl,bl.o,HZ.o.1,HZ.o.2⟩
theorem szN_lenS {n:Nat}(b:1<=n)(a:n<=11):szN md (n:Int)=(QG md n:Int):=by
 rcases(by omega:n=1\/n=2\/n=3\/n=4\/n=5\/n=6\/n=7\/n=8\/n=9\/n=10\/n=11)with rfl|rfl|rfl|rfl|rfl|rfl|rfl|rfl|rfl|rfl|rfl;all_goals simp[szN,szs,QG]
 split<;>rfl
theorem JW {c:Prop}[Decidable c]{x y K:Nat}(b:x<=K)(a:y<=K):(if c then x else y)<=K:=by split<;>assumption
theorem lenS_le (p:Mod.Ln md)(n:Nat):QG md n<=1048576:=by
 obtain⟨o,l,k,j,g,f,d,c,b,a,m⟩:=p;unfold QG;exact JW o (JW l (JW k (JW j (JW g (JW f (JW d (JW (JW (by decide) (Kw _)) (JW c (JW b (JW a (Kw _)))))))))))
def atEnt (i:Nat)(v:Vu):Vu:=If 281 (Ag #[U O (i:Int),v])
def OkTo (md:Mod)(n k:Nat):Prop:=∀j,j<k->Js md n j (Qy md n j)=.ok (Qy md n (j+1))
def SecI (D:Nat)(w0:J)(b q:Nat)(ks:List Qb)(md:Mod)(n k:Nat)(V:J):Prop:=∃w1,Sc w0 w1/\Below b w0 w1/\Gl b w1 (Qy md n k).ns/\SSt D w1 q (Qy md n k).x (Qy md n k).fo (Qy md n k).go (Qy md n k).bd (.map (some b)) ks V/\(Qy md n k).x.jv<=1/\(Qy md n k).x.jz<=1
def SecP (D:Nat)(w0:J)(b q:Nat)(ks:List Qb)(md:Mod)(n:Nat)(e:Ending)(w':J):Prop:=(∃i er,i<QG md n/\OkTo md n i/\Js md n i (Qy md n i)=.error er/\e=Z (atEnt i (erV er))/\Below b w0 w')\/(OkTo md n (QG md n)/\e=Z Nf/\SecI D w0 b q ks md (n+1) 0 w')
theorem isect_c {D:Nat}{y:J}{b q:Nat}{ks:List Qb}{V:J}{Bm:Nat}(hw:wfB md=true)(hL:Mod.LB 1048576 md)(hA:Mod.At 0 y Bm 0 md)(hC:CD D y){n:Nat}(h1:1<=n)(C:n<=11)(hb:b<D)(h:SecI D y b q ks md n 0 V):Ec Q 102 #[Yp (some ⟨q,0,none⟩),Yp (some ⟨Bm,0,none⟩),U O (n:Int)] V (SecP D y b q ks md n):=by
 have HN:=Hm (stAt_next md n);have KE:=Hm (λ(z:J) (k:Nat) (hk:k<QG md n) (e:Sc y z) (V:J) (s:SSt D z q (Qy md n k).x (Qy md n k).fo (Qy md n k).go (Qy md n k).bd (.map (some b)) ks V) (hN:Gl b z (Qy md n k).ns) (ht:(Qy md n k).x.jv<=1) (hm:(Qy md n k).x.jz<=1)=>ient_c hw hL (e.mod hA) (hC.sc e) h1 C hk s hb hN ht hm);have KO:=Hm (λ(k:Nat) (hk:k<QG md n) (s':St) (he:Js md n k (Qy md n k)=.ok s')=>ent_ok hw h1 C hk he);have hZ:=szN_lenS (md:=md) h1 C;have bf:=lenS_le (Gd hL) n;obtain⟨a1,c1,a2,c2,a3,c3,a4,c4,a5,c5,a6,c6,a7,c7,a8,c8,a9,c9,aq,ao,ap,ak,⟨m0,m1,B,m3,m4,m5,m6,m7,m8,m9,M,I,H⟩,_⟩:=hA;obtain⟨z,v,d,l,g,a,c⟩:=h;have m:=λ(o:Nat) (u:Vu) (hu:y.cell? ⟨Bm,o,none⟩=some u)=>(g.mo.b.cell (p:=⟨Bm,o,none⟩) (hC Bm o u hu)).trans ((congrFun (show z.cell?=y.cell? from v) _).trans hu);have d0:=m _ _ m0;have d1:=m _ _ m1;have d2:=m _ _ B;have d3:=m _ _ m3;have d4:=m _ _ m4;have d5:=m _ _ m5;have d6:=m _ _ m6;have d7:=m _ _ m7;have d8:=m _ _ m8;have d9:=m _ _ m9;have aj:=m _ _ M;have ai:=m _ _ I;have ah:=m _ _ H;have KZ:=isz_c md a1 c1 a2 c2 a3 c3 a4 c4 a5 c5 a6 c6 a7 c7 a8 c8 a9 c9 aq ao ap ak (n:Int) V (Gd hL);rw[hZ]at KZ;have HZ:=Hm KZ;have HS:=Hm (λ(W:J) (hB:Below V.heap.size V W)=>(⟨z,v,d,l,g.keep hB,a,c⟩:SecI D y b q ks md n 0 W));generalize hl:QG md n=L at *;clear KZ hZ m m0 m1 B m3 m4 m5 m6 m7 m8 m9 M I H g l d v a c hw hL;go_enter func102,ntmps102;go_wp2_with (go_at_call 171;refine HZ.o.mono ?_;rintro e w2 ⟨rfl,Y⟩)
 have F:=Hm (HS.o _ Y);clear HS HZ Y d0 d1 d2 d3 d4 d5 d6 d7 d8 d9 aj ai ah;go_loopw [14] (λi wr=>∃k:Nat,k<=L/\i=U O k/\SecI D y b q ks md n k wr/\OkTo md n k) (λi _=>L-(intOf i).toNat)
 case atStart=>exact⟨0,Kw _,rfl,F.o,λj hj=>absurd hj (Nat.not_lt_zero _)⟩
 obtain⟨k,hk,rfl,⟨z,v,d,l,g,a,c⟩,t⟩:=hrel;by_cases R:k<L
 . (have br:(k:Int)<(L:Int):=by omega);have HE:=Hm (KE.o z k R v wr g l a c);have HR:=Hm (And.intro v (And.intro d (And.intro a (And.intro c t))));clear g l v d a c t F KE;(go_wp2_with fail);refine HE.o.mono ?_;rintro e w3 (⟨er,A,rfl,hb3⟩|⟨s',A,rfl,hI3⟩)
   . have E:=Hm A;clear A;obtain⟨f,_|j⟩:=er
     . simp only[erV,flt];go_wp2;go_ret;exact .inl ⟨k,(f,none),by omega,HR.o.2.2.2.2,E.o,rfl,HR.o.2.1.trans hb3⟩
     simp only[erV,atIns,flt];go_wp2;go_ret;exact .inl ⟨k,(f,some j),by omega,HR.o.2.2.2.2,E.o,rfl,HR.o.2.1.trans hb3⟩
   obtain⟨rfl,t2,B⟩:=KO.o k R s' A;have E:=Hm (And.intro A (And.intro hI3 (And.intro t2 B)));clear A hI3 t2 B;go_wp2;go_roundw
   case rel=>
    obtain⟨A,⟨w4,e4,b4,n4,s4⟩,t2,B⟩:=E.o;obtain⟨v,d,a,c,t⟩:=HR.o;refine⟨k+1,by omega,by go_num,⟨w4,Eq.trans e4 v,d.trans b4,n4,s4,t2 a,B c⟩,λj hj=>?_⟩;rcases Lc j k with X|X
    . exact t j X
    (obtain rfl:j=k:=by omega);exact A
   case measure=>simp[intOf];omega
 have e:k=L:=by omega
 subst e;have E:=Hm (And.intro (show SecI D y b q ks md n k wr from⟨z,v,d,l,g,a,c⟩) t);clear g l v d a c t F KE;go_wp2;go_ret;refine .inr ⟨by rw[hl];exact E.o.2,rfl,?_⟩;have r:=E.o.1;unfold SecI at r⊢;rw[<- HN.o];exact r
theorem stAt10 (md:Mod):Qy md 1 0=⟨⟨[],[],[],(Jf md (N md.cj)).length,0,0⟩,0,0,0,[]⟩:=by
 simp[Qy,kk,cxA,Q4,Jf,Q0]
theorem sec0 {w W:J}(md:Mod)(h:SSt (w.heap.size+1) (w.alloc (.map #[] 0)) (w.heap.size+1) ⟨[],[],[],0,0,0⟩ 0 0 0 (.map (some w.heap.size)) [] W):SecI (w.heap.size+1) (w.alloc (.map #[] 0)) w.heap.size (w.heap.size+1) [] md 1 0 W:=by
 refine⟨w.alloc (.map #[] 0),rfl,bFz,?_⟩;rw[stAt10];obtain⟨m,e,b,a⟩:=h;exact⟨Gl.start w,⟨m,e,b,⟨a.tt,a.ft,a.gt⟩⟩,Kw _,Kw _⟩
end YtaccbbndmmhenaaGreat.Va
namespace YtaccbbndmmhenaaGreat
open Go.RowKit Go.Sort
def hdB (x:Mod):Bool:=gpB x&&(x.jk.all Qz&&(Qz x.start&&((x.gz || x.start==0)&&decide (N x.fj=N x.jk))))
def cuB (x:Mod)(k:Nat):Bool:=decide (0<=(x.fw.getD k Cus.z).aft/\(x.fw.getD k Cus.z).aft<=11)&&(Q3 (x.fw.getD k Cus.z).nm&&(!(decide (0<(x.fw.getD k Cus.z).aft)&&((szs x).getD (x.fw.getD k Cus.z).aft.toNat 0==0))&&!(decide (0<k)&&decide ((x.fw.getD k Cus.z).aft<(x.fw.getD (k-1) Cus.z).aft))))
def cusA (x:Mod):Bool:=(Mb (N x.fw)).all (cuB x)
def swfB (x:Mod):Bool:=hdB x&&(x.fq.all JD&&(x.fj.all Jl&&(x.fx.all JL&&cusA x)))
theorem range_t (B:Nat->Bool)(n:Nat)(h:∀j,j<n->B j=true):(Mb n).all B=true:=by
 rw[Hf];intro j a;exact h j (by simpa using a)
theorem range_f (B:Nat->Bool)(n k:Nat)(a:k<n)(h:B k=false):(Mb n).all B=false:=by
 rw[List.all_eq_false];exact⟨k,by simpa using a,by simp[h]⟩
theorem swf_c (x:Mod)(a1:Option Ad)(c1:Nat)(a2:Option Ad)(c2:Nat)(a3:Option Ad)(c3:Nat)(a4:Option Ad)(c4:Nat)(a5:Option Ad)(c5:Nat)(a6:Option Ad)(c6:Nat)(a7:Option Ad)(c7:Nat)(a8:Option Ad)(c8:Nat)(a9:Option Ad)(c9:Nat)(a0:Option Ad)(bh:Nat)(az:Option Ad)(ay:Nat)(w:J)(hI:Mod.Is 0 w x a1 a2 a3 a4 a5 a6 a7 a8 a9 a0 az)(hl:Mod.LB 1048576 x)(hp:x.Pos):Ec Q 76 #[Ag #[S a1 (N x.types) c1,S a2 (N x.cj) c2,S a3 (N x.jk) c3,S a4 (N x.cw) c4,S a5 (N x.jz) c5,S a6 (N x.ck) c6,S a7 (N x.cv) c7,G x.gz,U O x.start,S a8 (N x.fq) c8,S a9 (N x.fj) c9,S a0 (N x.fx) bh,S az (N x.fw) ay]] w λe w'=>e=Z (G (swfB x))/\Below w.heap.size w w':=by
 have ⟨l1,l2,l3,l4,l5,l6,l7,l8,l9,l10,l11⟩:=Gd hl;have fm:=Hm hI;obtain⟨r1,r2,r3,r4,r5,r6,r7,r8,r9,es,ep⟩:=hI;have R3:=Hm r3;have R8:=Hm r8;have R9:=Hm r9;have fk:=Hm es;have fi:=Hm ep;clear r1 r2 r3 r4 r5 r6 r7 r8 r9 es ep;have LL:=Hm hl;have PP:=Hm hp;have HW:Hid (swfB x=(hdB x&&(x.fq.all JD&&(x.fj.all Jl&&(x.fx.all JL&&cusA x))))):=rfl;clear hl hp;go_enter func76,ntmps76;go_upto_region 1 with fail
 refine Qj (λW=>Bk W w.heap.size [S a1 (N x.types) c1,S a2 (N x.cj) c2,S a3 (N x.jk) c3,S a4 (N x.cw) c4,S a5 (N x.jz) c5,S a6 (N x.ck) c6,S a7 (N x.cv) c7,G x.gz,U O x.start,S a8 (N x.fq) c8,S a9 (N x.fj) c9,S a0 (N x.fx) bh,S az (N x.fw) ay]/\Below w.heap.size w W) ⟨Bk.new,bFz.alloc lRz _⟩ ?_;rintro W0 ⟨a,F⟩;go_cut [42]from 9 to 42 (λs V=>(∃nb:Bool,s=G nb/\(!hdB x)=nb)/\Bk V w.heap.size [S a1 (N x.types) c1,S a2 (N x.cj) c2,S a3 (N x.jk) c3,S a4 (N x.cw) c4,S a5 (N x.jz) c5,S a6 (N x.ck) c6,S a7 (N x.cv) c7,G x.gz,U O x.start,S a8 (N x.fq) c8,S a9 (N x.fj) c9,S a0 (N x.fx) bh,S az (N x.fw) ay]/\Below w.heap.size w V)
 case first=>
  have q0:=a.2.1 0 _ rfl;have q1:=a.2.1 1 _ rfl;have q2:=a.2.1 2 _ rfl;have q3:=a.2.1 3 _ rfl;have q4:=a.2.1 4 _ rfl;have q5:=a.2.1 5 _ rfl;have q6:=a.2.1 6 _ rfl;have q7:=a.2.1 7 _ rfl;have q8:=a.2.1 8 _ rfl;have q9:=a.2.1 9 _ rfl;have aq:=a.2.1 10 _ rfl;have ax:=a.2.1 11 _ rfl;have Y:=a.2.1 12 _ rfl;have KG:=Hm (sgp_c x a1 c1 a2 c2 a3 c3 a4 c4 a5 c5 a6 c6 a7 c7 a8 c8 a9 c9 a0 bh az ay W0 (fm.o.up (up_below F)) LL.o PP.o);have KA:=Hm (λ(V:J) (h:Below w.heap.size w V)=>sall_c a3 c3 x.jk V (by have:=LL.o.2.2.1;omega) (R3.o.up (up_below h)).has);have KU:=Hm (Ga x.start);have HH:Hid (hdB x=(gpB x&&(x.jk.all Qz&&(Qz x.start&&((x.gz || x.start==0)&&decide (N x.fj=N x.jk)))))):=rfl;generalize b3:gpB x=t1 at KG;generalize b2:x.jk.all Qz=t2 at KA;generalize ev:Qz x.start=t3 at KU;rw[b3,b2,ev]at HH;clear b3 b2 ev HW;cases t1
  . have HX:Hid (hdB x=false):=HH.o;clear HH KA KU;(go_wp2_with fail);refine KG.o.mono ?_;rintro e W1 ⟨rfl,b4⟩;have bc:=a.keep b4;have c:=F.trans (b4.mono F.size);clear b4 KG a F q0 q1 q2 q3 q4 q5 q6 q7 q8 q9 aq ax Y;(go_wp2_with fail);(go_meet);case rel=>exact⟨⟨_,rfl,by rw[HX.o];rfl⟩,bc,c⟩
  go_wp2_with fail
  refine KG.o.mono ?_;rintro e W1 ⟨rfl,b4⟩;have bc:=a.keep b4;have c:=F.trans (b4.mono F.size);clear b4 KG a F q0 q1 q2 q3 q4 q5 q6 q7 q8 q9 aq ax Y;have a:=bc;clear bc;have q2:=a.2.1 2 _ rfl;have q7:=a.2.1 7 _ rfl;have q8:=a.2.1 8 _ rfl;have aq:=a.2.1 10 _ rfl;have BB:=Hm a;clear a;cases t2
  . have HX:Hid (hdB x=false):=HH.o;clear HH KU;(go_wp2_with fail);refine(KA.o _ c).mono ?_;rintro e g ⟨rfl,rfl⟩;clear KA;(go_wp2_with fail);(go_meet);case rel=>exact⟨⟨_,rfl,by rw[HX.o];rfl⟩,BB.o,c⟩
  go_wp2_with fail
  refine(KA.o _ c).mono ?_;rintro e g ⟨rfl,rfl⟩;clear KA;cases t3
  . have HX:Hid (hdB x=false):=HH.o;clear HH;(go_wp2_with fail);refine(KU.o _).mono ?_;rintro e g ⟨rfl,rfl⟩;clear KU;(go_wp2_with fail);(go_meet);case rel=>exact⟨⟨_,rfl,by rw[HX.o];rfl⟩,BB.o,c⟩
  go_wp2_with fail
  refine(KU.o _).mono ?_;rintro e g ⟨rfl,rfl⟩;clear KU;have dt:Hid (hdB x=((x.gz || x.start==0)&&decide (N x.fj=N x.jk))):=HH.o;clear HH;by_cases ba:N x.fj=N x.jk
  . (have e9:((N x.fj:Int)==(N x.jk:Int))=true:=by simp[ba]);(have e8:((N x.fj:Int) != (N x.jk:Int))=false:=by simp[ba]);(have ds:Hid (hdB x=(x.gz || x.start==0)):=by show _=_;rw[dt.o,decide_eq_true ba,Bool.and_true]);clear dt ba;by_cases ad:x.start=0
    . (have e1:(x.start==0)=true:=by simp[ad]);(have e2:(x.start != 0)=false:=by simp[ad]);(have HX:Hid (hdB x=true):=by show _=_;rw[ds.o,e1,Bool.or_true]);clear ds ad;obtain⟨hs,X⟩:∃hs,hs=x.gz:=⟨_,rfl⟩;rw[<- X]at q7;have cl:=Hm X;clear X;cases hs
      . (go_wp2_with fail);(go_meet);case rel=>exact⟨⟨_,rfl,by rw[HX.o];rfl⟩,BB.o,c⟩
      (go_wp2_with fail);(go_meet);case rel=>exact⟨⟨_,rfl,by rw[HX.o];rfl⟩,BB.o,c⟩
    (have e1:(x.start==0)=false:=by simpa using ad);(have e2:(x.start != 0)=true:=by simpa using ad);(have e3:Hid (hdB x=x.gz):=by show _=_;rw[ds.o,e1,Bool.or_false]);clear ds ad;obtain⟨hs,X⟩:∃hs,hs=x.gz:=⟨_,rfl⟩;rw[<- X]at q7;have cl:=Hm X;clear X;cases hs
    . (go_wp2_with fail);(go_meet);case rel=>exact⟨⟨_,rfl,by rw[e3.o,<- cl.o];rfl⟩,BB.o,c⟩
    (go_wp2_with fail);(go_meet);case rel=>exact⟨⟨_,rfl,by rw[e3.o,<- cl.o];rfl⟩,BB.o,c⟩
  have d0:¬((N x.fj:Int)=(N x.jk:Int)):=by omega
  have e9:((N x.fj:Int)==(N x.jk:Int))=false:=by simpa using d0
  have e8:((N x.fj:Int) != (N x.jk:Int))=true:=by simpa using d0
  have HX:Hid (hdB x=false):=by show _=_;rw[dt.o,decide_eq_false ba,Bool.and_false]
  clear dt ba d0;by_cases ad:x.start=0
  . (have e1:(x.start==0)=true:=by simp[ad]);(have e2:(x.start != 0)=false:=by simp[ad]);clear ad;obtain⟨hs,X⟩:∃hs,hs=x.gz:=⟨_,rfl⟩;rw[<- X]at q7;have cl:=Hm X;clear X;cases hs
    . (go_wp2_with fail);(go_meet);case rel=>exact⟨⟨_,rfl,by rw[HX.o];rfl⟩,BB.o,c⟩
    (go_wp2_with fail);(go_meet);case rel=>exact⟨⟨_,rfl,by rw[HX.o];rfl⟩,BB.o,c⟩
  have e1:(x.start==0)=false:=by simpa using ad
  have e2:(x.start != 0)=true:=by simpa using ad
  clear ad;obtain⟨hs,X⟩:∃hs,hs=x.gz:=⟨_,rfl⟩;rw[<- X]at q7;have cl:=Hm X;clear X;cases hs
  . (go_wp2_with fail);(go_meet);case rel=>exact⟨⟨_,rfl,by rw[HX.o];rfl⟩,BB.o,c⟩
  go_wp2_with fail
  go_meet
  case rel=>exact⟨⟨_,rfl,by rw[HX.o];rfl⟩,BB.o,c⟩
 obtain⟨⟨nb,rfl,bg⟩,a,F⟩:=hcut;have dr:Hid (swfB x=(hdB x&&(x.fq.all JD&&(x.fj.all Jl&&(x.fx.all JL&&cusA x))))):=HW.o;clear HW;cases nb
 case true=>
  have h0:hdB x=false:=by simpa using bg
  have B:Hid (swfB x=false):=by show _=_;rw[dr.o,h0];rfl
  clear a bg h0 dr;go_wp2;go_ret;exact⟨by rw[B.o];rfl,F⟩
 have h0:hdB x=true:=by simpa using bg
 have HW:Hid (swfB x=(x.fq.all JD&&(x.fj.all Jl&&(x.fx.all JL&&cusA x)))):=by show _=_;rw[dr.o,h0];rfl
 clear dr h0 bg;have q0:=a.2.1 0 _ rfl;have q1:=a.2.1 1 _ rfl;have q2:=a.2.1 2 _ rfl;have q3:=a.2.1 3 _ rfl;have q4:=a.2.1 4 _ rfl;have q5:=a.2.1 5 _ rfl;have q6:=a.2.1 6 _ rfl;have q7:=a.2.1 7 _ rfl;have q8:=a.2.1 8 _ rfl;have q9:=a.2.1 9 _ rfl;have aq:=a.2.1 10 _ rfl;have ax:=a.2.1 11 _ rfl;have Y:=a.2.1 12 _ rfl;go_wp2_with fail
 go_loopw [3] (λi wr=>∃k:Nat,k<=N x.fq/\i=U O k/\(∀j,j<k->JD (x.fq.getD j Ele.z)=true)/\Bk wr w.heap.size [S a1 (N x.types) c1,S a2 (N x.cj) c2,S a3 (N x.jk) c3,S a4 (N x.cw) c4,S a5 (N x.jz) c5,S a6 (N x.ck) c6,S a7 (N x.cv) c7,G x.gz,U O x.start,S a8 (N x.fq) c8,S a9 (N x.fj) c9,S a0 (N x.fx) bh,S az (N x.fw) ay]/\Below w.heap.size w wr) (λi _=>N x.fq-(intOf i).toNat)
 case atStart=>exact⟨0,Kw _,rfl,λj h=>by omega,a,F⟩
 clear a F q0 q1 q2 q3 q4 q5 q6 q7 q8 q9 aq ax Y;obtain⟨k,hk,rfl,f,a,F⟩:=hrel;have q0:=a.2.1 0 _ rfl;have q1:=a.2.1 1 _ rfl;have q2:=a.2.1 2 _ rfl;have q3:=a.2.1 3 _ rfl;have q4:=a.2.1 4 _ rfl;have q5:=a.2.1 5 _ rfl;have q6:=a.2.1 6 _ rfl;have q7:=a.2.1 7 _ rfl;have q8:=a.2.1 8 _ rfl;have q9:=a.2.1 9 _ rfl;have aq:=a.2.1 10 _ rfl;have ax:=a.2.1 11 _ rfl;have Y:=a.2.1 12 _ rfl;by_cases l:k<N x.fq
 . (have d4:(k:Int)<(N x.fq:Int):=by omega);rcases R8.o.up (up_below F)with hx|⟨b,o,ea,_,hc⟩
   . rw[hx]at l;simp at l
   have ac:=hc k l;have aj:=(LL.o.2.2.2.2.2.2.2.1).2 k l;have bl:=PP.o.2.1 k l;subst ea;obtain⟨y,hy⟩:∃y,y=x.fq.getD k Ele.z:=⟨_,rfl⟩;rw[<- hy]at ac aj bl;have ez:=Hm ac;obtain⟨e1,d1,e2,d2,⟨g0,g1⟩,hi⟩:=ac;have HB:=Hm F;have BB:=Hm a;have HC:=Hm (sclo e1 d1 y.off wr aj.1 bl hi.1);have HA:=Hm (λ(V:J) (h:Below wr.heap.size wr V)=>sall_c e2 d2 y.fs V (by have:=aj.2;omega) (hi.2.up (up_below h)).has);generalize b3:QF y.off=t1 at HC;generalize b2:y.fs.all Qz=t2 at HA;(have HG:Hid (JD (x.fq.getD k Ele.z)=(t1&&t2)):=by show _=_;rw[<- hy,JD,b3,b2]);cases t1
   . have bo:Hid (JD (x.fq.getD k Ele.z)=false):=HG.o;(have B:Hid (swfB x=false):=by show _=_;rw[HW.o,Jd JD x.fq Ele.z k l bo.o];rfl);clear f hc F a hi hy b3 b2 HW HG bo HA;(go_wp2_with fail);refine HC.o.mono ?_;rintro e w2 ⟨rfl,c⟩;have R:=HB.o.trans (c.mono HB.o.size);clear c;go_wp2;go_ret;exact⟨by rw[B.o];rfl,R⟩
   cases t2
   . have bo:Hid (JD (x.fq.getD k Ele.z)=false):=HG.o;(have B:Hid (swfB x=false):=by show _=_;rw[HW.o,Jd JD x.fq Ele.z k l bo.o];rfl);clear f hc F a hi hy b3 b2 HW HG bo;(go_wp2_with fail);refine HC.o.mono ?_;rintro e w2 ⟨rfl,c⟩;have R:=HB.o.trans (c.mono HB.o.size);have ae:=BB.o.keep c;have f1:w2.cell? ⟨b,o+k*2+1,none⟩=some (S e2 (N y.fs) d2):=(c.cell (p:=⟨b,o+k*2+1,none⟩) (Kk wr _ g1)).trans g1;have q9:=ae.2.1 9 _ rfl;have eh:=Hm (HA.o _ c);clear c ae HA;(go_wp2_with fail);refine eh.o.mono ?_;rintro e w3 ⟨rfl,rfl⟩;go_wp2;go_ret;exact⟨by rw[B.o];rfl,R⟩
   have bo:Hid (JD (x.fq.getD k Ele.z)=true):=HG.o;have av:Hid (∀j,j<k+1->JD (x.fq.getD j Ele.z)=true):=λj hj=>by
    rcases(by omega:j<k\/j=k)with h|h
    . exact f j h
    subst h;exact bo.o
   clear f hc F a hi hy b3 b2 HG bo;(go_wp2_with fail);refine HC.o.mono ?_;rintro e w2 ⟨rfl,c⟩;have R:=HB.o.trans (c.mono HB.o.size);have ae:=BB.o.keep c;have f1:w2.cell? ⟨b,o+k*2+1,none⟩=some (S e2 (N y.fs) d2):=(c.cell (p:=⟨b,o+k*2+1,none⟩) (Kk wr _ g1)).trans g1;have q9:=ae.2.1 9 _ rfl;have eh:=Hm (HA.o _ c);have fr:=Hm ae;clear c ae HA;(go_wp2_with fail);refine eh.o.mono ?_;rintro e w3 ⟨rfl,rfl⟩;go_wp2;(go_roundw);(case rel=>exact⟨k+1,by omega,by go_num,av.o,fr.o,R⟩);case measure=>simp[intOf];omega
 have e:k=N x.fq:=by omega
 subst e;have bn:Hid (swfB x=(x.fj.all Jl&&(x.fx.all JL&&cusA x))):=by show _=_;rw[HW.o,JB JD x.fq Ele.z f,Tk]
 clear f HW hk l;have HW:=bn;clear bn;go_wp2_with fail
 go_loopw [4] (λi wr=>∃k:Nat,k<=N x.fj/\i=U O k/\(∀j,j<k->Jl (x.fj.getD j Cod.z)=true)/\Bk wr w.heap.size [S a1 (N x.types) c1,S a2 (N x.cj) c2,S a3 (N x.jk) c3,S a4 (N x.cw) c4,S a5 (N x.jz) c5,S a6 (N x.ck) c6,S a7 (N x.cv) c7,G x.gz,U O x.start,S a8 (N x.fq) c8,S a9 (N x.fj) c9,S a0 (N x.fx) bh,S az (N x.fw) ay]/\Below w.heap.size w wr) (λi _=>N x.fj-(intOf i).toNat)
 case atStart=>exact⟨0,Kw _,rfl,λj h=>by omega,a,F⟩
 clear a F q0 q1 q2 q3 q4 q5 q6 q7 q8 q9 aq ax Y;obtain⟨k,hk,rfl,f,a,F⟩:=hrel;have q0:=a.2.1 0 _ rfl;have q1:=a.2.1 1 _ rfl;have q2:=a.2.1 2 _ rfl;have q3:=a.2.1 3 _ rfl;have q4:=a.2.1 4 _ rfl;have q5:=a.2.1 5 _ rfl;have q6:=a.2.1 6 _ rfl;have q7:=a.2.1 7 _ rfl;have q8:=a.2.1 8 _ rfl;have q9:=a.2.1 9 _ rfl;have aq:=a.2.1 10 _ rfl;have ax:=a.2.1 11 _ rfl;have Y:=a.2.1 12 _ rfl;by_cases l:k<N x.fj
 . (have d4:(k:Int)<(N x.fj:Int):=by omega);rcases R9.o.up (up_below F)with hx|⟨b,o,ea,_,hc⟩
   . rw[hx]at l;simp at l
   have ac:=hc k l;have aj:=(LL.o.2.2.2.2.2.2.2.2.1).2 k l;have bl:=PP.o.2.2.1 k l;subst ea;obtain⟨y,hy⟩:∃y,y=x.fj.getD k Cod.z:=⟨_,rfl⟩;rw[<- hy]at ac aj bl;have ez:=Hm ac;obtain⟨e1,d1,e2,d2,⟨g0,g1⟩,hi⟩:=ac;have HB:=Hm F;have BB:=Hm a;have HC:=Hm (scod_c y e1 d1 e2 d2 wr hi aj bl);generalize hg:Jl y=gy at HC;(have HG:Hid (Jl (x.fj.getD k Cod.z)=gy):=by show _=_;rw[<- hy];exact hg);cases gy
   . (have B:Hid (swfB x=false):=by show _=_;rw[HW.o,Jd Jl x.fj Cod.z k l HG.o];rfl);clear f hc F a hi hy hg HW HG;(go_wp2_with fail);refine HC.o.mono ?_;rintro e w2 ⟨rfl,c⟩;have R:=HB.o.trans (c.mono HB.o.size);clear c;go_wp2;go_ret;exact⟨by rw[B.o];rfl,R⟩
   have av:Hid (∀j,j<k+1->Jl (x.fj.getD j Cod.z)=true):=λj hj=>by
    rcases(by omega:j<k\/j=k)with h|h
    . exact f j h
    subst h;exact HG.o
   clear f hc F a hi hy hg HG;(go_wp2_with fail);refine HC.o.mono ?_;rintro e w2 ⟨rfl,c⟩;have R:=HB.o.trans (c.mono HB.o.size);have ae:=BB.o.keep c;clear c;go_wp2;(go_roundw);(case rel=>exact⟨k+1,by omega,by go_num,av.o,ae,R⟩);case measure=>simp[intOf];omega
 have e:k=N x.fj:=by omega
 subst e;have bn:Hid (swfB x=(x.fx.all JL&&cusA x)):=by show _=_;rw[HW.o,JB Jl x.fj Cod.z f,Tk]
 clear f HW hk l;have HW:=bn;clear bn;go_wp2_with fail
 go_loopw [5] (λi wr=>∃k:Nat,k<=N x.fx/\i=U O k/\(∀j,j<k->JL (x.fx.getD j Dat.z)=true)/\Bk wr w.heap.size [S a1 (N x.types) c1,S a2 (N x.cj) c2,S a3 (N x.jk) c3,S a4 (N x.cw) c4,S a5 (N x.jz) c5,S a6 (N x.ck) c6,S a7 (N x.cv) c7,G x.gz,U O x.start,S a8 (N x.fq) c8,S a9 (N x.fj) c9,S a0 (N x.fx) bh,S az (N x.fw) ay]/\Below w.heap.size w wr) (λi _=>N x.fx-(intOf i).toNat)
 case atStart=>exact⟨0,Kw _,rfl,λj h=>by omega,a,F⟩
 clear a F q0 q1 q2 q3 q4 q5 q6 q7 q8 q9 aq ax Y;obtain⟨k,hk,rfl,f,a,F⟩:=hrel;have q0:=a.2.1 0 _ rfl;have q1:=a.2.1 1 _ rfl;have q2:=a.2.1 2 _ rfl;have q3:=a.2.1 3 _ rfl;have q4:=a.2.1 4 _ rfl;have q5:=a.2.1 5 _ rfl;have q6:=a.2.1 6 _ rfl;have q7:=a.2.1 7 _ rfl;have q8:=a.2.1 8 _ rfl;have q9:=a.2.1 9 _ rfl;have aq:=a.2.1 10 _ rfl;have ax:=a.2.1 11 _ rfl;have Y:=a.2.1 12 _ rfl;by_cases l:k<N x.fx
 . (have d4:(k:Int)<(N x.fx:Int):=by omega);rcases fk.o.up (up_below F)with hx|⟨b,o,ea,_,hc⟩
   . rw[hx]at l;simp at l
   have ac:=hc k l;have aj:=(LL.o.2.2.2.2.2.2.2.2.2.1).2 k l;have bl:=PP.o.2.2.2 k l;subst ea;obtain⟨y,hy⟩:∃y,y=x.fx.getD k Dat.z:=⟨_,rfl⟩;rw[<- hy]at ac aj bl;have ez:=Hm ac;obtain⟨e1,d1,e2,d2,⟨g0,g1⟩,hi⟩:=ac;have HB:=Hm F;have BB:=Hm a;have HC:=Hm (sclo e1 d1 y.off wr aj.1 bl hi.1);generalize hg:QF y.off=gy at HC;(have HG:Hid (JL (x.fx.getD k Dat.z)=gy):=by show _=_;rw[<- hy];exact hg);cases gy
   . (have B:Hid (swfB x=false):=by show _=_;rw[HW.o,Jd JL x.fx Dat.z k l HG.o];rfl);clear f hc F a hi hy hg HW HG;(go_wp2_with fail);refine HC.o.mono ?_;rintro e w2 ⟨rfl,c⟩;have R:=HB.o.trans (c.mono HB.o.size);clear c;go_wp2;go_ret;exact⟨by rw[B.o];rfl,R⟩
   have av:Hid (∀j,j<k+1->JL (x.fx.getD j Dat.z)=true):=λj hj=>by
    rcases(by omega:j<k\/j=k)with h|h
    . exact f j h
    subst h;exact HG.o
   clear f hc F a hi hy hg HG;(go_wp2_with fail);refine HC.o.mono ?_;rintro e w2 ⟨rfl,c⟩;have R:=HB.o.trans (c.mono HB.o.size);have ae:=BB.o.keep c;clear c;go_wp2;(go_roundw);(case rel=>exact⟨k+1,by omega,by go_num,av.o,ae,R⟩);case measure=>simp[intOf];omega
 have e:k=N x.fx:=by omega
 subst e;have bn:Hid (swfB x=cusA x):=by show _=_;rw[HW.o,JB JL x.fx Dat.z f,Tk]
 clear f HW hk l;have HW:=bn;clear bn;obtain⟨ss,dz⟩:∃ss:Int,(if x.gz then 1 else 0:Int)=ss:=⟨_,rfl⟩;have KZ:=Hm (ssz_c x a1 c1 a2 c2 a3 c3 a4 c4 a5 c5 a6 c6 a7 c7 a8 c8 a9 c9 a0 bh az ay wr (Gd LL.o) ss dz);have fl:=Hm dz;clear dz;have BB:=Hm a;have HB:=Hm F;clear a F;go_wp2_with fail
 with_reducible refine KZ.o.mono ?_
 rintro e w2 ⟨gs,rfl,gg,bz,c⟩;have R:=HB.o.trans (c.mono HB.o.size);have ae:=BB.o.keep c;clear KZ BB HB c q0 q1 q2 q3 q4 q5 q6 q7 q8 q9 aq ax Y;go_wp2_with fail
 go_loopw [7] (λi wr=>∃k:Nat,k<=N x.fw/\i=U O k/\(∀j,j<k->cuB x j=true)/\Bk wr w.heap.size [S a1 (N x.types) c1,S a2 (N x.cj) c2,S a3 (N x.jk) c3,S a4 (N x.cw) c4,S a5 (N x.jz) c5,S a6 (N x.ck) c6,S a7 (N x.cv) c7,G x.gz,U O x.start,S a8 (N x.fq) c8,S a9 (N x.fj) c9,S a0 (N x.fx) bh,S az (N x.fw) ay]/\Bk wr gs [U O 0,U O (N x.types),U O (N x.cj),U O (N x.jk),U O (N x.cw),U O (N x.jz),U O (N x.ck),U O (N x.cv),U O ss,U O (N x.fq),U O (N x.fj),U O (N x.fx)]/\Below w.heap.size w wr) (λi _=>N x.fw-(intOf i).toNat)
 case atStart=>exact⟨0,Kw _,rfl,λj h=>by omega,ae,bz,R⟩
 clear ae bz R;obtain⟨k,hk,rfl,f,a,bz,F⟩:=hrel;have Y:=a.2.1 12 _ rfl;by_cases l:k<N x.fw
 . (have d4:(k:Int)<(N x.fw:Int):=by omega);rcases fi.o.up (up_below F)with hx|⟨b,o,ea,_,hc⟩
   . rw[hx]at l;simp at l
   have ac:=hc k l;have aj:=(LL.o.2.2.2.2.2.2.2.2.2.2).2 k l;subst ea;obtain⟨e1,d1,⟨g0,g1,g2⟩,hi⟩:=ac;obtain⟨y,hy⟩:∃y,y=x.fw.getD k Cus.z:=⟨_,rfl⟩;rw[<- hy]at g0 g1 g2 aj;obtain⟨af,d7⟩:∃af,af=y.aft:=⟨_,rfl⟩;rw[<- d7]at g0;obtain⟨Pv,d8⟩:∃Pv,Pv=(x.fw.getD (k-1) Cus.z).aft:=⟨_,rfl⟩;(have bp:Hid (cuB x k=(decide (0<=af/\af<=11)&&(Q3 y.nm&&(!(decide (0<af)&&((szs x).getD af.toNat 0==0))&&!(decide (0<k)&&decide (af<Pv)))))):=by show _=_;rw[cuB,<- hy,<- d7,<- d8]);(have ao:Hid (∀m:Nat,(m:Int)=(k:Int)-1->wr.cell? ⟨b,o+m*3,none⟩=some (U O Pv)):=λm hm=>by(have em:m=k-1:=by omega);obtain⟨_,_,⟨p0,_,_⟩,_⟩:=hc m (by omega);rw[em,<- d8]at p0;rw[em];exact p0);(have ca:Hid (∀n:Nat,n<=11->wr.cell? ⟨gs,n,none⟩=some (U O ((szs x).getD n 0))):=λn hn=>by(have e0:(szs x).map (λz=>Value.int O z)=[U O 0,U O (N x.types),U O (N x.cj),U O (N x.jk),U O (N x.cw),U O (N x.jz),U O (N x.ck),U O (N x.cv),U O ss,U O (N x.fq),U O (N x.fj),U O (N x.fx)]:=by rw[szs,<- fl.o];rfl);refine bz.2.1 n _ ?_;rw[<- e0,List.getElem?_map];(have eu:n<(szs x).length:=by simp[szs];omega);simp[Kx,Kj eu]);have HB:=Hm F;have BB:=Hm a;have BZ:=Hm bz;have cm:=Hm f;have u:=Hm (l1In_c af 0 11);have E:=Hm (λV=>sname_ok y.nm V aj.1);clear hc F a bz hi hy d7 d8 f;generalize Q3 y.nm=nm at *;generalize y.nm=ynm at *;obtain⟨g,cg⟩:∃g,g=wr.alloc (Fc #[U O af,Xs ynm,S e1 (N y.bs) d1] 201):=⟨_,rfl⟩;obtain⟨g8,di⟩:∃g8,g8=wr.heap.size:=⟨_,rfl⟩;(have al:Below wr.heap.size wr g:=by rw[cg];exact bFz.alloc lRz _);(have c0:g.cell? ⟨g8,0,none⟩=some (U O af):=by rw[cg,di];exact Qe rfl rfl);(have c1:g.cell? ⟨g8,1,none⟩=some (Xs ynm):=by rw[cg,di];exact Qe rfl rfl);have cb:=Hm al;have dx:=Hm cg;have e4:=Hm di;have D:g.cell? ⟨w.heap.size,12,none⟩=some (S (some ⟨b,o,none⟩) (N x.fw) ay):=(al.cell (p:=⟨w.heap.size,12,none⟩) (Kk wr _ Y)).trans Y;clear cg di al;go_upto_region 23 with fail
   rw[<- dx.o,<- e4.o];clear dx e4 g0 g1 g2 Y;go_cut [149]from 111 to 149 (λs V=>(∃nb:Bool,s=G nb/\(!cuB x k)=nb)/\Below g.heap.size g V)
   case first=>
    by_cases b6:0<=af/\af<=11;(case neg=>(have M:Hid ((!cuB x k)=true):=by show _=_;rw[bp.o,decide_eq_false b6];rfl);have au:=u.o;rw[decide_eq_false b6]at au;clear u;have u:=Hm au;clear bp ao ca b6 au;have I:=cell_regrown c0;have H:=cell_regrown c1;have q:=cell_regrown D;have T1:Hid (∀d os,Ec Q 24 #[U O af,U O 0,U O 11] (grow (redrawn g d) os) λe w''=>e=Z (G false)/\∃p:Regrown,w''=grow (redrawn g p.d) p.os):=λd os=>(u.o _).mono λe w' ⟨h1,h2⟩=>⟨h1,⟨d,os⟩,h2.symm⟩;have T2:Hid (∀d os,Ec Q 129 #[Xs ynm] (grow (redrawn g d) os) λe w''=>e=Z (G nm)/\∃p:Regrown,w''=grow (redrawn g p.d) p.os):=λd os=>Tz (E.o _);clear c0 c1 D u E;refine wp_region_quiet_below (by kernel_rfl) (by kernel_rfl) ?_;(repeat ((with_reducible refine wpQuiet_step (λK hK=>?_));go_simp;first|(refine hK _ ?_;clear hK K)|(apply Exists.intro;refine⟨λ_=>?_,hK _ ?_⟩;(first|with_reducible exact T1.o _ _|with_reducible exact T2.o _ _);clear hK K)|(rw[if_neg (by simp[Tj,yielded,undef])];go_simp;refine hK _ ?_;clear hK K)));(with_reducible refine wpQuiet_nil ?_);intro _ L;obtain⟨⟨dq,r⟩,t⟩:=L;subst t;have A:=below_regrown g dq r;clear I H q T1 T2;generalize grow (redrawn g dq) r=w8 at *;(try show Exit.then _ _ Tn _ w8);(go_wp2_with fail);(go_meet);case rel=>exact⟨⟨_,rfl,M.o⟩,A⟩);have au:=u.o;rw[decide_eq_true b6]at au bp;clear u;have u:=Hm au;clear au;cases nm
    (case false=>(have M:Hid ((!cuB x k)=true):=by show _=_;rw[bp.o];rfl);clear bp ao ca b6;have I:=cell_regrown c0;have H:=cell_regrown c1;have q:=cell_regrown D;have T1:Hid (∀d os,Ec Q 24 #[U O af,U O 0,U O 11] (grow (redrawn g d) os) λe w''=>e=Z (G true)/\∃p:Regrown,w''=grow (redrawn g p.d) p.os):=λd os=>(u.o _).mono λe w' ⟨h1,h2⟩=>⟨h1,⟨d,os⟩,h2.symm⟩;have T2:Hid (∀d os,Ec Q 129 #[Xs ynm] (grow (redrawn g d) os) λe w''=>e=Z (G false)/\∃p:Regrown,w''=grow (redrawn g p.d) p.os):=λd os=>Tz (E.o _);clear c0 c1 D u E;refine wp_region_quiet_below (by kernel_rfl) (by kernel_rfl) ?_;(repeat ((with_reducible refine wpQuiet_step (λK hK=>?_));go_simp;first|(refine hK _ ?_;clear hK K)|(apply Exists.intro;refine⟨λ_=>?_,hK _ ?_⟩;(first|with_reducible exact T1.o _ _|with_reducible exact T2.o _ _);clear hK K)|(rw[if_neg (by simp[Tj,yielded,undef])];go_simp;refine hK _ ?_;clear hK K)));(with_reducible refine wpQuiet_nil ?_);intro _ L;obtain⟨⟨dq,r⟩,t⟩:=L;subst t;have A:=below_regrown g dq r;clear I H q T1 T2;generalize grow (redrawn g dq) r=w8 at *;(try show Exit.then _ _ Tn _ w8);(go_wp2_with fail);(go_meet);case rel=>exact⟨⟨_,rfl,M.o⟩,A⟩);obtain⟨n,hn⟩:∃n:Nat,af=(n:Int):=⟨af.toNat,by omega⟩;subst hn;(have dv:n<=11:=by omega);(have fz:(n:Int)<12:=by omega);have z0:=(cb.o.cell (p:=⟨gs,n,none⟩) (Kk wr _ (ca.o n dv))).trans (ca.o n dv);have bd:Hid (cuB x k=(!(decide (0<(n:Int))&&((szs x).getD n 0==0))&&!(decide (0<k)&&decide ((n:Int)<Pv)))):=bp.o;generalize(szs x).getD n 0=Zz0 at *;clear bp ca b6;by_cases bm:(0:Int)<(n:Int)
    case pos=>
     have et:decide (0<n)=true:=decide_eq_true (by omega);by_cases hZ:Zz0=0;(case pos=>subst hZ;(have M:Hid ((!cuB x k)=true):=by show _=_;rw[bd.o,decide_eq_true bm];rfl);clear bd ao bm;have I:=cell_regrown c0;have H:=cell_regrown c1;have q:=cell_regrown D;have ab:=cell_regrown z0;have T1:Hid (∀d os,Ec Q 24 #[U O (n:Int),U O 0,U O 11] (grow (redrawn g d) os) λe w''=>e=Z (G true)/\∃p:Regrown,w''=grow (redrawn g p.d) p.os):=λd os=>(u.o _).mono λe w' ⟨h1,h2⟩=>⟨h1,⟨d,os⟩,h2.symm⟩;have T2:Hid (∀d os,Ec Q 129 #[Xs ynm] (grow (redrawn g d) os) λe w''=>e=Z (G true)/\∃p:Regrown,w''=grow (redrawn g p.d) p.os):=λd os=>Tz (E.o _);clear c0 c1 D z0 u E;refine wp_region_quiet_below (by kernel_rfl) (by kernel_rfl) ?_;(repeat ((with_reducible refine wpQuiet_step (λK hK=>?_));go_simp;first|(refine hK _ ?_;clear hK K)|(apply Exists.intro;refine⟨λ_=>?_,hK _ ?_⟩;(first|with_reducible exact T1.o _ _|with_reducible exact T2.o _ _);clear hK K)|(rw[if_neg (by simp[Tj,yielded,undef])];go_simp;refine hK _ ?_;clear hK K)));(with_reducible refine wpQuiet_nil ?_);intro _ L;obtain⟨⟨dq,r⟩,t⟩:=L;subst t;have A:=below_regrown g dq r;clear I H q ab T1 T2;generalize grow (redrawn g dq) r=w8 at *;(try show Exit.then _ _ Tn _ w8);(go_wp2_with fail);(go_meet);case rel=>exact⟨⟨_,rfl,M.o⟩,A⟩);(have fe:(Zz0==0)=false:=by simpa using hZ);(have C:Hid (cuB x k=!(decide (0<k)&&decide ((n:Int)<Pv))):=by show _=_;rw[bd.o,fe];simp);clear hZ bd bm;by_cases ar:0<k
     case pos=>
      have aa:decide (0<k)=true:=decide_eq_true ar;obtain⟨m,hm⟩:∃m:Nat,(m:Int)=(k:Int)-1:=⟨k-1,by omega⟩;(have fc:IntKind.i64.wrap ((k:Int)-1)=(m:Int):=by rw[IntKind.wrap_i64];omega);(have fb:wrap64 ((k:Int)-1)=(m:Int):=by unfold wrap64;omega);(have fa:(m:Int)<(N x.fw:Int):=by omega);have v0:=(cb.o.cell (p:=⟨b,o+m*3,none⟩) (Kk wr _ (ao.o m hm))).trans (ao.o m hm);clear ao hm;by_cases v:(n:Int)<Pv;case pos=>(have M:Hid ((!cuB x k)=true):=by show _=_;rw[C.o,aa,decide_eq_true v];rfl);have d3:decide ((n:Int)<Pv)=true:=decide_eq_true v;clear C ar v;have I:=cell_regrown c0;have H:=cell_regrown c1;have q:=cell_regrown D;have ab:=cell_regrown z0;have bu:=cell_regrown v0;have T1:Hid (∀d os,Ec Q 24 #[U O (n:Int),U O 0,U O 11] (grow (redrawn g d) os) λe w''=>e=Z (G true)/\∃p:Regrown,w''=grow (redrawn g p.d) p.os):=λd os=>(u.o _).mono λe w' ⟨h1,h2⟩=>⟨h1,⟨d,os⟩,h2.symm⟩;have T2:Hid (∀d os,Ec Q 129 #[Xs ynm] (grow (redrawn g d) os) λe w''=>e=Z (G true)/\∃p:Regrown,w''=grow (redrawn g p.d) p.os):=λd os=>Tz (E.o _);clear c0 c1 D z0 v0 u E;refine wp_region_quiet_below (by kernel_rfl) (by kernel_rfl) ?_;(repeat ((with_reducible refine wpQuiet_step (λK hK=>?_));go_simp;first|(refine hK _ ?_;clear hK K)|(apply Exists.intro;refine⟨λ_=>?_,hK _ ?_⟩;(first|with_reducible exact T1.o _ _|with_reducible exact T2.o _ _);clear hK K)|(rw[if_neg (by simp[Tj,yielded,undef])];go_simp;refine hK _ ?_;clear hK K)));(with_reducible refine wpQuiet_nil ?_);intro _ L;obtain⟨⟨dq,r⟩,t⟩:=L;subst t;have A:=below_regrown g dq r;clear I H q ab bu T1 T2;generalize grow (redrawn g dq) r=w8 at *;(try show Exit.then _ _ Tn _ w8);(go_wp2_with fail);(go_meet);case rel=>exact⟨⟨_,rfl,M.o⟩,A⟩
      (have M:Hid ((!cuB x k)=false):=by show _=_;rw[C.o,aa,decide_eq_false v];rfl);have d3:decide ((n:Int)<Pv)=false:=decide_eq_false v;clear C ar v;have I:=cell_regrown c0;have H:=cell_regrown c1;have q:=cell_regrown D;have ab:=cell_regrown z0;have bu:=cell_regrown v0;have T1:Hid (∀d os,Ec Q 24 #[U O (n:Int),U O 0,U O 11] (grow (redrawn g d) os) λe w''=>e=Z (G true)/\∃p:Regrown,w''=grow (redrawn g p.d) p.os):=λd os=>(u.o _).mono λe w' ⟨h1,h2⟩=>⟨h1,⟨d,os⟩,h2.symm⟩;have T2:Hid (∀d os,Ec Q 129 #[Xs ynm] (grow (redrawn g d) os) λe w''=>e=Z (G true)/\∃p:Regrown,w''=grow (redrawn g p.d) p.os):=λd os=>Tz (E.o _);clear c0 c1 D z0 v0 u E;refine wp_region_quiet_below (by kernel_rfl) (by kernel_rfl) ?_;(repeat ((with_reducible refine wpQuiet_step (λK hK=>?_));go_simp;first|(refine hK _ ?_;clear hK K)|(apply Exists.intro;refine⟨λ_=>?_,hK _ ?_⟩;(first|with_reducible exact T1.o _ _|with_reducible exact T2.o _ _);clear hK K)|(rw[if_neg (by simp[Tj,yielded,undef])];go_simp;refine hK _ ?_;clear hK K)));(with_reducible refine wpQuiet_nil ?_);intro _ L;obtain⟨⟨dq,r⟩,t⟩:=L;subst t;have A:=below_regrown g dq r;clear I H q ab bu T1 T2;generalize grow (redrawn g dq) r=w8 at *;(try show Exit.then _ _ Tn _ w8);(go_wp2_with fail);(go_meet);case rel=>exact⟨⟨_,rfl,M.o⟩,A⟩
     have aa:decide (0<k)=false:=decide_eq_false ar;(have M:Hid ((!cuB x k)=false):=by show _=_;rw[C.o,aa];rfl);clear C ao ar;have I:=cell_regrown c0;have H:=cell_regrown c1;have q:=cell_regrown D;have ab:=cell_regrown z0;have T1:Hid (∀d os,Ec Q 24 #[U O (n:Int),U O 0,U O 11] (grow (redrawn g d) os) λe w''=>e=Z (G true)/\∃p:Regrown,w''=grow (redrawn g p.d) p.os):=λd os=>(u.o _).mono λe w' ⟨h1,h2⟩=>⟨h1,⟨d,os⟩,h2.symm⟩;have T2:Hid (∀d os,Ec Q 129 #[Xs ynm] (grow (redrawn g d) os) λe w''=>e=Z (G true)/\∃p:Regrown,w''=grow (redrawn g p.d) p.os):=λd os=>Tz (E.o _);clear c0 c1 D z0 u E;refine wp_region_quiet_below (by kernel_rfl) (by kernel_rfl) ?_;(repeat ((with_reducible refine wpQuiet_step (λK hK=>?_));go_simp;first|(refine hK _ ?_;clear hK K)|(apply Exists.intro;refine⟨λ_=>?_,hK _ ?_⟩;(first|with_reducible exact T1.o _ _|with_reducible exact T2.o _ _);clear hK K)|(rw[if_neg (by simp[Tj,yielded,undef])];go_simp;refine hK _ ?_;clear hK K)));(with_reducible refine wpQuiet_nil ?_);intro _ L;obtain⟨⟨dq,r⟩,t⟩:=L;subst t;have A:=below_regrown g dq r;clear I H q ab T1 T2;generalize grow (redrawn g dq) r=w8 at *;(try show Exit.then _ _ Tn _ w8);(go_wp2_with fail);(go_meet);case rel=>exact⟨⟨_,rfl,M.o⟩,A⟩
    have et:decide (0<n)=false:=decide_eq_false (by omega);(have C:Hid (cuB x k=!(decide (0<k)&&decide ((n:Int)<Pv))):=by show _=_;rw[bd.o,decide_eq_false bm];rfl);clear bd bm;by_cases ar:0<k
    case pos=>
     have aa:decide (0<k)=true:=decide_eq_true ar;obtain⟨m,hm⟩:∃m:Nat,(m:Int)=(k:Int)-1:=⟨k-1,by omega⟩;(have fc:IntKind.i64.wrap ((k:Int)-1)=(m:Int):=by rw[IntKind.wrap_i64];omega);(have fb:wrap64 ((k:Int)-1)=(m:Int):=by unfold wrap64;omega);(have fa:(m:Int)<(N x.fw:Int):=by omega);have v0:=(cb.o.cell (p:=⟨b,o+m*3,none⟩) (Kk wr _ (ao.o m hm))).trans (ao.o m hm);clear ao hm;by_cases v:(n:Int)<Pv;case pos=>(have M:Hid ((!cuB x k)=true):=by show _=_;rw[C.o,aa,decide_eq_true v];rfl);have d3:decide ((n:Int)<Pv)=true:=decide_eq_true v;clear C ar v;have I:=cell_regrown c0;have H:=cell_regrown c1;have q:=cell_regrown D;have ab:=cell_regrown z0;have bu:=cell_regrown v0;have T1:Hid (∀d os,Ec Q 24 #[U O (n:Int),U O 0,U O 11] (grow (redrawn g d) os) λe w''=>e=Z (G true)/\∃p:Regrown,w''=grow (redrawn g p.d) p.os):=λd os=>(u.o _).mono λe w' ⟨h1,h2⟩=>⟨h1,⟨d,os⟩,h2.symm⟩;have T2:Hid (∀d os,Ec Q 129 #[Xs ynm] (grow (redrawn g d) os) λe w''=>e=Z (G true)/\∃p:Regrown,w''=grow (redrawn g p.d) p.os):=λd os=>Tz (E.o _);clear c0 c1 D z0 v0 u E;refine wp_region_quiet_below (by kernel_rfl) (by kernel_rfl) ?_;(repeat ((with_reducible refine wpQuiet_step (λK hK=>?_));go_simp;first|(refine hK _ ?_;clear hK K)|(apply Exists.intro;refine⟨λ_=>?_,hK _ ?_⟩;(first|with_reducible exact T1.o _ _|with_reducible exact T2.o _ _);clear hK K)|(rw[if_neg (by simp[Tj,yielded,undef])];go_simp;refine hK _ ?_;clear hK K)));(with_reducible refine wpQuiet_nil ?_);intro _ L;obtain⟨⟨dq,r⟩,t⟩:=L;subst t;have A:=below_regrown g dq r;clear I H q ab bu T1 T2;generalize grow (redrawn g dq) r=w8 at *;(try show Exit.then _ _ Tn _ w8);(go_wp2_with fail);(go_meet);case rel=>exact⟨⟨_,rfl,M.o⟩,A⟩
     (have M:Hid ((!cuB x k)=false):=by show _=_;rw[C.o,aa,decide_eq_false v];rfl);have d3:decide ((n:Int)<Pv)=false:=decide_eq_false v;clear C ar v;have I:=cell_regrown c0;have H:=cell_regrown c1;have q:=cell_regrown D;have ab:=cell_regrown z0;have bu:=cell_regrown v0;have T1:Hid (∀d os,Ec Q 24 #[U O (n:Int),U O 0,U O 11] (grow (redrawn g d) os) λe w''=>e=Z (G true)/\∃p:Regrown,w''=grow (redrawn g p.d) p.os):=λd os=>(u.o _).mono λe w' ⟨h1,h2⟩=>⟨h1,⟨d,os⟩,h2.symm⟩;have T2:Hid (∀d os,Ec Q 129 #[Xs ynm] (grow (redrawn g d) os) λe w''=>e=Z (G true)/\∃p:Regrown,w''=grow (redrawn g p.d) p.os):=λd os=>Tz (E.o _);clear c0 c1 D z0 v0 u E;refine wp_region_quiet_below (by kernel_rfl) (by kernel_rfl) ?_;(repeat ((with_reducible refine wpQuiet_step (λK hK=>?_));go_simp;first|(refine hK _ ?_;clear hK K)|(apply Exists.intro;refine⟨λ_=>?_,hK _ ?_⟩;(first|with_reducible exact T1.o _ _|with_reducible exact T2.o _ _);clear hK K)|(rw[if_neg (by simp[Tj,yielded,undef])];go_simp;refine hK _ ?_;clear hK K)));(with_reducible refine wpQuiet_nil ?_);intro _ L;obtain⟨⟨dq,r⟩,t⟩:=L;subst t;have A:=below_regrown g dq r;clear I H q ab bu T1 T2;generalize grow (redrawn g dq) r=w8 at *;(try show Exit.then _ _ Tn _ w8);(go_wp2_with fail);(go_meet);case rel=>exact⟨⟨_,rfl,M.o⟩,A⟩
    have aa:decide (0<k)=false:=decide_eq_false ar;(have M:Hid ((!cuB x k)=false):=by show _=_;rw[C.o,aa];rfl);clear C ao ar;have I:=cell_regrown c0;have H:=cell_regrown c1;have q:=cell_regrown D;have ab:=cell_regrown z0;have T1:Hid (∀d os,Ec Q 24 #[U O (n:Int),U O 0,U O 11] (grow (redrawn g d) os) λe w''=>e=Z (G true)/\∃p:Regrown,w''=grow (redrawn g p.d) p.os):=λd os=>(u.o _).mono λe w' ⟨h1,h2⟩=>⟨h1,⟨d,os⟩,h2.symm⟩;have T2:Hid (∀d os,Ec Q 129 #[Xs ynm] (grow (redrawn g d) os) λe w''=>e=Z (G true)/\∃p:Regrown,w''=grow (redrawn g p.d) p.os):=λd os=>Tz (E.o _);clear c0 c1 D z0 u E;refine wp_region_quiet_below (by kernel_rfl) (by kernel_rfl) ?_;(repeat ((with_reducible refine wpQuiet_step (λK hK=>?_));go_simp;first|(refine hK _ ?_;clear hK K)|(apply Exists.intro;refine⟨λ_=>?_,hK _ ?_⟩;(first|with_reducible exact T1.o _ _|with_reducible exact T2.o _ _);clear hK K)|(rw[if_neg (by simp[Tj,yielded,undef])];go_simp;refine hK _ ?_;clear hK K)));(with_reducible refine wpQuiet_nil ?_);intro _ L;obtain⟨⟨dq,r⟩,t⟩:=L;subst t;have A:=below_regrown g dq r;clear I H q ab T1 T2;generalize grow (redrawn g dq) r=w8 at *;(try show Exit.then _ _ Tn _ w8);(go_wp2_with fail);(go_meet);case rel=>exact⟨⟨_,rfl,M.o⟩,A⟩
   obtain⟨⟨nb,rfl,bg⟩,A⟩:=hcut;have dj:Below wr.heap.size wr wc:=cb.o.trans (A.mono cb.o.size);have ew:=HB.o.trans (dj.mono HB.o.size);have ee:=BB.o.keep dj;have ec:=BZ.o.keep dj;clear bp ao ca cb A dj BB BZ HB u E c0 c1 D;cases nb;(case true=>(have h0:cuB x k=false:=by simpa using bg);(have B:Hid (swfB x=false):=by show _=_;rw[HW.o,cusA,range_f (cuB x) (N x.fw) k l h0]);clear bg h0 HW ee ec;go_wp2;go_ret;exact⟨by rw[B.o];rfl,ew⟩);have h0:cuB x k=true:=by simpa using bg
   have av:Hid (∀j,j<k+1->cuB x j=true):=λj hj=>by
    rcases(by omega:j<k\/j=k)with h|h
    . exact cm.o j h
    subst h;exact h0
   have fp:=Hm ee;have fo:=Hm ec;clear bg h0 cm ee ec;go_wp2;(go_roundw);(case rel=>exact⟨k+1,by omega,by go_num,av.o,fp.o,fo.o,ew⟩);case measure=>simp[intOf];omega
 have e:k=N x.fw:=by omega
 subst e;have B:Hid (swfB x=true):=by show _=_;rw[HW.o,cusA,range_t (cuB x) _ f]
 clear f HW hk l a bz;go_wp2;go_ret;exact⟨by rw[B.o];rfl,F⟩
theorem szs_nn (x:Mod)(n:Nat):0<=(szs x).getD n 0:=by
 by_cases h:n<(szs x).length
 . have c:(szs x)[n]∈szs x:=List.getElem_mem h;(have a:∀z∈szs x,0<=z:=by intro z b;simp only[szs,List.mem_cons,List.not_mem_nil,or_false]at b;rcases b with rfl|rfl|rfl|rfl|rfl|rfl|rfl|rfl|rfl|rfl|rfl|rfl<;>first|omega|(split<;>omega));have:=a _ c;simpa[Kx,Kj h]using this
 simp[Kx,Hq (En h)]
theorem one_cus (x:Mod)(k:Nat)(n:Int)(r:0<=n)(c:k=0->n=0)(b:0<k->n=(x.fw.getD (k-1) Cus.z).aft):((((x.fw.getD k Cus.z).aft==0 || writ x (x.fw.getD k Cus.z).aft)&&(decide (n<=(x.fw.getD k Cus.z).aft)&&Q3 (x.fw.getD k Cus.z).nm))=true) ↔ cuB x k=true:=by
 unfold cuB writ;generalize(x.fw.getD k Cus.z).aft=a at *;generalize Q3 (x.fw.getD k Cus.z).nm=nm;generalize(x.fw.getD (k-1) Cus.z).aft=p at *;have o:=szs_nn x a.toNat;generalize m:(szs x).getD a.toNat 0=z at *;simp only[Ky,Bool.or_eq_true,beq_iff_eq,decide_eq_true_eq,Bool.not_eq_true',Bool.and_eq_false_iff,decide_eq_false_iff_not,beq_eq_false_iff_ne];constructor
 . rintro⟨g,q,f⟩;refine⟨?_,f,?_,?_⟩
   . rcases g with h|⟨h,_⟩<;>omega
   . rcases g with h|⟨_,h⟩
     . left;omega
     right;omega
   by_cases d:0<k
   . right;have:=b d;omega
   left;exact d
 rintro⟨g,f,l,j⟩;refine⟨?_,?_,f⟩
 . by_cases h:a=0
   . exact .inl h
   right;rcases l with l|l
   . omega
   exact⟨by omega,by omega⟩
 rcases j with j|j
 . have:=c (by omega);omega
 by_cases d:0<k
 . have:=b d;omega
 have:=c (by omega);omega
theorem cus_all (x:Mod):∀(d k:Nat) (n:Int),N x.fw-k=d->0<=n->(k=0->n=0)->(0<k->n=(x.fw.getD (k-1) Cus.z).aft) ->
    (JF x (x.fw.drop k) n=true ↔ ∀j,k<=j->j<N x.fw->cuB x j=true)
 |0,k,n,hd,h0,hk0,hk1=>by
  have e:x.fw.drop k=[]:=List.drop_of_length_le (by omega);rw[e]
  simp only[JF,true_iff]
  intro j g b;omega
 |d+1,k,n,hd,h0,hk0,hk1=>by
  have c:k<N x.fw:=by omega
  rw[cus_at x x.fw k n c];have e:=one_cus x k n h0 hk0 hk1
  constructor
  . intro h
    simp only[Ky]at h e
    obtain⟨g,b,o,q⟩:=h;have f:=e.1 ⟨g,b,o⟩;have p:n<=(x.fw.getD k Cus.z).aft:=of_decide_eq_true b;have l:=(cus_all x d (k+1) (x.fw.getD k Cus.z).aft (by omega) (by omega) (by omega) (by intro _;simp)).1 q
    intro j m a
    rcases(by omega:j=k\/k+1<=j)with rfl|h
    . exact f
    . exact l j h a
  . intro h
    have f:=e.2 (h k lRz c)
    simp only[Ky]at f⊢
    obtain⟨g,b,o⟩:=f;have p:n<=(x.fw.getD k Cus.z).aft:=of_decide_eq_true b;have l:=(cus_all x d (k+1) (x.fw.getD k Cus.z).aft (by omega) (by omega) (by omega) (by intro _;simp)).2 (λj m a=>h j (by omega) a)
    exact⟨g,b,o,l⟩
theorem cusA_eq (x:Mod):cusA x=JF x x.fw 0:=by
 have h:=cus_all x _ 0 0 rfl (by omega) (λ_=>rfl) (λh=>by omega);rw[List.drop_zero]at h;rw[Bool.eq_iff_iff,h,cusA,Hf];constructor
 . intro b j _ a;exact b j (by simpa using a)
 intro b j a;exact b j (Kw _) (by simpa using a)
theorem swf_eq (x:Mod):swfB x=wfB x:=by
 unfold swfB hdB gpB wfB stB;rw[cusA_eq,List.all_append];ac_rfl
end YtaccbbndmmhenaaGreat
namespace YtaccbbndmmhenaaGreat.Va
open Go.RowKit Go.Sort
def Upto (md:Mod)(n:Nat):Prop:=∀m,1<=m->m<n->OkTo md m (QG md m)
def atSec (n:Nat)(v:Vu):Vu:=If 210 (Ag #[U O (n:Int),v])
structure Fst (md:Mod)(n i:Nat)(er:Er):Prop where
 h1:1<=n
 h11:n<=11
 up:Upto md n
 hi:i<QG md n
 ok:OkTo md n i
 er:Js md n i (Qy md n i)=.error er
def VmP (w:J)(md:Mod)(e:Ending)(w':J):Prop :=
 (wfB md=false/\e=Z (.tuple #[Yp none,flt 1])/\Below w.heap.size w w') \/
 (wfB md=true/\∃n i er,Fst md n i er/\e=Z (.tuple #[Yp none,atSec n (atEnt i (erV er))])/\Below w.heap.size w w') \/
 (wfB md=true/\Upto md 12/\∃D w0 b q,w.heap.size<=b/\b<D/\Below w.heap.size w w0/\CD D w0/\e=Z (.tuple #[Yp (some ⟨q,0,none⟩),Nf])/\SecI D w0 b q [] md 12 0 w')
theorem bk_at {W q}{md:Mod}{A:MdA}(k:Bk W q (mdC md A).toList)(h:Mod.Is 0 W md A.a1 A.a2 A.a3 A.a4 A.a5 A.a6 A.a7 A.a8 A.a9 A.a10 A.a11):Mod.At 0 W q 0 md :=
 ⟨A.a1,A.c1,A.a2,A.c2,A.a3,A.c3,A.a4,A.c4,A.a5,A.c5,A.a6,A.c6,A.a7,A.c7,A.a8,A.c8,A.a9,A.c9,A.a10,A.c10,A.a11,A.c11,⟨k.2.1 0 _ rfl,k.2.1 1 _ rfl,k.2.1 2 _ rfl,k.2.1 3 _ rfl,k.2.1 4 _ rfl,k.2.1 5 _ rfl,k.2.1 6 _ rfl,k.2.1 7 _ rfl,k.2.1 8 _ rfl,k.2.1 9 _ rfl,k.2.1 10 _ rfl,k.2.1 11 _ rfl,k.2.1 12 _ rfl⟩,h⟩
theorem ivm_c (md:Mod)(A:MdA)(w:J)(hI:Mod.Is 0 w md A.a1 A.a2 A.a3 A.a4 A.a5 A.a6 A.a7 A.a8 A.a9 A.a10 A.a11)(hL:Mod.LB 1048576 md)(hp:md.Pos):Ec Q 40 #[mdV md A] w (VmP w md):=by
 obtain⟨W,Y⟩:∃W,W=w.alloc (Fc (mdC md A) 48):=⟨_,rfl⟩;obtain⟨q0,j⟩:∃q,q=w.heap.size:=⟨_,rfl⟩;have k:Bk W q0 (mdC md A).toList:=by rw[Y,j];exact Bk.new
 have HB:Hid (Below w.heap.size w W):=by show Below w.heap.size w W;rw[Y];exact bFz.alloc lRz _
 have r:=hI.up (up_below HB.o);have L:=Hm (iwf_c md A.a1 A.c1 A.a2 A.c2 A.a3 A.c3 A.a4 A.c4 A.a5 A.c5 A.a6 A.c6 A.a7 A.c7 A.a8 A.c8 A.a9 A.c9 A.a10 A.c10 A.a11 A.c11 W r hL hp);have R:Hid (∀W',Below W.heap.size W W'->Mod.At 0 W' q0 0 md):=λW' I=>bk_at (k.keep I) (r.up (up_below I));have d0:=k.2.1 0 _ rfl;have d1:=k.2.1 1 _ rfl;have d2:=k.2.1 2 _ rfl;have d3:=k.2.1 3 _ rfl;have d4:=k.2.1 4 _ rfl;have d5:=k.2.1 5 _ rfl;have d6:=k.2.1 6 _ rfl;have d7:=k.2.1 7 _ rfl;have d8:=k.2.1 8 _ rfl;have d9:=k.2.1 9 _ rfl;have aj:=k.2.1 10 _ rfl;have ai:=k.2.1 11 _ rfl;have ah:=k.2.1 12 _ rfl;have HL:=Hm hL;clear k hI r hp hL;go_enter func40,ntmps40;go_upto_region 1 with fail
 rw[<- Y,<- j];clear Y j;go_wp2_with fail
 refine L.o.mono ?_;rintro e c ⟨rfl,d⟩;clear L d0 d1 d2 d3 d4 d5 d6 d7 d8 d9 aj ai ah;have f:=Hm (HB.o.trans (d.mono HB.o.size));have y:=Hm (R.o (c.alloc (.map #[] 0)) (d.trans (bFz.alloc d.size _)));clear d HB R;by_cases B:wfB md=true
 . rw[B];have HN:=Hm (inew_c c);(go_wp2_with (go_at_call 101;refine HN.o.mono ?_;rintro e w2 ⟨rfl,hS⟩));have p:=sec0 md hS;(have hC:CD (c.heap.size+1) (c.alloc (.map #[] 0)):=by have:=CD.at (c.alloc (.map #[] 0));simpa using this);have E:=f.o.size;have u:Hid (Below w.heap.size w (c.alloc (.map #[] 0))):=f.o.alloc E _;obtain⟨b,I⟩:∃b,b=c.heap.size:=⟨_,rfl⟩;obtain⟨q,j⟩:∃q,q=c.heap.size+1:=⟨_,rfl⟩;obtain⟨z,a⟩:∃z,z=c.alloc (.map #[] 0):=⟨_,rfl⟩;(have X:Hid (Mod.At 0 z q0 0 md):=by rw[a];exact y.o);rw[<- a,<- j,<- I]at p;rw[<- a]at u;rw[<- a,<- j]at hC;rw[<- j];(have H:b<q:=by omega);(have C:w.heap.size<=b:=by omega);have KS:=Hm (λ(n:Nat) (s:1<=n) (h11:n<=11) (V:J) (h:SecI q z b q [] md n 0 V)=>isect_c B HL.o X.o hC s h11 H h);have M:=Hm p;have HC:=Hm hC;have HW:=Hm B;clear B hS p hC j I a HN y X E f HL;(go_loopw [5] (λi wr=>∃n:Nat,1<=n/\n<=12/\i=U O n/\SecI q z b q [] md n 0 wr/\Upto md n) (λi _=>12-(intOf i).toNat));(case atStart=>exact⟨1,by omega,by omega,rfl,M.o,λm s h2=>by omega⟩);obtain⟨n,s,az,rfl,g,D⟩:=hrel;have HU:=Hm D;have t:=Hm g;clear D g M;by_cases F:n<=11
   . (have ay:(n:Int)<=11:=by omega);have HE:=Hm (KS.o n s F wr t.o);clear KS t;(go_wp2_with fail);refine HE.o.mono ?_;rintro e w3 (⟨i,er,hi,hok,he,rfl,hb3⟩|⟨hok,rfl,hs3⟩)
     . have HX:Hid (Fst md n i er):=⟨s,F,HU.o,hi,hok,he⟩;have ar:=Hm (u.o.trans (hb3.mono C));obtain⟨v,hv⟩:∃v,v=erV er:=⟨_,rfl⟩;have HV:Hid (v=erV er):=hv;rw[<- hv];clear hi hok he hb3 hv HE;simp only[atEnt];go_wp2;(go_ret2);refine .inr (.inl ⟨HW.o,n,i,er,HX.o,?_,ar.o⟩);rw[<- HV.o];rfl
     have HX:=Hm (And.intro hok hs3);clear hok hs3 HE;go_wp2;go_roundw
     case rel=>
      refine⟨n+1,by omega,by omega,by go_num,HX.o.2,λm s h2=>?_⟩;rcases Lc m n with hm|hm
      . exact HU.o m s hm
      (obtain rfl:m=n:=by omega);exact HX.o.1
     case measure=>simp[intOf];omega
   (obtain rfl:n=12:=by omega);clear KS;go_wp2;(go_ret2);exact .inr (.inr ⟨HW.o,HU.o,q,z,b,q,C,H,u.o,HC.o,rfl,t.o⟩)
 have l:wfB md=false:=by simpa using B
 rw[l];have HW:=Hm l;clear B l y HL;go_wp2;go_ret2
 exact .inl ⟨HW.o,rfl,f.o⟩
end YtaccbbndmmhenaaGreat.Va
namespace YtaccbbndmmhenaaGreat.NF.Va
open Go.Proofs.YtaccbbndmmhenaaGreat.Va Go.RowKit Go.Sort
theorem toMd_c (md:Mod)(A:MdA)(w:J)(hI:Mod.Is 0 w md A.a1 A.a2 A.a3 A.a4 A.a5 A.a6 A.a7 A.a8 A.a9 A.a10 A.a11)(hl:Mod.LB 1048576 md):Ec Q 6 #[mdV md A] w λe w'=>∃B:MdA,e=Z (mdV md B)/\Mod.Is w.heap.size w' md B.a1 B.a2 B.a3 B.a4 B.a5 B.a6 B.a7 B.a8 B.a9 B.a10 B.a11/\CLs w.heap.size w' B.a9 md.fj/\Below w.heap.size w w':=by
 obtain⟨q,hq⟩:∃q,q=w.heap.size:=⟨_,rfl⟩;have HQ:=Hm hq;obtain⟨V0,c⟩:∃V,V=((w.alloc (Fc (mdC md A) 33)).alloc (Fc #[S none 0 0,S none 0 0,S none 0 0,S none 0 0,S none 0 0,S none 0 0,S none 0 0,G false,U O 0,S none 0 0,S none 0 0,S none 0 0,S none 0 0] 48)).alloc (Fc #[S none 0 0,S none 0 0,S none 0 0,S none 0 0,S none 0 0,S none 0 0,S none 0 0,G false,U O 0,S none 0 0,S none 0 0,S none 0 0,S none 0 0] 48):=⟨_,rfl⟩;obtain⟨T,hT⟩:∃T:List Qb,T=[box 48 13 (q+1) (#[S none 0 0,S none 0 0,S none 0 0,S none 0 0,S none 0 0,S none 0 0,S none 0 0,G false,U O 0,S none 0 0,S none 0 0,S none 0 0,S none 0 0]:Array Vu).toList,box 33 13 q (mdC md A).toList]:=⟨_,rfl⟩;have l:Mo w.heap.size w (box 48 13 (q+2) (#[S none 0 0,S none 0 0,S none 0 0,S none 0 0,S none 0 0,S none 0 0,S none 0 0,G false,U O 0,S none 0 0,S none 0 0,S none 0 0,S none 0 0]:Array Vu).toList::T) V0:=by have h0:Mo w.heap.size w [] w:=⟨Own.nil _ _,Below.refl _ _,lRz⟩;have:=((h0.box (cur:=mdC md A) 33 13 rfl).box (cur:=#[S none 0 0,S none 0 0,S none 0 0,S none 0 0,S none 0 0,S none 0 0,S none 0 0,G false,U O 0,S none 0 0,S none 0 0,S none 0 0,S none 0 0]) 48 13 rfl).box (cur:=#[S none 0 0,S none 0 0,S none 0 0,S none 0 0,S none 0 0,S none 0 0,S none 0 0,G false,U O 0,S none 0 0,S none 0 0,S none 0 0,S none 0 0]) 48 13 rfl;rw[c,hT,hq];simpa using this
 have d3:q+3<=V0.heap.size:=by rw[c,hq];simp
 have CM:Hid (∀{r:Qb} {W':J},Mo w.heap.size w (r::T) W'->∀j u,j<13->(mdC md A).toList[j]?=some u->W'.cell? ⟨q,j,none⟩=some u):=λh j u hj Y=>by rw[hT]at h;exact(h.bx (t:=33) (n:=13) (g:=q) (cs:=(mdC md A).toList) (by simp) j hj Y).1
 have HT:=Hm hT;have HI:=Hm hI;have HL:=Hm hl;clear hI hl hT;go_enter func6,ntmps6;go_upto_region 2 with fail
 rw[<- c,<- hq];clear c hq;have d:=CM.o l 0 (S A.a1 (N md.types) A.c1) (by omega) rfl;have s:=Hm (toFTypes_c A.a1 A.c1 md.types V0 (HL.o.1) ((HI.o.1).up (up_below l.b)));obtain⟨B1,p⟩:∃B,B=V0.heap.size:=⟨_,rfl⟩;rw[<- p]at s;have cc:q+3<=B1:=by omega
 have C:=Hm p;clear p;go_wp2_with fail
 refine s.o.mono ?_;rintro e W ⟨rfl,n1,m⟩;rw[C.o]at m;have f:=l.keep m;obtain⟨z,y⟩:=f.b0 0;obtain⟨V1,c⟩:∃V,V=W.setCell ⟨q+2,0,none⟩ (S (some ⟨B1,0,none⟩) (N md.types) (N md.types)):=⟨_,rfl⟩;have a:=f.set 0 (S (some ⟨B1,0,none⟩) (N md.types) (N md.types));rw[<- c]at a;have U0:Hid (Up (q+3) V0 V1):=by rw[c];exact upS m (by omega)
 have d2:V0.heap.size<=V1.heap.size:=by rw[c];simpa using m.size
 have N1:=Hm ((n1.mono cc).up (show Up (q+3) W V1 by rw[c];exact Q8 (by omega)));clear l f m d n1 s C;go_upto_region 3 with fail
 rw[<- c];clear c z y;have l:=a;clear a;have d:=CM.o l 1 (S A.a2 (N md.cj) A.c2) (by omega) rfl;have s:=Hm (toImps_c A.a2 A.c2 md.cj V1 (HL.o.2.1) ((HI.o.2.1).up (up_below l.b)));obtain⟨B2,p⟩:∃B,B=V1.heap.size:=⟨_,rfl⟩;rw[<- p]at s;have cb:q+3<=B2:=by omega
 have C:=Hm p;clear p;go_wp2_with fail
 refine s.o.mono ?_;rintro e W ⟨rfl,n2,m⟩;rw[C.o]at m;have f:=l.keep m;obtain⟨z,y⟩:=f.b0 1;obtain⟨V2,c⟩:∃V,V=W.setCell ⟨q+2,1,none⟩ (S (some ⟨B2,0,none⟩) (N md.cj) (N md.cj)):=⟨_,rfl⟩;have a:=f.set 1 (S (some ⟨B2,0,none⟩) (N md.cj) (N md.cj));rw[<- c]at a;have U1:Hid (Up (q+3) V1 V2):=by rw[c];exact upS m (by omega)
 have b3:V1.heap.size<=V2.heap.size:=by rw[c];simpa using m.size
 have N2:=Hm ((n2.mono cb).up (show Up (q+3) W V2 by rw[c];exact Q8 (by omega)));clear l f m d n2 s C;go_upto_region 4 with fail
 rw[<- c];clear c z y;have l:=a;clear a;have d:=CM.o l 2 (S A.a3 (N md.jk) A.c3) (by omega) rfl;have s:=Hm (rtInts_c A.a3 A.c3 md.jk V2 (HL.o.2.2.1) ((HI.o.2.2.1).up (up_below l.b)));obtain⟨B3,p⟩:∃B,B=V2.heap.size:=⟨_,rfl⟩;rw[<- p]at s;have ca:q+3<=B3:=by omega
 have C:=Hm p;clear p;go_wp2_with fail
 refine s.o.mono ?_;rintro e W ⟨rfl,n3,m⟩;rw[C.o]at m;have f:=l.keep m;obtain⟨z,y⟩:=f.b0 2;obtain⟨V3,c⟩:∃V,V=W.setCell ⟨q+2,2,none⟩ (S (some ⟨B3,0,none⟩) (N md.jk) (N md.jk)):=⟨_,rfl⟩;have a:=f.set 2 (S (some ⟨B3,0,none⟩) (N md.jk) (N md.jk));rw[<- c]at a;have U2:Hid (Up (q+3) V2 V3):=by rw[c];exact upS m (by omega)
 have b2:V2.heap.size<=V3.heap.size:=by rw[c];simpa using m.size
 have N3:=Hm ((n3.mono ca).up (show Up (q+3) W V3 by rw[c];exact Q8 (by omega)));clear l f m d n3 s C;go_upto_region 5 with fail
 rw[<- c];clear c z y;have l:=a;clear a;have d:=CM.o l 3 (S A.a4 (N md.cw) A.c4) (by omega) rfl;have s:=Hm (toLimitss_c A.a4 A.c4 md.cw V3 (HL.o.2.2.2.1) ((HI.o.2.2.2.1).up (up_below l.b)));obtain⟨B4,p⟩:∃B,B=V3.heap.size:=⟨_,rfl⟩;rw[<- p]at s;have b9:q+3<=B4:=by omega
 have C:=Hm p;clear p;go_wp2_with fail
 refine s.o.mono ?_;rintro e W ⟨rfl,n4,m⟩;rw[C.o]at m;have f:=l.keep m;obtain⟨z,y⟩:=f.b0 3;obtain⟨V4,c⟩:∃V,V=W.setCell ⟨q+2,3,none⟩ (S (some ⟨B4,0,none⟩) (N md.cw) (N md.cw)):=⟨_,rfl⟩;have a:=f.set 3 (S (some ⟨B4,0,none⟩) (N md.cw) (N md.cw));rw[<- c]at a;have U3:Hid (Up (q+3) V3 V4):=by rw[c];exact upS m (by omega)
 have b1:V3.heap.size<=V4.heap.size:=by rw[c];simpa using m.size
 have N4:=Hm ((n4.mono b9).up (show Up (q+3) W V4 by rw[c];exact Q8 (by omega)));clear l f m d n4 s C;go_upto_region 6 with fail
 rw[<- c];clear c z y;have l:=a;clear a;have d:=CM.o l 4 (S A.a5 (N md.jz) A.c5) (by omega) rfl;have s:=Hm (toLimitss_c A.a5 A.c5 md.jz V4 (HL.o.2.2.2.2.1) ((HI.o.2.2.2.2.1).up (up_below l.b)));obtain⟨B5,p⟩:∃B,B=V4.heap.size:=⟨_,rfl⟩;rw[<- p]at s;have b8:q+3<=B5:=by omega
 have C:=Hm p;clear p;go_wp2_with fail
 refine s.o.mono ?_;rintro e W ⟨rfl,n5,m⟩;rw[C.o]at m;have f:=l.keep m;obtain⟨z,y⟩:=f.b0 4;obtain⟨V5,c⟩:∃V,V=W.setCell ⟨q+2,4,none⟩ (S (some ⟨B5,0,none⟩) (N md.jz) (N md.jz)):=⟨_,rfl⟩;have a:=f.set 4 (S (some ⟨B5,0,none⟩) (N md.jz) (N md.jz));rw[<- c]at a;have U4:Hid (Up (q+3) V4 V5):=by rw[c];exact upS m (by omega)
 have bz:V4.heap.size<=V5.heap.size:=by rw[c];simpa using m.size
 have N5:=Hm ((n5.mono b8).up (show Up (q+3) W V5 by rw[c];exact Q8 (by omega)));clear l f m d n5 s C;go_upto_region 7 with fail
 rw[<- c];clear c z y;have l:=a;clear a;have d:=CM.o l 5 (S A.a6 (N md.ck) A.c6) (by omega) rfl;have s:=Hm (toGlobs_c A.a6 A.c6 md.ck V5 (HL.o.2.2.2.2.2.1) ((HI.o.2.2.2.2.2.1).up (up_below l.b)));obtain⟨B6,p⟩:∃B,B=V5.heap.size:=⟨_,rfl⟩;rw[<- p]at s;have b7:q+3<=B6:=by omega
 have C:=Hm p;clear p;go_wp2_with fail
 refine s.o.mono ?_;rintro e W ⟨rfl,n6,m⟩;rw[C.o]at m;have f:=l.keep m;obtain⟨z,y⟩:=f.b0 5;obtain⟨V6,c⟩:∃V,V=W.setCell ⟨q+2,5,none⟩ (S (some ⟨B6,0,none⟩) (N md.ck) (N md.ck)):=⟨_,rfl⟩;have a:=f.set 5 (S (some ⟨B6,0,none⟩) (N md.ck) (N md.ck));rw[<- c]at a;have U5:Hid (Up (q+3) V5 V6):=by rw[c];exact upS m (by omega)
 have bw:V5.heap.size<=V6.heap.size:=by rw[c];simpa using m.size
 have N6:=Hm ((n6.mono b7).up (show Up (q+3) W V6 by rw[c];exact Q8 (by omega)));clear l f m d n6 s C;go_upto_region 8 with fail
 rw[<- c];clear c z y;have l:=a;clear a;have d:=CM.o l 6 (S A.a7 (N md.cv) A.c7) (by omega) rfl;have s:=Hm (toExps_c A.a7 A.c7 md.cv V6 (HL.o.2.2.2.2.2.2.1) ((HI.o.2.2.2.2.2.2.1).up (up_below l.b)));obtain⟨B7,p⟩:∃B,B=V6.heap.size:=⟨_,rfl⟩;rw[<- p]at s;have b6:q+3<=B7:=by omega
 have C:=Hm p;clear p;go_wp2_with fail
 refine s.o.mono ?_;rintro e W ⟨rfl,n7,m⟩;rw[C.o]at m;have f:=l.keep m;obtain⟨z,y⟩:=f.b0 6;obtain⟨V7,c⟩:∃V,V=W.setCell ⟨q+2,6,none⟩ (S (some ⟨B7,0,none⟩) (N md.cv) (N md.cv)):=⟨_,rfl⟩;have a:=f.set 6 (S (some ⟨B7,0,none⟩) (N md.cv) (N md.cv));rw[<- c]at a;have U6:Hid (Up (q+3) V6 V7):=by rw[c];exact upS m (by omega)
 have bv:V6.heap.size<=V7.heap.size:=by rw[c];simpa using m.size
 have N7:=Hm ((n7.mono b6).up (show Up (q+3) W V7 by rw[c];exact Q8 (by omega)));clear l f m d n7 s C;go_upto_region 9 with fail
 rw[<- c];clear c z y;have l:=a;clear a;have d:=CM.o l 7 (G md.gz) (by omega) rfl;obtain⟨z,y⟩:=l.b0 7;obtain⟨V8,c⟩:∃V,V=V7.setCell ⟨q+2,7,none⟩ (G md.gz):=⟨_,rfl⟩;have a:=l.set 7 (G md.gz);rw[<- c]at a;have U7:Hid (Up (q+3) V7 V8):=by rw[c];exact upS (Below.refl _ _) (by omega)
 have bu:V7.heap.size<=V8.heap.size:=by rw[c];simp
 go_upto_region 10 with fail
 rw[<- c];clear c l d z y;have l:=a;clear a;have d:=CM.o l 8 (U O md.start) (by omega) rfl;obtain⟨z,y⟩:=l.b0 8;obtain⟨V9,c⟩:∃V,V=V8.setCell ⟨q+2,8,none⟩ (U O md.start):=⟨_,rfl⟩;have a:=l.set 8 (U O md.start);rw[<- c]at a;have U8:Hid (Up (q+3) V8 V9):=by rw[c];exact upS (Below.refl _ _) (by omega)
 have bt:V8.heap.size<=V9.heap.size:=by rw[c];simp
 go_upto_region 11 with fail
 rw[<- c];clear c l d z y;have l:=a;clear a;have d:=CM.o l 9 (S A.a8 (N md.fq) A.c8) (by omega) rfl;have s:=Hm (toEles_c A.a8 A.c8 md.fq V9 (HL.o.2.2.2.2.2.2.2.1) ((HI.o.2.2.2.2.2.2.2.1).up (up_below l.b)));obtain⟨B8,p⟩:∃B,B=V9.heap.size:=⟨_,rfl⟩;rw[<- p]at s;have b5:q+3<=B8:=by omega
 have C:=Hm p;clear p;go_wp2_with fail
 refine s.o.mono ?_;rintro e W ⟨rfl,n8,m⟩;rw[C.o]at m;have f:=l.keep m;obtain⟨z,y⟩:=f.b0 9;obtain⟨R,c⟩:∃V,V=W.setCell ⟨q+2,9,none⟩ (S (some ⟨B8,0,none⟩) (N md.fq) (N md.fq)):=⟨_,rfl⟩;have a:=f.set 9 (S (some ⟨B8,0,none⟩) (N md.fq) (N md.fq));rw[<- c]at a;have U9:Hid (Up (q+3) V9 R):=by rw[c];exact upS m (by omega)
 have bj:V9.heap.size<=R.heap.size:=by rw[c];simpa using m.size
 have N8:=Hm ((n8.mono b5).up (show Up (q+3) W R by rw[c];exact Q8 (by omega)));clear l f m d n8 s C;go_upto_region 12 with fail
 rw[<- c];clear c z y;have l:=a;clear a;have d:=CM.o l 10 (S A.a9 (N md.fj) A.c9) (by omega) rfl;have s:=Hm (toCods_c A.a9 A.c9 md.fj R (HL.o.2.2.2.2.2.2.2.2.1) ((HI.o.2.2.2.2.2.2.2.2.1).up (up_below l.b)));obtain⟨B9,p⟩:∃B,B=R.heap.size:=⟨_,rfl⟩;rw[<- p]at s;have b4:q+3<=B9:=by omega
 have C:=Hm p;clear p;go_wp2_with fail
 refine s.o.mono ?_;rintro e W ⟨rfl,n9,m⟩;rw[C.o]at m;have f:=l.keep m;obtain⟨z,y⟩:=f.b0 10;obtain⟨M,c⟩:∃V,V=W.setCell ⟨q+2,10,none⟩ (S (some ⟨B9,0,none⟩) (N md.fj) (N md.fj)):=⟨_,rfl⟩;have a:=f.set 10 (S (some ⟨B9,0,none⟩) (N md.fj) (N md.fj));rw[<- c]at a;have cf:Hid (Up (q+3) R M):=by rw[c];exact upS m (by omega)
 have bh:R.heap.size<=M.heap.size:=by rw[c];simpa using m.size
 have N9:=Hm ((n9.mono b4).up (show Up (q+3) W M by rw[c];exact Q8 (by omega)));clear l f m d n9 s C;go_upto_region 13 with fail
 rw[<- c];clear c z y;have l:=a;clear a;have d:=CM.o l 11 (S A.a10 (N md.fx) A.c10) (by omega) rfl;have s:=Hm (toDats_c A.a10 A.c10 md.fx M (HL.o.2.2.2.2.2.2.2.2.2.1) ((HI.o.2.2.2.2.2.2.2.2.2.1).up (up_below l.b)));obtain⟨F,p⟩:∃B,B=M.heap.size:=⟨_,rfl⟩;rw[<- p]at s;have bn:q+3<=F:=by omega
 have C:=Hm p;clear p;go_wp2_with fail
 refine s.o.mono ?_;rintro e W ⟨rfl,bf,m⟩;rw[C.o]at m;have f:=l.keep m;obtain⟨z,y⟩:=f.b0 11;obtain⟨aa,c⟩:∃V,V=W.setCell ⟨q+2,11,none⟩ (S (some ⟨F,0,none⟩) (N md.fx) (N md.fx)):=⟨_,rfl⟩;have a:=f.set 11 (S (some ⟨F,0,none⟩) (N md.fx) (N md.fx));rw[<- c]at a;have ce:Hid (Up (q+3) M aa):=by rw[c];exact upS m (by omega)
 have bg:M.heap.size<=aa.heap.size:=by rw[c];simpa using m.size
 have ch:=Hm ((bf.mono bn).up (show Up (q+3) W aa by rw[c];exact Q8 (by omega)));clear l f m d bf s C;go_upto_region 14 with fail
 rw[<- c];clear c z y;have l:=a;clear a;have d:=CM.o l 12 (S A.a11 (N md.fw) A.c11) (by omega) rfl;have s:=Hm (toCuss_c A.a11 A.c11 md.fw aa (HL.o.2.2.2.2.2.2.2.2.2.2) ((HI.o.2.2.2.2.2.2.2.2.2.2).up (up_below l.b)));obtain⟨E,p⟩:∃B,B=aa.heap.size:=⟨_,rfl⟩;rw[<- p]at s;have bm:q+3<=E:=by omega
 have C:=Hm p;clear p;go_wp2_with fail
 refine s.o.mono ?_;rintro e W ⟨rfl,bd,m⟩;rw[C.o]at m;have f:=l.keep m;obtain⟨z,y⟩:=f.b0 12;obtain⟨L,c⟩:∃V,V=W.setCell ⟨q+2,12,none⟩ (S (some ⟨E,0,none⟩) (N md.fw) (N md.fw)):=⟨_,rfl⟩;have a:=f.set 12 (S (some ⟨E,0,none⟩) (N md.fw) (N md.fw));rw[<- c]at a;have cd:Hid (Up (q+3) aa L):=by rw[c];exact upS m (by omega)
 have cg:=Hm ((bd.mono bm).up (show Up (q+3) W L by rw[c];exact Q8 (by omega)));clear l f m d bd s C;go_upto_region 15 with fail
 rw[<- c];clear c z y;have l:=a;clear a;have H:=l;rw[HT.o]at H;have I:=H.perm (List.Perm.swap _ _ _);have c0:=(H.b0 0).1;obtain⟨z0,y0⟩:=I.b0 0;have c1:=(H.b0 1).1;obtain⟨z1,y1⟩:=I.b0 1;have c2:=(H.b0 2).1;obtain⟨z2,y2⟩:=I.b0 2;have c3:=(H.b0 3).1;obtain⟨z3,y3⟩:=I.b0 3;have c4:=(H.b0 4).1;obtain⟨z4,y4⟩:=I.b0 4;have c5:=(H.b0 5).1;obtain⟨z5,y5⟩:=I.b0 5;have c6:=(H.b0 6).1;obtain⟨z6,y6⟩:=I.b0 6;have c7:=(H.b0 7).1;obtain⟨z7,y7⟩:=I.b0 7;have c8:=(H.b0 8).1;obtain⟨z8,y8⟩:=I.b0 8;have c9:=(H.b0 9).1;obtain⟨z9,y9⟩:=I.b0 9;have d7:=(H.b0 10).1;obtain⟨dn,dr⟩:=I.b0 10;have d6:=(H.b0 11).1;obtain⟨dm,dq⟩:=I.b0 11;have d5:=(H.b0 12).1;obtain⟨dl,dp⟩:=I.b0 12;have HF:=Hm (((((((((((((I.set 0 (S (some ⟨B1,0,none⟩) (N md.types) (N md.types))).set 1 (S (some ⟨B2,0,none⟩) (N md.cj) (N md.cj))).set 2 (S (some ⟨B3,0,none⟩) (N md.jk) (N md.jk))).set 3 (S (some ⟨B4,0,none⟩) (N md.cw) (N md.cw))).set 4 (S (some ⟨B5,0,none⟩) (N md.jz) (N md.jz))).set 5 (S (some ⟨B6,0,none⟩) (N md.ck) (N md.ck))).set 6 (S (some ⟨B7,0,none⟩) (N md.cv) (N md.cv))).set 7 (G md.gz)).set 8 (U O md.start)).set 9 (S (some ⟨B8,0,none⟩) (N md.fq) (N md.fq))).set 10 (S (some ⟨B9,0,none⟩) (N md.fj) (N md.fj))).set 11 (S (some ⟨F,0,none⟩) (N md.fx) (N md.fx))).set 12 (S (some ⟨E,0,none⟩) (N md.fw) (N md.fw)));have ax:=cd.o;have ay:=upT ce.o bg ax;have az:=upT cf.o bh ay;have F9:=upT U9.o bj az;have F8:=upT U8.o bt F9;have F7:=upT U7.o bu F8;have F6:=upT U6.o bv F7;have F5:=upT U5.o bw F6;have F4:=upT U4.o bz F5
 have F3:=upT U3.o b1 F4;have F2:=upT U2.o b2 F3;have F1:=upT U1.o b3 F2;have HN:=Hm (show Up (q+3) L L from λ_ _ _=>rfl);have M1:=Hm (N1.o.up F1);have M2:=Hm (N2.o.up F2);have M3:=Hm (N3.o.up F3);have M4:=Hm (N4.o.up F4);have M5:=Hm (N5.o.up F5);have M6:=Hm (N6.o.up F6);have M7:=Hm (N7.o.up F7);have M8:=Hm (N8.o.up az);have M9:=Hm (N9.o.up ay);have cl:=Hm (ch.o.up ax);have ci:=Hm (cg.o.up HN.o);clear H I F1 F2 F3 F4 F5 F6 F7 F8 F9 az ay ax;have HU:Hid (Up (q+3) L (((((((((((((L.setCell ⟨q+1,0,none⟩ (S (some ⟨B1,0,none⟩) (N md.types) (N md.types))).setCell ⟨q+1,1,none⟩ (S (some ⟨B2,0,none⟩) (N md.cj) (N md.cj))).setCell ⟨q+1,2,none⟩ (S (some ⟨B3,0,none⟩) (N md.jk) (N md.jk))).setCell ⟨q+1,3,none⟩ (S (some ⟨B4,0,none⟩) (N md.cw) (N md.cw))).setCell ⟨q+1,4,none⟩ (S (some ⟨B5,0,none⟩) (N md.jz) (N md.jz))).setCell ⟨q+1,5,none⟩ (S (some ⟨B6,0,none⟩) (N md.ck) (N md.ck))).setCell ⟨q+1,6,none⟩ (S (some ⟨B7,0,none⟩) (N md.cv) (N md.cv))).setCell ⟨q+1,7,none⟩ (G md.gz)).setCell ⟨q+1,8,none⟩ (U O md.start)).setCell ⟨q+1,9,none⟩ (S (some ⟨B8,0,none⟩) (N md.fq) (N md.fq))).setCell ⟨q+1,10,none⟩ (S (some ⟨B9,0,none⟩) (N md.fj) (N md.fj))).setCell ⟨q+1,11,none⟩ (S (some ⟨F,0,none⟩) (N md.fx) (N md.fx))).setCell ⟨q+1,12,none⟩ (S (some ⟨E,0,none⟩) (N md.fw) (N md.fw)))):=λk hk _=>by repeat rw[Below.heap_setCell _ _ _ _ (λe=>by simp at e;omega)]
 go_wp2;refine QC (λW'=>Mo w.heap.size w [box 48 13 (q+1) [S (some ⟨B1,0,none⟩) (N md.types) (N md.types),S (some ⟨B2,0,none⟩) (N md.cj) (N md.cj),S (some ⟨B3,0,none⟩) (N md.jk) (N md.jk),S (some ⟨B4,0,none⟩) (N md.cw) (N md.cw),S (some ⟨B5,0,none⟩) (N md.jz) (N md.jz),S (some ⟨B6,0,none⟩) (N md.ck) (N md.ck),S (some ⟨B7,0,none⟩) (N md.cv) (N md.cv),G md.gz,U O md.start,S (some ⟨B8,0,none⟩) (N md.fq) (N md.fq),S (some ⟨B9,0,none⟩) (N md.fj) (N md.fj),S (some ⟨F,0,none⟩) (N md.fx) (N md.fx),S (some ⟨E,0,none⟩) (N md.fw) (N md.fw)],box 48 13 (q+2) [S (some ⟨B1,0,none⟩) (N md.types) (N md.types),S (some ⟨B2,0,none⟩) (N md.cj) (N md.cj),S (some ⟨B3,0,none⟩) (N md.jk) (N md.jk),S (some ⟨B4,0,none⟩) (N md.cw) (N md.cw),S (some ⟨B5,0,none⟩) (N md.jz) (N md.jz),S (some ⟨B6,0,none⟩) (N md.ck) (N md.ck),S (some ⟨B7,0,none⟩) (N md.cv) (N md.cv),G md.gz,U O md.start,S (some ⟨B8,0,none⟩) (N md.fq) (N md.fq),S (some ⟨B9,0,none⟩) (N md.fj) (N md.fj),S (some ⟨F,0,none⟩) (N md.fx) (N md.fx),S (some ⟨E,0,none⟩) (N md.fw) (N md.fw)],box 33 13 q (mdC md A).toList] W'/\Up (q+3) L W') ⟨HF.o,HU.o⟩ ?_;rintro W' ⟨X,Y⟩;have u0:=(X.b0 0).1;have u1:=(X.b0 1).1;have u2:=(X.b0 2).1;have u3:=(X.b0 3).1;have u4:=(X.b0 4).1;have u5:=(X.b0 5).1;have u6:=(X.b0 6).1;have u7:=(X.b0 7).1;have u8:=(X.b0 8).1;have u9:=(X.b0 9).1;have bs:=(X.b0 10).1;have br:=(X.b0 11).1;have bq:=(X.b0 12).1;have D:w.heap.size<=q+3:=by rw[HQ.o];omega
 exact bodyPost_ret (v:=Ag #[S (some ⟨B1,0,none⟩) (N md.types) (N md.types),S (some ⟨B2,0,none⟩) (N md.cj) (N md.cj),S (some ⟨B3,0,none⟩) (N md.jk) (N md.jk),S (some ⟨B4,0,none⟩) (N md.cw) (N md.cw),S (some ⟨B5,0,none⟩) (N md.jz) (N md.jz),S (some ⟨B6,0,none⟩) (N md.ck) (N md.ck),S (some ⟨B7,0,none⟩) (N md.cv) (N md.cv),G md.gz,U O md.start,S (some ⟨B8,0,none⟩) (N md.fq) (N md.fq),S (some ⟨B9,0,none⟩) (N md.fj) (N md.fj),S (some ⟨F,0,none⟩) (N md.fx) (N md.fx),S (some ⟨E,0,none⟩) (N md.fw) (N md.fw)]) (by simp[results,results6,go_sem,u0,u1,u2,u3,u4,u5,u6,u7,u8,u9,bs,br,bq]) rfl ⟨⟨some ⟨B1,0,none⟩,N md.types,some ⟨B2,0,none⟩,N md.cj,some ⟨B3,0,none⟩,N md.jk,some ⟨B4,0,none⟩,N md.cw,some ⟨B5,0,none⟩,N md.jz,some ⟨B6,0,none⟩,N md.ck,some ⟨B7,0,none⟩,N md.cv,some ⟨B8,0,none⟩,N md.fq,some ⟨B9,0,none⟩,N md.fj,some ⟨F,0,none⟩,N md.fx,some ⟨E,0,none⟩,N md.fw⟩,rfl,⟨(M1.o.up Y).mono D,(M2.o.up Y).mono D,(M3.o.up Y).mono D,(M4.o.up Y).mono D,(M5.o.up Y).mono D,(M6.o.up Y).mono D,(M7.o.up Y).mono D,(M8.o.up Y).mono D,((M9.o.up Y).mono D).ls,(cl.o.up Y).mono D,(ci.o.up Y).mono D⟩,(M9.o.up Y).mono D,X.b⟩
