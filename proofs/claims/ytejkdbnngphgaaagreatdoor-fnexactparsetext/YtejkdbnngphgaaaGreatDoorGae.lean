import Derived.Maps.AppendAt
import Derived.Lib.Bytealg
import Derived.Lib.IndexLaws
import Derived.Lib.AppendIntMem
import Derived.Lib.AtoiErrMem
import Derived.Test.YtejkdbnngphgaaaGreatDoorGad
set_option linter.all false
set_option maxHeartbeats 400000000
set_option maxRecDepth 100000
namespace Go.Proofs
open Value renaming int->U,slice->S,bool->G,string->Xs
open IntKind renaming i64->O
open Ending renaming returned->Z
open Go renaming World->J,Calls->Ec,Value->Vu,Addr->Ad
open Go.RowKit renaming Below->Bw
open Tryz renaming prog->Q
open Tryz
open IntKind renaming wrap_i64->Kw
open List renaming drop_zero->Rh,length->N
namespace YtejkdbnngphgaaaGreatDoor
open Go.RowKit
theorem opConversions_c (p:Nat)(w:J)(h1:167<=p)(a:p<192):Ec Q 210 #[U O p] w λe w'=>e=Z (JN (Qe p))/\Bw w.heap.size w w':=by
 generalize hr:Qe p=r;have b:R57[p]?=some r:=by rw[<- hr];exact R57_at p h1 a
 go_enter func210,ntmps210;go_wp2_with fail
 rw[idxT underlying267 R57 (p:=p) (r:=r) (hr:=b) (hp:=a)];case hv=>kernel_rfl
 simp only[Result.andThen_ok];go_wp2;exact bodyPost_ret (v:=JN r) (by simp[results,results210,go_sem]) rfl ⟨rfl,by repeat (first|exact bFz|refine Below.setCell ?_ (by first|(simp;done)|(simp;omega)) _|refine Below.alloc ?_ (by first|(simp;done)|(simp;omega)) _|apply Below.drew)⟩
theorem wal {P:Program}{f:Array Oper}{rest:List Oper}{o:Oper}{a:Act}{l:Exit->Act->J->Prop}{w:J}{s x:Operand}{t e:TypeId}{base n m c size b:Nat}{z v:Vu}{p:List Vu}{B:Ad}(k:(P.info? e).map (λi=>(i.zero,i.size,i.bytes))=some (some z,size,b))(g:w.ownsRow base e size v n p)(news:List Vu)(d:∀j u,news[j]?=some u->w.cell? (B.add j)=some u)(h1:∀u∈news,u.oneCell'=true) (h:∀v' w',w'.ownsRow base e size v' (n+m) (p++news)->w.grownBy w' v.ownBlock->(v'=S none 0 0 ↔ v=S none 0 0/\m=0)->(v'.ownBlock=v.ownBlock\/v'.ownBlock=some w.heap.size)->wpList P f l rest (a.put o.dst v') w') (A:o.guard=none:=by exact rfl) (ho:o.op=.call { callee:=.builtin .append,args:=#[s,x],argTypes:=#[t,t] }:=by exact rfl) (ht:P.underlying t=some (.slice e):=by kernel_rfl) (hzs:z.cells.size=size:=by exact rfl) (hsz:0<size:=by decide) (hs:a.eval s=v:=by exact rfl) (hx:a.eval x=S (some B) m c:=by exact rfl) (hl:N news=m*size:=by exact rfl) (h63:n+m<=maxLen:=by unfold maxLen;omega) (hbytes:(n+m)*b<=140737488355328:=by omega) (hbase:base<=w.heap.size:=by simp;omega):wpList P f l (o::rest) a w:=by
 obtain⟨C,D,y,r,q⟩:=info_parts k;exact wpList_append_own_at _ A s x t ho base e C z size b ht D y r q hzs hsz v n p hs g B m c news hx hl d h1 h63 hbytes hbase h
open Go.RowKit Go.Sort
def u32B (x:Int):Bool:=decide (0<=x/\x<=4294967295)
def tyB (x:Int):Bool:=decide (124<=x/\x<=127)
theorem iu32_c (x:Int)(w:J):Ec Q 196 #[U O x] w λe w'=>e=Z (G (u32B x))/\w=w':=by
 go_enter func196,ntmps196;go_wp2
 all_goals
  go_ret
  refine⟨?_,rfl⟩
  simp[u32B, *]
  try omega
theorem ity_c (x:Int)(w:J):Ec Q 224 #[U O x] w λe w'=>e=Z (G (tyB x))/\w=w':=by
 go_enter func224,ntmps224;go_wp2
 all_goals
  go_ret
  refine⟨?_,rfl⟩
  simp[tyB, *]
  try omega
theorem len0 (l:List Int):((N l:Int)==0)=l.isEmpty:=by
 cases l with
 |nil=>rfl
 |cons a t=>simp;omega
open Go.RowKit
theorem info5:(Q.info? 5).map (λi=>(i.zero,i.size,i.bytes))=some (some (U .u8 0),1,1):=by kernel_rfl
theorem oneB (b:Int):∀u∈[Value.int .u8 b],u.oneCell'=true:=by
 intro u a;simp at a;subst a;rfl
end YtejkdbnngphgaaaGreatDoor
namespace YtejkdbnngphgaaaGreatDoor.Yz
open Go.RowKit Go.Sort
def JX (l:Wd):Nat:=if Lib.hasPrefix l [34]=true then(1+Lib.indexByte (l.drop 1) 34).toNat else 0
def Jb (l:Wd):Nat:=if 0<=Lib.indexByte (l.drop (JX l)) 32 then JX l+(Lib.indexByte (l.drop (JX l)) 32).toNat else (N l)
theorem Jc (l:Wd)(c:UInt8):Lib.indexByte l c=-1\/∃o:Nat,Lib.indexByte l c=o/\o<N l/\l[o]?=some c:=by
 by_cases h:Lib.indexByte l c=-1
 . exact .inl h
 have:=Lib.indexByte_ge l c;obtain⟨o,d⟩:=Int.eq_ofNat_of_zero_le (show 0<=Lib.indexByte l c by omega);have a:=(Lib.indexByte_some d).1;refine .inr ⟨o,d,?_,a⟩;rcases Nat.lt_or_ge o (N l)with b|b
 . exact b
 rw[List.getElem?_eq_none b]at a;cases a
theorem from_le (l:Wd):JX l<=N l:=by
 unfold JX;split
 · rcases Jc (l.drop 1) 34 with h|⟨o,h,a,_⟩
   . rw[h];simp
   rw[h];simp at a;omega
 omega
theorem end_le (l:Wd):Jb l<=N l:=by
 unfold Jb;split
 · rename_i b;rcases Jc (l.drop (JX l)) 32 with h|⟨o,h,a,_⟩
   . omega
   rw[h];simp at a;simp;omega
 omega
theorem end_at (l:Wd)(h:Jb l<N l):l[Jb l]?=some 32:=by
 unfold Jb at h⊢;split at h
 . rename_i c;rw[if_pos c];rcases Jc (l.drop (JX l)) 32 with a|⟨o,a,d,b⟩
   . omega
   rw[a];simpa using b
 omega
theorem XX (l:Wd)(a b:Nat):(Sz0 l).extract a b=Sz0 ((l.take b).drop a):=by
 apply ByteArray.ext;apply Array.ext';rw[ByteArray.data_extract,Array.toList_extract];simp[Sz0,List.extract_eq_drop_take,List.drop_take]
theorem Gc (l:Wd)(a n:Nat)(b:n=N l):(Sz0 l).extract a n=Sz0 (l.drop a):=by
 rw[XX,List.take_of_length_le (by omega)]
theorem end_tail (l:Wd)(f:Nat)(c:f<=N l)(o:Int)(a:Lib.indexByte (l.drop f) 32=o):-1<=o/\(0<=o->(f:Int)+o<=N l):=by
 rcases Jc (l.drop f) 32 with h|⟨k,h,b,_⟩
 . rw[<- a,h];exact⟨by omega,λh=>by omega⟩
 rw[<- a,h];simp at b;exact⟨by omega,λ_=>by omega⟩
theorem end_c (l:Wd)(w:J)(hl:N l<=1099511627776):Ec Q 179 #[Xs (Sz0 l)] w λe w'=>e=Z (U O (Jb l))/\w=w':=by
 have c:=Hm (strings_HasPrefix (Sz0 l) ⟨#[34]⟩);rw[QB,show(⟨#[34]⟩:ByteArray).data.toList=[34]from rfl]at c;have k:=Hm (λ(m:Wd) (w:J)=>strings_IndexByte (Sz0 m) 34 w);have d:=Hm (λ(m:Wd) (w:J)=>strings_IndexByte (Sz0 m) 32 w);simp only[QB,show(34:Int).toNat.toUInt8=34 from rfl,show(32:Int).toNat.toUInt8=32 from rfl]at k d;have E:(Sz0 l).size=N l:=QJ l;have y:=from_le l;obtain⟨o,p⟩:∃o,Lib.indexByte (l.drop (JX l)) 32=o:=⟨_,rfl⟩;obtain⟨o1,o2⟩:=end_tail l _ y o p;have z:Jb l=if 0<=o then JX l+o.toNat else (N l):=by unfold Jb;rw[p]
 have n:=Hm z;have t:=Hm p;clear z p;by_cases b:Lib.hasPrefix l [34]=true
 . have v:1<=N l:=by
    cases l with
    |nil=>simp[Lib.hasPrefix]at b
    |cons x r=>simp
   rw[b]at c;obtain⟨u,s⟩:∃u,Lib.indexByte (l.drop 1) 34=u:=⟨_,rfl⟩;(have a:(JX l:Int)=1+u:=by unfold JX;rw[if_pos b,s];have:=Lib.indexByte_ge (l.drop 1) 34;omega);(have F:IntKind.i64.wrap (1+u)=(JX l:Int):=by rw[Kw];omega);have C:=Hm s;clear s b a;generalize JX l=f at *;go_enter func179,ntmps179;(go_wp2_with fail);refine(c.o _).mono ?_;rintro e B ⟨rfl,rfl⟩;clear c;(go_wp2_with fail);rw[Gc l 1 _ rfl];refine(k.o _ _).mono ?_;rintro e D ⟨rfl,rfl⟩;rw[C.o];(go_wp2_with fail);rw[Gc l f _ rfl];refine(d.o _ _).mono ?_;rintro e A ⟨rfl,rfl⟩;rw[t.o];by_cases j:0<=o
   . (have q:IntKind.i64.wrap ((f:Int)+o)=(f:Int)+o:=by rw[Kw];have:=o2 j;omega);go_wp2;go_ret;refine⟨?_,rfl⟩;rw[n.o,if_pos j];simp;omega
   go_wp2;go_ret;refine⟨?_,rfl⟩;rw[n.o,if_neg (by omega)];rfl
 have g:Lib.hasPrefix l [34]=false:=by simpa using b
 rw[g]at c;have a:JX l=0:=by unfold JX;rw[if_neg b]
 rw[a]at n t o2;clear b g y a;go_enter func179,ntmps179;go_wp2_with fail
 refine(c.o _).mono ?_;rintro e B ⟨rfl,rfl⟩;clear c;go_wp2_with fail
 try rw[Gc l 0 _ rfl]
 refine(d.o _ _).mono ?_;rintro e A ⟨rfl,rfl⟩;rw[t.o];by_cases j:0<=o
 . (have q:IntKind.i64.wrap o=o:=by rw[Kw];have:=o2 j;omega);go_wp2;go_ret;refine⟨?_,rfl⟩;rw[n.o,if_pos j];simp;omega
 go_wp2;go_ret;refine⟨?_,rfl⟩;rw[n.o,if_neg (by omega)];rfl
def Jm (l:Wd):List Wd:=if h:Jb l<N l then l.take (Jb l)::Jm (l.drop (Jb l+1))else [l]
termination_by (N l)
decreasing_by simp;omega
theorem JO {l:Wd}(h:Jb l<N l):Jm l=l.take (Jb l)::Jm (l.drop (Jb l+1)):=by rw[Jm,dif_pos h]
theorem JP {l:Wd}(h:¬Jb l<N l):Jm l=[l]:=by rw[Jm,dif_neg h]
theorem psplit_len:∀(n:Nat) (l:Wd),N l<=n->(Jm l).length<=N l+1/\∀x∈Jm l,N x<=N l
 |n,l,hn=>by
  by_cases h:Jb l<N l
  . rw[JO h];have a:(l.drop (Jb l+1)).length=N l-(Jb l+1):=by simp
    obtain⟨c,b⟩:=psplit_len (n-1) (l.drop (Jb l+1)) (by rw[a];omega);rw[a]at c b
    refine⟨by simp only[List.length_cons];omega,λx hx=>?_⟩
    simp only[List.mem_cons]at hx
    rcases hx with rfl|hx
    . simp;omega
    . have:=b x hx;omega
  . rw[JP h]
    exact⟨by simp,λx hx=>by simp at hx;subst hx;exact lRz⟩
termination_by n l=>N l
decreasing_by simp;omega
theorem info9:(Q.info? 9).map (λi=>(i.zero,i.size,i.bytes))=some (some (Xs ⟨#[]⟩),1,16):=by kernel_rfl
theorem oneS (s:ByteArray):∀u∈[Value.string s],u.oneCell'=true:=by
 intro u a;simp at a;subst a;rfl
def Sv (r:List Wd):List Vu:=r.map λx=>Value.string (Sz0 x)
theorem Sv_app (r:List Wd)(x:Wd):Sv (r++[x])=Sv r++[Xs (Sz0 x)]:=by simp[Sv]
theorem QO {w:J}{B e:Nat}{v:Vu}{n:Nat}{b:List Vu}(h:w.ownsRow B e 1 v n b):∃a c,v=S a n c:=by
 rcases h.2 with ⟨e,d⟩|⟨g,j,f,hv,_⟩
 . rw[d];exact⟨_,_,e⟩
 exact⟨_,_,hv⟩
theorem split_c (l0:Wd)(w:J)(hl:N l0<=1048576):Ec Q 118 #[Xs (Sz0 l0)] w λe w'=>∃v,e=Z v/\w'.ownsRow w.heap.size 9 1 v (Jm l0).length (Sv (Jm l0))/\Bw w.heap.size w w':=by
 have HP:=Hm (psplit_len (N l0) l0 lRz).1;go_enter func118,ntmps118;go_wp2;go_loopw [0,3] (λt v wr=>∃(l:Wd) (r:List Wd),t=Xs (Sz0 l)/\N l<=N l0/\Jm l0=r++Jm l/\wr.ownsRow w.heap.size 9 1 v (N r) (Sv r)/\Bw w.heap.size w wr) (λt _ _=>match t with|Xs s=>s.size|_=>0)
 case atStart=>exact⟨l0,[],rfl,lRz,by simp,⟨by simp[Sv],.inl ⟨rfl,rfl⟩⟩,bFz⟩
 obtain⟨l,r,rfl,X,g,n,B⟩:=hrel;have y:=Hm (end_c l wr (by omega));have M:(Sz0 l).size=N l:=QJ l;have Y:=end_le l;have R:N r<=1048578:=by have D:=HP.o;rw[g]at D;simp at D;omega
 have E:=Hm g;have F:=Hm B;have q:=B.size;obtain⟨va,vc,rfl⟩:=QO n;have h2:((Jb l:Nat):Int)<=((Sz0 l).size:Int):=by rw[M];omega
 clear g B;by_cases m:Jb l<N l
 . have C:=Hm (JO m);(have V:((Jb l:Int)==(N l:Int))=false:=by simp;omega);(have hw:IntKind.i64.wrap ((Jb l:Int)+1)=(Jb l:Int)+1:=by rw[Kw];omega);generalize Jb l=f at *;(go_wp2_with fail);refine y.o.mono ?_;rintro e I ⟨rfl,rfl⟩;clear y;(go_wp2_with (at_builtin;refine wal info9 (n.alloc _) [Xs ((Sz0 l).extract 0 f)] (cell_one_new _ _ _) (oneS _) ?_;intro L H a b k c;have d:=Hm (And.intro a b);obtain⟨A,z,rfl⟩:=QO a;clear a b k c));refine⟨⟨l.drop (f+1),r++[l.take f],by rw[Gc l (f+1) _ rfl],by simp;omega,by rw[E.o,C.o];simp,?_,F.o.alloc q _ |>.grown d.o.2 (by simp;omega) (λj hj=>(n.lt j hj).1)⟩,?_⟩
   . have u:=d.o.1;rw[XX,Rh]at u;rw[show(r++[l.take f]).length=N r+1 by simp,Sv_app];exact u
   show((Sz0 l).extract (f+1) (N l)).size<(Sz0 l).size;rw[Gc l (f+1) _ rfl,QJ,QJ];simp;omega
 have C:=Hm (JP m);have p:Jb l=N l:=by omega
 rw[p]at y h2;clear m Y p;go_wp2_with fail
 refine y.o.mono ?_;rintro e I ⟨rfl,rfl⟩;clear y;go_wp2_with (at_builtin;refine wal info9 (n.alloc _) [Xs ((Sz0 l).extract 0 (N l))] (cell_one_new _ _ _) (oneS _) ?_;intro L H a b k c;have d:=Hm (And.intro a b);obtain⟨A,z,rfl⟩:=QO a;clear a b k c)
 go_ret;refine⟨_,rfl,?_,F.o.alloc q _ |>.grown d.o.2 (by simp;omega) (λj hj=>(n.lt j hj).1)⟩;have u:=d.o.1;rw[Gc l 0 _ rfl,Rh]at u;rw[E.o,C.o,show(r++[l]).length=N r+1 by simp,Sv_app];exact u
