import Derived.Test.YtejkdbnngphgaaaGreatDoorGaz
import Derived.Test.YtejkdbnngphgaaaGreatDoorGar
import Derived.Test.YtejkdbnngphgaaaGreatDoorGau
set_option linter.all false
set_option maxHeartbeats 400000000
set_option maxRecDepth 100000
namespace Go.Proofs
open Value renaming int->U,slice->S,bool->G,string->Xs,agg->Ag
open IntKind renaming i64->O
open Ending renaming returned->Z
open Obj renaming cells->Fc
open Go renaming World->J,Calls->Ec,Value->Vu,Addr->Ad
open Go.RowKit renaming Below->Bw
open Tryz renaming prog->Q
open Tryz
open List renaming getElem?_set_ne->Kz,perm_middle->Hn,getElem?_set_self->Ky,getD->Ty,getElem?_take->Rg,foldl_cons->Km,foldl_nil->Tq,getElem?_eq_getElem->Kv,take_succ->Iw,length_append->Kb,length_cons->Kj,length_nil->Kg,take_length->Ik,getElem?_eq_none->Hh,cons_append->Tv,append_assoc->Kd,perm_append_comm->Hp,length->N
open List.Perm renaming swap->Kq,trans->Ly,cons->Tp,append_right->Mg,append_left->Lm,refl->Im
open Option renaming map_some->Lw,isSome_map->Hf
open Nat renaming zero_le->Hw,lt_or_ge->Pv,add_zero->Hc,le_trans->Kf,lt_of_lt_of_eq->Ry,zero_add->Kk,le_of_lt->Lv
open Instr renaming index->Lf
open IntKind renaming wrap_i64->Kw
open Value renaming ownBlock->Lc,oneCell'->Hq,string->Pw
namespace YtejkdbnngphgaaaGreatDoor.Yz
open Go.RowKit Go.Sort
variable {i:Nat}{b s:Wd}
theorem Ln.none {W1 V:J}{R q:Nat}{cells:List Vu}{rs:List Qb}(h:Ln W1 R q cells rs V)(T sz:Nat):Ln W1 R q cells (⟨T,sz,0,S none 0 0,[]⟩::rs) V:=by
 have b:blk (⟨T,sz,0,S Option.none 0 0,[]⟩::rs)=blk rs:=rfl;refine⟨⟨⟨λr a=>?_,?_⟩,λk hk=>h.s.ge k (by rw[b]at hk;exact hk),h.s.gr,h.s.lt⟩,h.qd,by rw[b];exact h.qn,h.ql⟩
 . rcases List.mem_cons.1 a with rfl|a
   . exact h.s.own.all _ (mS ..)
   rcases List.mem_cons.1 a with rfl|a
   . exact⟨by simp,.inl ⟨rfl,rfl⟩⟩
   exact h.s.own.all r (mC a)
 have:=h.s.own.nd;rw[show blk (Yz.box 62 18 R cells::rs)=R::blk rs from rfl]at this;rw[show blk (Yz.box 62 18 R cells::⟨T,sz,0,S Option.none 0 0,[]⟩::rs)=R::blk rs from rfl];exact this
theorem far3 {cells:List Vu}{a b c:Vu}{j:Nat}(d:j<15):(((cells.set 15 a).set 16 b).set 17 c)[j]?=cells[j]?:=by
 rw[Kz (by omega),Kz (by omega),Kz (by omega)]
theorem head_sr {W1:J}{R q:Nat}{mp:Vu}{cells:List Vu}{rs r:List Qb}{V:J}{Sz0:St}{h:Hd}{d f:Vu}{bx:Qb}(hS:SR W1 R mp Sz0 cells rs)(j:Sz0.op=none)(hl:Ln W1 R q (((cells.set 15 d).set 16 (S none 0 0)).set 17 f) (Q9 d [false]::bx::(r++rs)) V)(p:HdR W1 R f (bx::r) h)(o:∀b,f≠Xs b):∃rs',Ln W1 R q (((cells.set 15 d).set 16 (S none 0 0)).set 17 f) rs' V/\SR W1 R mp ⟨Sz0.m,Sz0.last,some ⟨h,[],[false]⟩⟩ (((cells.set 15 d).set 16 (S none 0 0)).set 17 f) rs':=by
 obtain⟨L,P,hm,n,g⟩:=hS.rep;rw[j]at g;obtain⟨-,rfl⟩:=g;have l:N cells=18:=by have:=hl.s.len;simpa using this
 refine⟨_,hl.none 70 5,⟨by rw[far3 (by decide)];exact hS.last,by rw[far3 (by decide)];exact hS.map,⟨L,Q9 d [false]::([⟨70,5,0,S none 0 0,[]⟩]++(bx::r)),((hm.set_far (by decide) _).set_far (by decide) _).set_far (by decide) _,?_,⟨d,S none 0 0,f,_,_,?_,?_,?_,⟨[],[],LR.nil _,rfl⟩,p,rfl,by simp⟩⟩,?_⟩⟩
 . have u:(r++rs).Perm (L.flatten++r):=List.perm_append_comm.trans ((List.append_nil L.flatten ▸ n).append_right r);have t:=(((u.cons bx).cons (Q9 d [false])).cons (⟨70,5,0,S none 0 0,[]⟩:Qb));refine t.trans ((Kq _ _ _).trans ?_);have:=(Hn (l₁:=L.flatten) (a:=bx) (l₂:=r)).symm;refine(((this.cons _).cons _)).trans ?_;refine((Hn (l₁:=L.flatten) (a:=(⟨70,5,0,S none 0 0,[]⟩:Qb)) (l₂:=bx::r)).symm.cons _).trans ?_;exact(Hn (l₁:=L.flatten) (a:=Q9 d [false]) (l₂:=⟨70,5,0,S none 0 0,[]⟩::bx::r)).symm
 . rw[Kz (by decide),Kz (by decide),Ky (by omega)]
 . rw[Kz (by decide),Ky (by simp;omega)]
 . rw[Ky (by simp;omega)]
 refine Ju (Ju (Ju hS.ns _ ?_) _ ?_) _ o
 . obtain⟨a,c,e⟩:=Qg (show V.ownsRow R 4 1 d 1 (Bs [false])from hl.s.own.tail.head);rw[e];intro b k;cases k
 intro b k;cases k
section
variable (W1:J) (R q:Nat) (mp:Vu) (cells:List Vu) (rs:List Qb) (V:J) (Sz0:St) (ws:List Wd) (bad:Bool) (h:Ln W1 R q cells rs V) (t:Tw V q ws bad) (hS:SR W1 R mp Sz0 cells rs)
include h t hS
theorem item6 (u s n m:Nat)(h1:Bt W1 R u (fnV 97))(C:Bt W1 R s (ptr R 0))(B:Bt W1 R n (ptr R 5))(A:Bt W1 R m (fnV 98)):Ec Q 155 #[ptr q 0,ptr u 0,ptr s 0,ptr n 0,ptr m 0] V (XY 6 W1 R q mp Sz0 ws bad):=by
 refine(head155 W1 R q cells V ws bad s rs u n m h t h1 C).mono ?_;rintro e F ⟨rfl,x,c,r,a,bd,D,H,g,k,f,v,l⟩;by_cases j:Sz0.op=none
 . obtain⟨rfl,rfl⟩:=g;have z:HdR W1 R _ _ (.glob x):=⟨n,m,D,rfl,B,A,rfl⟩;obtain⟨rs',p,o⟩:=head_sr hS j k z (by intro b e;cases e);refine⟨rfl,_,rs',a,bd,p,f,λhb hw=>?_,λhb hs=>?_⟩
   . obtain⟨g1,E⟩:=v hb hw;exact⟨g1,λ_=>⟨.hd (.glob x),by simp only[QN,E,Lw],o⟩⟩
   simp only[QN,Hf]at hs;obtain⟨y,d⟩:=Option.isSome_iff_exists.1 hs;exact⟨(l y hb d).1,(l y hb d).2.1⟩
 refine⟨rfl,_,_,a,bd,k,f,λhb hw=>⟨(v hb hw).1,λe=>absurd e j⟩,λhb hs=>?_⟩;simp only[QN,Hf]at hs;obtain⟨y,d⟩:=Option.isSome_iff_exists.1 hs;exact⟨(l y hb d).1,(l y hb d).2.1⟩
theorem item9 (z u n m:Nat)(h1:Bt W1 R z (fnV 100))(L:Bt W1 R u (ptr R 0))(H:Bt W1 R n (ptr R 9))(F:Bt W1 R m (fnV 101))(hl:∀x∈ws,N x<=1048576)(E:Vs R W1):Ec Q 160 #[ptr q 0,ptr z 0,ptr u 0,ptr n 0,ptr m 0] V (XY 9 W1 R q mp Sz0 ws bad):=by
 refine(head160 W1 R q cells V ws bad u rs z n m h t h1 L hl E).mono ?_;rintro e B ⟨rfl,x,c,r,d,bd,M,Y,j,a,g,A,l⟩;by_cases k:Sz0.op=none
 . obtain⟨v,rfl,rfl⟩:=j;obtain⟨va,C,rfl⟩:=Qg (show B.ownsRow R 2 1 v (N x) (I x)from a.s.own.tail.tail.tail.head);have D:HdR W1 R _ _ (.elem x):=⟨n,m,M,va,C,rfl,H,F,rfl⟩;obtain⟨rs',p,o⟩:=head_sr hS k a D (by intro b e;cases e);refine⟨rfl,_,rs',d,bd,p,g,λhb hw=>?_,λhb hs=>?_⟩
   . obtain⟨g1,X⟩:=A hb hw;exact⟨g1,λ_=>⟨.hd (.elem x),by simp only[QN,X,Lw],o⟩⟩
   simp only[QN,Hf]at hs;obtain⟨y,f⟩:=Option.isSome_iff_exists.1 hs;exact⟨(l y hb f).1,(l y hb f).2.1⟩
 refine⟨rfl,_,_,d,bd,a,g,λhb hw=>⟨(A hb hw).1,λe=>absurd e k⟩,λhb hs=>?_⟩;simp only[QN,Hf]at hs;obtain⟨y,f⟩:=Option.isSome_iff_exists.1 hs;exact⟨(l y hb f).1,(l y hb f).2.1⟩
theorem item10 (z u n m:Nat)(h1:Bt W1 R z (fnV 103))(L:Bt W1 R u (ptr R 0))(I:Bt W1 R n (ptr R 10))(H:Bt W1 R m (fnV 104))(hl:∀x∈ws,N x<=1048576)(F:Vs R W1)(D:N ws<=1048576):Ec Q 162 #[ptr q 0,ptr z 0,ptr u 0,ptr n 0,ptr m 0] V (XY 10 W1 R q mp Sz0 ws bad):=by
 refine(head162 W1 R q cells V ws bad u rs z n m h t h1 L hl F D).mono ?_;rintro e B ⟨rfl,x,c,r,d,bd,M,Y,j,a,g,A,l⟩;by_cases k:Sz0.op=none
 . obtain⟨v,rfl,rfl⟩:=j;obtain⟨va,C,rfl⟩:=Qg (show B.ownsRow R 206 2 v (N x) (gcs x)from a.s.own.tail.tail.tail.head);have E:HdR W1 R _ _ (.code x):=⟨n,m,M,va,C,rfl,I,H,rfl⟩;obtain⟨rs',p,o⟩:=head_sr hS k a E (by intro b e;cases e);refine⟨rfl,_,rs',d,bd,p,g,λhb hw=>?_,λhb hs=>?_⟩
   . obtain⟨g1,X⟩:=A hb hw;exact⟨g1,λ_=>⟨.hd (.code x),by simp only[QN,X,Lw],o⟩⟩
   simp only[QN,Hf]at hs;obtain⟨y,f⟩:=Option.isSome_iff_exists.1 hs;exact⟨(l y hb f).1,(l y hb f).2.1⟩
 refine⟨rfl,_,_,d,bd,a,g,λhb hw=>⟨(A hb hw).1,λe=>absurd e k⟩,λhb hs=>?_⟩;simp only[QN,Hf]at hs;obtain⟨y,f⟩:=Option.isSome_iff_exists.1 hs;exact⟨(l y hb f).1,(l y hb f).2.1⟩
theorem item11 (A z o n:Nat)(h1:Bt W1 R A (fnV 106))(L:Bt W1 R z (ptr R 0))(I:Bt W1 R o (ptr R 11))(H:Bt W1 R n (fnV 107))(hl:∀x∈ws,N x<=1048576)(F:Vs R W1):Ec Q 165 #[ptr q 0,ptr A 0,ptr z 0,ptr o 0,ptr n 0] V (XY 11 W1 R q mp Sz0 ws bad):=by
 refine(head165 W1 R q cells V ws bad z rs A o n h t h1 L hl F).mono ?_;rintro e C ⟨rfl,x,c,r,d,bd,M,Y,k,a,g,B,m⟩;by_cases l:Sz0.op=none
 . obtain⟨v,rfl,rfl⟩:=k;have j:C.ownsRow R 5 1 v (Iy x).length (Uz0 (Iy x)):=a.s.own.tail.tail.tail.head;rw[List.length_map]at j;obtain⟨va,D,rfl⟩:=Qg j;have E:HdR W1 R _ _ (.data x):=⟨o,n,M,va,D,rfl,I,H,rfl⟩;obtain⟨rs',u,p⟩:=head_sr hS l a E (by intro b e;cases e);refine⟨rfl,_,rs',d,bd,u,g,λhb hw=>?_,λhb hs=>?_⟩
   . obtain⟨g1,X⟩:=B hb hw;exact⟨g1,λ_=>⟨.hd (.data x),by simp only[QN,X,Lw],p⟩⟩
   simp only[QN,Hf]at hs;obtain⟨y,f⟩:=Option.isSome_iff_exists.1 hs;exact⟨(m y hb f).1,(m y hb f).2.1⟩
 refine⟨rfl,_,_,d,bd,a,g,λhb hw=>⟨(B hb hw).1,λe=>absurd e l⟩,λhb hs=>?_⟩;simp only[QN,Hf]at hs;obtain⟨y,f⟩:=Option.isSome_iff_exists.1 hs;exact⟨(m y hb f).1,(m y hb f).2.1⟩
end
def Fcz0 (Sz0:J->Prop)(vals:List Vu)(Ps:List (J->Prop))(k:Nat)(us:List Vu)(W:J):Prop:=Sz0 W/\us=vals.take k/\(Ps.getD k (λ_=>False)) W
theorem Qv {Sz0:J->Prop}{a:List Vu}{d:List (J->Prop)}{k:Nat}{b:List Vu}{W:J}(h:Fcz0 Sz0 a d k b W)(j:Nat)(c:j<k):b.getD j undef=a.getD j undef:=by
 rw[h.2.1];simp only[Ty,Rg,c,if_true]
section
variable (W1:J) (R q:Nat) (mp:Vu) (cells:List Vu) (rs:List Qb) (V:J) (Sz0:St) (ws:List Wd) (bad:Bool) (h:Ln W1 R q cells rs V) (t:Tw V q ws bad) (hS:SR W1 R mp Sz0 cells rs)
def FzS (b:Nat)(k:Nat)(us:List Vu)(W:J):Prop:=Rp.Fz (fun W=>W.cell? ⟨b,0,none⟩=some (ptr R 0)) 3 [fun us W=>us=[]/\Ln W1 R q cells rs W/\Tw W q ws bad,
 λus W=>∃x ws' bd,us=[U O x]/\Ln W1 R q cells rs W/\Te W q ws' bd/\(bd=false->ws'=[]->bad=false/\uF ws=some x)/\(∀y,bad=false->uF ws=some y->bd=false/\ws'=[]/\x=y),
 λus W=>∃x ws' bd,us=[U O x,undef]/\Ln W1 R q (cells.set 7 (G true)) rs W/\Te W q ws' bd/\(bd=false->ws'=[]->bad=false/\uF ws=some x)/\(∀y,bad=false->uF ws=some y->bd=false/\ws'=[]/\x=y),
 fun us W=>∃x ws' bd,us=[U O x,undef,undef]/\Ln W1 R q ((cells.set 7 (G true)).set 8 (U O x)) rs W/\Te W q ws' bd/\(bd=false->ws'=[]->bad=false/\uF ws=some x)/\(∀y,bad=false->uF ws=some y->bd=false/\ws'=[]/\x=y)] k us W
include h t hS
theorem item8 (b:Nat)(h1:Bt W1 R b (ptr R 0))(hl:∀x∈ws,N x<=1048576)(hV:Vs R W1):Ec Q 95 #[ptr q 0,ptr b 0] V (XY 8 W1 R q mp Sz0 ws bad):=by
 have I:=Hm hS;have M:=Hm h1;have ae:=Hm hl;have ad:=Hm hV;have HL:=Hm h;obtain⟨z,X⟩:∃z,z=Sz0.m.gk:=⟨_,rfl⟩;have cb:=h.s.bx h1;have c7:V.cell? ⟨R,7,none⟩=some (G z):=by obtain⟨L,P,hm,-⟩:=hS.rep;rw[X];exact(h.s.cell 7 hm.hs).1
 have KA:=Hm (JZ q ws bad (!z) V t);have HZ:=Hm X;clear h t hS h1 hl hV X;obtain⟨n,g⟩:∃x,x=(bad || !!z):=⟨_,rfl⟩;rw[<- g]at KA;have H:=Hm g;clear g;go_enter func95,ntmps95;go_wp2_with fail
 refine KA.o.mono ?_;rintro e w1 ⟨rfl,t1,g1⟩;have B:=Hm (And.intro (HL.o.call g1) t1);clear t1 g1 KA cb c7 HL;go_upto_region 1 with fail
 refine Rp.rg (nN:=21) [ptr R 0,ptr R 0,ptr q 0,undef,ptr R 0,ptr R 0,ptr R 7,undef,ptr R 0,ptr R 0,ptr R 8,undef] [3,7,11] 3 (FzS W1 R q cells rs ws n b) ?_ ?_ ?_
 . exact⟨λ_=>B.o.1.s.bx M.o,rfl,B.o.1.below bFz.drew,B.o.2.keep bFz.drew⟩
 . refine Rp.ls 1 (ptr b 0) (λk C W hk l=>l.1 hk) ?_;refine Rp.ls 1 (ptr b 0) (λk C W hk l=>l.1 hk) ?_;refine Rp.os 0 (ptr q 0) ?_;refine Rp.hc 0 (λa W C f hu l=>?_) ?_
   . have ay:=Rp.va f 2 13;obtain⟨D,rfl,hl,ht⟩:=l;refine⟨90,#[ptr q 0],?_,?_⟩
     . clear f hu;go_simp;try rfl
     refine(u32_e q ws n W ht ae.o (hl.vs ad.o)).mono ?_;rintro e w1 ⟨x,c,r,d,bd,rfl,⟨rfl,rfl⟩,aa,v,p⟩;obtain⟨F,Y⟩:=hl.read aa;exact⟨_,rfl,λ_=>F.s.bx M.o,x,d,bd,rfl,F,Y,v,p⟩
   refine Rp.o1 0 11 ?_;refine Rp.o1 4 15 ?_;refine Rp.o1 5 16 ?_;refine Rp.ht 1 (λa W C f hu l=>?_) ?_
   . have aw:=Rp.va f 6 17;obtain⟨D,x,d,bd,rfl,hl,ht,v,p⟩:=l;obtain⟨u,cc,ff⟩:=hl.at_ 7;refine⟨W.setCell ⟨R,7,none⟩ (G true),?_,?_⟩
     . clear f hu;go_simp;try rfl
     have j:=hl.set 7 (G true);exact⟨λ_=>j.s.bx M.o,x,d,bd,rfl,j,hl.tes ht 7 _,v,p⟩
   refine Rp.o1 1 12 ?_;refine Rp.o1 8 18 ?_;refine Rp.o1 9 19 ?_;refine Rp.ht 2 (λa W C f hu l=>?_) ?_
   . have av:=Rp.va f 10 20;have ax:=Rp.vu hu 0 14;obtain⟨D,x,d,bd,rfl,hl,ht,v,p⟩:=l;obtain⟨u,cc,ff⟩:=hl.at_ 8;refine⟨W.setCell ⟨R,8,none⟩ (U O x),?_,?_⟩
     . clear f hu;go_simp;try rfl
     have j:=hl.set 8 (U O x);exact⟨λ_=>j.s.bx M.o,x,d,bd,rfl,j,hl.tes ht 8 _,v,p⟩
   exact Rp.Qj.nil
 intro C a W f;have ea:=Rp.ca f [11,12,13,14,15,16,17,18,19,20];have l:=f.ph;simp only[Km,Tq,Rp.cv f 0 11,Rp.cv f 1 12,Rp.cv f 2 13,Rp.cu f 0 14,Rp.cv f 4 15,Rp.cv f 5 16,Rp.cv f 6 17,Rp.cv f 8 18,Rp.cv f 9 19,Rp.cv f 10 20]at ea;clear f;subst ea;obtain⟨-,x,d,bd,rfl,hl,ht,v,p⟩:=l;go_wp2;go_end0;refine⟨rfl,_,_,d,bd,hl,ht,λhb hw=>?_,λhb hs=>?_⟩
 . obtain⟨g1,g2⟩:=v hb hw;have g:=H.o;rw[g1]at g;(have A:z=false:=by cases z<;>simp at g⊢);(have ab:bad=false:=by cases bad<;>simp at g⊢);refine⟨ab,λhop=>⟨.mod { Sz0.m with gk:=true,start:=x },by simp only[QN,<- HZ.o,A,g2];rfl,?_⟩⟩;obtain⟨L,P,hm,hp,E⟩:=I.o.rep;rw[hop]at E;exact⟨by rw[Kz (by decide),Kz (by decide)];exact I.o.last,by rw[Kz (by decide),Kz (by decide)];exact I.o.map,⟨L,P,hm.set_start x,hp,(PR.off (PR.off E 7 (by decide) _) 8 (by decide) _)⟩,Ju (Ju I.o.ns _ (by intro b e;cases e)) _ (by intro b e;cases e)⟩
 simp only[QN,<- HZ.o]at hs;split at hs
 . cases hs
 rename_i A;rw[Hf]at hs;obtain⟨y,hy⟩:=Option.isSome_iff_exists.1 hs;have:n=false:=by rw[H.o,hb];simpa using A
 exact⟨(p y this hy).1,(p y this hy).2.1⟩
end
attribute [-go_sem] run_index_string
def QI (s:Wd)(i:Nat)(o:Wd):Prop:=∀b,s=J4 b->∃k,k<=N b/\o=b.take k/\i=(JS b k).length
theorem QI.start (s:Wd):QI s 1 []:=λb _=>⟨0,Hw _,rfl,rfl⟩
theorem getD_app (a r:Wd)(j:Nat):(a++r).getD (N a+j) 0=r.getD j 0:=by
 simp only[Ty];rw[List.getElem?_append_right (by omega),Nat.add_sub_cancel_left]
theorem q_split {k:Nat}(a:k<N b):J4 b=JS b k++(enc (b.getD k 0)++((b.drop (k+1)).flatMap enc++[34])):=by
 unfold J4 JS;have e:b=b.take k++b.getD k 0::b.drop (k+1):=by
  conv=>lhs;rw[<- List.take_append_drop k b]
  congr 1
  rw[List.drop_eq_getElem_cons a];simp[Ty,Kv a]
 conv=>lhs;rw[e]
 simp
theorem QI.at_ {o:Wd}(h:QI s i o)(hi:i+1<N s)(d:s=J4 b):∃k,k<N b/\o=b.take k/\i=(JS b k).length/\s=JS b k++(enc (b.getD k 0)++((b.drop (k+1)).flatMap enc++[34])):=by
 obtain⟨k,j,g,c⟩:=h b d;have a:k<N b:=by
  rcases Pv k (N b)with f|f
  . exact f
  exfalso;obtain rfl:k=N b:=by omega
  rw[d,c]at hi;unfold J4 JS at hi;simp at hi
 exact⟨k,a,g,c,by rw[d];exact q_split a⟩
theorem QI.pl {o:Wd}(h:QI s i o)(hi:i+1<N s)(hc:s.getD i 0≠92):QI s (i+1) (o++[s.getD i 0]):=by
 intro b p;obtain⟨k,f,q,a,c⟩:=h.at_ hi p;have g:∀j,s.getD (i+j) 0=(enc (b.getD k 0)++((b.drop (k+1)).flatMap enc++[34])).getD j 0:=λj=>by rw[c,a];exact getD_app _ _ _
 have m:=g 0;rw[Hc]at m;have d:plain (b.getD k 0)=true:=by
  cases d:plain (b.getD k 0)with
  |true=>rfl
  |false=>exfalso;apply hc;rw[m];unfold enc;rw[d];rfl
 have n:enc (b.getD k 0)=[b.getD k 0]:=by unfold enc;rw[if_pos d]
 have l:s.getD i 0=b.getD k 0:=by rw[m,n];rfl
 refine⟨k+1,f,?_,?_⟩
 . rw[l,q,Iw];simp[Ty,Kv f]
 rw[preT_succ f,n,a];simp
theorem QI.esc {o:Wd}(h:QI s i o)(hi:i+1<N s)(hc:s.getD i 0=92)(n:s=J4 b):∃k,k<N b/\o=b.take k/\i=(JS b k).length/\i+3<N s/\nib (s.getD (i+1) 0)=some ((b.getD k 0).toNat / 16)/\nib (s.getD (i+2) 0)=some ((b.getD k 0).toNat%16)/\enc (b.getD k 0)=[92,hx ((b.getD k 0).toNat / 16),hx ((b.getD k 0).toNat%16)]:=by
 obtain⟨k,r,p,a,f⟩:=h.at_ hi n;have c:∀j,s.getD (i+j) 0=(enc (b.getD k 0)++((b.drop (k+1)).flatMap enc++[34])).getD j 0:=λj=>by rw[f,a];exact getD_app _ _ _
 have l:=c 0;rw[Hc]at l;have g:plain (b.getD k 0)=false:=by
  cases g:plain (b.getD k 0)with
  |false=>rfl
  |true =>
   exfalso
   have d:enc (b.getD k 0)=[b.getD k 0]:=by unfold enc;rw[if_pos g]
   rw[d]at l;have m:s.getD i 0=b.getD k 0:=l;rw[hc]at m;rw[<- m]at g
   exact absurd g (by decide)
 have d:enc (b.getD k 0)=[92,hx ((b.getD k 0).toNat / 16),hx ((b.getD k 0).toNat%16)]:=by unfold enc;rw[g];rfl
 have q:=(b.getD k 0).toNat_lt;refine⟨k,r,p,a,?_,?_,?_,d⟩
 . rw[f,d,a];simp only[Kb,Kj,Kg];omega
 . rw[c 1,d];exact nib_hx _ (by omega)
 rw[c 2,d];exact nib_hx _ (by omega)
theorem QI.esc_no {o:Wd}(h:QI s i o)(hi:i+1<N s)(hc:s.getD i 0=92)(a:¬(i+3<N s)\/nib (s.getD (i+1) 0)=none\/nib (s.getD (i+2) 0)=none):okS s=false:=by
 cases hk:okS s with
 |false=>rfl
 |true =>
  exfalso
  obtain⟨b,f⟩:=okS_iff.1 hk;obtain⟨k,-,-,-,g,d,c,-⟩:=h.esc hi hc f.symm
  rcases a with a|a|a
  . exact a g
  . rw[a]at d;cases d
  . rw[a]at c;cases c
theorem QI.esc_ok {o:Wd}{g f:Nat}(h:QI s i o)(hi:i+1<N s)(hc:s.getD i 0=92)(h1:nib (s.getD (i+1) 0)=some g)(n:nib (s.getD (i+2) 0)=some f):QI s (i+3) (o++[UInt8.ofNat (16*g+f)]):=by
 intro b j;obtain⟨k,a,l,c,-,g1,d,m⟩:=h.esc hi hc j;rw[h1]at g1;rw[n]at d;cases g1;cases d;refine⟨k+1,a,?_,by rw[preT_succ a,m,c];simp⟩;have e:UInt8.ofNat (16*((b.getD k 0).toNat / 16)+(b.getD k 0).toNat%16)=b.getD k 0:=by rw[show 16*((b.getD k 0).toNat / 16)+(b.getD k 0).toNat%16=(b.getD k 0).toNat by omega];exact UInt8.ofNat_toNat
 rw[e,l,Iw];simp[Ty,Kv a]
theorem QI.fin {o:Wd}(h:QI s i o)(hi:¬(i+1<N s)):okS s=decide (J4 o=s)/\(okS s=true->o=Qm s):=by
 by_cases a:J4 o=s
 . have:okS s=true:=okS_iff.2 ⟨o,a⟩;rw[this,decide_eq_true a];exact⟨rfl,λ_=>by rw[<- a,sdec_q]⟩
 rw[decide_eq_false a]
 have:okS s=false:=by
  cases hk:okS s with
  |false=>rfl
  |true =>
   exfalso
   obtain⟨b,f⟩:=okS_iff.1 hk;obtain⟨k,l,j,d⟩:=h b f.symm
   apply a
   have c:k=N b:=by
    rcases Pv k (N b)with g|g
    . exfalso
      apply hi
      rw[<- f,q_split g,d]
      have:1<=(enc (b.getD k 0)).length:=by unfold enc;split<;>simp
      simp only[Kb,Kj,Kg];omega
    . omega
   rw[j,c,Ik];exact f
 rw[this];exact⟨rfl,λh=>by cases h⟩
theorem okS_head (h:N s<2\/s.getD 0 0≠34):okS s=false:=by
 cases hk:okS s with
 |false=>rfl
 |true =>
  exfalso
  obtain⟨b,rfl⟩:=okS_iff.1 hk
  rcases h with h|h
  . unfold J4 at h;simp only[Kb,Kj,Kg]at h;omega
  . exact h rfl
end YtejkdbnngphgaaaGreatDoor.Yz
namespace YtejkdbnngphgaaaGreatDoor.Yz
open Go.RowKit Go.Sort
attribute [-go_sem] run_index_string
def Fx (w:J)(vo:Vu)(o:Wd)(d1 d2:Nat)(m2:Int)(k:Nat)(us:List Vu)(W:J):Prop:=((1<=k->us.getD 0 undef=U O (d1:Int))/\(2<=k->us.getD 1 undef=U O (d2:Int)))/\Rp.Fz (λ_=>True) 4
 [fun us W=>us=[]/\W.ownsRow w.heap.size 5 1 vo (N o) (Uz0 (Iy o))/\Bw w.heap.size w W,
  λus W=>us=[U O (d1:Int)]/\W.ownsRow w.heap.size 5 1 vo (N o) (Uz0 (Iy o))/\Bw w.heap.size w W,
  λus W=>us=[U O (d1:Int),U O (d2:Int)]/\W.ownsRow w.heap.size 5 1 vo (N o) (Uz0 (Iy o))/\Bw w.heap.size w W,
  λus W=>∃g,us=[U O (d1:Int),U O (d2:Int),S (some ⟨g,0,none⟩) 1 1]/\W.ownsRow w.heap.size 5 1 vo (N o) (Uz0 (Iy o))/\Bw w.heap.size w W/\∀j u,([U .u8 m2]:List Vu)[j]?=some u->W.cell? ((⟨g,0,none⟩:Ad).add j)=some u,
  λus W=>∃x v',us=[U O (d1:Int),U O (d2:Int),x,v']/\W.ownsRow w.heap.size 5 1 v' (N o+1) (Uz0 (Iy o)++[U .u8 m2])/\Bw w.heap.size w W,
  fun us W=>∃x v',us=[U O (d1:Int),U O (d2:Int),x,v',v']/\W.ownsRow w.heap.size 5 1 v' (N o+1) (Uz0 (Iy o)++[U .u8 m2])/\Bw w.heap.size w W] k us W
abbrev Fy (w:J)(vo:Vu)(o:Wd)(bq:Bool)(k:Nat)(us:List Vu)(W:J):Prop:=Fcz0 (λW=>W.ownsRow w.heap.size 5 1 vo (N o) (Uz0 (Iy o))) [Xs (Sz0 (J4 o)),G bq] [λW=>Bw w.heap.size w W,λW=>Bw w.heap.size w W,λW=>Bw w.heap.size w W] k us W
theorem mtext_c (s:Wd)(w:J)(hl:N s<=1048576):Ec Q 75 #[Xs (Sz0 s)] w λe w'=>∃y,e=Z (.tuple #[Xs (Sz0 y),G (okS s)])/\Bw w.heap.size w w'/\(okS s=true->y=Qm s):=by
 have cb:(Sz0 s).size=N s:=QJ s;by_cases ay:N s<2
 . have A:=okS_head (.inl ay);(have bk:(N s:Int)<2:=by omega);rw[A];clear A ay;go_enter func75,ntmps75;go_wp2;(go_ret2);exact⟨[],rfl,bFz,λh=>by cases h⟩
 have bk:¬(N s:Int)<2:=by omega
 have aa:∀w,(Lf 9 (Xs (Sz0 s)) (U O 0)).run Q w=.ok (U .u8 ((s.getD 0 0).toNat:Int)) w:=λw=>Q4 s 0 w (by omega);by_cases E:s.getD 0 0≠34
 . have A:=okS_head (s:=s) (.inr E);have bh:((s.getD 0 0).toNat:Int)≠34:=λe=>E (UInt8.toNat_inj.1 (by have:(34:UInt8).toNat=34:=rfl;omega));have k:=Hm A;clear A E;generalize s.getD 0 0=c at *;go_enter func75,ntmps75;go_wp2;(go_ret2);exact⟨[],by rw[k.o];rfl,bFz,λh=>by rw[k.o]at h;cases h⟩
 rw[Decidable.not_not.1 E]at aa;have aw:∀w,(Lf 9 (Xs (Sz0 s)) (U O 0)).run Q w=.ok (U .u8 34) w:=aa;clear E aa;have b7:IntKind.i64.wrap ((N s:Int)-1)=(N s:Int)-1:=by rw[Kw];omega
 go_enter func75,ntmps75;go_upto_region 5 with fail
 clear aw;go_loopw [4,5] (λvo vi wr=>∃(i:Nat) (o:Wd),1<=i/\i+1<=N s/\N o<=i/\vi=U O (i:Int)/\wr.ownsRow w.heap.size 5 1 vo (N o) (Uz0 (Iy o))/\QI s i o/\Bw w.heap.size w wr) (λ_ vi _=>N s-(intOf vi).toNat)
 case atStart=>
  refine⟨1,[],by omega,by omega,by simp,rfl,?_,QI.start s,?_⟩
  . first
      |exact⟨by simp,.inl ⟨rfl,rfl⟩⟩
      |exact⟨by simp,.inr ⟨w.heap.size,0,#[],rfl,lRz,Array.getElem?_push_size,lRz,by decide,rfl,rfl⟩⟩
  first
    |exact bFz
    |exact bFz.alloc lRz _
 obtain⟨i,o,ce,cd,cc,rfl,n,z,b⟩:=hrel;have HO:=Hm n;have HB:=Hm b;have aj:Hid (N o<=1048576):=by show _<=_;omega
 by_cases q:i+1<N s
 . (have b8:(i:Int)<(N s:Int)-1:=by omega);have t:∀w,(Lf 9 (Xs (Sz0 s)) (U O (i:Int))).run Q w=.ok (U .u8 ((s.getD i 0).toNat:Int)) w:=λw=>Q4 s i w (by omega);by_cases g:s.getD i 0=92
   . (have Y:∀w,(Lf 9 (Xs (Sz0 s)) (U O (i:Int))).run Q w=.ok (U .u8 92) w:=by rw[g]at t;exact t);(have ab:IntKind.i64.wrap ((i:Int)+2)=((i+2:Nat):Int):=by rw[Kw];omega);(have ac:IntKind.i64.wrap ((i:Int)+1)=((i+1:Nat):Int):=by rw[Kw];omega);by_cases h3:i+3<N s
     . obtain⟨j1,C⟩:∃j:Int,j=((i+1:Nat):Int):=⟨_,rfl⟩;obtain⟨j2,B⟩:∃j:Int,j=((i+2:Nat):Int):=⟨_,rfl⟩;(have af:¬(N s:Int)-1<=j2:=by omega);(have av:∀w,(Lf 9 (Xs (Sz0 s)) (U O j1)).run Q w=.ok (U .u8 ((s.getD (i+1) 0).toNat:Int)) w:=λw=>by rw[C];exact Q4 s (i+1) w (by omega));(have au:∀w,(Lf 9 (Xs (Sz0 s)) (U O j2)).run Q w=.ok (U .u8 ((s.getD (i+2) 0).toNat:Int)) w:=λw=>by rw[B];exact Q4 s (i+2) w (by omega));rw[<- C]at ac;rw[<- B]at ab;have R:=Hm (snib_c (s.getD (i+1) 0) wr);have K2:=Hm (snib_c (s.getD (i+2) 0) wr);rcases hn1:nib (s.getD (i+1) 0)with _|H
       . have k:=Hm (z.esc_no q g (.inr (.inl hn1)));rw[nibI_none hn1]at R;clear n z b t g h3 C B hn1 K2;generalize s.getD (i+1) 0=c1 at *;generalize s.getD (i+2) 0=c2 at *;(go_wp2_with fail);refine R.o.mono ?_;rintro e X ⟨rfl,rfl⟩;clear R;go_wp2;(go_ret2);exact⟨[],by rw[k.o];rfl,HB.o,λh=>by rw[k.o]at h;cases h⟩
       rcases hn2:nib (s.getD (i+2) 0)with _|d2
       . have k:=Hm (z.esc_no q g (.inr (.inr hn2)));rw[Xd hn1]at R;rw[nibI_none hn2]at K2;(have bl:¬(H:Int)<0:=by omega);clear n z b t g h3 C B hn1 hn2;generalize s.getD (i+1) 0=c1 at *;generalize s.getD (i+2) 0=c2 at *;(go_wp2_with fail);refine R.o.mono ?_;rintro e X ⟨rfl,rfl⟩;clear R;(go_wp2_with fail);refine K2.o.mono ?_;rintro e X ⟨rfl,rfl⟩;clear K2;go_wp2;(go_ret2);exact⟨[],by rw[k.o];rfl,HB.o,λh=>by rw[k.o]at h;cases h⟩
       have bv:=Hm (z.esc_ok q g hn1 hn2);have g1:=(nib_some hn1).1;have g2:=(nib_some hn2).1;have b3:=Hm hn1;have b2:=Hm hn2;rw[Xd hn1]at R;rw[Xd hn2]at K2;(have bl:¬(H:Int)<0:=by omega);obtain⟨m1,bj⟩:∃m:Int,m=((16*H:Nat):Int):=⟨_,rfl⟩;obtain⟨u,ae⟩:∃m:Int,m=((16*H+d2:Nat):Int):=⟨_,rfl⟩;have HW:Hid (IntKind.i64.wrap ((i:Int)+1)=j1/\IntKind.i64.wrap ((i:Int)+2)=j2/\IntKind.i64.wrap (16*(H:Int))=m1/\IntKind.i64.wrap (m1+(d2:Int))=u/\IntKind.u8.wrap u=u):=⟨ac,ab,by rw[Kw];omega,by rw[Kw];omega,by rw[IntKind.wrap_u8];omega⟩;(have bu:Hid (IntKind.i64.wrap ((i:Int)+3)=((i+3:Nat):Int)):=by show _=_;rw[Kw];omega);have HD:Hid (16*H+d2<256/\u=((16*H+d2:Nat):Int)):=⟨by omega,ae⟩;have bt:=Hm av;have bs:=Hm au;obtain⟨oa,oc,rfl⟩:=Xj n;clear n z b t g C B hn1 hn2 bj ae;generalize s.getD (i+1) 0=c1 at *;generalize s.getD (i+2) 0=c2 at *;(go_wp2_with fail);refine R.o.mono ?_;rintro e X ⟨rfl,rfl⟩;clear R;(go_wp2_with fail);refine K2.o.mono ?_;rintro e X ⟨rfl,rfl⟩;clear K2;(go_upto_region 9 with fail);clear av au ac ab af Y;refine Rp.rg (nN:=79) [(S oa (N o) oc),Xs (Sz0 s),U O (i:Int),U O j1,U .u8 (c1.toNat:Int),undef,U O m1,Xs (Sz0 s),U O (i:Int),U O j2,U .u8 (c2.toNat:Int),undef,U O u,U .u8 u,undef,undef,undef] [5,11,14,15,16] 4 (Fx w (S oa (N o) oc) o H d2 u) ?_ ?_ ?_
       . exact⟨⟨λh=>by omega,λh=>by omega⟩,λ_=>trivial,rfl,HO.o.drew,HB.o.drew⟩
       . refine Rp.os 4 ((S oa (N o) oc)) ?_;refine Rp.os 0 (Xs (Sz0 s)) ?_;refine Rp.os 5 (U O (i:Int)) ?_;refine Rp.Qj.c (by kernel_rfl) (λa W kk l Kc f hk b hu d hK=>?_) ?_
         . have cy:=Rp.va f 2 48;have hw:=HW.o.1;refine Rp.QA (U O j1) (Rp.Qd rfl) rfl ?_ hK;clear f hK d hu b;go_simp;try rfl
         refine Rp.Qj.c (by kernel_rfl) (λa W kk l Kc f hk b hu d hK=>?_) ?_
         . have cz:=Rp.va f 1 47;have cx:=Rp.va f 3 49;have hx:=bt.o;refine Rp.QA (U .u8 (c1.toNat:Int)) (Rp.Qd rfl) rfl ?_ hK;clear f hK d hu b;go_simp;try rfl
         refine Rp.hc 0 (λa W l f hu d=>?_) ?_
         . have cw:=Rp.va f 4 50;obtain⟨-,-,rfl,n,b⟩:=d;refine⟨139,#[U .u8 (c1.toNat:Int)],?_,?_⟩
           . clear f hu;go_simp;try rfl
           refine(snib_c c1 W).mono ?_;rintro e X ⟨rfl,rfl⟩;rw[Xd b3.o];exact⟨_,rfl,⟨λ_=>rfl,λh=>by omega⟩,λ_=>trivial,rfl,n,b⟩
         refine Rp.Qj.c (by kernel_rfl) (λa W kk l Kc f hk b hu d hK=>?_) ?_
         . have a4:=Rp.cx_us hu 0 51 (by kernel_rfl) (b 0 (of_decide_eq_true (by kernel_rfl)) (by kernel_rfl));replace a4:=a4.trans (d.1.1 (b 0 (of_decide_eq_true (by kernel_rfl)) (by kernel_rfl)));have hw:=HW.o.2.2.1;refine Rp.QA (U O m1) (Rp.Qd rfl) rfl ?_ hK;clear f hK d hu b;go_simp;try rfl
         refine Rp.os 0 (Xs (Sz0 s)) ?_;refine Rp.os 5 (U O (i:Int)) ?_;refine Rp.Qj.c (by kernel_rfl) (λa W kk l Kc f hk b hu d hK=>?_) ?_
         . have cr:=Rp.va f 8 54;have hw:=HW.o.2.1;refine Rp.QA (U O j2) (Rp.Qd rfl) rfl ?_ hK;clear f hK d hu b;go_simp;try rfl
         refine Rp.Qj.c (by kernel_rfl) (λa W kk l Kc f hk b hu d hK=>?_) ?_
         . have cs:=Rp.va f 7 53;have cp:=Rp.va f 9 55;have hx:=bs.o;refine Rp.QA (U .u8 (c2.toNat:Int)) (Rp.Qd rfl) rfl ?_ hK;clear f hK d hu b;go_simp;try rfl
         refine Rp.hc 1 (λa W l f hu d=>?_) ?_
         . have co:=Rp.va f 10 56;obtain⟨-,-,rfl,n,b⟩:=d;refine⟨139,#[U .u8 (c2.toNat:Int)],?_,?_⟩
           . clear f hu;go_simp;try rfl
           refine(snib_c c2 W).mono ?_;rintro e X ⟨rfl,rfl⟩;rw[Xd b2.o];exact⟨_,rfl,⟨λ_=>rfl,λ_=>rfl⟩,λ_=>trivial,rfl,n,b⟩
         refine Rp.Qj.c (by kernel_rfl) (λa W kk l Kc f hk b hu d hK=>?_) ?_
         . have ct:=Rp.va f 6 52;have a3:=Rp.cx_us hu 1 57 (by kernel_rfl) (b 1 (of_decide_eq_true (by kernel_rfl)) (by kernel_rfl));replace a3:=a3.trans (d.1.2 (b 1 (of_decide_eq_true (by kernel_rfl)) (by kernel_rfl)));have hw:=HW.o.2.2.2.1;refine Rp.QA (U O u) (Rp.Qd rfl) rfl ?_ hK;clear f hK d hu b;go_simp;try rfl
         refine Rp.Qj.c (by kernel_rfl) (λa W kk l Kc f hk b hu d hK=>?_) ?_
         . have cn:=Rp.va f 12 58;have hw:=HW.o.2.2.2.2;refine Rp.QA (U .u8 u) (Rp.Qd rfl) rfl ?_ hK;clear f hK d hu b;go_simp;try rfl
         refine Rp.hv 2 (λa W l f hu d=>?_) ?_
         . have cm:=Rp.va f 13 59;obtain⟨-,-,rfl,n,b⟩:=d;refine⟨(S (some ⟨W.heap.size,0,none⟩) 1 1),W.alloc (Fc #[U .u8 u] 5),?_,?_⟩
           . clear f hu;go_simp;try rfl
           exact⟨⟨λ_=>rfl,λ_=>rfl⟩,λ_=>trivial,W.heap.size,rfl,n.alloc _,b.alloc b.size _,Qq _ _ _⟩
         refine Rp.ha 3 (λa W l f hu d Kc hK=>?_) ?_
         . have br:=Rp.va f 0 46;have bp:=Rp.vu hu 2 60;obtain⟨-,-,g1,rfl,n,b,bn⟩:=d;refine Rp.ap (news:=[U .u8 u]) br n bp bn (oneB _) info5 (by have:=aj.o;unfold maxLen;omega) (by have:=aj.o;omega) b.size (λv' w' h1 h2 h3=>?_) hK;exact⟨⟨λ_=>rfl,λ_=>rfl⟩,λ_=>trivial,_,v',rfl,h1,b.grown h2 b.size (λj hj=>(n.lt j hj).1)⟩
         refine Rp.hv 4 (λa W l f hu d=>?_) ?_
         . have cl:=Rp.vu hu 3 61;obtain⟨-,-,x,v',rfl,n,b⟩:=d;refine⟨v',W,?_,?_⟩
           . clear f hu;go_simp;try rfl
           exact⟨⟨λ_=>rfl,λ_=>rfl⟩,λh=>by omega,x,v',rfl,n,b⟩
         exact Rp.Qj.nil
       intro l a W f;have ea:=Rp.ca f [46,47,48,49,50,51,52,53,54,55,56,57,58,59,60,61,4];have d:=f.ph;simp only[Km,Tq,Rp.cv f 0 46,Rp.cv f 1 47,Rp.cv f 2 48,Rp.cv f 3 49,Rp.cv f 4 50,Rp.cu f 0 51,Rp.cv f 6 52,Rp.cv f 7 53,Rp.cv f 8 54,Rp.cv f 9 55,Rp.cv f 10 56,Rp.cu f 1 57,Rp.cv f 12 58,Rp.cv f 13 59,Rp.cu f 2 60,Rp.cu f 3 61,Rp.cu f 4 4]at ea;clear f;subst ea;obtain⟨-,-,x,v',rfl,ad,az⟩:=d;have V:=Hm ad;have b6:=Hm az;obtain⟨bc,bb,rfl⟩:=Xj ad;clear ad az;have b9:=bu.o;go_simp;go_wp2;refine⟨⟨i+3,o++[UInt8.ofNat (16*H+d2)],by omega,by omega,by simp;omega,(by first|rfl|(congr 1;omega)),?_,bv.o,b6.o⟩,by simp[intOf];omega⟩;have h1:=V.o;(have e:(Uz0 (Iy o)++[Value.int .u8 u])=Uz0 (Iy (o++[UInt8.ofNat (16*H+d2)])):=by obtain⟨q,ae⟩:=HD.o;simp[Iy,Uz0];omega);rw[e]at h1;simpa using h1
     have k:=Hm (z.esc_no q g (.inl h3));(have af:(N s:Int)-1<=((i+2:Nat):Int):=by omega);clear n z b t g h3;go_wp2;(go_ret2);exact⟨[],by rw[k.o];rfl,HB.o,λh=>by rw[k.o]at h;cases h⟩
   have bh:¬((s.getD i 0).toNat:Int)=92:=λe=>g (UInt8.toNat_inj.1 (by have:(92:UInt8).toNat=92:=rfl;omega));have bw:=Hm (z.pl q g);have bo:=HB.o.size;clear z b g;generalize s.getD i 0=c at *;(go_wp2_with (at_builtin;refine wal info5 (n.alloc _) [U .u8 (c.toNat:Int)] (cell_one_new _ _ _) (oneB _) ?_;intro v' w2 p D bg ax;have V:=Hm (And.intro p D);obtain⟨bc,bb,rfl⟩:=Xj p;clear p D bg ax));refine⟨⟨i+1,o++[c],by omega,by omega,by simp;omega,(by first|rfl|(congr 1;omega)),?_,bw.o,(HB.o.alloc bo _ |>.grown V.o.2 (by simp;omega) (λj hj=>(HO.o.lt j hj).1))⟩,by simp[intOf];omega⟩;simpa using V.o.1
 have af:¬(i:Int)<(N s:Int)-1:=by omega
 have a6:=Hm (z.fin q);obtain⟨L,I,rfl⟩:=Xj n;obtain⟨F,M⟩:∃F,((Sz0 (J4 o)).toList==(Sz0 s).toList)=F:=⟨_,rfl⟩;have b4:=Hm M;have b5:Hid (okS s=F):=by show _=_;rw[a6.o.1,<- M,Xt]
 clear n b z M;go_upto_region 13 with fail
 refine Rp.rg (nN:=79) [(S L (N o) I),Xs (Sz0 o),(S L (N o) I),Xs (Sz0 o),undef,Xs (Sz0 s),undef,Xs (Sz0 o),G F] [4,6] 2 (Fy w (S L (N o) I) o F) ?_ ?_ ?_
 . exact⟨HO.o.drew,rfl,HB.o.drew⟩
 . refine Rp.os 4 ((S L (N o) I)) ?_;refine Rp.Qj.c (by kernel_rfl) (λa W kk l Kc f hk b hu d hK=>?_) ?_
   . have ck:=Rp.va f 0 72;have bm:=XF d.1;refine Rp.QA (Xs (Sz0 o)) (Rp.Qd rfl) rfl ?_ hK;clear f hK d hu b;go_simp;try rfl
   refine Rp.os 4 ((S L (N o) I)) ?_;refine Rp.Qj.c (by kernel_rfl) (λa W kk l Kc f hk b hu d hK=>?_) ?_
   . have cj:=Rp.va f 2 74;have bm:=XF d.1;refine Rp.QA (Xs (Sz0 o)) (Rp.Qd rfl) rfl ?_ hK;clear f hK d hu b;go_simp;try rfl
   refine Rp.hc 0 (λa W l f hu d=>?_) ?_
   . have ci:=Rp.va f 3 75;obtain⟨ag,rfl,b⟩:=d;refine⟨140,#[Xs (Sz0 o)],?_,?_⟩
     . clear f hu;go_simp;try rfl
     refine(mstr_c o W (by have:=aj.o;omega)).mono ?_;rintro e X ⟨rfl,a0⟩;exact⟨_,rfl,(Own.one (r:=⟨5,1,N o,S L (N o) I,Uz0 (Iy o)⟩) ag |>.keep a0).head,rfl,b.trans (a0.mono b.size)⟩
   refine Rp.os 0 (Xs (Sz0 s)) ?_;refine Rp.Qj.h 1 (by kernel_rfl) (λa W l Kc f hu d hK=>?_) ?_
   . have aq:=Qv (show Fy w (S L (N o) I) o F 1 l W from d) 0 (by decide);have ch:a.tmps[76]?.getD undef=Xs (Sz0 (J4 o)):=(Rp.vu hu 0 76).trans aq;clear aq;have cg:=Rp.va f 5 77;obtain⟨ag,rfl,b⟩:=d;have M:=b4.o;refine Rp.Jv (Gz0:=λv W'=>Fy w (S L (N o) I) o F 2 ([_]++[v]) W') (G F) (Rp.Qd rfl) (W':=W) ?_ ⟨ag,rfl,b⟩ hK;clear f hK hu;go_simp;try rfl
   refine Rp.o1 1 73 ?_;refine Rp.Qj.c (by kernel_rfl) (λa W kk l Kc f hk b hu d hK=>?_) ?_
   . have ao:=Qv (show Fy w (S L (N o) I) o F kk l W from d) 1 (b 1 (of_decide_eq_true (by kernel_rfl)) (by kernel_rfl));have cf:a.tmps[78]?.getD undef=G F:=(Rp.cx_us hu 1 78 (by kernel_rfl) (b 1 (of_decide_eq_true (by kernel_rfl)) (by kernel_rfl))).trans ao;clear ao;refine Rp.QA (G F) (Rp.Qd rfl) rfl ?_ hK;clear f hK d hu b;go_simp;try rfl
   exact Rp.Qj.nil
 intro l a W f;have ea:=Rp.ca f [72,73,74,75,76,77,78,2,3];have d:=f.ph;simp only[Km,Tq,Rp.cv f 0 72,Rp.cv f 1 73,Rp.cv f 2 74,Rp.cv f 3 75,Rp.cu f 0 76,Rp.cv f 5 77,Rp.cu f 1 78,Rp.cv f 7 2,Rp.cv f 8 3]at ea;clear f;subst ea;obtain⟨-,rfl,b⟩:=d;go_simp;go_wp2;go_ret2
 exact⟨o,by rw[b5.o];rfl,b,a6.o.2⟩
end YtejkdbnngphgaaaGreatDoor.Yz
namespace YtejkdbnngphgaaaGreatDoor.Yz
open Go.RowKit Go.Sort
theorem kd_c (w:J):(k:Nat)->(a:k<4)->Ec Q 184 #[U O (k:Int)] w λe w'=>e=Z (Xs (Sz0 (knL.getD k ([],0)).1))/\Bw w.heap.size w w'
 |0,_=>by
  go_enter func184,ntmps184
  go_wp2
  go_ret
  exact⟨rfl,bFz.alloc lRz _⟩
 |1,_=>by
  go_enter func184,ntmps184
  go_wp2
  go_ret
  exact⟨rfl,bFz.alloc lRz _⟩
 |2,_=>by
  go_enter func184,ntmps184
  go_wp2
  go_ret
  exact⟨rfl,bFz.alloc lRz _⟩
 |3,_=>by
  go_enter func184,ntmps184
  go_wp2
  go_ret
  exact⟨rfl,bFz.alloc lRz _⟩
def kdM (s:Wd):Int:=(lkL knL s).getD (-1)
theorem kdM_ok {s:Wd}(h:okK s=true):kdM s=kdN s:=by
 unfold okK at h;obtain⟨y,a⟩:=Option.isSome_iff_exists.1 h;simp[kdM,kdN,a]
theorem kdM_no {s:Wd}(h:okK s=false):kdM s=-1:=by
 unfold okK at h
 have:lkL knL s=none:=by cases hh:lkL knL s with
  |none=>rfl
  |some y=>rw[hh]at h;cases h
 simp[kdM,this]
theorem S_eq {a b:Wd}(h:a=b):((Sz0 a).toList==(Sz0 b).toList)=true:=by rw[Xt];simp[h]
theorem S_ne {a b:Wd}(h:a≠b):((Sz0 a).toList==(Sz0 b).toList)=false:=by rw[Xt];simp[h]
theorem mkind_c (s:Wd)(w:J):Ec Q 137 #[Xs (Sz0 s)] w λe w'=>e=Z (U O (kdM s))/\Bw w.heap.size w w':=by
 go_enter func137,ntmps137;go_upto_region 2 with fail
 go_loopw [3] (λi wr=>∃k:Nat,k<=4/\i=U O k/\(∀i,i<k->(knL.getD i ([],0)).1≠s)/\Bw w.heap.size w wr) (λi _=>4-(intOf i).toNat)
 case atStart=>exact⟨0,by omega,rfl,λi hi=>by omega,bFz⟩
 obtain⟨k,z,rfl,c,r⟩:=hrel;have l:=Hm r;have q:=Hm c;clear r c;by_cases j:k<4
 . (have u:(k:Int)<4:=by omega);have K:=Hm (kd_c wr k j);obtain⟨n,d⟩:∃n,n=knL.getD k ([],0):=⟨_,rfl⟩;have b:=Hm d;rw[<- d]at K;clear d;by_cases g:n.1=s
   . have p:=S_eq g;have m:=Hm (lkL_at j q.o (by rw[<- b.o];exact g));rw[<- b.o]at m;(have v:Hid ((k:Int)=kdM s):=by show _=_;unfold kdM;rw[m.o,b.o];rcases(by omega:k=0\/k=1\/k=2\/k=3)with h|h|h|h<;>subst h<;>rfl);clear g;(go_wp2_with fail);refine K.o.mono ?_;rintro e t ⟨rfl,a⟩;have f:=Hm a;clear a;go_wp2;go_ret;exact⟨by rw[v.o];rfl,l.o.trans (f.o.mono l.o.size)⟩
   have p:=S_ne g;have y:=Hm g;clear g;(go_wp2_with fail);refine K.o.mono ?_;rintro e t ⟨rfl,a⟩;have f:=Hm a;clear a;go_wp2;go_roundw
   case rel=>exact⟨k+1,by omega,by go_num,fun i hi=>by
    rcases(by omega:i<k\/i=k)with h|h
    . exact q.o i h
    . subst h;rw[<- b.o];exact y.o,l.o.trans (f.o.mono l.o.size)⟩
   case measure=>simp[intOf];omega
 have e:k=4:=by omega
 subst e;have m:=Hm (lkL_no (L:=knL) q.o);go_wp2;go_ret;exact⟨by unfold kdM;rw[m.o];rfl,l.o⟩
variable [PK]
theorem mname_c (p:Nat)(s:Wd)(bd:Bool)(w:J)(h:Pb w p bd)(hl:N s<=1048576):Ec Q 136 #[ptr p 0,Xs (Sz0 s)] w λe w'=>∃y,e=Z (Xs (Sz0 y))/\Pb w' p (bd || !JA s)/\w.grownBy w' (some p)/\(JA s=true->y=Qm s):=by
 have K:=Hm (mtext_c s w hl);have v:=Hm h;clear h;cases hok:okS s with
 |false =>
  rw[hok]at K;have a:Hid (JA s=false):=by show _=_;unfold JA;rw[hok];rfl
  clear hok
  go_enter func136,ntmps136
  go_wp2_with fail
  refine K.o.mono ?_
  rintro e q ⟨y,rfl,g,-⟩;have n:=Hm (QG p bd q (v.o.keep g));have j:=Hm g;clear g
  go_wp2_with fail
  refine n.o.mono ?_
  rintro e r ⟨rfl,k,l⟩;have c:=Hm (And.intro k l);clear k l n
  go_wp2
  go_ret
  exact⟨y,rfl,by rw[a.o];simpa using c.o.1,Ql (Qu j.o) c.o.2,λe=>absurd e (by rw[a.o];decide)⟩
 |true =>
  rw[hok]at K;have t:=Xm s;have m:=Hm (λW=>sname_ok (Sz0 (Qm s)) W (by rw[QJ];omega));have a:Hid (JA s=nameB (Sz0 (Qm s))):=by show _=_;unfold JA;rw[hok];rfl
  clear hok t
  go_enter func136,ntmps136
  go_wp2_with fail
  refine K.o.mono ?_
  rintro e q ⟨y,rfl,g,z⟩;have u:=Hm (z trivial);rw[<- u.o]at m a;clear z;have j:=Hm g;clear g
  cases hnb:nameB (Sz0 y)with
  |false =>
   rw[hnb]at m a;clear hnb
   go_wp2_with fail
   refine(m.o q).mono ?_
   rintro e r ⟨rfl,b⟩;have f:=j.o.trans (b.mono j.o.size);have n:=Hm (QG p bd r (v.o.keep f));have d:=Hm f;clear b f
   go_wp2_with fail
   refine n.o.mono ?_
   rintro e A ⟨rfl,k,l⟩;have c:=Hm (And.intro k l);clear k l n
   go_wp2
   go_ret
   exact⟨y,rfl,by rw[a.o];simpa using c.o.1,Ql (Qu d.o) c.o.2,λ_=>u.o⟩
  |true =>
   rw[hnb]at m a;clear hnb
   go_wp2_with fail
   refine(m.o q).mono ?_
   rintro e r ⟨rfl,b⟩;have d:=Hm (j.o.trans (b.mono j.o.size));clear b
   go_wp2
   go_ret
   exact⟨y,rfl,by rw[a.o];simpa using v.o.keep d.o,Qu d.o,λ_=>u.o⟩
end YtejkdbnngphgaaaGreatDoor.Yz
namespace YtejkdbnngphgaaaGreatDoor.Yz
open Go.RowKit Go.Sort
variable {w:J}{ws:List Wd}{p:Nat}
variable [PK]
structure Lb (w:J)(p:Nat)(a:Option Ad)(ws:List Wd)(bd:Bool)(rs:List Qb)(V:J):Prop where
 own:Own w.heap.size V rs
 pb:Pb V p bd
 g:w.grownBy V (some p)
 wv:Wv V a p ws
 hi:PK.hi<=w.heap.size/\p<PK.hi
section
variable {w V V':J}{p:Nat}{a:Option Ad}{ws:List Wd}{bd bd':Bool}{rs rs':List Qb}
theorem Lb.start (h:Pb w p bd)(b:Wv w a p ws):Lb w p a ws bd [] w:=⟨Own.nil _ _,h,World.grownBy.refl _ _,b,h.lt2⟩
theorem Lb.mo (h:Lb w p a ws bd rs V):Mo w.heap.size V rs V:=⟨h.own,bFz,h.g.size⟩
theorem Lb.ge (h:Lb w p a ws bd rs V){k:Nat}(b:k∈blk rs):PK.hi<=k/\p<k:=by have:=(h.own.lt b).1;have:=h.hi;omega
theorem Lb.call (h:Lb w p a ws bd rs V)(hp:Pb V' p bd')(hg:V.grownBy V' (some p)):Lb w p a ws bd' rs V' :=
 ⟨h.own.grown hg (λk e hk=>by cases e;have:=(h.ge hk).2;omega),hp,Ql h.g hg,h.wv.grown hg h.pb.lt2,h.hi⟩
theorem Lb.keep (h:Lb w p a ws bd rs V)(b:Bw V.heap.size V V'):Lb w p a ws bd rs V' :=
 ⟨h.own.keep b,h.pb.keep b,Ql h.g (Qu b),h.wv.keep b h.pb.lt2,h.hi⟩
theorem Lb.perm (h:Lb w p a ws bd rs V)(q:rs.Perm rs'):Lb w p a ws bd rs' V:=⟨h.own.perm q,h.pb,h.g,h.wv,h.hi⟩
theorem Lb.box {cur:Array Vu}(h:Lb w p a ws bd rs V)(e n:Nat)(c:cur.size=n):Lb w p a ws bd (Yz.box e n V.heap.size cur.toList::rs) (V.alloc (Fc cur e)):=by
 have b:=h.keep (V':=V.alloc (Fc cur e)) (bFz.alloc lRz _);exact⟨(h.mo.box e n c).own,b.pb,b.g,b.wv,b.hi⟩
theorem Lb.b0 {t n g:Nat}{cs:List Vu}(h:Lb w p a ws bd (Yz.box t n g cs::rs) V)(j:Nat){u:Vu}(b:cs[j]?=some u:=by exact rfl)(hj:j<n:=by first|decide|omega):V.cell? ⟨g,j,none⟩=some u/\V.frozen? ⟨g,j,none⟩=false:=h.mo.b0 j b hj
theorem Lb.set {t n g c sz:Nat}{cs:List Vu}(h:Lb w p a ws bd (⟨t,sz,n,S (some ⟨g,0,none⟩) n c,cs⟩::rs) V)(j:Nat)(u:Vu):Lb w p a ws bd (⟨t,sz,n,S (some ⟨g,0,none⟩) n c,cs.set j u⟩::rs) (V.setCell ⟨g,j,none⟩ u):=by
 have hm:g∈blk (⟨t,sz,n,S (some ⟨g,0,none⟩) n c,cs⟩::rs):=QF.2 ⟨_,mS ..,rfl⟩;have b:=h.ge hm;have d:=h.own.lt hm;exact⟨(h.mo.set j u).own,h.pb.far b.2,JI h.g d.1 _ _,h.wv.far b.1,h.hi⟩
theorem Lb.wd {b o:Nat}(h:Lb w p (some ⟨b,o,none⟩) ws bd rs V)(i:Nat){x:Wd}(hi:ws[i]?=some x):V.cell? ⟨b,o+i,none⟩=some (Xs (Sz0 x)):=by
 rcases h.wv with e|⟨d,c,e,-,hc⟩
 . subst e;simp at hi
 cases e;have a:i<N ws:=by
  rcases Pv i (N ws)with h|h
  . exact h
  rw[Hh h]at hi;cases hi
 rw[hc i a];simp[Ty,hi]
end
theorem Wv.at {a:Option Ad}(h:Wv w a p ws)(c:ws≠[]):∃b o,a=some ⟨b,o,none⟩:=by
 rcases h with h|⟨b,o,e,-⟩
 . exact absurd h c
 exact⟨b,o,e⟩
theorem Wv.drop {b o c:Nat}(h:Wv w (some ⟨b,o,none⟩) p ws)(n:Nat)(k:n<=N ws)(hc:N ws<=c):Wv w (if c=n then some ⟨b,o,none⟩else some ⟨b,o+n,none⟩) p (ws.drop n):=by
 by_cases a:ws.drop n=[]
 . exact .inl a
 have f:n<N ws:=by have:=List.length_pos_iff.2 a;simp at this;omega
 rcases h with e|⟨l,j,e,g,d⟩
 . subst e;simp at a
 cases e;rw[if_neg (by omega)];refine .inr ⟨b,o+n,rfl,g,λi hi=>?_⟩;have:=d (n+i) (by simp at hi;omega);rw[show o+n+i=o+(n+i) by omega,this];simp[Ty,List.getElem?_drop]
theorem Wv.take {a:Option Ad}(h:Wv w a p ws)(n:Nat):Wv w a p (ws.take n):=by
 rcases h with e|⟨g,c,e,f,d⟩
 . exact .inl (by rw[e];simp)
 refine .inr ⟨g,c,e,f,λi hi=>?_⟩;have b:i<n/\i<N ws:=by simp only[List.length_take]at hi;omega
 rw[d i b.2];simp[Ty,Rg,b.1]
def MsP {R:Type}(F:List Wd->Option R)(kv:R->Vu)(p:Nat)(ws:List Wd)(bd:Bool)(w:J)(e:Ending)(w':J):Prop:=∃x,e=Z (kv x)/\Pb w' p (bd || (F ws).isNone)/\w.grownBy w' (some p)/\∀y,bd=false->F ws=some y->x=y
theorem mu32_c (p:Nat)(a:Option Ad)(c:Nat)(ws:List Wd)(bd:Bool)(w:J)(h:Pb w p bd)(q:Wv w a p ws)(hl:∀x∈ws,N x<=1048576):Ec Q 69 #[ptr p 0,S a (N ws) c] w (MsP uF (U O ·) p ws bd w):=by
 refine(sru_c p a c ws bd w h q (λx hx=>Kf (hl x hx) (by decide))).mono ?_;rintro e r ⟨x,k,rfl,n,o,l,m⟩;have g:k=(bd || (uF ws).isNone):=by
  cases hb:bd || (uF ws).isNone with
  |false =>
   simp at hb
   obtain⟨rfl,d⟩:=hb
   refine m rfl ?_
   unfold uF if1 at d
   split at d
   · rename_i s
     split at d
     · rename_i f
       have b:okN 0 4294967295 s=true:=f
       have:∃v,okP s=some v:=by
        cases hv:okP s with
        |none=>rw[okN,hv]at b;cases b
        |some v=>exact⟨v,rfl⟩
       obtain⟨v,hv⟩:=this
       exact⟨s,v,rfl,b,hv⟩
     . cases d
   . cases d
  |true =>
   cases k with
   |true=>rfl
   |false =>
    obtain⟨rfl,s,rfl,f,hv⟩:=l rfl;have b:okU s=true:=f
    simp[uF,if1,b]at hb
 refine⟨x,rfl,by rw[<- g];exact n,o,λy hbd hy=>?_⟩;unfold uF if1 at hy;split at hy
 . rename_i s;split at hy
   . rename_i f;cases hy;(have j:k=false:=by rw[g,hbd];simp[uF,if1,f]);obtain⟨-,t,e,-,hv⟩:=l j;cases e;simp[nv,hv]
   cases hy
 cases hy
end YtejkdbnngphgaaaGreatDoor.Yz
namespace YtejkdbnngphgaaaGreatDoor.Yz
open Go.RowKit Go.Sort
variable {L:List (List Qb)}{cs:List Vu}{n g:Nat}{u:Vu}
abbrev rB (p:Nat)(cells:List Vu):Qb:=box 51 20 p cells
theorem set_self {cells:List Vu}{i:Nat}(h:cells[i]?=some u):cells.set i u=cells:=by
 refine List.ext_getElem? λj=>?_;rw[List.getElem?_set];split
 · rename_i e;subst e;split
   · exact h.symm
   rename_i a;rw[Hh (by omega)]at h;cases h
 rfl
theorem row_up {W:J}{B B' T sz c:Nat}(h:W.ownsRow B T sz (S (some ⟨g,0,none⟩) n c) n cs)(d:B'<=g):W.ownsRow B' T sz (S (some ⟨g,0,none⟩) n c) n cs:=by
 refine⟨h.1,?_⟩;rcases h.2 with ⟨f,_⟩|⟨l,j,a,hv,k,b⟩
 . cases f
 cases hv;exact .inr ⟨g,c,a,rfl,d,b⟩
structure Mq (D:Nat)(w0:J)(zs:List (Nat × Obj))(rs:List Qb)(V:J):Prop where
 mo:Mo D w0 rs V
 z:∀q∈zs,V.heap[q.1]?=some q.2/\D<=q.1/\q.1∉blk rs
section
variable {D:Nat}{w0 V W:J}{zs zs':List (Nat × Obj)}{rs rs' ns:List Qb}
theorem Mq.zlt (h:Mq D w0 zs rs V){q:Nat × Obj}(b:q∈zs):q.1<V.heap.size:=by
 have:=(h.z q b).1;rcases Pv q.1 V.heap.size with a|a
 . exact a
 rw[Array.getElem?_eq_none a]at this;cases this
theorem Mq.perm (h:Mq D w0 zs rs V)(p:rs.Perm rs'):Mq D w0 zs rs' V:=⟨h.mo.perm p,λq hq=>⟨(h.z q hq).1,(h.z q hq).2.1,λhk=>(h.z q hq).2.2 ((p.filterMap _).mem_iff.2 hk)⟩⟩
theorem Mq.keep (h:Mq D w0 zs rs V)(a:Bw V.heap.size V W):Mq D w0 zs rs W:=⟨h.mo.keep a,λq hq=>⟨(a.block q.1 (h.zlt hq)).trans (h.z q hq).1,(h.z q hq).2⟩⟩
theorem Mq.sub (h:Mq D w0 zs rs V)(hm:Mo D w0 rs' V)(a:∀k∈blk rs',k∈blk rs):Mq D w0 zs rs' V:=⟨hm,λq hq=>⟨(h.z q hq).1,(h.z q hq).2.1,λhk=>(h.z q hq).2.2 (a _ hk)⟩⟩
theorem Mq.tail {r:Qb}(h:Mq D w0 zs (r::rs) V):Mq D w0 zs rs V:=h.sub h.mo.tail (λk hk=>by obtain⟨x,hx,e⟩:=QF.1 hk;exact QF.2 ⟨x,mC hx,e⟩)
theorem Mq.left (h:Mq D w0 zs (rs++ns) V):Mq D w0 zs rs V:=h.sub ⟨h.mo.own.left,h.mo.b,h.mo.le⟩ (λk hk=>by rw[JD];exact mL hk)
theorem Mq.b0 {t:Nat}(h:Mq D w0 zs (box t n g cs::rs) V)(j:Nat)(a:cs[j]?=some u:=by exact rfl)(hj:j<n:=by first|decide|omega):V.cell? ⟨g,j,none⟩=some u/\V.frozen? ⟨g,j,none⟩=false:=h.mo.b0 j a hj
theorem Mq.bx {t:Nat}(h:Mq D w0 zs rs V)(hm:box t n g cs∈rs)(j:Nat)(a:cs[j]?=some u:=by exact rfl)(hj:j<n:=by first|decide|omega):V.cell? ⟨g,j,none⟩=some u/\V.frozen? ⟨g,j,none⟩=false:=h.mo.bx hm j a hj
theorem Mq.set {T sz c:Nat}(h:Mq D w0 zs (⟨T,sz,n,S (some ⟨g,0,none⟩) n c,cs⟩::rs) V)(j:Nat)(u:Vu):Mq D w0 zs (⟨T,sz,n,S (some ⟨g,0,none⟩) n c,cs.set j u⟩::rs) (V.setCell ⟨g,j,none⟩ u) :=
 ⟨h.mo.set j u,λq hq=>⟨(Below.heap_setCell _ _ _ _ (λe=>(h.z q hq).2.2 (by simp at e;rw[<- e];exact QF.2 ⟨_,mS ..,rfl⟩))).trans (h.z q hq).1,(h.z q hq).2⟩⟩
theorem Mq.push2 {b r r':Qb}(h:Mq D w0 zs (b::r::rs) V)(f:V.grownBy W r.v.ownBlock)(own:r'.Ok D W)(a:r'.v.ownBlock=r.v.ownBlock\/r'.v.ownBlock=some V.heap.size):Mq D w0 zs (b::r'::rs) W:=by
 have g:=(Kq r b rs);refine⟨((h.mo.perm g).push bFz f own a).perm (Kq _ _ _),λq hq=>?_⟩;have c:=h.z q hq;have d:=h.zlt hq;refine⟨(f.block q.1 d (λe=>c.2.2 (QF.2 ⟨r,by simp,e.symm⟩))).trans c.1,c.2.1,λhk=>?_⟩;obtain⟨x,hx,e⟩:=QF.1 hk;simp only[List.mem_cons]at hx;rcases hx with rfl|rfl|hx
 . exact c.2.2 (QF.2 ⟨_,by simp,e⟩)
 . rcases a with a|a
   . exact c.2.2 (QF.2 ⟨r,by simp,by rw[<- a];exact e⟩)
   rw[a]at e;have:=Option.some.inj e;omega
 exact c.2.2 (QF.2 ⟨x,by simp[hx],e⟩)
theorem Mq.le (h:Mq D w0 zs rs V):D<=V.heap.size:=h.mo.le
end
def Zb (zs:List (Nat × Obj))(v:Vu)(bs:List Int):Prop:=∃g cap cur fz,v=S (some ⟨g,0,none⟩) (N bs) cap/\(g,Fc cur 5 fz)∈zs/\∀j,j<N bs->cur[j]?=some (U .u8 (bs.getD j 0))
def RDatZ (zs:List (Nat × Obj))(x:Dat)(c:List Vu)(r:List Qb):Prop:=∃v vb,c=[v,vb]/\LI' x.off v r/\Zb zs vb x.bs
def RCusZ (zs:List (Nat × Obj))(x:Cus)(c:List Vu)(r:List Qb):Prop:=∃vb,c=[U O x.aft,Xs x.nm,vb]/\r=[]/\Zb zs vb x.bs
abbrev MRz (zs:List (Nat × Obj))(m:Mod)(cells:List Vu)(L:List (List Qb)):Prop:=MRg (RDatZ zs) (RCusZ zs) m cells L
theorem Zb.mono {zs zs':List (Nat × Obj)}{v:Vu}{c:List Int}(h:Zb zs v c)(d:∀q∈zs,q∈zs'):Zb zs' v c:=by
 obtain⟨g,b,a,l,k,j,f⟩:=h;exact⟨g,b,a,l,k,d _ j,f⟩
theorem lr_mono {α:Type}{R f:α->List Vu->List Qb->Prop}{d:List α}{c k}(h:LR R d c k)(g:∀x c k,R x c k->f x c k):LR f d c k:=by
 obtain⟨n,m,l,j⟩:=h;exact⟨n,m,λi x ev a b=>g _ _ _ (l i x ev a b),j⟩
theorem MRz.mono {zs zs':List (Nat × Obj)}{m:Mod}{cells:List Vu}(h:MRz zs m cells L)(j:∀q∈zs,q∈zs'):MRz zs' m cells L:=by
 refine⟨h.cl,h.ll,h.hs,h.st,h.types,h.cj,h.jv,h.fk,h.jj,h.fq,h.fj,h.fw,h.gq,?_,?_⟩
 . obtain⟨v,c,k,g,f,d⟩:=h.gj;exact⟨v,c,k,g,f,lr_mono d λx c k ⟨v,vb,a,b,z⟩=>⟨v,vb,a,b,z.mono j⟩⟩
 obtain⟨v,c,k,g,f,d⟩:=h.gx;exact⟨v,c,k,g,f,lr_mono d λx c k ⟨vb,a,b,z⟩=>⟨vb,a,b,z.mono j⟩⟩
def Sm (cells cells':List Vu):Prop:=∀j,13<=j->j<19->cells'[j]?=cells[j]?
def EnM (F:Option Mod)(D:Nat)(w0:J)(zs:List (Nat × Obj))(p:Nat)(cells:List Vu)(X:List Qb)(e:Ending)(w':J):Prop:=e=Z (.tuple #[])/\((F=none/\∃cells' rs',Mo D w0 (rB p cells'::rs') w'/\cells'[19]?=some (G true))\/∃m' cells' L zs',(∀q∈zs,q∈zs')/\F=some m'/\MRz zs' m' cells' L/\Mq D w0 zs' (rB p cells'::(L.flatten++X)) w'/\Sm cells cells'/\cells'[19]?=some (G false))
section
variable {D:Nat}{w0 V W:J}{X rs:List Qb}{p:Nat}
theorem Mo.len {cells:List Vu}(h:Mo D w0 (rB p cells::rs) V):N cells=20:=by have:=h.own.head.1;simpa using this
theorem Je {j:Nat}{e:Qb}{kk:List Qb}(h:L.flatten.Perm (e::((L.eraseIdx j).flatten++kk))):(L.flatten++X).Perm (e::((L.eraseIdx j).flatten++kk++X)):=by
 have:=h.append_right X;rwa [Tv]at this
theorem perm_fin {j:Nat}{e:Qb}{kk r:List Qb}(a:j<N L):(e::(r++((L.eraseIdx j).flatten++kk++X))).Perm ((L.set j (e::(kk++r))).flatten++X):=by
 refine Ly ?_ ((Jd.back a).append_right X);rw[Tv];refine Tp _ ?_;rw[<- Kd];refine Mg X ?_;refine List.perm_append_comm.trans ?_;rw[Kd]
theorem Sm.set {cells cells'}(h:Sm cells cells'){i:Nat}(hi:i<13\/19<=i)(u:Vu):Sm cells (cells'.set i u):=λj h1 h2=>by rw[Kz (by omega)];exact h j h1 h2
theorem Sm.refl (cells:List Vu):Sm cells cells:=λ_ _ _=>rfl
end
variable [PK]
structure Rd2 (D:Nat)(w0:J)(zs:List (Nat × Obj))(p:Nat)(cells:List Vu)(X:List Qb)(m:Mod)(w:J)(a:Option Ad)(c:Nat)(ws:List Wd):Prop where
 hk:PK.k=cells
 hh:PK.hi=w.heap.size
 bad:cells[19]?=some (G false)
 ex:∃L,MRz zs m cells L/\Mq D w0 zs (rB p cells::(L.flatten++X)) w
 wv:Wv w a p ws
 hl:∀x∈ws,N x<=1048576
 hc:N ws<=c
section
variable {D:Nat}{w0 w V W:J}{zs:List (Nat × Obj)}{p:Nat}{cells:List Vu}{X rs bxs:List Qb}{m:Mod}{a:Option Ad}{c:Nat}{ws:List Wd}{bd:Bool}
theorem Mo.pb (h:Mo D w0 (rB p cells::rs) w)(c:PK.k=cells)(b:PK.hi=w.heap.size)(hc:cells[19]?=some (G bd)):Pb w p bd:=by
 have a:w.ownsRow D 51 20 (S (some ⟨p,0,none⟩) 1 1) 1 cells:=h.own.head;refine⟨?_,by rw[b];exact(World.ownsRow.lt a p rfl).2,by rw[b];exact lRz⟩;rw[c,set_self hc];exact World.ownsRow.mono a (Hw _)
theorem Rd2.lb (h:Rd2 D w0 zs p cells X m w a c ws):Lb w p a ws false [] w:=by
 obtain⟨L,-,hm⟩:=h.ex;exact Lb.start (hm.mo.pb h.hk h.hh h.bad) h.wv
theorem Lb.back (hl:Lb w p a ws bd bxs W)(h:Mo D w0 (rB p cells::rs) w)(m:PK.k=cells):Mo D w0 (rB p (cells.set 19 (G bd))::(bxs++rs)) W:=by
 have j:D<=p/\p<w.heap.size:=h.own.lt (k:=p) (by show p∈p::blk rs;simp);have l:p∉blk rs:=by have:(p::blk rs).Nodup:=h.own.nd;exact(List.nodup_cons.1 this).1
 have d:Own D W rs:=h.own.tail.grown hl.g (λk e=>by cases e;exact l);have f:Qb.Ok D W (rB p (cells.set 19 (G bd))):=by have:=hl.pb.own;rw[m]at this;exact row_up this j.1
 refine⟨?_,h.b.trans ((Jt hl.g j.2).mono j.1),Kf h.le hl.g.size⟩;have c:Own D W (bxs++rs):=(hl.own.mono h.le).app d (λk h1 c=>by have:=(hl.own.lt h1).1;have:=(h.own.tail.lt c).2;omega);refine Own.app (a:=[_]) (b:=bxs++rs) (Own.one f) c (λk h1 c=>?_);have e:k=p:=by simpa[blk,Lc]using h1
 subst e;rw[JD]at c;rcases List.mem_append.1 c with c|c
 . have:=(hl.own.lt c).1;omega
 exact l c
theorem Lb.backq (hl:Lb w p a ws bd bxs W)(h:Mq D w0 zs (rB p cells::rs) w)(f:PK.k=cells):Mq D w0 zs (rB p (cells.set 19 (G bd))::(bxs++rs)) W:=by
 refine⟨hl.back h.mo f,λq hq=>?_⟩;have c:=h.z q hq;have d:=h.zlt hq;have l:q.1≠p:=λe=>c.2.2 (by rw[e];exact QF.2 ⟨_,mS ..,rfl⟩);refine⟨(hl.g.block q.1 d (λe=>l (Option.some.inj e))).trans c.1,c.2.1,λf=>?_⟩;have b:q.1∈p::blk (bxs++rs):=f;rcases List.mem_cons.1 b with e|b
 . exact l e
 rw[JD]at b;rcases List.mem_append.1 b with j|j
 . have:=(hl.own.lt j).1;omega
 exact c.2.2 (show q.1∈p::blk rs from mC j)
theorem Rd2.bads (h:Rd2 D w0 zs p cells X m w a c ws)(hl:Lb w p a ws true bxs W){F:Option Mod}(b:F=none):EnM F D w0 zs p cells X (Z (.tuple #[])) W:=by
 obtain⟨L,-,hm⟩:=h.ex;exact⟨rfl,.inl ⟨b,_,_,hl.back hm.mo h.hk,Ky (by have:=hm.mo.len;omega)⟩⟩
end
end YtejkdbnngphgaaaGreatDoor.Yz
namespace YtejkdbnngphgaaaGreatDoor.Yz
open Go.RowKit Go.Sort
variable {W1 V:J}{rs:List Qb}{R:Nat}
def LnP (Good:St->Prop)(W1:J)(R q:Nat)(mp:Vu)(e:Ending)(w':J):Prop:=e=Z (.tuple #[])/\∃cells rs ws bd,Ln W1 R q cells rs w'/\Te w' q ws bd/\(bd=false->ws=[]->∃S',Good S'/\SR W1 R mp S' cells rs)/\((∃S',Good S')->bd=false/\ws=[])
def SecG (k:Nat)(Sz0:St)(r:List Wd)(S':St):Prop:=Sz0.op=none/\Sz0.last<=(k:Int)/\∃i,QN k Sz0.m r=some i/\S'=Sz0.put k i
theorem SR.nest {mp:Vu}{Sz0:St}{cells:List Vu}(h:SR W1 R mp Sz0 cells rs){q:Nat}(hl:Ln W1 R q cells rs V):∃a n c,cells[15]?=some (S a n c)/\(n=0 ↔ Sz0.op=none):=by
 obtain⟨L,P,-,f,b⟩:=h.rep;cases ho:Sz0.op with
 |none =>
  rw[ho]at b;obtain⟨⟨a,c,e⟩,-⟩:=b
  exact⟨a,0,c,e,by simp⟩
 |some p =>
  rw[ho]at b;obtain⟨d,k,m,r1,l,j,u,t,r,o,rfl,g⟩:=b;have hm:Q9 d p.n∈rs:=f.mem_iff.2 (mR (mS ..));obtain⟨a,c,rfl⟩:=Qg (show V.ownsRow R 4 1 d (N p.n) (Bs p.n)from hl.s.own.all _ (mC hm))
  exact⟨a,_,c,j,by simp[g]⟩
theorem SR.relast {mp:Vu}{Sz0:St}{cells:List Vu}(h:SR W1 R mp Sz0 cells rs)(hc:N cells=18)(k:Int):SR W1 R mp { Sz0 with last:=k } (cells.set 13 (U O k)) rs:=by
 obtain⟨L,P,hm,c,a⟩:=h.rep;exact⟨Ky (by omega),by rw[Kz (by decide)];exact h.map,⟨L,P,hm.set_far (by decide) _,c,PR.off a 13 (by decide) _⟩,Ju h.ns _ (by intro b e;cases e)⟩
section
variable (W1:J) (R q:Nat) (mp:Vu) (cells:List Vu) (rs:List Qb) (V:J) (Sz0:St) (ws:List Wd)
abbrev Fa (b1 b2:Nat)(nv lv sv:Vu)(vals:List Vu)(r:Bool)(k:Nat)(us:List Vu)(W:J):Prop:=Fcz0 (λW=>W.cell? ⟨b1,0,none⟩=some (ptr R 0)/\W.cell? ⟨b2,0,none⟩=some sv/\W.cell? ⟨R,15,none⟩=some nv/\W.cell? ⟨R,13,none⟩=some lv) vals
 [λW=>Ln W1 R q cells rs W/\Tw W q ws false,λW=>Ln W1 R q cells rs W/\Tw W q ws false,λW=>Ln W1 R q cells rs W/\Tw W q ws false,λW=>Ln W1 R q cells rs W/\Tw W q ws false,λW=>Ln W1 R q cells rs W/\Tw W q ws (!r)] k us W
theorem add_c (k b1 A b3 rf:Nat)(ab:Array Vu)(bl:∀(args:Array Vu) (w:J),(callFunc rf args).run Q w=.ok (.enter rf args) w)(h:Ln W1 R q cells rs V)(t:Tw V q ws false)(hS:SR W1 R mp Sz0 cells rs)(h1:Bt W1 R b1 (ptr R 0))(h2:Bt W1 R A (U O (k:Int)))(h3:Bt W1 R b3 (.func (.func rf) #[] ab)) (K:∀(D:List Vu) (V':J) (bad:Bool),Ln W1 R q D rs V'->Tw V' q ws bad->SR W1 R mp { Sz0 with last:=(k:Int) } D rs->Ec Q rf (#[ptr q 0]++ab) V' (XY k W1 R q mp { Sz0 with last:=(k:Int) } ws bad)):Ec Q 148 #[ptr q 0,ptr b1 0,ptr A 0,ptr b3 0] V (LnP (SecG k Sz0 ws) W1 R q mp):=by
 have F:=Hm h1;have E:=Hm h2;have ay:=Hm h3;have X:=Hm h;have HT:=Hm t;have HS:=Hm hS;obtain⟨p,L,n,aa,Y⟩:=hS.nest h;obtain⟨l,ag⟩:∃l,decide (Sz0.last<=(k:Int))=l:=⟨_,rfl⟩;have au:=Hm ag;cases L with
 |zero =>
  have HN:=Hm aa;have HO:=Hm (Y.1 rfl);clear h t hS h1 h2 h3 aa Y ag
  go_enter func148,ntmps148
  go_upto_region 0 with fail
  refine Rp.rg (nN:=27) [ptr q 0,ptr R 0,ptr R 0,ptr R 15,(S p 0 n),undef,undef,U O (k:Int),ptr R 0,ptr R 0,ptr R 13,U O Sz0.last,G l,undef,undef] [5,6,13,14] 4 (Fa W1 R q cells rs ws b1 A (S p 0 n) (U O Sz0.last) (U O (k:Int)) [G true,G true,G l,.tuple #[]] l) ?_ ?_ ?_
  . exact⟨⟨X.o.s.bx F.o,X.o.s.bx E.o,(X.o.s.cell 15 HN.o).1,(X.o.s.cell 13 HS.o.last).1⟩,rfl,X.o.below bFz.drew,HT.o.keep bFz.drew⟩
  . refine Rp.os 0 (ptr q 0) ?_
    refine Rp.ls 1 (ptr b1 0) (λk j W hk b=>b.1.1) ?_
    refine Rp.o1 1 6 ?_
    refine Rp.o1 2 7 ?_
    refine Rp.l1 3 8 (λk j W hk b=>b.1.2.2.1) ?_
    refine Rp.hc 0 (λa W j f hu b=>?_) ?_
    . have e9:=Rp.va f 4 9;obtain⟨g,rfl,d,ht⟩:=b
      refine⟨83,#[(S p 0 n)],?_,?_⟩
      . clear f hu
        go_simp
        try rfl
      . refine(Ji p 0 n W).mono ?_
        rintro e w1 ⟨rfl,rfl⟩
        exact⟨_,rfl,g,rfl,d,ht⟩
    refine Rp.Qj.h 1 (by kernel_rfl) (λa W j Kc f hu b hK=>?_) ?_
    . have I:=Qv (show Fa W1 R q cells rs ws b1 A (S p 0 n) (U O Sz0.last) (U O (k:Int)) [G true,G true,G l,.tuple #[]] l 1 j W from b) 0 (by decide);have a9:a.tmps[10]?.getD undef=G true:=(Rp.vu hu 0 10).trans I;clear I;obtain⟨g,rfl,d,ht⟩:=b
      refine Rp.Jv (Gz0:=λv W'=>Fa W1 R q cells rs ws b1 A (S p 0 n) (U O Sz0.last) (U O (k:Int)) [G true,G true,G l,.tuple #[]] l 2 ([_]++[v]) W') (G true) (Rp.Qd rfl) (W':=W) ?_ ⟨g,rfl,d,ht⟩ hK
      clear f hK hu
      go_simp
      try rfl
    refine Rp.gt (Rp.wc 1 11 (λ_ _ _ h=>Qv h 1)) 2 (ptr A 0) (λk j W hk b=>b.1.2.1) ?_
    refine Rp.gt (Rp.wc 1 11 (λ_ _ _ h=>Qv h 1)) 1 (ptr b1 0) (λk j W hk b=>b.1.1) ?_
    refine Rp.g1 (Rp.wc 1 11 (λ_ _ _ h=>Qv h 1)) 8 13 ?_
    refine Rp.g1 (Rp.wc 1 11 (λ_ _ _ h=>Qv h 1)) 9 14 ?_
    refine Rp.gl (Rp.wc 1 11 (λ_ _ _ h=>Qv h 1)) 10 15 (λk j W hk b=>b.1.2.2.2) ?_
    refine Rp.Qj.c (by kernel_rfl) (λa W kk j Kc f hk hb hu b hK=>?_) ?_
    . have bq:=Rp.va f 7 12;have bp:=Rp.va f 11 16;have z:=Qv (show Fa W1 R q cells rs ws b1 A (S p 0 n) (U O Sz0.last) (U O (k:Int)) [G true,G true,G l,.tuple #[]] l kk j W from b) 1 (hb 1 (of_decide_eq_true (by kernel_rfl)) (by kernel_rfl));have aj:a.tmps[11]?.getD undef=G true:=(Rp.cx_us hu 1 11 (by kernel_rfl) (hb 1 (of_decide_eq_true (by kernel_rfl)) (by kernel_rfl))).trans z;clear z;have bg:=au.o
      refine Rp.QA (G l) (Rp.want_is rfl rfl (Ry (show 11<27 by decide) f.sz.symm) aj rfl) rfl ?_ hK
      clear f hK b hu hb
      go_simp
      try rfl
    refine Rp.Qj.h 2 (by kernel_rfl) (λa W j Kc f hu b hK=>?_) ?_
    . have z:=Qv (show Fa W1 R q cells rs ws b1 A (S p 0 n) (U O Sz0.last) (U O (k:Int)) [G true,G true,G l,.tuple #[]] l 2 j W from b) 1 (by decide);have aj:a.tmps[11]?.getD undef=G true:=(Rp.vu hu 1 11).trans z;clear z;have a8:=Rp.va f 12 17;obtain⟨g,rfl,d,ht⟩:=b
      refine Rp.Jv (Gz0:=λv W'=>Fa W1 R q cells rs ws b1 A (S p 0 n) (U O Sz0.last) (U O (k:Int)) [G true,G true,G l,.tuple #[]] l 3 ([_,_]++[v]) W') (G l) (Rp.Qd rfl) (W':=W) ?_ ⟨g,rfl,d,ht⟩ hK
      clear f hK hu
      go_simp
      try rfl
    refine Rp.hc 3 (λa W j f hu b=>?_) ?_
    . have e5:=Rp.va f 0 5;have H:=Qv (show Fa W1 R q cells rs ws b1 A (S p 0 n) (U O Sz0.last) (U O (k:Int)) [G true,G true,G l,.tuple #[]] l 3 j W from b) 2 (by decide);have a7:a.tmps[18]?.getD undef=G l:=(Rp.vu hu 2 18).trans H;clear H;obtain⟨g,rfl,d,ht⟩:=b
      refine⟨82,#[ptr q 0,G l],?_,?_⟩
      . clear f hu
        go_simp
        try rfl
      . refine(JZ q ws false l W ht).mono ?_
        rintro e w1 ⟨rfl,t1,g1⟩;have m:=d.call g1
        exact⟨_,rfl,⟨m.s.bx F.o,m.s.bx E.o,(m.s.cell 15 HN.o).1,(m.s.cell 13 HS.o.last).1⟩,rfl,m,t1⟩
    exact Rp.Qj.nil
  . intro j a W f
    have ea:=Rp.ca f [5,6,7,8,9,10,11,12,13,14,15,16,17,18,19];have b:=f.ph
    simp only[Km,Tq,Rp.cv f 0 5,Rp.cv f 1 6,Rp.cv f 2 7,Rp.cv f 3 8,Rp.cv f 4 9,Rp.cu f 0 10,Rp.cu f 1 11,Rp.cv f 7 12,Rp.cv f 8 13,Rp.cv f 9 14,Rp.cv f 10 15,Rp.cv f 11 16,Rp.cv f 12 17,Rp.cu f 2 18,Rp.cu f 3 19]at ea
    clear f;subst ea;obtain⟨-,rfl,d,ht⟩:=b;have ao:=d.s.bx F.o;have ak:=d.s.bx E.o;obtain⟨u,aq,ai⟩:=d.at_ 13;obtain⟨V2,C⟩:∃V,V=W.setCell ⟨R,13,none⟩ (U O (k:Int)):=⟨_,rfl⟩;have r:=d.set 13 (U O (k:Int));have B:=d.tw ht HS.o.ns 13 (U O (k:Int));rw[<- C]at r B;have M:=HS.o.relast d.s.len (k:Int);have d3:=r.s.bx ay.o;have KK:=Hm (K _ V2 (!l) r B M);clear d ht r B M
    go_upto_region 2 with fail
    rw[<- C];clear C ao ak aq ai
    go_wp2_with fail
    refine KK.o.mono ?_
    rintro e w2 ⟨rfl,y,ae,ad,ar,ah,af,k1,k2⟩;clear d3
    go_wp2
    go_end0
    refine⟨rfl,y,ae,ad,ar,ah,af,λhb hw=>?_,?_⟩
    . obtain⟨g1,g2⟩:=k1 hb hw;obtain⟨i,e1,e2⟩:=g2 HO.o;have av:Sz0.last<=(k:Int):=by have:=au.o;rw[show l=true by simpa using g1]at this;exact of_decide_eq_true this
      exact⟨_,⟨HO.o,av,i,e1,rfl⟩,e2⟩
    . rintro⟨S',g1,g2,i,e1,-⟩
      refine k2 ?_ (by rw[e1];rfl)
      rw[<- au.o,decide_eq_true g2];rfl
 |succ L =>
  have HN:=Hm aa;have HO:Hid (¬Sz0.op=none):=λe=>by have:=Y.2 e;omega
  clear h t hS h1 h2 h3 aa Y ag
  go_enter func148,ntmps148
  go_upto_region 0 with fail
  refine Rp.rg (nN:=27) [ptr q 0,ptr R 0,ptr R 0,ptr R 15,(S p (L+1) n),undef,undef,undef,undef,undef,undef,undef,undef,undef,undef] [5,6,13,14] 4 (Fa W1 R q cells rs ws b1 A (S p (L+1) n) (U O Sz0.last) (U O (k:Int)) [G false,G false,G false,.tuple #[]] false) ?_ ?_ ?_
  . exact⟨⟨X.o.s.bx F.o,X.o.s.bx E.o,(X.o.s.cell 15 HN.o).1,(X.o.s.cell 13 HS.o.last).1⟩,rfl,X.o.below bFz.drew,HT.o.keep bFz.drew⟩
  . refine Rp.os 0 (ptr q 0) ?_
    refine Rp.ls 1 (ptr b1 0) (λk j W hk b=>b.1.1) ?_
    refine Rp.o1 1 6 ?_
    refine Rp.o1 2 7 ?_
    refine Rp.l1 3 8 (λk j W hk b=>b.1.2.2.1) ?_
    refine Rp.hc 0 (λa W j f hu b=>?_) ?_
    . have e9:=Rp.va f 4 9;obtain⟨g,rfl,d,ht⟩:=b
      refine⟨83,#[(S p (L+1) n)],?_,?_⟩
      . clear f hu
        go_simp
        try rfl
      . refine(Ji p (L+1) n W).mono ?_
        rintro e w1 ⟨rfl,rfl⟩
        exact⟨_,rfl,g,rfl,d,ht⟩
    refine Rp.Qj.h 1 (by kernel_rfl) (λa W j Kc f hu b hK=>?_) ?_
    . have I:=Qv (show Fa W1 R q cells rs ws b1 A (S p (L+1) n) (U O Sz0.last) (U O (k:Int)) [G false,G false,G false,.tuple #[]] false 1 j W from b) 0 (by decide);have a9:a.tmps[10]?.getD undef=G false:=(Rp.vu hu 0 10).trans I;clear I;obtain⟨g,rfl,d,ht⟩:=b
      refine Rp.Jv (Gz0:=λv W'=>Fa W1 R q cells rs ws b1 A (S p (L+1) n) (U O Sz0.last) (U O (k:Int)) [G false,G false,G false,.tuple #[]] false 2 ([_]++[v]) W') (G false) (Rp.Qd rfl) (W':=W) ?_ ⟨g,rfl,d,ht⟩ hK
      clear f hK hu
      go_simp
      try rfl
    refine Rp.gn (Rp.wc 1 11 (λ_ _ _ h=>Qv h 1)) ?_
    refine Rp.gn (Rp.wc 1 11 (λ_ _ _ h=>Qv h 1)) ?_
    refine Rp.gn (Rp.wc 1 11 (λ_ _ _ h=>Qv h 1)) ?_
    refine Rp.gn (Rp.wc 1 11 (λ_ _ _ h=>Qv h 1)) ?_
    refine Rp.gn (Rp.wc 1 11 (λ_ _ _ h=>Qv h 1)) ?_
    refine Rp.gn (Rp.wc 1 11 (λ_ _ _ h=>Qv h 1)) ?_
    refine Rp.Qj.h 2 (by kernel_rfl) (λa W j Kc f hu b hK=>?_) ?_
    . have z:=Qv (show Fa W1 R q cells rs ws b1 A (S p (L+1) n) (U O Sz0.last) (U O (k:Int)) [G false,G false,G false,.tuple #[]] false 2 j W from b) 1 (by decide);have aj:a.tmps[11]?.getD undef=G false:=(Rp.vu hu 1 11).trans z;clear z;have a8:=Rp.va f 12 17;obtain⟨g,rfl,d,ht⟩:=b
      refine Rp.Jv (Gz0:=λv W'=>Fa W1 R q cells rs ws b1 A (S p (L+1) n) (U O Sz0.last) (U O (k:Int)) [G false,G false,G false,.tuple #[]] false 3 ([_,_]++[v]) W') (G false) (Rp.Qd rfl) (W':=W) ?_ ⟨g,rfl,d,ht⟩ hK
      clear f hK hu
      go_simp
      try rfl
    refine Rp.hc 3 (λa W j f hu b=>?_) ?_
    . have e5:=Rp.va f 0 5;have H:=Qv (show Fa W1 R q cells rs ws b1 A (S p (L+1) n) (U O Sz0.last) (U O (k:Int)) [G false,G false,G false,.tuple #[]] false 3 j W from b) 2 (by decide);have a7:a.tmps[18]?.getD undef=G false:=(Rp.vu hu 2 18).trans H;clear H;obtain⟨g,rfl,d,ht⟩:=b
      refine⟨82,#[ptr q 0,G false],?_,?_⟩
      . clear f hu
        go_simp
        try rfl
      . refine(JZ q ws false false W ht).mono ?_
        rintro e w1 ⟨rfl,t1,g1⟩;have m:=d.call g1
        exact⟨_,rfl,⟨m.s.bx F.o,m.s.bx E.o,(m.s.cell 15 HN.o).1,(m.s.cell 13 HS.o.last).1⟩,rfl,m,t1⟩
    exact Rp.Qj.nil
  . intro j a W f
    have ea:=Rp.ca f [5,6,7,8,9,10,11,12,13,14,15,16,17,18,19];have b:=f.ph
    simp only[Km,Tq,Rp.cv f 0 5,Rp.cv f 1 6,Rp.cv f 2 7,Rp.cv f 3 8,Rp.cv f 4 9,Rp.cu f 0 10,Rp.cu f 1 11,Rp.cv f 7 12,Rp.cv f 8 13,Rp.cv f 9 14,Rp.cv f 10 15,Rp.cv f 11 16,Rp.cv f 12 17,Rp.cu f 2 18,Rp.cu f 3 19]at ea
    clear f;subst ea;obtain⟨-,rfl,d,ht⟩:=b;have ao:=d.s.bx F.o;have ak:=d.s.bx E.o;obtain⟨u,aq,ai⟩:=d.at_ 13;obtain⟨V2,C⟩:∃V,V=W.setCell ⟨R,13,none⟩ (U O (k:Int)):=⟨_,rfl⟩;have r:=d.set 13 (U O (k:Int));have B:=d.tw ht HS.o.ns 13 (U O (k:Int));rw[<- C]at r B;have M:=HS.o.relast d.s.len (k:Int);have d3:=r.s.bx ay.o;have KK:=Hm (K _ V2 (!false) r B M);clear d ht r B M
    go_upto_region 2 with fail
    rw[<- C];clear C ao ak aq ai
    go_wp2_with fail
    refine KK.o.mono ?_
    rintro e w2 ⟨rfl,y,ae,ad,ar,ah,af,k1,k2⟩;clear d3
    go_wp2
    go_end0
    refine⟨rfl,y,ae,ad,ar,ah,af,λhb hw=>?_,?_⟩
    . obtain⟨g1,g2⟩:=k1 hb hw
      cases g1
    . rintro⟨S',g1,-⟩
      exact absurd g1 HO.o
end
def CusG (Sz0:St)(r:List Wd)(S':St):Prop:=Sz0.op=none/\∃c,cusF r=some c/\c.aft=Sz0.last/\S'={ Sz0 with m:={ Sz0.m with gx:=Sz0.m.gx++[c] } }
theorem Ln.drop2 {q:Nat}{cells:List Vu}{a b:Qb}(h:Ln W1 R q cells (a::b::rs) V):Ln W1 R q cells (a::rs) V:=Ln.right (rs:=[b]) (h.perm (Kq _ _ _))
section
variable (W1:J) (R q:Nat) (mp:Vu) (cells:List Vu) (rs:List Qb) (V:J) (Sz0:St) (ws:List Wd)
abbrev Fb (b g n:Nat)(vl:Vu)(cl cc:List Vu)(nv lv av:Vu)(bd:Bool)(vals:List Vu)(r:Bool)(k:Nat)(us:List Vu)(W:J):Prop:=Fcz0 (λW=>W.cell? ⟨b,0,none⟩=some (ptr R 0)/\W.cell? ⟨g,0,none⟩=some av/\W.cell? ⟨R,15,none⟩=some nv/\W.cell? ⟨R,13,none⟩=some lv) vals
 [λW=>Ln W1 R q cells (⟨131,3,n,vl,cl⟩::box 131 3 g cc::rs) W/\Tw W q ws bd,λW=>Ln W1 R q cells (⟨131,3,n,vl,cl⟩::box 131 3 g cc::rs) W/\Tw W q ws bd,λW=>Ln W1 R q cells (⟨131,3,n,vl,cl⟩::box 131 3 g cc::rs) W/\Tw W q ws bd,λW=>Ln W1 R q cells (⟨131,3,n,vl,cl⟩::box 131 3 g cc::rs) W/\Tw W q ws bd,λW=>Ln W1 R q cells (⟨131,3,n,vl,cl⟩::box 131 3 g cc::rs) W/\Tw W q ws (bd || !r)] k us W
def Fd (b g n:Nat)(vl:Vu)(cl cc:List Vu)(bd:Bool)(k:Nat)(us:List Vu)(W:J):Prop:=Rp.Fz (λW=>W.cell? ⟨b,0,none⟩=some (ptr R 0)/\W.cell? ⟨R,12,none⟩=some vl/\∀j u,cc[j]?=some u->j<3->W.cell? ⟨g,j,none⟩=some u) 2
 [fun us W=>us=[]/\Ln W1 R q cells (⟨131,3,n,vl,cl⟩::box 131 3 g cc::rs) W/\Te W q ws bd,
  λus W=>∃g',us=[S (some ⟨g',0,none⟩) 1 1]/\Ln W1 R q cells (⟨131,3,n,vl,cl⟩::box 131 3 g cc::rs) W/\Te W q ws bd/\∀j u,cc[j]?=some u->W.cell? ((⟨g',0,none⟩:Ad).add j)=some u,
  λus W=>∃g' v',us=[S (some ⟨g',0,none⟩) 1 1,v']/\Ln W1 R q cells (⟨131,3,n+1,v',cl++cc⟩::box 131 3 g cc::rs) W/\Te W q ws bd,
  fun us W=>∃g' v',us=[S (some ⟨g',0,none⟩) 1 1,v',undef]/\Ln W1 R q (cells.set 12 v') (⟨131,3,n+1,v',cl++cc⟩::box 131 3 g cc::rs) W/\Te W q ws bd] k us W
theorem info_131:(Q.info? 131).map (λi=>(i.zero,i.size,i.bytes))=some (some (Ag #[U O 0,Xs ByteArray.empty,S none 0 0]),3,48):=by kernel_rfl
theorem cus_c (b:Nat)(h:Ln W1 R q cells rs V)(t:Tw V q ws false)(hS:SR W1 R mp Sz0 cells rs)(h1:Bt W1 R b (ptr R 0))(hz:Sz0.sz<=1048576)(hl:∀x∈ws,N x<=1048576)(hV:Vs R W1):Ec Q 80 #[ptr q 0,ptr b 0] V (LnP (CusG Sz0 ws) W1 R q mp):=by
 have HB:=Hm h1;have HS:=Hm hS;have K:=Hm (custom_c q ws false V t hl (h.vs hV));obtain⟨L,P,hm,hp,a6⟩:=hS.rep;obtain⟨I,E,kk,e1,bg,pm⟩:=hm.gx.at_;have a7:=hp.trans ((pm.append_right P).trans (by rw[Tv]));have HL:=Hm (h.perm a7);obtain⟨n,hn⟩:∃n,n=N Sz0.m.gx:=⟨_,rfl⟩;have av:Hid (n<=1048576):=by show n<=1048576;have:=hz;unfold St.sz at this;omega
 have HC:=Hm e1;obtain⟨Y,nn,X,bf,bb⟩:=hS.nest h;have ak:Hid (∀x p y l (v':Vu) (W:J) (g:Nat) (r:List Qb),RCus x [U O x.aft,Xs x.nm,S p y l] r->Ln W1 R q (cells.set 12 v') (⟨131,3,n+1,v',E++[U O x.aft,Xs x.nm,S p y l]⟩::box 131 3 g [U O x.aft,Xs x.nm,S p y l]::(r++((L.eraseIdx 10).flatten++kk++P))) W->SR W1 R mp { Sz0 with m:={ Sz0.m with gx:=Sz0.m.gx++[x] } } (cells.set 12 v') (⟨131,3,n+1,v',E++[U O x.aft,Xs x.nm,S p y l]⟩::(r++((L.eraseIdx 10).flatten++kk++P)))):=by
  intro x p y l v' W g r M hl;refine⟨by rw[Kz (by decide)];exact hS.last,by rw[Kz (by decide)];exact hS.map,⟨_,P,hm.set_customs (bg.snoc M) (u:=v'),?_,PR.off a6 12 (by decide) v'⟩,Ju hS.ns _ (by
   obtain⟨a,b,rfl⟩:=Qg (show W.ownsRow R 131 3 v' (n+1) _ from hl.s.own.tail.head)
   intro b e;cases e)⟩
  refine Ly ?_ ((Jd.back (by rw[hm.ll];decide)).append_right P);simp only[Kb,Kj,Kg,Kk,Tv,hn];refine Tp _ ?_;rw[<- Kd];refine Mg P ?_;refine List.perm_append_comm.trans ?_;rw[Kd]
 obtain⟨bu,aw⟩:∃r,r=(L.eraseIdx 10).flatten++kk++P:=⟨_,rfl⟩;rw[<- aw]at ak HL;rw[<- hn]at HL;have bl:=Hm bf;have bk:=Hm bb;clear h t hS h1 hz hl hV hm hp a6 e1 bg pm a7 hn aw bf bb;go_enter func80,ntmps80;go_wp2_with fail
 refine K.o.mono ?_;rintro e w1 ⟨x,c,r,z,bd,rfl,M,aq,k1,k2⟩;obtain⟨B,-⟩:=HL.o.read aq;have a5:=aq.tw;obtain⟨vb,rfl,az⟩:=M;obtain⟨y,bh⟩:∃n,n=N x.bs:=⟨_,rfl⟩;obtain⟨p,l,rfl⟩:∃p l,vb=S p y l:=by rw[bh];exact Qg (show w1.ownsRow V.heap.size 5 1 vb (N x.bs) (Uz0 x.bs)from Own.head (r:=bR vb x.bs) (rs:=[]) (az ▸ aq.own))
 have M:RCus x [U O x.aft,Xs x.nm,S p y l] r:=⟨_,rfl,az⟩;have HX:=Hm (And.intro k1 k2);obtain⟨rs0,ai⟩:∃x,x=r++bu:=⟨_,rfl⟩;have bj:=Hm M;obtain⟨g,hg⟩:∃g,g=w1.heap.size:=⟨_,rfl⟩;obtain⟨V1,au⟩:∃W,W=w1.alloc (Fc #[U O x.aft,Xs x.nm,S p y l] 131):=⟨_,rfl⟩;have C:Hid (Ln W1 R q cells (⟨131,3,n,I,E⟩::box 131 3 g [U O x.aft,Xs x.nm,S p y l]::rs0) V1/\Tw V1 q z bd):=by
  refine⟨?_,?_⟩
  . rw[au,hg,ai];refine((B.perm (Hn)).box (cur:=#[U O x.aft,Xs x.nm,S p y l]) 131 3 rfl).perm (Kq _ _ _)
  rw[au];exact a5.keep (bFz.alloc lRz _)
 have cg:Hid (∀(v':Vu) (W:J),Ln W1 R q (cells.set 12 v') (⟨131,3,n+1,v',E++[U O x.aft,Xs x.nm,S p y l]⟩::box 131 3 g [U O x.aft,Xs x.nm,S p y l]::rs0) W->SR W1 R mp { Sz0 with m:={ Sz0.m with gx:=Sz0.m.gx++[x] } } (cells.set 12 v') (⟨131,3,n+1,v',E++[U O x.aft,Xs x.nm,S p y l]⟩::rs0)):=by intro v' W hh;rw[ai]at hh⊢;exact ak.o x p y l v' W g r bj.o hh
 clear B a5 aq k1 k2 az M bh ai K HL ak bj;simp only[agV];go_upto_region 1 with fail
 rw[<- au,<- hg];clear au hg;obtain⟨F,a9⟩:∃F,(x.aft==Sz0.last)=F:=⟨_,rfl⟩;have a4:=Hm a9;clear a9;cases nn with
 |zero =>
  have HN:=bl;have HO:=Hm (bk.o.1 rfl)
  refine Rp.rg (nN:=34) [ptr q 0,ptr R 0,ptr R 0,ptr R 15,(S Y 0 X),undef,undef,ptr g 0,U O x.aft,ptr R 0,ptr R 0,ptr R 13,U O Sz0.last,G F,undef,undef] [5,6,14,15] 4 (Fb W1 R q cells rs0 z b g n I E [U O x.aft,Xs x.nm,S p y l] (S Y 0 X) (U O Sz0.last) (U O x.aft) bd [G true,G true,G F,.tuple #[]] F) ?_ ?_ ?_
  . exact⟨⟨C.o.1.s.bx HB.o,C.o.1.b1 0,(C.o.1.s.cell 15 HN.o).1,(C.o.1.s.cell 13 HS.o.last).1⟩,rfl,C.o.1.below bFz.drew,C.o.2.keep bFz.drew⟩
  . refine Rp.os 0 (ptr q 0) ?_
    refine Rp.ls 1 (ptr b 0) (λk A W hk d=>d.1.1) ?_
    refine Rp.o1 1 7 ?_
    refine Rp.o1 2 8 ?_
    refine Rp.l1 3 9 (λk A W hk d=>d.1.2.2.1) ?_
    refine Rp.hc 0 (λa W A f hu d=>?_) ?_
    . have cb:=Rp.va f 4 10;obtain⟨D,rfl,hl,ht⟩:=d
      refine⟨83,#[(S Y 0 X)],?_,?_⟩
      . clear f hu
        go_simp
        try rfl
      . refine(Ji Y 0 X W).mono ?_
        rintro e w1 ⟨rfl,rfl⟩
        exact⟨_,rfl,D,rfl,hl,ht⟩
    refine Rp.Qj.h 1 (by kernel_rfl) (λa W A Kc f hu d hK=>?_) ?_
    . have af:=Qv (show Fb W1 R q cells rs0 z b g n I E [U O x.aft,Xs x.nm,S p y l] (S Y 0 X) (U O Sz0.last) (U O x.aft) bd [G true,G true,G F,.tuple #[]] F 1 A W from d) 0 (by decide);have b9:a.tmps[11]?.getD undef=G true:=(Rp.vu hu 0 11).trans af;clear af;obtain⟨D,rfl,hl,ht⟩:=d
      refine Rp.Jv (Gz0:=λv W'=>Fb W1 R q cells rs0 z b g n I E [U O x.aft,Xs x.nm,S p y l] (S Y 0 X) (U O Sz0.last) (U O x.aft) bd [G true,G true,G F,.tuple #[]] F 2 ([_]++[v]) W') (G true) (Rp.Qd rfl) (W':=W) ?_ ⟨D,rfl,hl,ht⟩ hK
      clear f hK hu
      go_simp
      try rfl
    refine Rp.gs (Rp.wc 1 12 (λ_ _ _ h=>Qv h 1)) 3 (ptr g 0) ?_
    refine Rp.gl (Rp.wc 1 12 (λ_ _ _ h=>Qv h 1)) 7 13 (λk A W hk d=>d.1.2.1) ?_
    refine Rp.gt (Rp.wc 1 12 (λ_ _ _ h=>Qv h 1)) 1 (ptr b 0) (λk A W hk d=>d.1.1) ?_
    refine Rp.g1 (Rp.wc 1 12 (λ_ _ _ h=>Qv h 1)) 9 15 ?_
    refine Rp.g1 (Rp.wc 1 12 (λ_ _ _ h=>Qv h 1)) 10 16 ?_
    refine Rp.gl (Rp.wc 1 12 (λ_ _ _ h=>Qv h 1)) 11 17 (λk A W hk d=>d.1.2.2.2) ?_
    refine Rp.Qj.c (by kernel_rfl) (λa W kk A Kc f hk hb hu d hK=>?_) ?_
    . have c4:=Rp.va f 8 14;have c3:=Rp.va f 12 18;have ad:=Qv (show Fb W1 R q cells rs0 z b g n I E [U O x.aft,Xs x.nm,S p y l] (S Y 0 X) (U O Sz0.last) (U O x.aft) bd [G true,G true,G F,.tuple #[]] F kk A W from d) 1 (hb 1 (of_decide_eq_true (by kernel_rfl)) (by kernel_rfl));have a3:a.tmps[12]?.getD undef=G true:=(Rp.cx_us hu 1 12 (by kernel_rfl) (hb 1 (of_decide_eq_true (by kernel_rfl)) (by kernel_rfl))).trans ad;clear ad;have cn:=a4.o
      refine Rp.QA (G F) (Rp.want_is rfl rfl (Ry (show 12<34 by decide) f.sz.symm) a3 rfl) rfl ?_ hK
      clear f hK d hu hb
      go_simp
      try rfl
    refine Rp.Qj.h 2 (by kernel_rfl) (λa W A Kc f hu d hK=>?_) ?_
    . have ad:=Qv (show Fb W1 R q cells rs0 z b g n I E [U O x.aft,Xs x.nm,S p y l] (S Y 0 X) (U O Sz0.last) (U O x.aft) bd [G true,G true,G F,.tuple #[]] F 2 A W from d) 1 (by decide);have a3:a.tmps[12]?.getD undef=G true:=(Rp.vu hu 1 12).trans ad;clear ad;have b8:=Rp.va f 13 19;obtain⟨D,rfl,hl,ht⟩:=d
      refine Rp.Jv (Gz0:=λv W'=>Fb W1 R q cells rs0 z b g n I E [U O x.aft,Xs x.nm,S p y l] (S Y 0 X) (U O Sz0.last) (U O x.aft) bd [G true,G true,G F,.tuple #[]] F 3 ([_,_]++[v]) W') (G F) (Rp.Qd rfl) (W':=W) ?_ ⟨D,rfl,hl,ht⟩ hK
      clear f hK hu
      go_simp
      try rfl
    refine Rp.hc 3 (λa W A f hu d=>?_) ?_
    . have e6:=Rp.va f 0 6;have ae:=Qv (show Fb W1 R q cells rs0 z b g n I E [U O x.aft,Xs x.nm,S p y l] (S Y 0 X) (U O Sz0.last) (U O x.aft) bd [G true,G true,G F,.tuple #[]] F 3 A W from d) 2 (by decide);have b7:a.tmps[20]?.getD undef=G F:=(Rp.vu hu 2 20).trans ae;clear ae;obtain⟨D,rfl,hl,ht⟩:=d
      refine⟨82,#[ptr q 0,G F],?_,?_⟩
      . clear f hu
        go_simp
        try rfl
      . refine(JZ q z bd F W ht).mono ?_
        rintro e w1 ⟨rfl,t1,g1⟩;have B:=hl.call g1
        exact⟨_,rfl,⟨B.s.bx HB.o,B.b1 0,(B.s.cell 15 HN.o).1,(B.s.cell 13 HS.o.last).1⟩,rfl,B,t1⟩
    exact Rp.Qj.nil
  . intro A a W f
    have ea:=Rp.ca f [6,7,8,9,10,11,12,13,14,15,16,17,18,19,20,21];have d:=f.ph
    simp only[Km,Tq,Rp.cv f 0 6,Rp.cv f 1 7,Rp.cv f 2 8,Rp.cv f 3 9,Rp.cv f 4 10,Rp.cu f 0 11,Rp.cu f 1 12,Rp.cv f 7 13,Rp.cv f 8 14,Rp.cv f 9 15,Rp.cv f 10 16,Rp.cv f 11 17,Rp.cv f 12 18,Rp.cv f 13 19,Rp.cu f 2 20,Rp.cu f 3 21]at ea
    clear f;subst ea;obtain⟨-,rfl,hl,ht⟩:=d;have H:=Hm (And.intro hl ht.te);clear hl ht C
    go_simp
    go_upto_region 2 with fail
    refine Rp.rg (nN:=34) [ptr R 0,ptr R 0,ptr R 0,ptr R 0,ptr R 12,I,Ag #[U O x.aft,Xs x.nm,S p y l],undef,undef,ptr R 0,ptr R 0,ptr R 12,undef] [7,8,12] 2 (Fd W1 R q cells rs0 z b g n I E [U O x.aft,Xs x.nm,S p y l] (bd || !F)) ?_ ?_ ?_
    . exact⟨λ_=>⟨H.o.1.s.bx HB.o,(H.o.1.s.cell 12 HC.o).1,λj u hu hj=>H.o.1.b1 j hu hj⟩,rfl,H.o.1.below bFz.drew,H.o.2.below bFz.drew⟩
    . refine Rp.ls 1 (ptr b 0) (λk A W hk d=>(d.1 hk).1) ?_
      refine Rp.ls 1 (ptr b 0) (λk A W hk d=>(d.1 hk).1) ?_
      refine Rp.o1 1 23 ?_
      refine Rp.o1 2 24 ?_
      refine Rp.o1 3 25 ?_
      refine Rp.l1 4 26 (λk A W hk d=>(d.1 hk).2.1) ?_
      refine Rp.Qj.c (by kernel_rfl) (λa W kk A Kc f hk hb hu d hK=>?_) ?_
      . have e3:a.tmps[3]?.getD undef=ptr g 0:=(Rp.JQ f 3 (by kernel_rfl)).trans rfl;have b3:=(d.1 hk).2.2 0 _ rfl (by decide);have b2:=(d.1 hk).2.2 1 _ rfl (by decide);have bz:=(d.1 hk).2.2 2 _ rfl (by decide)
        refine Rp.QA (Ag #[U O x.aft,Xs x.nm,S p y l]) (Rp.Qd rfl) rfl ?_ hK
        clear f hK d hu hb
        go_simp
        try rfl
      refine Rp.hv 0 (λa W A f hu d=>?_) ?_
      . have b6:=Rp.va f 6 28;obtain⟨ah,rfl,hl,ht⟩:=d
        refine⟨(S (some ⟨W.heap.size,0,none⟩) 1 1),W.alloc (Fc #[U O x.aft,Xs x.nm,S p y l] 131),?_,?_⟩
        . clear f hu
          go_simp
          try rfl
        . have hb:Bw W.heap.size W (W.alloc (Fc #[U O x.aft,Xs x.nm,S p y l] 131)):=bFz.alloc lRz _;have ab:=hl.below hb
          exact⟨λ_=>⟨ab.s.bx HB.o,(ab.s.cell 12 HC.o).1,λj u hu hj=>ab.b1 j hu hj⟩,W.heap.size,rfl,ab,ht.below hb,Qq _ _ _⟩
      refine Rp.ha 1 (λa W A f hu d Kc hK=>?_) ?_
      . have a2:=Rp.va f 5 27;have a1:=Rp.vu hu 0 29;obtain⟨ah,g1,rfl,hl,ht,a0⟩:=d;have ho:W.ownsRow R 131 3 I n E:=hl.s.own.tail.head
        refine Rp.ap (news:=[U O x.aft,Xs x.nm,S p y l]) a2 ho a1 a0 (by simp[Hq]) info_131 (by have:=av.o;unfold maxLen;omega) (by have:=av.o;omega) (Kf (Lv hl.s.lt) hl.s.gr.size) (λv' w' h1 h2 h3=>?_) hK
        have aa:Ln W1 R q cells (⟨131,3,n+1,v',E++[U O x.aft,Xs x.nm,S p y l]⟩::box 131 3 g [U O x.aft,Xs x.nm,S p y l]::rs0) w':=hl.push h2 h1 h3
        exact⟨λ_=>⟨aa.s.bx HB.o,(aa.s.cell 12 HC.o).1,λj u hu hj=>aa.b1 j hu hj⟩,g1,v',rfl,aa,hl.teq h2 ht⟩
      refine Rp.o1 0 22 ?_
      refine Rp.o1 9 31 ?_
      refine Rp.o1 10 32 ?_
      refine Rp.ht 2 (λa W A f hu d=>?_) ?_
      . have b4:=Rp.va f 11 33;have b5:=Rp.vu hu 1 30;obtain⟨ah,g1,v',rfl,hl,ht⟩:=d;obtain⟨cc,ff⟩:=hl.s.cell 12 HC.o;have ho:W.ownsRow R 131 3 v' (n+1) (E++[U O x.aft,Xs x.nm,S p y l]):=hl.s.own.tail.head;obtain⟨a',c',rfl⟩:=Qg ho
        refine⟨W.setCell ⟨R,12,none⟩ (S a' (n+1) c'),?_,?_⟩
        . clear f hu ho
          go_simp
          try rfl
        . exact⟨λh=>by omega,g1,_,rfl,hl.set 12 _,hl.tes ht 12 _⟩
      exact Rp.Qj.nil
    . intro A a W f
      have ea:=Rp.ca f [22,23,24,25,26,27,28,29,30,31,32,33];have d:=f.ph
      simp only[Km,Tq,Rp.cv f 0 22,Rp.cv f 1 23,Rp.cv f 2 24,Rp.cv f 3 25,Rp.cv f 4 26,Rp.cv f 5 27,Rp.cv f 6 28,Rp.cu f 0 29,Rp.cu f 1 30,Rp.cv f 9 31,Rp.cv f 10 32,Rp.cv f 11 33]at ea
      clear f;subst ea;obtain⟨-,g1,v',rfl,hl,ht⟩:=d
      go_wp2
      go_end0
      refine⟨rfl,_,_,z,_,hl.drop2,ht,λhb hw=>?_,?_⟩
      . simp at hb
        obtain⟨-,g2⟩:=HX.o.1 hb.1 hw;have a8:x.aft=Sz0.last:=by have:=a4.o;rw[hb.2]at this;exact eq_of_beq this
        refine⟨_,⟨HO.o,x,g2,a8,rfl⟩,cg.o v' _ hl⟩
      . rintro⟨S',g1,c,e1,e2,-⟩;obtain⟨p1,p2,rfl⟩:=HX.o.2 c (by simp) e1
        exact⟨by rw[p1,<- a4.o,e2];simp,p2⟩
 |succ nn =>
  have HN:=bl;have HO:Hid (¬Sz0.op=none):=λe=>by have:=bk.o.2 e;omega
  refine Rp.rg (nN:=34) [ptr q 0,ptr R 0,ptr R 0,ptr R 15,(S Y (nn+1) X),undef,undef,undef,undef,undef,undef,undef,undef,undef,undef,undef] [5,6,14,15] 4 (Fb W1 R q cells rs0 z b g n I E [U O x.aft,Xs x.nm,S p y l] (S Y (nn+1) X) (U O Sz0.last) (U O x.aft) bd [G false,G false,G false,.tuple #[]] false) ?_ ?_ ?_
  . exact⟨⟨C.o.1.s.bx HB.o,C.o.1.b1 0,(C.o.1.s.cell 15 HN.o).1,(C.o.1.s.cell 13 HS.o.last).1⟩,rfl,C.o.1.below bFz.drew,C.o.2.keep bFz.drew⟩
  . refine Rp.os 0 (ptr q 0) ?_
    refine Rp.ls 1 (ptr b 0) (λk A W hk d=>d.1.1) ?_
    refine Rp.o1 1 7 ?_
    refine Rp.o1 2 8 ?_
    refine Rp.l1 3 9 (λk A W hk d=>d.1.2.2.1) ?_
    refine Rp.hc 0 (λa W A f hu d=>?_) ?_
    . have cb:=Rp.va f 4 10;obtain⟨D,rfl,hl,ht⟩:=d
      refine⟨83,#[(S Y (nn+1) X)],?_,?_⟩
      . clear f hu
        go_simp
        try rfl
      . refine(Ji Y (nn+1) X W).mono ?_
        rintro e w1 ⟨rfl,rfl⟩
        exact⟨_,rfl,D,rfl,hl,ht⟩
    refine Rp.Qj.h 1 (by kernel_rfl) (λa W A Kc f hu d hK=>?_) ?_
    . have af:=Qv (show Fb W1 R q cells rs0 z b g n I E [U O x.aft,Xs x.nm,S p y l] (S Y (nn+1) X) (U O Sz0.last) (U O x.aft) bd [G false,G false,G false,.tuple #[]] false 1 A W from d) 0 (by decide);have b9:a.tmps[11]?.getD undef=G false:=(Rp.vu hu 0 11).trans af;clear af;obtain⟨D,rfl,hl,ht⟩:=d
      refine Rp.Jv (Gz0:=λv W'=>Fb W1 R q cells rs0 z b g n I E [U O x.aft,Xs x.nm,S p y l] (S Y (nn+1) X) (U O Sz0.last) (U O x.aft) bd [G false,G false,G false,.tuple #[]] false 2 ([_]++[v]) W') (G false) (Rp.Qd rfl) (W':=W) ?_ ⟨D,rfl,hl,ht⟩ hK
      clear f hK hu
      go_simp
      try rfl
    refine Rp.gn (Rp.wc 1 12 (λ_ _ _ h=>Qv h 1)) ?_
    refine Rp.gn (Rp.wc 1 12 (λ_ _ _ h=>Qv h 1)) ?_
    refine Rp.gn (Rp.wc 1 12 (λ_ _ _ h=>Qv h 1)) ?_
    refine Rp.gn (Rp.wc 1 12 (λ_ _ _ h=>Qv h 1)) ?_
    refine Rp.gn (Rp.wc 1 12 (λ_ _ _ h=>Qv h 1)) ?_
    refine Rp.gn (Rp.wc 1 12 (λ_ _ _ h=>Qv h 1)) ?_
    refine Rp.gn (Rp.wc 1 12 (λ_ _ _ h=>Qv h 1)) ?_
    refine Rp.Qj.h 2 (by kernel_rfl) (λa W A Kc f hu d hK=>?_) ?_
    . have ad:=Qv (show Fb W1 R q cells rs0 z b g n I E [U O x.aft,Xs x.nm,S p y l] (S Y (nn+1) X) (U O Sz0.last) (U O x.aft) bd [G false,G false,G false,.tuple #[]] false 2 A W from d) 1 (by decide);have a3:a.tmps[12]?.getD undef=G false:=(Rp.vu hu 1 12).trans ad;clear ad;have b8:=Rp.va f 13 19;obtain⟨D,rfl,hl,ht⟩:=d
      refine Rp.Jv (Gz0:=λv W'=>Fb W1 R q cells rs0 z b g n I E [U O x.aft,Xs x.nm,S p y l] (S Y (nn+1) X) (U O Sz0.last) (U O x.aft) bd [G false,G false,G false,.tuple #[]] false 3 ([_,_]++[v]) W') (G false) (Rp.Qd rfl) (W':=W) ?_ ⟨D,rfl,hl,ht⟩ hK
      clear f hK hu
      go_simp
      try rfl
    refine Rp.hc 3 (λa W A f hu d=>?_) ?_
    . have e6:=Rp.va f 0 6;have ae:=Qv (show Fb W1 R q cells rs0 z b g n I E [U O x.aft,Xs x.nm,S p y l] (S Y (nn+1) X) (U O Sz0.last) (U O x.aft) bd [G false,G false,G false,.tuple #[]] false 3 A W from d) 2 (by decide);have b7:a.tmps[20]?.getD undef=G false:=(Rp.vu hu 2 20).trans ae;clear ae;obtain⟨D,rfl,hl,ht⟩:=d
      refine⟨82,#[ptr q 0,G false],?_,?_⟩
      . clear f hu
        go_simp
        try rfl
      . refine(JZ q z bd false W ht).mono ?_
        rintro e w1 ⟨rfl,t1,g1⟩;have B:=hl.call g1
        exact⟨_,rfl,⟨B.s.bx HB.o,B.b1 0,(B.s.cell 15 HN.o).1,(B.s.cell 13 HS.o.last).1⟩,rfl,B,t1⟩
    exact Rp.Qj.nil
  . intro A a W f
    have ea:=Rp.ca f [6,7,8,9,10,11,12,13,14,15,16,17,18,19,20,21];have d:=f.ph
    simp only[Km,Tq,Rp.cv f 0 6,Rp.cv f 1 7,Rp.cv f 2 8,Rp.cv f 3 9,Rp.cv f 4 10,Rp.cu f 0 11,Rp.cu f 1 12,Rp.cv f 7 13,Rp.cv f 8 14,Rp.cv f 9 15,Rp.cv f 10 16,Rp.cv f 11 17,Rp.cv f 12 18,Rp.cv f 13 19,Rp.cu f 2 20,Rp.cu f 3 21]at ea
    clear f;subst ea;obtain⟨-,rfl,hl,ht⟩:=d;have H:=Hm (And.intro hl ht.te);clear hl ht C
    go_simp
    go_upto_region 2 with fail
    refine Rp.rg (nN:=34) [ptr R 0,ptr R 0,ptr R 0,ptr R 0,ptr R 12,I,Ag #[U O x.aft,Xs x.nm,S p y l],undef,undef,ptr R 0,ptr R 0,ptr R 12,undef] [7,8,12] 2 (Fd W1 R q cells rs0 z b g n I E [U O x.aft,Xs x.nm,S p y l] (bd || !false)) ?_ ?_ ?_
    . exact⟨λ_=>⟨H.o.1.s.bx HB.o,(H.o.1.s.cell 12 HC.o).1,λj u hu hj=>H.o.1.b1 j hu hj⟩,rfl,H.o.1.below bFz.drew,H.o.2.below bFz.drew⟩
    . refine Rp.ls 1 (ptr b 0) (λk A W hk d=>(d.1 hk).1) ?_
      refine Rp.ls 1 (ptr b 0) (λk A W hk d=>(d.1 hk).1) ?_
      refine Rp.o1 1 23 ?_
      refine Rp.o1 2 24 ?_
      refine Rp.o1 3 25 ?_
      refine Rp.l1 4 26 (λk A W hk d=>(d.1 hk).2.1) ?_
      refine Rp.Qj.c (by kernel_rfl) (λa W kk A Kc f hk hb hu d hK=>?_) ?_
      . have e3:a.tmps[3]?.getD undef=ptr g 0:=(Rp.JQ f 3 (by kernel_rfl)).trans rfl;have b3:=(d.1 hk).2.2 0 _ rfl (by decide);have b2:=(d.1 hk).2.2 1 _ rfl (by decide);have bz:=(d.1 hk).2.2 2 _ rfl (by decide)
        refine Rp.QA (Ag #[U O x.aft,Xs x.nm,S p y l]) (Rp.Qd rfl) rfl ?_ hK
        clear f hK d hu hb
        go_simp
        try rfl
      refine Rp.hv 0 (λa W A f hu d=>?_) ?_
      . have b6:=Rp.va f 6 28;obtain⟨ah,rfl,hl,ht⟩:=d
        refine⟨(S (some ⟨W.heap.size,0,none⟩) 1 1),W.alloc (Fc #[U O x.aft,Xs x.nm,S p y l] 131),?_,?_⟩
        . clear f hu
          go_simp
          try rfl
        . have hb:Bw W.heap.size W (W.alloc (Fc #[U O x.aft,Xs x.nm,S p y l] 131)):=bFz.alloc lRz _;have ab:=hl.below hb
          exact⟨λ_=>⟨ab.s.bx HB.o,(ab.s.cell 12 HC.o).1,λj u hu hj=>ab.b1 j hu hj⟩,W.heap.size,rfl,ab,ht.below hb,Qq _ _ _⟩
      refine Rp.ha 1 (λa W A f hu d Kc hK=>?_) ?_
      . have a2:=Rp.va f 5 27;have a1:=Rp.vu hu 0 29;obtain⟨ah,g1,rfl,hl,ht,a0⟩:=d;have ho:W.ownsRow R 131 3 I n E:=hl.s.own.tail.head
        refine Rp.ap (news:=[U O x.aft,Xs x.nm,S p y l]) a2 ho a1 a0 (by simp[Hq]) info_131 (by have:=av.o;unfold maxLen;omega) (by have:=av.o;omega) (Kf (Lv hl.s.lt) hl.s.gr.size) (λv' w' h1 h2 h3=>?_) hK
        have aa:Ln W1 R q cells (⟨131,3,n+1,v',E++[U O x.aft,Xs x.nm,S p y l]⟩::box 131 3 g [U O x.aft,Xs x.nm,S p y l]::rs0) w':=hl.push h2 h1 h3
        exact⟨λ_=>⟨aa.s.bx HB.o,(aa.s.cell 12 HC.o).1,λj u hu hj=>aa.b1 j hu hj⟩,g1,v',rfl,aa,hl.teq h2 ht⟩
      refine Rp.o1 0 22 ?_
      refine Rp.o1 9 31 ?_
      refine Rp.o1 10 32 ?_
      refine Rp.ht 2 (λa W A f hu d=>?_) ?_
      . have b4:=Rp.va f 11 33;have b5:=Rp.vu hu 1 30;obtain⟨ah,g1,v',rfl,hl,ht⟩:=d;obtain⟨cc,ff⟩:=hl.s.cell 12 HC.o;have ho:W.ownsRow R 131 3 v' (n+1) (E++[U O x.aft,Xs x.nm,S p y l]):=hl.s.own.tail.head;obtain⟨a',c',rfl⟩:=Qg ho
        refine⟨W.setCell ⟨R,12,none⟩ (S a' (n+1) c'),?_,?_⟩
        . clear f hu ho
          go_simp
          try rfl
        . exact⟨λh=>by omega,g1,_,rfl,hl.set 12 _,hl.tes ht 12 _⟩
      exact Rp.Qj.nil
    . intro A a W f
      have ea:=Rp.ca f [22,23,24,25,26,27,28,29,30,31,32,33];have d:=f.ph
      simp only[Km,Tq,Rp.cv f 0 22,Rp.cv f 1 23,Rp.cv f 2 24,Rp.cv f 3 25,Rp.cv f 4 26,Rp.cv f 5 27,Rp.cv f 6 28,Rp.cu f 0 29,Rp.cu f 1 30,Rp.cv f 9 31,Rp.cv f 10 32,Rp.cv f 11 33]at ea
      clear f;subst ea;obtain⟨-,g1,v',rfl,hl,ht⟩:=d
      go_wp2
      go_end0
      refine⟨rfl,_,_,z,_,hl,ht,λhb hw=>?_,?_⟩
      . simp at hb
      . rintro⟨S',g1,-⟩
        exact absurd g1 HO.o
end
def Fpu (D:Nat)(w0:J)(zs:List (Nat × Obj))(p off T sz n:Nat)(vl:Vu)(cl xs:List Vu)(bT bs g:Nat)(bc cells:List Vu)(rs:List Qb)(k:Nat)(us:List Vu)(W:J):Prop:=Rp.Fz (λW=>W.cell? ⟨p,off,none⟩=some vl/\∀j u,bc[j]?=some u->j<bs->W.cell? ⟨g,j,none⟩=some u) 2
 [fun us W=>us=[]/\Mq D w0 zs (rB p cells::⟨T,sz,n,vl,cl⟩::box bT bs g bc::rs) W,
  λus W=>∃g',us=[S (some ⟨g',0,none⟩) 1 1]/\Mq D w0 zs (rB p cells::⟨T,sz,n,vl,cl⟩::box bT bs g bc::rs) W/\∀j u,xs[j]?=some u->W.cell? ((⟨g',0,none⟩:Ad).add j)=some u,
  λus W=>∃g' v',us=[S (some ⟨g',0,none⟩) 1 1,v']/\Mq D w0 zs (rB p cells::⟨T,sz,n+1,v',cl++xs⟩::box bT bs g bc::rs) W,
  fun us W=>∃g' v',us=[S (some ⟨g',0,none⟩) 1 1,v',undef]/\Mq D w0 zs (rB p (cells.set off v')::⟨T,sz,n+1,v',cl++xs⟩::box bT bs g bc::rs) W] k us W
theorem Mq.b1 {D:Nat}{w0:J}{zs:List (Nat × Obj)}{a b:Qb}{t n g:Nat}{cs:List Vu}(h:Mq D w0 zs (a::b::Yz.box t n g cs::rs) V)(j:Nat){u:Vu}(c:cs[j]?=some u:=by exact rfl)(hj:j<n:=by first|decide|omega):V.cell? ⟨g,j,none⟩=some u:=(h.bx (t:=t) (n:=n) (cs:=cs) (by simp) j c hj).1
def lastC:Code->Code
 |.seq _ b=>lastC b
 |c=>c
def lastO:Option Code->Code
 |some c=>lastC c
 |none=>.region 0 #[] false
variable [PK]
theorem three {α:Type}{ws:List α}(h:N ws=3):∃s t u,ws=[s,t,u]:=by
 match ws,h with
 |[a,b,c],_=>exact⟨a,b,c,rfl⟩
theorem if3_no {α:Type}{o1 o2 o3:Wd->Bool}{f:Wd->Wd->Wd->α}{ws:List Wd}(h:N ws≠3):if3 o1 o2 o3 f ws=none:=by
 match ws,h with
 |[],_=>rfl
 |[_],_=>rfl
 |[_,_],_=>rfl
 |[_,_,_],h=>exact absurd rfl h
 |_::_::_::_::_,_=>rfl
section
variable {D:Nat}{w0 w V W:J}{zs zs':List (Nat × Obj)}{p off j:Nat}{cells:List Vu}{X kk r rest:List Qb}{L:List (List Qb)}{e bx:Qb}{F:Option Mod}{z:Bool}{v':Vu}
theorem EnM.fin (a:off<13)(k:j<N L)(d:∀q∈zs,q∈zs')(hm:Mq D w0 zs' (rB p ((cells.set 19 (G z)).set off v')::e::bx::(r++((L.eraseIdx j).flatten++kk++X))) W)(h1:z=true->F=none)(m:z=false->∃c,F=some c/\MRz zs' c ((cells.set 19 (G z)).set off v') (L.set j (e::(kk++r)))):EnM F D w0 zs p cells X (Z (.tuple #[])) W:=by
 have g:=hm.mo.len;have b:((cells.set 19 (G z)).set off v')[19]?=some (G z):=by rw[Kz (by omega)];exact Ky (by simp at g;omega)
 refine⟨rfl,?_⟩;cases z with
 |true=>exact .inl ⟨h1 rfl,_,_,hm.mo,b⟩
 |false =>
  obtain⟨c,o,n⟩:=m rfl
  refine .inr ⟨c,_,_,zs',d,o,n,?_,((Sm.refl cells).set (.inr (by decide)) _).set (.inl a) _,b⟩
  have f:=perm_fin (X:=X) (e:=e) (kk:=kk) (r:=r) k;have l:Mq D w0 zs' (bx::(rB p ((cells.set 19 (G false)).set off v')::(e::(r++((L.eraseIdx j).flatten++kk++X))))) W:=hm.perm (((Kq _ _ _).cons _).trans (Kq _ _ _))
  exact l.tail.perm (f.cons _)
end
theorem mexp_c (D:Nat)(w0:J)(zs:List (Nat × Obj))(p:Nat)(cells:List Vu)(X:List Qb)(m:Mod)(w:J)(a:Option Ad)(c:Nat)(ws:List Wd)(h:Rd2 D w0 zs p cells X m w a c ws)(hz:N m.fj<=1048576):Ec Q 72 #[ptr p 0,S a (N ws) c] w (EnM ((XV ws).map λx=>{ m with fj:=m.fj++[x] }) D w0 zs p cells X):=by
 have v:=Hm h.lb;have HH:=Hm h;by_cases H:N ws=3
 . obtain⟨s,t,u,rfl⟩:=three H;obtain⟨b,o,rfl⟩:=h.wv.at (by simp);have K1:=Hm (λW=>mkind_c t W);have cw:=v.o.wd 1 (x:=t) rfl;simp only[Kj,Kg,Kk];clear h H;cases hk:okK t with
   |false =>
    have av:=kdM_no hk;have HK:=Hm hk;rw[av]at K1;clear hk av
    go_enter func72,ntmps72
    go_wp2_with fail
    refine(K1.o _).mono ?_
    rintro e w1 ⟨rfl,A⟩;replace v:=Hm (v.o.keep A);clear A;clear cw K1;have KB:=Hm (QG p false _ v.o.pb)
    go_wp2_with fail
    refine KB.o.mono ?_
    rintro e wb ⟨rfl,F,q⟩;replace v:=Hm (v.o.call F q);clear F q KB
    go_wp2
    refine bodyPost_ret (results_none rfl _ _ _) rfl ?_
    exact HH.o.bads v.o (by simp[XV,if3,HK.o])
   |true =>
    obtain⟨k,Y⟩:∃k,k=kdM t:=⟨_,rfl⟩;have bq:¬k<0:=by rw[Y,kdM_ok hk];have:=kdN_of t;omega
    have HK:=Hm (And.intro hk (Y.trans (kdM_ok hk)));rw[<- Y]at K1;clear hk Y
    go_enter func72,ntmps72
    go_wp2_with fail
    refine(K1.o _).mono ?_
    rintro e w1 ⟨rfl,A⟩;replace v:=Hm (v.o.keep A);clear A;have cw:=v.o.wd 1 (x:=t) rfl
    go_wp2_with fail
    refine(K1.o _).mono ?_
    rintro e w2 ⟨rfl,A⟩;replace v:=Hm (v.o.keep A);clear A;clear cw K1
    go_upto_region 3 with fail
    obtain⟨g,hg⟩:∃g,g=w2.heap.size:=⟨_,rfl⟩;obtain⟨V1,af⟩:∃V,V=w2.alloc (Fc #[Xs ⟨#[]⟩,U O k,U O 0] 157):=⟨_,rfl⟩
    have d:Hid (Lb w p (some ⟨b,o,none⟩) [s,t,u] false [box 157 3 g [Xs ⟨#[]⟩,U O k,U O 0]] V1):=by
     refine Hm ?_
     rw[af,hg];exact v.o.box (cur:=#[Xs ⟨#[]⟩,U O k,U O 0]) 157 3 rfl
    rw[<- af,<- hg];clear af hg v;have cw:=d.o.wd 0 (x:=s) rfl
    simp only[Hc]at cw
    have K2:=Hm (mname_c p s false V1 d.o.pb (HH.o.hl s (by simp)));obtain⟨z,C⟩:∃z,z=(false || !JA s):=⟨_,rfl⟩;rw[<- C]at K2;have HZ:=Hm C;clear C
    go_wp2_with fail
    refine K2.o.mono ?_
    rintro e w3 ⟨y,rfl,F,q,hy⟩;have HY:=Hm hy;replace d:=Hm (d.o.call F q);clear F q hy K2 cw;obtain⟨ca,fa⟩:=d.o.b0 0
    go_upto_region 4 with fail
    refine Qh (λUz0=>Lb w p (some ⟨b,o,none⟩) [s,t,u] z [box 157 3 g [Xs (Sz0 y),U O k,U O 0]] Uz0) (d.o.set 0 (Xs (Sz0 y))) ?_
    intro V2 M
    replace d:=Hm M;clear M ca fa;have ae:¬c=2:=by have:=HH.o.hc;simp at this;omega
    have K3:=Hm (mu32_c p _ (c-2) [u] z V2 d.o.pb (by have:=d.o.wv.drop 2 (by simp) HH.o.hc;rwa [if_neg ae]at this) (λx hx=>HH.o.hl x (by simp at hx;simp[hx])));obtain⟨z2,C⟩:∃z2,z2=(z || (uF [u]).isNone):=⟨_,rfl⟩;have ah:=Hm C;clear C
    go_wp2_with fail
    refine K3.o.mono ?_
    rintro e w4 ⟨x,rfl,F,q,hy⟩;rw[<- ah.o]at F;have HX:=Hm hy;replace d:=Hm (d.o.call F q);clear F q hy K3 ae;obtain⟨ca,fa⟩:=d.o.b0 2
    go_upto_region 5 with fail
    refine Qh (λUz0=>Lb w p (some ⟨b,o,none⟩) [s,t,u] z2 [box 157 3 g [Xs (Sz0 y),U O k,U O x]] Uz0) (d.o.set 2 (U O x)) ?_
    intro V2 M
    replace d:=Hm M;clear M ca fa;obtain⟨L,E,au⟩:=HH.o.ex;obtain⟨vl,cl,kk,e1,R,pm⟩:=E.fj.at_;obtain⟨n,hn⟩:∃n,n=N m.fj:=⟨_,rfl⟩;have HN:Hid (n<=1048576):=Hm (by omega);obtain⟨l,I⟩:∃cs,cs=cells.set 19 (G z2):=⟨_,rfl⟩;have HC:Hid (l[6]?=some vl):=Hm (by rw[I,Kz (by decide)];exact e1);obtain⟨rest,hr⟩:∃r,r=[]++((L.eraseIdx 6).flatten++kk++X):=⟨_,rfl⟩
    have HM:Hid (Mq D w0 zs (rB p l::⟨157,3,n,vl,cl⟩::box 157 3 g [Xs (Sz0 y),U O k,U O x]::rest) V2):=by
     refine Hm ?_
     rw[I,hr,hn]
     exact(d.o.backq au HH.o.hk).perm ((((Je pm).cons _).trans (Kq _ _ _)).cons _)
    have HE:=Hm (And.intro E (And.intro R (And.intro I (And.intro hr hn))));clear E au e1 R pm hn I hr hz
    refine Rp.rg (nN:=45) [ptr p 0,ptr p 0,ptr p 0,ptr p 0,ptr p 6,vl,Ag #[Xs (Sz0 y),U O k,U O x],undef,undef,ptr p 0,ptr p 0,ptr p 6,undef] [7,8,12] 2 (Fpu D w0 zs p 6 157 3 n vl cl [Xs (Sz0 y),U O k,U O x] 157 3 g [Xs (Sz0 y),U O k,U O x] l rest) ?_ ?_ ?_
    . exact⟨λ_=>⟨(HM.o.b0 6 HC.o).1,λj u hu hj=>HM.o.b1 j hu hj⟩,rfl,HM.o.keep bFz.drew⟩
    . refine Rp.os 0 (ptr p 0) ?_
      refine Rp.os 0 (ptr p 0) ?_
      refine Rp.o1 1 34 ?_
      refine Rp.o1 2 35 ?_
      refine Rp.o1 3 36 ?_
      refine Rp.l1 4 37 (λk us W hk B=>(B.1 hk).1) ?_
      refine Rp.Qj.c (by kernel_rfl) (λa W kk us Kc f hk hb hu B hK=>?_) ?_
      . have e4:a.tmps[4]?.getD undef=ptr g 0:=(Rp.JQ f 4 (by kernel_rfl)).trans rfl;have bs:=(B.1 hk).2 0 _ rfl (by decide);have I:=(B.1 hk).2 1 _ rfl (by decide);have ae:=(B.1 hk).2 2 _ rfl (by decide)
        refine Rp.QA (Ag #[Xs (Sz0 y),U O k,U O x]) (Rp.Qd rfl) rfl ?_ hK
        clear f hK B hu hb
        go_simp
        try rfl
      refine Rp.hv 0 (λa W us f hu B=>?_) ?_
      . have b2:=Rp.va f 6 39;obtain⟨ar,rfl,hm⟩:=B
        refine⟨(S (some ⟨W.heap.size,0,none⟩) 1 1),W.alloc (Fc #[Xs (Sz0 y),U O k,U O x] 157),?_,?_⟩
        . clear f hu
          go_simp
          try rfl
        . have ad:=hm.keep (bFz.alloc lRz (Fc #[Xs (Sz0 y),U O k,U O x] 157))
          exact⟨λ_=>⟨(ad.b0 6 HC.o).1,λj u hu hj=>ad.b1 j hu hj⟩,W.heap.size,rfl,ad,Qq _ _ _⟩
      refine Rp.ha 1 (λa W us f hu B Kc hK=>?_) ?_
      . have a9:=Rp.va f 5 38;have a8:=Rp.vu hu 0 40;obtain⟨ar,g1,rfl,hm,a5⟩:=B;have ho:W.ownsRow D 157 3 vl n cl:=hm.mo.own.tail.head
        refine Rp.ap (news:=[Xs (Sz0 y),U O k,U O x]) a9 ho a8 a5 (by simp[Hq]) info_into154 (by have:=HN.o;unfold maxLen;omega) (by have:=HN.o;omega) hm.le (λv' w' h1 h2 H=>?_) hK
        have ac:Mq D w0 zs (rB p l::⟨157,3,n+1,v',cl++[Xs (Sz0 y),U O k,U O x]⟩::box 157 3 g [Xs (Sz0 y),U O k,U O x]::rest) w':=hm.push2 h2 h1 H
        exact⟨λh=>⟨(ac.b0 6 HC.o).1,λj u hu hj=>ac.b1 j hu hj⟩,g1,v',rfl,ac⟩
      refine Rp.o1 0 33 ?_
      refine Rp.o1 9 42 ?_
      refine Rp.o1 10 43 ?_
      refine Rp.ht 2 (λa W us f hu B=>?_) ?_
      . have bw:=Rp.va f 11 44;have bz:=Rp.vu hu 1 41;obtain⟨ar,g1,v',rfl,hm⟩:=B;obtain⟨b3,ff⟩:=hm.b0 6 HC.o;have ho:W.ownsRow D 157 3 v' (n+1) (cl++[Xs (Sz0 y),U O k,U O x]):=hm.mo.own.tail.head;obtain⟨a',c',rfl⟩:=Qg ho
        refine⟨W.setCell ⟨p,6,none⟩ (S a' (n+1) c'),?_,?_⟩
        . clear f hu ho
          go_simp
          try rfl
        . exact⟨λh=>by omega,g1,_,rfl,hm.set 6 _⟩
      exact Rp.Qj.nil
    . intro us a W f
      have ea:=Rp.ca f [33,34,35,36,37,38,39,40,41,42,43,44];have B:=f.ph
      simp only[Km,Tq,Rp.cv f 0 33,Rp.cv f 1 34,Rp.cv f 2 35,Rp.cv f 3 36,Rp.cv f 4 37,Rp.cv f 5 38,Rp.cv f 6 39,Rp.cu f 0 40,Rp.cu f 1 41,Rp.cv f 9 42,Rp.cv f 10 43,Rp.cv f 11 44]at ea
      clear f;subst ea;obtain⟨-,g1,v',rfl,hm⟩:=B
      go_wp2
      go_end0
      have hE:=HE.o;obtain⟨E,R,rfl,rfl,rfl⟩:=hE
      refine EnM.fin (off:=6) (j:=6) (z:=z2) (kk:=kk) (r:=[]) (by decide) (by rw[E.ll];decide) (λ_ hq=>hq) hm (λh=>?_) (λh=>?_)
      . have:=ah.o.symm.trans h
        rw[HZ.o]at this;have h1:=HK.o.1
        cases h2:JA s with
        |false=>simp[XV,if3,h2]
        |true =>
         cases H:okU u with
         |false=>simp[XV,if3,h2,H]
         |true=>exfalso;simp[h2,uF,if1,H]at this
      . have h0:=ah.o.symm.trans h;rw[HZ.o]at h0;have h1:=HK.o.1
        simp[uF,if1]at h0
        obtain⟨h2,H⟩:=h0;have ey:=HY.o h2;have ex:=HX.o (nv u) (by rw[HZ.o];simp[h2]) (by simp[uF,if1,H])
        refine⟨_,by simp only[XV,if3,h1,h2,H];rfl,?_⟩
        have:=(E.set_far (i:=19) (by decide) (G z2)).set_exps (u:=v') (R.snoc (x:=⟨Sz0 (Qm s),kdN t,nv u⟩) (cs:=[Xs (Sz0 y),U O k,U O x]) (rs:=[]) ⟨by rw[ey,ex,HK.o.2],rfl⟩)
        simpa only[Kb,Kj,Kg,Kk]using this
 have br:¬(N ws:Int)=3:=by omega
 have HF:=Hm (if3_no (o1:=JA) (o2:=okK) (o3:=okU) (f:=λa b c=>(⟨Sz0 (Qm a),kdN b,nv c⟩:Exp)) H);clear h H;go_enter func72,ntmps72;have KB:=Hm (QG p false _ v.o.pb);go_wp2_with fail
 refine KB.o.mono ?_;rintro e wb ⟨rfl,F,q⟩;replace v:=Hm (v.o.call F q);clear F q KB;go_wp2;refine bodyPost_ret (results_none rfl _ _ _) rfl ?_;exact HH.o.bads v.o (by unfold XV;rw[HF.o];rfl)
end YtejkdbnngphgaaaGreatDoor.Yz
namespace YtejkdbnngphgaaaGreatDoor.Yz
open Go.RowKit Go.Sort
variable {bd:Bool}{ps rs:List Int}{ws done:List Wd}
variable [PK]
theorem Lb.push {w V n W:J}{p:Nat}{a:Option Ad}{r r':Qb}{rs:List Qb}(h:Lb w p a ws bd (r::rs) V)(q:Bw V.heap.size V n)(d:n.grownBy W r.v.ownBlock)(own:r'.Ok w.heap.size W)(m:r'.v.ownBlock=r.v.ownBlock\/r'.v.ownBlock=some n.heap.size):Lb w p a ws bd (r'::rs) W:=by
 have c:=h.keep q;have f:∀k,r.v.ownBlock=some k->w.heap.size<=k:=λk hk=>(h.own.lt (QF.2 ⟨r,by simp,hk⟩)).1;have hi:=h.hi;refine⟨(h.mo.push q d own m).own,c.pb.grown d (λe=>by have:=f p e;have:=h.pb.lt2;have:=h.g.size;omega),⟨d.os.trans c.g.os,d.tape.trans c.g.tape,d.output.trans c.g.output,Kf c.g.size d.size,λj hj hne=>(d.block j (Nat.lt_of_lt_of_le hj c.g.size) (λe=>by have:=f j e.symm;omega)).trans (c.g.block j hj hne)⟩,?_,h.hi⟩;rcases c.wv with e|⟨b,o,e,l,hc⟩
 . exact .inl e
 exact .inr ⟨b,o,e,l,λi hi2=>(World.cell?_of_block (d.block b (by have:=c.pb.lt2;omega) (λe=>by have:=f b e.symm;omega))).trans (hc i hi2)⟩
def TyI (done:List Wd)(ps rs:List Int)(ar bd:Bool):Prop:=(ar=false/\(∀x∈done,x≠arW)/\rs=[]/\ps=done.map tyN/\bd=!done.all okT)\/(ar=true/\∃pre post,done=pre++arW::post/\(∀x∈pre,x≠arW)/\ps=pre.map tyN/\rs=post.map tyN/\bd=!(pre.all okT&&post.all okT))
theorem TyI.start:TyI [] [] [] false false:=.inl ⟨rfl,(λx hx=>by cases hx),rfl,rfl,rfl⟩
theorem TyI.arrow (h:TyI done ps rs false bd):TyI (done++[arW]) ps rs true bd:=by
 rcases h with ⟨-,d,c,b,a⟩|⟨h,-⟩
 . exact .inr ⟨rfl,done,[],rfl,d,b,by rw[c];rfl,by rw[a];simp⟩
 cases h
theorem TyI.par {s:Wd}(h:TyI done ps rs false bd)(a:s≠arW):TyI (done++[s]) (ps++[tyN s]) rs false (bd || !okT s):=by
 rcases h with ⟨-,f,d,c,b⟩|⟨h,-⟩
 . refine .inl ⟨rfl,λx hx=>?_,d,by rw[c];simp,by rw[b];simp⟩;rcases List.mem_append.1 hx with hx|hx
   . exact f x hx
   simp at hx;subst hx;exact a
 cases h
theorem TyI.res {s:Wd}(h:TyI done ps rs true bd):TyI (done++[s]) ps (rs++[tyN s]) true (bd || !okT s):=by
 rcases h with ⟨h,-⟩|⟨-,b,a,j,g,f,d,c⟩
 . cases h
 exact .inr ⟨rfl,b,a++[s],by rw[j];simp,g,f,by rw[d];simp,by rw[c];simp[Bool.and_assoc,Bool.or_assoc]⟩
theorem TyI.fin {l z:Bool}(h:TyI ws ps rs l bd)(f:z=(bd || (!l || decide (1<N rs)))):(z=true->ftF ws=none)/\(z=false->ftF ws=some ⟨ps,rs⟩):=by
 rcases h with ⟨d,c,k,j,g⟩|⟨d,b,a,c,k,j,g,n⟩
 . subst d;(have m:ws.dropWhile (·≠arW)=[]:=by have:=(FtI.fin (ws:=ws) (done:=ws) (rest:=[]) ⟨by simp,c⟩ (.inl rfl)).2;exact this);refine⟨λ_=>?_,λe=>by rw[f]at e;simp at e⟩;unfold ftF;rw[m];split<;>rfl
 subst d;obtain⟨p,o⟩:=FtI.fin (ws:=ws) (done:=b) (rest:=arW::a) ⟨c,k⟩ (.inr rfl);unfold ftF;rw[p,o,f,n,g,j];cases hp:b.all okT with
 |false=>simp
 |true =>
  match a with
  |[]=>simp
  |[r]=>cases hr:okT r<;>simp[hr]
  |_::_::_=>simp
theorem typ_fin {D:Nat}{w0:J}{zs:List (Nat × Obj)}{p:Nat}{cells:List Vu}{X:List Qb}{m:Mod}{w:J}{a:Option Ad}{c:Nat}(h:Rd2 D w0 zs p cells X m w a c ws)(hz:N m.types<=1048576){F:Option Mod}{Y:Act}{W0:J}{E:Bool}{g:Nat}{r:List Qb}{l d:Vu}(hN:Y.tmps.size=72)(hD:Y.defers=[])(h0:Y.tmps[0]?.getD undef=ptr p 0)(h4:Y.tmps[4]?.getD undef=ptr g 0)(hR:Lb w p a ws E (box 137 2 g [l,d]::r) W0)(h1:∀u∈([l,d]:List Vu),u.oneCell'=true) (A:E=true->F=none) (y:E=false->∃en,F=some { m with types:=m.types++[en] }/\RFT en [l,d] r):Code.wp Q (lastO f67.body) (bodyPost Q f67 (EnM F D w0 zs p cells X)) Y W0:=by
 simp only[f67,lastO,lastC];obtain⟨L,q,R⟩:=h.ex;obtain⟨H,V,kk,e1,v,pm⟩:=q.types.at_;obtain⟨n,hn⟩:∃n,n=N m.types:=⟨_,rfl⟩;have HN:Hid (n<=1048576):=Hm (by omega);obtain⟨b,t⟩:∃cs,cs=cells.set 19 (G E):=⟨_,rfl⟩;have HC:Hid (b[0]?=some H):=Hm (by rw[t,Kz (by decide)];exact e1);obtain⟨rest,hr⟩:∃rr,rr=r++((L.eraseIdx 0).flatten++kk++X):=⟨_,rfl⟩;have HM:Hid (Mq D w0 zs (rB p b::⟨137,2,n,H,V⟩::box 137 2 g [l,d]::rest) W0):=by refine Hm ?_;rw[t,hr,hn];have hq:=hR.backq R h.hk;refine hq.perm (Tp _ ?_);refine(Lm _ (Je pm)).trans ?_;exact List.perm_middle.trans (Tp _ (Im _))
 have HE:=Hm (And.intro q (And.intro v (And.intro t (And.intro hr (And.intro hn (And.intro A y))))));clear q R e1 v pm hn t hr hz hR A y;refine Rp.rg (nN:=72) [ptr p 0,ptr p 0,ptr p 0,ptr p 0,ptr p 0,H,Ag #[l,d],undef,undef,ptr p 0,ptr p 0,ptr p 0,undef] [7,8,12] 2 (Fpu D w0 zs p 0 137 2 n H V [l,d] 137 2 g [l,d] b rest) ?_ ?_ ?_ (hN:=hN)
 . exact⟨λ_=>⟨(HM.o.b0 0 HC.o).1,λj u hu hj=>HM.o.b1 j hu hj⟩,rfl,HM.o.keep bFz.drew⟩
 . refine Rp.os 0 (ptr p 0) ?_ (hx:=h0);refine Rp.os 0 (ptr p 0) ?_ (hx:=h0);refine Rp.o1 1 61 ?_;refine Rp.o1 2 62 ?_;refine Rp.o1 3 63 ?_;refine Rp.l1 4 64 (λk I W hk s=>(s.1 hk).1) ?_;refine Rp.Qj.c (by kernel_rfl) (λa W kk I Kc f hk hb hu s hK=>?_) ?_
   . have e4:a.tmps[4]?.getD undef=ptr g 0:=(Rp.JQ f 4 (by kernel_rfl)).trans h4;have ay:=(s.1 hk).2 0 _ rfl (by decide);have t:=(s.1 hk).2 1 _ rfl (by decide);refine Rp.QA (Ag #[l,d]) (Rp.Qd rfl) rfl ?_ hK;clear f hK s hu hb;go_simp;try rfl
   refine Rp.hv 0 (λa W I f hu s=>?_) ?_
   . have a5:=Rp.va f 6 66;obtain⟨M,rfl,hm⟩:=s;refine⟨(S (some ⟨W.heap.size,0,none⟩) 1 1),W.alloc (Fc #[l,d] 137),?_,?_⟩
     . clear f hu;go_simp;try rfl
     have C:=hm.keep (bFz.alloc lRz (Fc #[l,d] 137));exact⟨λ_=>⟨(C.b0 0 HC.o).1,λj u hu hj=>C.b1 j hu hj⟩,W.heap.size,rfl,C,Qq _ _ _⟩
   refine Rp.ha 1 (λa W I f hu s Kc hK=>?_) ?_
   . have aj:=Rp.va f 5 65;have ai:=Rp.vu hu 0 67;obtain⟨M,g1,rfl,hm,ag⟩:=s;have ho:W.ownsRow D 137 2 H n V:=hm.mo.own.tail.head;refine Rp.ap (news:=[l,d]) aj ho ai ag h1 info_into149 (by have:=HN.o;unfold maxLen;omega) (by have:=HN.o;omega) hm.le (λv' w' h1 h2 h3=>?_) hK;have B:Mq D w0 zs (rB p b::⟨137,2,n+1,v',V++[l,d]⟩::box 137 2 g [l,d]::rest) w':=hm.push2 h2 h1 h3;exact⟨λh=>⟨(B.b0 0 HC.o).1,λj u hu hj=>B.b1 j hu hj⟩,g1,v',rfl,B⟩
   refine Rp.o1 0 60 ?_;refine Rp.o1 9 69 ?_;refine Rp.o1 10 70 ?_;refine Rp.ht 2 (λa W I f hu s=>?_) ?_
   . have a3:=Rp.va f 11 71;have a4:=Rp.vu hu 1 68;obtain⟨M,g1,v',rfl,hm⟩:=s;obtain⟨a7,ff⟩:=hm.b0 0 HC.o;have ho:W.ownsRow D 137 2 v' (n+1) (V++[l,d]):=hm.mo.own.tail.head;obtain⟨a',c',rfl⟩:=Qg ho;refine⟨W.setCell ⟨p,0,none⟩ (S a' (n+1) c'),?_,?_⟩
     . clear f hu ho;go_simp;try rfl
     exact⟨λh=>by omega,g1,_,rfl,hm.set 0 _⟩
   exact Rp.Qj.nil
 intro I a W f;have ea:=Rp.ca f [60,61,62,63,64,65,66,67,68,69,70,71] (hN:=hN);have s:=f.ph;simp only[Km,Tq,Rp.cv f 0 60,Rp.cv f 1 61,Rp.cv f 2 62,Rp.cv f 3 63,Rp.cv f 4 64,Rp.cv f 5 65,Rp.cv f 6 66,Rp.cu f 0 67,Rp.cu f 1 68,Rp.cv f 9 69,Rp.cv f 10 70,Rp.cv f 11 71]at ea;clear f;subst ea;obtain⟨-,g1,v',rfl,hm⟩:=s;refine bodyPost_end (results_none rfl _ _ _) (by simp only[Act.defers_put'];exact hD) ?_;have hE:=HE.o;obtain⟨q,v,rfl,rfl,rfl,A,y⟩:=hE;refine EnM.fin (zs':=zs) (off:=0) (j:=0) (z:=E) (kk:=kk) (r:=r) (by decide) (by rw[q.ll];decide) (λ_ hq=>hq) hm A (λh=>?_);obtain⟨en,e1,e2⟩:=y h;refine⟨_,e1,?_⟩;have:=(q.set_far (i:=19) (by decide) (G E)).set_types (u:=v') (v.snoc e2);simpa only[Kb,Kj,Kg,Kk]using this
theorem mtyp_c (D:Nat)(w0:J)(zs:List (Nat × Obj))(p:Nat)(cells:List Vu)(X:List Qb)(m:Mod)(w:J)(a:Option Ad)(c:Nat)(ws:List Wd)(h:Rd2 D w0 zs p cells X m w a c ws)(hz:N m.types<=1048576)(hn:N ws<=1048576):Ec Q 67 #[ptr p 0,S a (N ws) c] w (EnM ((ftF ws).map λx=>{ m with types:=m.types++[x] }) D w0 zs p cells X):=by
 obtain⟨i0,hi,bp,bo,bn⟩:=info_parts info2;have a4:=Hm h.lb;have HH:=Hm h;clear h;obtain⟨g,hg⟩:∃g,g=w.heap.size:=⟨_,rfl⟩;obtain⟨V1,au⟩:∃V,V=w.alloc (Fc #[S none 0 0,S none 0 0] 137):=⟨_,rfl⟩;have a3:Hid (Lb w p a ws false [box 137 2 g [S none 0 0,S none 0 0],nR (S none 0 0) [],nR (S none 0 0) []] V1):=by
  refine Hm ?_;have q:=a4.o.box (cur:=#[S none 0 0,S none 0 0]) 137 2 rfl;rw[<- au,<- hg]at q;have h2:Own w.heap.size V1 [nR (S none 0 0) [],nR (S none 0 0) []]:=⟨fun r hr=>by
   have:r=nR (S none 0 0) []:=by simpa using hr
   subst this
   exact⟨rfl,.inl ⟨rfl,rfl⟩⟩,by simp[blk,nR,Lc]⟩
  exact⟨q.own.app (b:=[nR (S none 0 0) [],nR (S none 0 0) []]) h2 (λk _ hk=>by simp[blk,nR,Lc]at hk),q.pb,q.g,q.wv,q.hi⟩
 clear a4;go_enter func67,ntmps67;go_upto_region 3 with fail
 rw[<- au,<- hg];clear au hg;go_loopw [5,6] (λva vi wr=>∃(k:Nat) (ps rs:List Int) (ar bd:Bool) (vp vr:Vu),va=G ar/\vi=U O (k:Int)/\k<=N ws/\Lb w p a ws bd [box 137 2 g [vp,vr],nR vp ps,nR vr rs] wr/\Hid (TyI (ws.take k) ps rs ar bd/\N ps<=k/\N rs<=k)) (λ_ vi _=>N ws-(intOf vi).toNat)
 case atStart=>exact⟨0,[],[],false,false,_,_,rfl,rfl,Hw _,a3.o,TyI.start,lRz,lRz⟩
 clear a3;obtain⟨k,ps,rs,ar,bd,vp,vr,rfl,rfl,hk,hR,hh⟩:=hrel;obtain⟨B,pc,rfl⟩:=Qg (show wr.ownsRow w.heap.size 2 1 vp (N ps) (I ps)from hR.own.all (nR vp ps) (by simp));obtain⟨A,y,rfl⟩:=Qg (show wr.ownsRow w.heap.size 2 1 vr (N rs) (I rs)from hR.own.all (nR vr rs) (by simp));have j:=Hm hR;clear hR;have br:=hh.o.2.1;have bq:=hh.o.2.2;by_cases ae:k<N ws
 . (have ba:(k:Int)<(N ws:Int):=by omega);obtain⟨b,o,rfl⟩:=j.o.wv.at (by intro e;rw[e]at ae;simp at ae);(have ai:ws[k]?=some (ws.getD k []):=by simp[Ty,Kv ae]);have cw:=j.o.wd k ai;(have a0:ws.take (k+1)=ws.take k++[ws.getD k []]:=by rw[Iw];simp[Ty,ae]);(have w5:IntKind.i64.wrap ((k:Int)+1)=(k:Int)+1:=by rw[Kw];omega);clear ai;generalize ws.getD k []=s at *;have HT:=Hm a0;have a1:=ar_eq s;clear a0;by_cases hs:s=arW
   . rw[decide_eq_true hs]at a1;have HS:=Hm hs;clear hs;cases ar with
     |false =>
      have l:Hid (TyI (ws.take (k+1)) ps rs true bd/\N ps<=k+1/\N rs<=k+1):=Hm ⟨by rw[HT.o,HS.o];exact hh.o.1.arrow,by omega,by omega⟩
      go_wp2
      go_roundw
      case rel=>exact⟨k+1,ps,rs,true,bd,_,_,rfl,by go_num,by omega,j.o,l.o⟩
      case measure=>simp[intOf];omega
     |true =>
      have C:=Hm (sty_c s wr);have R:Hid (okT s=false):=Hm (by rw[HS.o];decide);rw[show(!(tyN s==0))=false from R.o]at C
      have l:Hid (TyI (ws.take (k+1)) ps (rs++[tyN s]) true true/\N ps<=k+1/\(rs++[tyN s]).length<=k+1):=by
       have q:=hh.o.1.res (s:=s);rw[<- HT.o,R.o]at q
       exact Hm ⟨by simpa using q,by first|omega|(simp;omega),by first|omega|(simp;omega)⟩
      obtain⟨x,hx⟩:∃x,x=tyN s:=⟨_,rfl⟩;rw[<- hx]at C l;clear hx
      go_wp2_with fail
      refine C.o.mono ?_
      rintro e w1 ⟨rfl,rfl⟩;clear C cw;have KB:=Hm (QG p bd _ j.o.pb)
      go_wp2_with fail
      refine KB.o.mono ?_
      rintro e wb ⟨rfl,Y,n⟩;replace j:=Hm (j.o.call Y n);clear Y n KB;obtain⟨c0,f0⟩:=j.o.b0 1;have HO:Hid (wb.ownsRow w.heap.size 2 1 (S A (N rs) y) (N rs) (I rs)):=Hm (j.o.own.all (nR (S A (N rs) y) rs) (by simp));have M:=Hm (j.o.perm (rs':=nR (S A (N rs) y) rs::[box 137 2 g [(S B (N ps) pc),(S A (N rs) y)],nR (S B (N ps) pc) ps]) (((Kq _ _ _).cons _).trans (Kq _ _ _)));have af:w.heap.size<=wb.heap.size:=j.o.g.size
      go_wp2_with (at_builtin;refine wal info2 (HO.o.alloc _) [U O x] (cell_one_new _ _ _) (oneI _) ?_;intro H w3 d t L f;have v:=Hm ((M.o.push (r':=nR H (rs++[x])) (bFz.alloc lRz _) t (by show w3.ownsRow w.heap.size 2 1 H (rs++[x]).length (I (rs++[x]));simpa[I]using d) f).perm (rs':=box 137 2 g [(S B (N ps) pc),(S A (N rs) y)]::nR (S B (N ps) pc) ps::[nR H (rs++[x])]) ((Kq _ _ _).trans ((Kq _ _ _).cons _)));obtain⟨F,E,rfl⟩:=Qg d;obtain⟨d0,e0⟩:=v.o.b0 1;clear d t L f)
      go_roundw
      case rel=>exact⟨k+1,ps,rs++[x],true,true,_,_,rfl,by go_num,by omega,v.o.set 1 (S F (N rs+1) E),l.o⟩
      case measure=>simp[intOf];omega
   rw[decide_eq_false hs]at a1;have a5:=Hm hs;clear hs;have C:=Hm (sty_c s wr);have aa:Hid ((!(tyN s==0))=okT s):=Hm rfl;rw[aa.o]at C;cases hok:okT s with
   |false =>
    have R:=Hm hok;rw[hok]at C;clear hok aa
    cases ar with
    |false =>
     have l:Hid (TyI (ws.take (k+1)) (ps++[tyN s]) rs false true/\(ps++[tyN s]).length<=k+1/\N rs<=k+1):=by
      have q:=hh.o.1.par a5.o;rw[<- HT.o,R.o]at q
      exact Hm ⟨by simpa using q,by first|omega|(simp;omega),by first|omega|(simp;omega)⟩
     obtain⟨x,hx⟩:∃x,x=tyN s:=⟨_,rfl⟩;rw[<- hx]at C l;clear hx
     go_wp2_with fail
     refine C.o.mono ?_
     rintro e w1 ⟨rfl,rfl⟩;clear C cw;have KB:=Hm (QG p bd _ j.o.pb)
     go_wp2_with fail
     refine KB.o.mono ?_
     rintro e wb ⟨rfl,Y,n⟩;replace j:=Hm (j.o.call Y n);clear Y n KB;obtain⟨c0,f0⟩:=j.o.b0 0;have HO:Hid (wb.ownsRow w.heap.size 2 1 (S B (N ps) pc) (N ps) (I ps)):=Hm (j.o.own.all (nR (S B (N ps) pc) ps) (by simp));have M:=Hm (j.o.perm (rs':=nR (S B (N ps) pc) ps::[box 137 2 g [(S B (N ps) pc),(S A (N rs) y)],nR (S A (N rs) y) rs]) (Kq _ _ _));have af:w.heap.size<=wb.heap.size:=j.o.g.size
     go_wp2_with (at_builtin;refine wal info2 (HO.o.alloc _) [U O x] (cell_one_new _ _ _) (oneI _) ?_;intro H w3 d t L f;have v:=Hm ((M.o.push (r':=nR H (ps++[x])) (bFz.alloc lRz _) t (by show w3.ownsRow w.heap.size 2 1 H (ps++[x]).length (I (ps++[x]));simpa[I]using d) f).perm (rs':=box 137 2 g [(S B (N ps) pc),(S A (N rs) y)]::nR H (ps++[x])::[nR (S A (N rs) y) rs]) (Kq _ _ _));obtain⟨F,E,rfl⟩:=Qg d;obtain⟨d0,e0⟩:=v.o.b0 0;clear d t L f)
     go_roundw
     case rel=>exact⟨k+1,ps++[x],rs,false,true,_,_,rfl,by go_num,by omega,v.o.set 0 (S F (N ps+1) E),l.o⟩
     case measure=>simp[intOf];omega
    |true =>
     have l:Hid (TyI (ws.take (k+1)) ps (rs++[tyN s]) true true/\N ps<=k+1/\(rs++[tyN s]).length<=k+1):=by
      have q:=hh.o.1.res (s:=s);rw[<- HT.o,R.o]at q
      exact Hm ⟨by simpa using q,by first|omega|(simp;omega),by first|omega|(simp;omega)⟩
     obtain⟨x,hx⟩:∃x,x=tyN s:=⟨_,rfl⟩;rw[<- hx]at C l;clear hx
     go_wp2_with fail
     refine C.o.mono ?_
     rintro e w1 ⟨rfl,rfl⟩;clear C cw;have KB:=Hm (QG p bd _ j.o.pb)
     go_wp2_with fail
     refine KB.o.mono ?_
     rintro e wb ⟨rfl,Y,n⟩;replace j:=Hm (j.o.call Y n);clear Y n KB;obtain⟨c0,f0⟩:=j.o.b0 1;have HO:Hid (wb.ownsRow w.heap.size 2 1 (S A (N rs) y) (N rs) (I rs)):=Hm (j.o.own.all (nR (S A (N rs) y) rs) (by simp));have M:=Hm (j.o.perm (rs':=nR (S A (N rs) y) rs::[box 137 2 g [(S B (N ps) pc),(S A (N rs) y)],nR (S B (N ps) pc) ps]) (((Kq _ _ _).cons _).trans (Kq _ _ _)));have af:w.heap.size<=wb.heap.size:=j.o.g.size
     go_wp2_with (at_builtin;refine wal info2 (HO.o.alloc _) [U O x] (cell_one_new _ _ _) (oneI _) ?_;intro H w3 d t L f;have v:=Hm ((M.o.push (r':=nR H (rs++[x])) (bFz.alloc lRz _) t (by show w3.ownsRow w.heap.size 2 1 H (rs++[x]).length (I (rs++[x]));simpa[I]using d) f).perm (rs':=box 137 2 g [(S B (N ps) pc),(S A (N rs) y)]::nR (S B (N ps) pc) ps::[nR H (rs++[x])]) ((Kq _ _ _).trans ((Kq _ _ _).cons _)));obtain⟨F,E,rfl⟩:=Qg d;obtain⟨d0,e0⟩:=v.o.b0 1;clear d t L f)
     go_roundw
     case rel=>exact⟨k+1,ps,rs++[x],true,true,_,_,rfl,by go_num,by omega,v.o.set 1 (S F (N rs+1) E),l.o⟩
     case measure=>simp[intOf];omega
   |true =>
    have R:=Hm hok;rw[hok]at C;clear hok aa
    cases ar with
    |false =>
     have l:Hid (TyI (ws.take (k+1)) (ps++[tyN s]) rs false bd/\(ps++[tyN s]).length<=k+1/\N rs<=k+1):=by
      have q:=hh.o.1.par a5.o;rw[<- HT.o,R.o]at q
      exact Hm ⟨by simpa using q,by first|omega|(simp;omega),by first|omega|(simp;omega)⟩
     obtain⟨x,hx⟩:∃x,x=tyN s:=⟨_,rfl⟩;rw[<- hx]at C l;clear hx
     go_wp2_with fail
     refine C.o.mono ?_
     rintro e w1 ⟨rfl,rfl⟩;clear C cw;obtain⟨c0,f0⟩:=j.o.b0 0;have HO:Hid (wr.ownsRow w.heap.size 2 1 (S B (N ps) pc) (N ps) (I ps)):=Hm (j.o.own.all (nR (S B (N ps) pc) ps) (by simp));have M:=Hm (j.o.perm (rs':=nR (S B (N ps) pc) ps::[box 137 2 g [(S B (N ps) pc),(S A (N rs) y)],nR (S A (N rs) y) rs]) (Kq _ _ _));have af:w.heap.size<=wr.heap.size:=j.o.g.size
     go_wp2_with (at_builtin;refine wal info2 (HO.o.alloc _) [U O x] (cell_one_new _ _ _) (oneI _) ?_;intro H w3 d t L f;have v:=Hm ((M.o.push (r':=nR H (ps++[x])) (bFz.alloc lRz _) t (by show w3.ownsRow w.heap.size 2 1 H (ps++[x]).length (I (ps++[x]));simpa[I]using d) f).perm (rs':=box 137 2 g [(S B (N ps) pc),(S A (N rs) y)]::nR H (ps++[x])::[nR (S A (N rs) y) rs]) (Kq _ _ _));obtain⟨F,E,rfl⟩:=Qg d;obtain⟨d0,e0⟩:=v.o.b0 0;clear d t L f)
     go_roundw
     case rel=>exact⟨k+1,ps++[x],rs,false,bd,_,_,rfl,by go_num,by omega,v.o.set 0 (S F (N ps+1) E),l.o⟩
     case measure=>simp[intOf];omega
    |true =>
     have l:Hid (TyI (ws.take (k+1)) ps (rs++[tyN s]) true bd/\N ps<=k+1/\(rs++[tyN s]).length<=k+1):=by
      have q:=hh.o.1.res (s:=s);rw[<- HT.o,R.o]at q
      exact Hm ⟨by simpa using q,by first|omega|(simp;omega),by first|omega|(simp;omega)⟩
     obtain⟨x,hx⟩:∃x,x=tyN s:=⟨_,rfl⟩;rw[<- hx]at C l;clear hx
     go_wp2_with fail
     refine C.o.mono ?_
     rintro e w1 ⟨rfl,rfl⟩;clear C cw;obtain⟨c0,f0⟩:=j.o.b0 1;have HO:Hid (wr.ownsRow w.heap.size 2 1 (S A (N rs) y) (N rs) (I rs)):=Hm (j.o.own.all (nR (S A (N rs) y) rs) (by simp));have M:=Hm (j.o.perm (rs':=nR (S A (N rs) y) rs::[box 137 2 g [(S B (N ps) pc),(S A (N rs) y)],nR (S B (N ps) pc) ps]) (((Kq _ _ _).cons _).trans (Kq _ _ _)));have af:w.heap.size<=wr.heap.size:=j.o.g.size
     go_wp2_with (at_builtin;refine wal info2 (HO.o.alloc _) [U O x] (cell_one_new _ _ _) (oneI _) ?_;intro H w3 d t L f;have v:=Hm ((M.o.push (r':=nR H (rs++[x])) (bFz.alloc lRz _) t (by show w3.ownsRow w.heap.size 2 1 H (rs++[x]).length (I (rs++[x]));simpa[I]using d) f).perm (rs':=box 137 2 g [(S B (N ps) pc),(S A (N rs) y)]::nR (S B (N ps) pc) ps::[nR H (rs++[x])]) ((Kq _ _ _).trans ((Kq _ _ _).cons _)));obtain⟨F,E,rfl⟩:=Qg d;obtain⟨d0,e0⟩:=v.o.b0 1;clear d t L f)
     go_roundw
     case rel=>exact⟨k+1,ps,rs++[x],true,bd,_,_,rfl,by go_num,by omega,v.o.set 1 (S F (N rs+1) E),l.o⟩
     case measure=>simp[intOf];omega
 have e:k=N ws:=by omega
 subst e;have ba:¬(N ws:Int)<(N ws:Int):=by omega
 have aq:=hh.o.1;rw[Ik]at aq;have l:=Hm aq;clear aq;have ah:∀u∈([(S B (N ps) pc),(S A (N rs) y)]:List Vu),u.oneCell'=true:=by simp[Hq]
 have H1:=Hm ah;have HF:Hid (∀z:Bool,z=(bd || (!ar || decide (1<N rs)))->(z=true->(ftF ws).map (λx=>{ m with types:=m.types++[x] })=none)/\(z=false->∃en,(ftF ws).map (λx=>{ m with types:=m.types++[x] })=some { m with types:=m.types++[en] }/\RFT en [(S B (N ps) pc),(S A (N rs) y)] [nR (S B (N ps) pc) ps,nR (S A (N rs) y) rs])):=by refine Hm (λz hz=>?_);have q:=l.o.fin hz;exact⟨λe=>by rw[q.1 e];rfl,λe=>⟨⟨ps,rs⟩,by rw[q.2 e];rfl,_,_,rfl,rfl⟩⟩
 have c1:=(j.o.b0 1).1;clear ah hh;cases ar with
 |false =>
  go_wp2_with fail
  refine(QG p bd _ j.o.pb).mono ?_
  rintro e wb ⟨rfl,Y,n⟩;replace j:=Hm (j.o.call Y n);clear Y n
  go_upto_region 15 with fail
  have hf:=HF.o true (by simp)
  exact typ_fin HH.o hz rfl rfl rfl rfl j.o H1.o hf.1 hf.2
 |true =>
  by_cases q:1<N rs
  . have bb:(1:Int)<(N rs:Int):=by omega
    have HX:=Hm q;clear q
    go_wp2_with fail
    refine(QG p bd _ j.o.pb).mono ?_
    rintro e wb ⟨rfl,Y,n⟩;replace j:=Hm (j.o.call Y n);clear Y n
    go_upto_region 15 with fail
    have hf:=HF.o true (by simp[HX.o])
    exact typ_fin HH.o hz rfl rfl rfl rfl j.o H1.o hf.1 hf.2
  . have bb:¬(1:Int)<(N rs:Int):=by omega
    have HX:=Hm q;clear q
    go_upto_region 15 with fail
    have hf:=HF.o bd (by simp[HX.o])
    exact typ_fin HH.o hz rfl rfl rfl rfl j.o H1.o hf.1 hf.2
end YtejkdbnngphgaaaGreatDoor.Yz
namespace YtejkdbnngphgaaaGreatDoor.Yz
open Go.RowKit Go.Sort
def KpP (m':Mod)(W1:J)(R q:Nat)(cells:List Vu)(ws:List Wd)(bad:Bool)(e:Ending)(w':J):Prop:=e=Z (.tuple #[])/\∃cells' rs',Ln W1 R q cells' rs' w'/\Te w' q ws bad/\(∃L,MR m' cells' L/\rs'.Perm L.flatten)/\(∀j,13<=j->cells'[j]?=cells[j]?)/\(∀(j:Nat) (b:ByteArray),cells'[j]?≠some (Pw b))
theorem LI'.sl {W1 V:J}{R q:Nat}{cells:List Vu}{rs r:List Qb}{is:List In}{v:Vu}(h:LI' is v r)(hl:Ln W1 R q cells rs V)(b:∀x∈r,x∈rs):∃a c,v=S a (N is) c:=by
 obtain⟨c,k,-,rfl⟩:=h;exact Qg (show V.ownsRow R 70 5 v (N is) c from hl.s.own.all _ (mC (b _ (mS ..))))
section
variable (W1:J) (R q:Nat) (cells:List Vu) (rs:List Qb) (V:J) (m:Mod) (is:List In) (ws:List Wd) (bad:Bool) (h:Ln W1 R q cells rs V) (t:Te V q ws bad) (L:List (List Qb)) (hm:MR m cells L) (ia:Option Ad) (il ic:Nat) (r1:List Qb) (hi:LI' is (S ia il ic) r1) (ns:∀(j:Nat) (b:ByteArray),cells[j]?≠some (Pw b))
include h t hm hi ns
theorem kpg (c:Q8)(p o g:Nat)(hp:rs.Perm (L.flatten++(box 74 2 g [U O c.ty,G c.mu]::r1)))(h1:Bt W1 R p (ptr R 5))(A:Bt W1 R o (fnV 98))(z:N m.fq<=1048576):Ec Q 157 #[S ia il ic,ptr p 0,ptr o 0,ptr g 0] V (KpP { m with fq:=m.fq++[⟨c,is⟩] } W1 R q cells ws bad):=by
 obtain⟨v,cs,kk,B,n,y⟩:=hm.fq.at_;have l:rs.Perm (⟨76,3,N m.fq,v,cs⟩::box 74 2 g [U O c.ty,G c.mu]::((L.eraseIdx 5).flatten++kk++r1)):=by refine hp.trans ((y.append_right _).trans ?_);rw[Tv];exact Tp _ Hn
 refine(keep157 W1 R q cells _ V ws bad (N m.fq) v cs p o g ia il ic c.ty c.mu (h.perm l) t h1 A B z).mono ?_;rintro e r ⟨rfl,v',f,k⟩;have d:RGlob ⟨c,is⟩ [U O c.ty,G c.mu,S ia il ic] r1:=⟨_,rfl,hi⟩;refine⟨rfl,_,_,f.drop2,k,⟨_,hm.set_globs (n.snoc d) (u:=v'),?_⟩,fun j hj=>Kz (by omega),Ju ns _ (by
  obtain⟨a,b,rfl⟩:=Qg (show r.ownsRow R 76 3 v' (N m.fq+1) _ from f.s.own.tail.head)
  intro b e;cases e)⟩
 refine Ly ?_ (Jd.back (by rw[hm.ll];decide));simp only[Kb,Kj,Kg,Kk];refine Tp _ ?_;rw[Kd]
theorem kpe (d:List Int)(a:Option Ad)(c:Nat)(r p k:Nat)(hp:rs.Perm (L.flatten++(box 25 1 k [S a (N d) c]::(r1++[nR (S a (N d) c) d]))))(h1:Bt W1 R r (ptr R 9))(B:Bt W1 R p (fnV 101))(A:N m.fw<=1048576):Ec Q 161 #[S ia il ic,ptr r 0,ptr p 0,ptr k 0] V (KpP { m with fw:=m.fw++[⟨is,d⟩] } W1 R q cells ws bad):=by
 obtain⟨v,cs,kk,C,o,z⟩:=hm.fw.at_;have n:rs.Perm (⟨78,2,N m.fw,v,cs⟩::box 25 1 k [S a (N d) c]::((L.eraseIdx 7).flatten++kk++(r1++[nR (S a (N d) c) d]))):=by refine hp.trans ((z.append_right _).trans ?_);rw[Tv];exact Tp _ Hn
 refine(keep161 W1 R q cells _ V ws bad (N m.fw) v cs r p k ia il ic a (N d) c (h.perm n) t h1 B C A).mono ?_;rintro e y ⟨rfl,v',g,l⟩;have f:REle ⟨is,d⟩ [S ia il ic,S a (N d) c] (r1++[nR (S a (N d) c) d]):=⟨_,_,r1,rfl,hi,rfl⟩;refine⟨rfl,_,_,g.drop2,l,⟨_,hm.set_elems (o.snoc f) (u:=v'),?_⟩,fun j hj=>Kz (by omega),Ju ns _ (by
  obtain⟨a,b,rfl⟩:=Qg (show y.ownsRow R 78 2 v' (N m.fw+1) _ from g.s.own.tail.head)
  intro b e;cases e)⟩
 refine Ly ?_ (Jd.back (by rw[hm.ll];decide));simp only[Kb,Kj,Kg,Kk];refine Tp _ ?_;rw[Kd]
theorem kpc (ls:List Grp)(a:Option Ad)(c:Nat)(p o g:Nat)(hp:rs.Perm (L.flatten++(box 79 1 g [S a (N ls) c]::(⟨206,2,N ls,S a (N ls) c,gcs ls⟩::r1))))(h1:Bt W1 R p (ptr R 10))(A:Bt W1 R o (fnV 104))(z:N m.gq<=1048576):Ec Q 163 #[S ia il ic,ptr p 0,ptr o 0,ptr g 0] V (KpP { m with gq:=m.gq++[⟨ls,is⟩] } W1 R q cells ws bad):=by
 obtain⟨v,cs,kk,B,n,y⟩:=hm.gq.at_;have l:rs.Perm (⟨81,2,N m.gq,v,cs⟩::box 79 1 g [S a (N ls) c]::((L.eraseIdx 8).flatten++kk++(⟨206,2,N ls,S a (N ls) c,gcs ls⟩::r1))):=by refine hp.trans ((y.append_right _).trans ?_);rw[Tv];exact Tp _ Hn
 refine(keep163 W1 R q cells _ V ws bad (N m.gq) v cs p o g ia il ic a (N ls) c (h.perm l) t h1 A B z).mono ?_;rintro e r ⟨rfl,v',f,k⟩;have d:RCod ⟨ls,is⟩ [S a (N ls) c,S ia il ic] (⟨206,2,N ls,S a (N ls) c,gcs ls⟩::r1):=⟨_,gcs ls,_,r1,rfl,lr_gcs ls,hi,rfl⟩;refine⟨rfl,_,_,f.drop2,k,⟨_,hm.set_codes (n.snoc d) (u:=v'),?_⟩,fun j hj=>Kz (by omega),Ju ns _ (by
  obtain⟨a,b,rfl⟩:=Qg (show r.ownsRow R 81 2 v' (N m.gq+1) _ from f.s.own.tail.head)
  intro b e;cases e)⟩
 refine Ly ?_ (Jd.back (by rw[hm.ll];decide));simp only[Kb,Kj,Kg,Kk];refine Tp _ ?_;rw[Kd]
theorem kpd (d:Wd)(a:Option Ad)(c:Nat)(r p k:Nat)(hp:rs.Perm (L.flatten++(box 22 1 k [S a (N d) c]::(r1++[bR (S a (N d) c) (Iy d)]))))(h1:Bt W1 R r (ptr R 11))(B:Bt W1 R p (fnV 107))(A:N m.gj<=1048576):Ec Q 166 #[S ia il ic,ptr r 0,ptr p 0,ptr k 0] V (KpP { m with gj:=m.gj++[⟨is,Iy d⟩] } W1 R q cells ws bad):=by
 obtain⟨v,cs,kk,C,o,z⟩:=hm.gj.at_;have n:rs.Perm (⟨83,2,N m.gj,v,cs⟩::box 22 1 k [S a (N d) c]::((L.eraseIdx 9).flatten++kk++(r1++[bR (S a (N d) c) (Iy d)]))):=by refine hp.trans ((z.append_right _).trans ?_);rw[Tv];exact Tp _ Hn
 refine(keep166 W1 R q cells _ V ws bad (N m.gj) v cs r p k ia il ic a (N d) c (h.perm n) t h1 B C A).mono ?_;rintro e y ⟨rfl,v',g,l⟩;have f:RDat ⟨is,Iy d⟩ [S ia il ic,S a (N d) c] (r1++[bR (S a (N d) c) (Iy d)]):=⟨_,_,r1,rfl,hi,rfl⟩;refine⟨rfl,_,_,g.drop2,l,⟨_,hm.set_datas (o.snoc f) (u:=v'),?_⟩,fun j hj=>Kz (by omega),Ju ns _ (by
  obtain⟨a,b,rfl⟩:=Qg (show y.ownsRow R 83 2 v' (N m.gj+1) _ from g.s.own.tail.head)
  intro b e;cases e)⟩
 refine Ly ?_ (Jd.back (by rw[hm.ll];decide));simp only[Kb,Kj,Kg,Kk];refine Tp _ ?_;rw[Kd]
theorem kp_c (l:Hd)(o:Vu)(n:List Qb)(k:HdR W1 R o n l)(hp:rs.Perm (L.flatten++(r1++n)))(j:N m.fq<=1048576/\N m.fw<=1048576/\N m.gq<=1048576/\N m.gj<=1048576):∃kf f d b,o=.func (.func kf) #[] #[ptr f 0,ptr d 0,ptr b 0]/\(∀(args:Array Vu) (w:J),(callFunc kf args).run Q w=.ok (.enter kf args) w)/\Ec Q kf #[S ia il ic,ptr f 0,ptr d 0,ptr b 0] V (KpP (Xsz0 m is l) W1 R q cells ws bad):=by
 cases l with
 |glob t0 =>
  obtain⟨f,d,b,rfl,b1,g,rfl⟩:=k
  exact⟨_,f,d,b,rfl,(λargs w=>by go_simp),kpg W1 R q cells rs V m is ws bad h t L hm ia il ic r1 hi ns t0 f d b (hp.trans ((Hp (l₁:=r1)).append_left _)) b1 g j.1⟩
 |elem fs =>
  obtain⟨f,d,b,a,c,rfl,b1,g,rfl⟩:=k
  exact⟨_,f,d,b,rfl,(λargs w=>by go_simp),kpe W1 R q cells rs V m is ws bad h t L hm ia il ic r1 hi ns fs a c f d b (hp.trans (List.perm_middle.append_left _)) b1 g j.2.1⟩
 |code ls =>
  obtain⟨f,d,b,a,c,rfl,b1,g,rfl⟩:=k
  exact⟨_,f,d,b,rfl,(λargs w=>by go_simp),kpc W1 R q cells rs V m is ws bad h t L hm ia il ic r1 hi ns ls a c f d b (hp.trans ((Hp (l₁:=r1)).append_left _)) b1 g j.2.2.1⟩
 |data bs =>
  obtain⟨f,d,b,a,c,rfl,b1,g,rfl⟩:=k
  exact⟨_,f,d,b,rfl,(λargs w=>by go_simp),kpd W1 R q cells rs V m is ws bad h t L hm ia il ic r1 hi ns bs a c f d b (hp.trans (List.perm_middle.append_left _)) b1 g j.2.2.2⟩
end
