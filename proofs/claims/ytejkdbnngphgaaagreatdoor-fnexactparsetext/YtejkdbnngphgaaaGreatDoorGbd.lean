import Derived.Test.YtejkdbnngphgaaaGreatDoorGba
import Derived.Test.YtejkdbnngphgaaaGreatDoorGas
import Derived.RangeFuncWrites
import Derived.RangeFuncBox
import Derived.RangeFuncNested
import Derived.RangeFuncBound
import Derived.RangeFuncCalls
import Derived.RangeFuncLeaves
import Derived.Shelf.Abstract
import Derived.OwnWalkIn
import Derived.TacticsInMore
import Derived.LoopNIn
import Derived.LoopIn
import Derived.Maps.RangeWalk
set_option linter.all false
set_option maxHeartbeats 400000000
set_option maxRecDepth 100000
namespace Go.Proofs
open Value renaming int->U,slice->S,bool->G,pointer->Yp,string->Xs,agg->Ag
open IntKind renaming i64->O,u64->Ou
open Ending renaming returned->Z
open Obj renaming cells->Fc
open Go renaming World->J,Calls->Ec,Value->Vu,Addr->Ad
open Go.RowKit renaming Below->Bw
open Tryz renaming prog->Q
open Tryz
open List renaming cons_append->Tv,perm_middle->Hn,foldl_cons->Km,foldl_nil->Tq,getElem?_set_self->Ky,getElem?_set_ne->Kz,append_nil->Tb,length_cons->Kj,mem_of_getElem?->Tj,tail_cons->Ij,take_append_drop->Ld,length->Hx,getElem?_eq_getElem->Kv,take_of_length_le->My,mem_of_find?_eq_some->Mw,find?_some->If,all_eq_true->Px,size_toArray->Rv,length_nil->Kg,push_toArray->Bg,append_toArray->Af,nil_append->Hj,length_drop->Rx,length_append->Kb,length->N
open List.Perm renaming swap->Kq,trans->Ly,cons->Tp,refl->Im
open Value renaming string->Pw,ownBlock->Lc
open Nat renaming le_trans->Kf,lt_trichotomy->Eh,eq_zero_or_pos->Am,reduceAdd->Bc,reduceSub->Dz,lt_of_lt_of_le->Tc
open Option renaming isSome_map->Hf,map_eq_some_iff->Tz,bind_some->Pq
open World renaming alloc_heap_new->Aj,size_alloc->Aw,putObj_heap_same->Rj,putObj_heap_other->Mz,putObj->Cw,cell?_of_block->Kx,block_lt_of_cell?->Kh,cell?->Rq
open RowKit.Below renaming heap_setCell->Hk
open _root_.Array renaming replicate_succ->Ax,replicate_zero->Aq
open IntKind renaming wrap_i64->Kw
namespace YtejkdbnngphgaaaGreatDoor.Yz
open Go.RowKit Go.Sort
variable {V W:J}{r:List Wd}{R mb j:Nat}{Zz0 Z':St}{v:Vu}{l s m t:Wd}
def InsG (Sz0:St)(x:In)(S':St):Prop:=∃p n',Sz0.op=some p/\Q0 p.n x.op=some n'/\S'=if n'=[]then⟨Xsz0 Sz0.m (p.is++[x]) p.hd,Sz0.last,none⟩else ⟨Sz0.m,Sz0.last,some ⟨p.hd,p.is++[x],n'⟩⟩
def InP (W1:J)(R q:Nat)(mp:Vu)(Sz0:St)(x:In)(ws:List Wd)(bd:Bool)(e:Ending)(w':J):Prop:=e=Z (.tuple #[])/\∃cells rs bd',Ln W1 R q cells rs w'/\Te w' q ws bd'/\(bd'=false->bd=false/\∃S',InsG Sz0 x S'/\SR W1 R mp S' cells rs)/\(bd=false->(∃S',InsG Sz0 x S')->bd'=false)
theorem Te.flag {q:Nat}{ws:List Wd}{bad:Bool}(h:Te V q ws bad)(z:Bool):Te (V.setCell ⟨q,1,none⟩ (G z)) q ws z:=by
 obtain⟨a,c,b⟩:=h.c0;exact⟨⟨a,c,Qi b⟩,QW h.c1,λi=>by rw[World.frozen?_setCell];exact h.fz i⟩
theorem in_one (x:In)(la:Option Ad)(lc:Nat):∀u∈([U O x.op,U O x.a,U O x.b,U Ou x.v,S la (N x.l) lc]:List Vu),u.oneCell'=true:=by simp[Value.oneCell']
section
variable (W1:J) (R q:Nat) (mp:Vu) (cells:List Vu) (rs:List Qb) (V:J) (Sz0:St) (x:In) (la:Option Ad) (lc:Nat) (ws:List Wd) (bd:Bool)
theorem rstep_nil2 (op:Int)(a:Option Ad)(c:Nat)(h:Ln W1 R q cells rs V)(hc:cells[15]?=some (S a 0 c)):Ec Q 109 #[Yp (some ⟨R,15,none⟩),U O op] V λe w'=>e=Z (G false)/\w'=V:=by
 have c0:=(h.s.cell 15 hc).1;clear h hc;have H:=Hm (Ji a 0 c);go_enter func109,ntmps109;go_wp2_with (refine(H.o _).mono ?_;rintro e b ⟨rfl,rfl⟩)
 go_ret;exact⟨rfl,rfl⟩
abbrev Fi (g:Nat)(vals:List Vu)(P0 P1:J->Prop)(k:Nat)(us:List Vu)(W:J):Prop:=Fcz0 (λW=>W.cell? ⟨g,0,none⟩=some (U O x.op)) vals [P0,P1,P1] k us W
def Fj (g n:Nat)(vl:Vu)(cl xc:List Vu)(k:Nat)(us:List Vu)(W:J):Prop:=Rp.Fz (λW=>W.cell? ⟨R,16,none⟩=some vl/\∀j u,xc[j]?=some u->j<5->W.cell? ⟨g,j,none⟩=some u) 2
 [fun us W=>us=[]/\Ln W1 R q cells (⟨70,5,n,vl,cl⟩::box 70 5 g xc::rs) W/\Te W q ws bd,
  λus W=>∃g',us=[S (some ⟨g',0,none⟩) 1 1]/\Ln W1 R q cells (⟨70,5,n,vl,cl⟩::box 70 5 g xc::rs) W/\Te W q ws bd/\∀j u,xc[j]?=some u->W.cell? ((⟨g',0,none⟩:Ad).add j)=some u,
  λus W=>∃g' a' c',us=[S (some ⟨g',0,none⟩) 1 1,S a' (n+1) c']/\Ln W1 R q cells (⟨70,5,n+1,S a' (n+1) c',cl++xc⟩::box 70 5 g xc::rs) W/\Te W q ws bd,
  fun us W=>∃g' a' c',us=[S (some ⟨g',0,none⟩) 1 1,S a' (n+1) c',undef]/\Ln W1 R q (cells.set 16 (S a' (n+1) c')) (⟨70,5,n+1,S a' (n+1) c',cl++xc⟩::box 70 5 g xc::rs) W/\Te W q ws bd] k us W
def Fk (vl kv:Vu)(m':Mod)(k:Nat)(us:List Vu)(W:J):Prop:=Rp.Fz (λW=>W.cell? ⟨R,16,none⟩=some vl/\W.cell? ⟨R,17,none⟩=some kv) 0
 [λus W=>us=[]/\Ln W1 R q cells rs W/\Te W q ws bd,λus W=>us=[.tuple #[]]/\KpP m' W1 R q cells ws bd (Z (.tuple #[])) W] k us W
theorem perm_row (a b c d:Qb)(X Y Zz0:List Qb):(a::b::c::(X++((d::Y)++Zz0))).Perm (d::b::a::c::(X++(Y++Zz0))):=by
 have f:(X++((d::Y)++Zz0)).Perm (d::(X++(Y++Zz0))):=by rw[Tv];exact Hn
 refine((((f.cons c).cons b).cons a)).trans ?_;refine((((Kq d c _).cons b).cons a)).trans ?_;refine(((Kq d b _).cons a)).trans ?_;refine(Kq d a _).trans ?_;exact(Kq b a _).cons d
theorem perm_ins (d b a c:Qb)(X Y Zz0:List Qb):(d::b::a::c::(X++(Y++Zz0))).Perm (a::(X++((d::(Y++[c]))++Zz0))++[b]):=by
 refine((Kq b d _)).trans ?_;refine Ly ?_ (List.perm_append_comm (l₁:=[b]));refine Tp b ?_;refine(Kq a d _).trans ?_;refine Tp a ?_;rw[Tv];refine Ly ?_ List.perm_middle.symm;refine Tp d ?_;have g:X++(Y++[c]++Zz0)=(X++Y)++c::Zz0:=by simp
 have f:X++(Y++Zz0)=(X++Y)++Zz0:=by simp
 rw[g,f];exact List.perm_middle.symm
theorem insr_c (h:Ln W1 R q cells (nR (S la (N x.l) lc) x.l::rs) V)(t:Te V q ws bd)(hS:SR W1 R mp Sz0 cells rs)(hz:Sz0.sz<=1048576):Ec Q 30 #[ptr R 0,Ag #[U O x.op,U O x.a,U O x.b,U Ou x.v,S la (N x.l) lc],ptr q 0] V (InP W1 R q mp Sz0 x ws bd):=by
 have HS:=Hm hS;obtain⟨g,hg⟩:∃g,g=V.heap.size:=⟨_,rfl⟩;obtain⟨V1,af⟩:∃W,W=V.alloc (Fc #[U O x.op,U O x.a,U O x.b,U Ou x.v,S la (N x.l) lc] 70):=⟨_,rfl⟩;have a5:Te V1 q ws bd:=by rw[af];exact t.below (bFz.alloc lRz _)
 have az:Ln W1 R q cells (box 70 5 g [U O x.op,U O x.a,U O x.b,U Ou x.v,S la (N x.l) lc]::nR (S la (N x.l) lc) x.l::rs) V1:=by rw[af,hg];exact h.box (cur:=#[U O x.op,U O x.a,U O x.b,U Ou x.v,S la (N x.l) lc]) 70 5 rfl
 cases ho:Sz0.op with
 |none =>
  obtain⟨na,nn,nc,cg,cf⟩:=hS.nest (h.right (rs:=[_]));obtain rfl:=cf.2 ho;have HN:=Hm cg;have HO:=Hm ho;obtain⟨rs,cd⟩:∃r,r=nR (S la (N x.l) lc) x.l::rs:=⟨_,rfl⟩;rw[<- cd]at az;have H:=Hm (And.intro az a5);clear h t hS az a5 cg cf ho cd
  go_enter func30,ntmps30
  go_upto_region 1 with fail
  rw[<- af,<- hg];clear af hg
  refine Rp.rg (nN:=40) [ptr R 0,ptr R 0,ptr R 15,ptr g 0,U O x.op,undef,undef] [5,6] 2 (Fi x g [G false,G true] (λW=>Ln W1 R q cells (box 70 5 g [U O x.op,U O x.a,U O x.b,U Ou x.v,S la (N x.l) lc]::rs) W/\Te W q ws bd) (λW=>Ln W1 R q cells (box 70 5 g [U O x.op,U O x.a,U O x.b,U Ou x.v,S la (N x.l) lc]::rs) W/\Te W q ws bd)) ?_ ?_ ?_
  . exact⟨(H.o.1.s.mo.bx (t:=70) (n:=5) (g:=g) (cs:=[U O x.op,U O x.a,U O x.b,U Ou x.v,S la (N x.l) lc]) (by simp) 0).1,rfl,H.o.1.below bFz.drew,H.o.2.below bFz.drew⟩
  . refine Rp.os 0 (ptr R 0) ?_
    refine Rp.o1 0 6 ?_
    refine Rp.o1 1 7 ?_
    refine Rp.os 4 (ptr g 0) ?_
    refine Rp.l1 3 9 (λk F W hk C=>C.1) ?_
    refine Rp.hc 0 (λa W F f hu C=>?_) ?_
    . have e8:=Rp.va f 2 8;have cr:=Rp.va f 4 10;obtain⟨X,rfl,Y⟩:=C
      refine⟨109,#[ptr R 15,U O x.op],?_,?_⟩
      . clear f hu
        go_simp
        try rfl
      . refine(rstep_nil2 W1 R q cells _ W x.op na nc Y.1 HN.o).mono ?_
        rintro e w1 ⟨rfl,rfl⟩
        exact⟨_,rfl,X,rfl,Y⟩
    refine Rp.Qj.h 1 (by kernel_rfl) (λa W F Kc f hu C hK=>?_) ?_
    . have ae:=Qv (show Fi x g [G false,G true] (λW=>Ln W1 R q cells (box 70 5 g [U O x.op,U O x.a,U O x.b,U Ou x.v,S la (N x.l) lc]::rs) W/\Te W q ws bd) (λW=>Ln W1 R q cells (box 70 5 g [U O x.op,U O x.a,U O x.b,U Ou x.v,S la (N x.l) lc]::rs) W/\Te W q ws bd) 1 F W from C) 0 (by decide);have cp:a.tmps[11]?.getD undef=G false:=(Rp.vu hu 0 11).trans ae;clear ae;obtain⟨X,rfl,Y⟩:=C
      refine Rp.Jv (Gz0:=λv W'=>Fi x g [G false,G true] (λW=>Ln W1 R q cells (box 70 5 g [U O x.op,U O x.a,U O x.b,U Ou x.v,S la (N x.l) lc]::rs) W/\Te W q ws bd) (λW=>Ln W1 R q cells (box 70 5 g [U O x.op,U O x.a,U O x.b,U Ou x.v,S la (N x.l) lc]::rs) W/\Te W q ws bd) 2 ([_]++[v]) W') (G true) (Rp.Qd rfl) (W':=W) ?_ ⟨X,rfl,Y⟩ hK
      clear f hK hu
      go_simp
      try rfl
    exact Rp.Qj.nil
  . intro F a W f
    have ea:=Rp.ca f [6,7,8,9,10,11,12];have C:=f.ph
    simp only[Km,Tq,Rp.cv f 0 6,Rp.cv f 1 7,Rp.cv f 2 8,Rp.cv f 3 9,Rp.cv f 4 10,Rp.cu f 0 11,Rp.cu f 1 12]at ea
    clear f;subst ea;obtain⟨-,rfl,Y⟩:=C;obtain⟨E,ht⟩:=Y;have c1:=ht.c1;have f1:=ht.fz 1;have HF:=Hm (And.intro (E.call (JE _ q 1 (G true))) (ht.flag true));clear E ht
    go_simp
    go_wp2
    go_end0
    refine⟨rfl,_,_,true,HF.o.1,HF.o.2,(λh=>by cases h),?_⟩
    rintro-⟨S',p,n',e,-⟩
    rw[HO.o]at e
    cases e
 |some p =>
  have HO:=Hm ho;obtain⟨L,P,hm,hp,ce⟩:=hS.rep;rw[ho]at ce;obtain⟨vn,vl,kv,r1,rh,co,cn,cm,ci,cj,rfl,d6⟩:=ce;have bc:∀y∈r1,y∈nR (S la (N x.l) lc) x.l::rs:=λy hy=>mC (hp.mem_iff.2 (mR (mC (mL hy))));obtain⟨ia,ic,rfl⟩:=LI'.sl ci h bc;obtain⟨cI,kI,ch,rfl⟩:=ci;have dt:=Hm ch;have b2:=Hm cj;have HM:=Hm hm;have bg:=Hm co;have b5:=Hm cn;have b4:=Hm cm;have dd:N Sz0.m.fq+N Sz0.m.fw+N Sz0.m.gq+N Sz0.m.gj+N p.is+N p.n<=1048576:=by have:=hz;unfold St.sz at this;rw[ho]at this;dsimp only at this;omega
  have cx:Hid (N p.n<=4194304):=by show _<=_;omega
  have c3:Hid (N p.is<=1048576):=by show _<=_;omega
  have cw:Hid (N Sz0.m.fq<=1048576/\N Sz0.m.fw<=1048576/\N Sz0.m.gq<=1048576/\N Sz0.m.gj<=1048576):=⟨by omega,by omega,by omega,by omega⟩;obtain⟨D,ai⟩:∃r,r=nR (S la (N x.l) lc) x.l::(L.flatten++((⟨70,5,N p.is,S ia (N p.is) ic,cI⟩::kI)++rh)):=⟨_,rfl⟩;have bt:=Hm ai
  have H:Hid (Ln W1 R q cells (Q9 vn p.n::box 70 5 g [U O x.op,U O x.a,U O x.b,U Ou x.v,S la (N x.l) lc]::D) V1/\Te V1 q ws bd):=by
   refine⟨az.perm ?_,a5⟩
   rw[ai]
   refine(((hp.trans Hn).cons _).cons _).trans ?_
   exact((Kq _ _ _).cons _).trans (Kq _ _ _)
  clear h t hS az a5 ho hm hp co cn cm ch cj bc dd hz ai
  rcases hst:Q0 p.n x.op with _|n'
  . have ag:=Hm hst;clear hst
    go_enter func30,ntmps30
    go_upto_region 1 with fail
    rw[<- af,<- hg];clear af hg
    refine Rp.rg (nN:=40) [ptr R 0,ptr R 0,ptr R 15,ptr g 0,U O x.op,undef,undef] [5,6] 2 (Fi x g [G false,G true] (λW=>Ln W1 R q cells (Q9 vn p.n::box 70 5 g [U O x.op,U O x.a,U O x.b,U Ou x.v,S la (N x.l) lc]::D) W/\Te W q ws bd) (λW=>Ln W1 R q cells (Q9 vn p.n::box 70 5 g [U O x.op,U O x.a,U O x.b,U Ou x.v,S la (N x.l) lc]::D) W/\Te W q ws bd)) ?_ ?_ ?_
    . exact⟨H.o.1.b1 0,rfl,H.o.1.below bFz.drew,H.o.2.below bFz.drew⟩
    . refine Rp.os 0 (ptr R 0) ?_
      refine Rp.o1 0 6 ?_
      refine Rp.o1 1 7 ?_
      refine Rp.os 4 (ptr g 0) ?_
      refine Rp.l1 3 9 (λk F W hk C=>C.1) ?_
      refine Rp.hc 0 (λa W F f hu C=>?_) ?_
      . have e8:=Rp.va f 2 8;have cr:=Rp.va f 4 10;obtain⟨X,rfl,Y⟩:=C
        refine⟨109,#[ptr R 15,U O x.op],?_,?_⟩
        . clear f hu
          go_simp
          try rfl
        . refine(rstep_c W1 R q cells _ vn W p.n x.op Y.1 bg.o cx.o).mono ?_
          rintro e w1 ⟨rfl,-,hw,-⟩;obtain rfl:=hw ag.o
          exact⟨_,by rw[ag.o];rfl,X,rfl,Y⟩
      refine Rp.Qj.h 1 (by kernel_rfl) (λa W F Kc f hu C hK=>?_) ?_
      . have ae:=Qv (show Fi x g [G false,G true] (λW=>Ln W1 R q cells (Q9 vn p.n::box 70 5 g [U O x.op,U O x.a,U O x.b,U Ou x.v,S la (N x.l) lc]::D) W/\Te W q ws bd) (λW=>Ln W1 R q cells (Q9 vn p.n::box 70 5 g [U O x.op,U O x.a,U O x.b,U Ou x.v,S la (N x.l) lc]::D) W/\Te W q ws bd) 1 F W from C) 0 (by decide);have cp:a.tmps[11]?.getD undef=G false:=(Rp.vu hu 0 11).trans ae;clear ae;obtain⟨X,rfl,Y⟩:=C
        refine Rp.Jv (Gz0:=λv W'=>Fi x g [G false,G true] (λW=>Ln W1 R q cells (Q9 vn p.n::box 70 5 g [U O x.op,U O x.a,U O x.b,U Ou x.v,S la (N x.l) lc]::D) W/\Te W q ws bd) (λW=>Ln W1 R q cells (Q9 vn p.n::box 70 5 g [U O x.op,U O x.a,U O x.b,U Ou x.v,S la (N x.l) lc]::D) W/\Te W q ws bd) 2 ([_]++[v]) W') (G true) (Rp.Qd rfl) (W':=W) ?_ ⟨X,rfl,Y⟩ hK
        clear f hK hu
        go_simp
        try rfl
      exact Rp.Qj.nil
    . intro F a W f
      have ea:=Rp.ca f [6,7,8,9,10,11,12];have C:=f.ph
      simp only[Km,Tq,Rp.cv f 0 6,Rp.cv f 1 7,Rp.cv f 2 8,Rp.cv f 3 9,Rp.cv f 4 10,Rp.cu f 0 11,Rp.cu f 1 12]at ea
      clear f;subst ea;obtain⟨-,rfl,Y⟩:=C;obtain⟨E,ht⟩:=Y;have c1:=ht.c1;have f1:=ht.fz 1;have HF:=Hm (And.intro (E.call (JE _ q 1 (G true))) (ht.flag true));clear E ht
      go_simp
      go_wp2
      go_end0
      refine⟨rfl,_,_,true,HF.o.1,HF.o.2,(λh=>by cases h),?_⟩
      rintro-⟨S',p',n',e,e2,-⟩
      rw[HO.o]at e
      cases e
      rw[ag.o]at e2
      cases e2
  . have ag:=Hm hst;clear hst
    go_enter func30,ntmps30
    go_upto_region 1 with fail
    rw[<- af,<- hg];clear af hg
    refine Rp.rg (nN:=40) [ptr R 0,ptr R 0,ptr R 15,ptr g 0,U O x.op,undef,undef] [5,6] 2 (Fi x g [G true,G false] (λW=>Ln W1 R q cells (Q9 vn p.n::box 70 5 g [U O x.op,U O x.a,U O x.b,U Ou x.v,S la (N x.l) lc]::D) W/\Te W q ws bd) (λW=>∃v2,Ln W1 R q (cells.set 15 v2) (Q9 v2 n'::box 70 5 g [U O x.op,U O x.a,U O x.b,U Ou x.v,S la (N x.l) lc]::D) W/\Te W q ws bd)) ?_ ?_ ?_
    . exact⟨H.o.1.b1 0,rfl,H.o.1.below bFz.drew,H.o.2.below bFz.drew⟩
    . refine Rp.os 0 (ptr R 0) ?_
      refine Rp.o1 0 6 ?_
      refine Rp.o1 1 7 ?_
      refine Rp.os 4 (ptr g 0) ?_
      refine Rp.l1 3 9 (λk F W hk C=>C.1) ?_
      refine Rp.hc 0 (λa W F f hu C=>?_) ?_
      . have e8:=Rp.va f 2 8;have cr:=Rp.va f 4 10;obtain⟨X,rfl,Y⟩:=C
        refine⟨109,#[ptr R 15,U O x.op],?_,?_⟩
        . clear f hu
          go_simp
          try rfl
        . refine(rstep_c W1 R q cells _ vn W p.n x.op Y.1 bg.o cx.o).mono ?_
          rintro e w1 ⟨rfl,hw,-,hq⟩;obtain⟨v2,ar⟩:=hw n' ag.o
          exact⟨_,by rw[ag.o];rfl,ar.b1 0,rfl,v2,ar,Y.2.keep hq⟩
      refine Rp.Qj.h 1 (by kernel_rfl) (λa W F Kc f hu C hK=>?_) ?_
      . have ae:=Qv (show Fi x g [G true,G false] (λW=>Ln W1 R q cells (Q9 vn p.n::box 70 5 g [U O x.op,U O x.a,U O x.b,U Ou x.v,S la (N x.l) lc]::D) W/\Te W q ws bd) (λW=>∃v2,Ln W1 R q (cells.set 15 v2) (Q9 v2 n'::box 70 5 g [U O x.op,U O x.a,U O x.b,U Ou x.v,S la (N x.l) lc]::D) W/\Te W q ws bd) 1 F W from C) 0 (by decide);have cp:a.tmps[11]?.getD undef=G true:=(Rp.vu hu 0 11).trans ae;clear ae;obtain⟨X,rfl,Y⟩:=C
        refine Rp.Jv (Gz0:=λv W'=>Fi x g [G true,G false] (λW=>Ln W1 R q cells (Q9 vn p.n::box 70 5 g [U O x.op,U O x.a,U O x.b,U Ou x.v,S la (N x.l) lc]::D) W/\Te W q ws bd) (λW=>∃v2,Ln W1 R q (cells.set 15 v2) (Q9 v2 n'::box 70 5 g [U O x.op,U O x.a,U O x.b,U Ou x.v,S la (N x.l) lc]::D) W/\Te W q ws bd) 2 ([_]++[v]) W') (G false) (Rp.Qd rfl) (W':=W) ?_ ⟨X,rfl,Y⟩ hK
        clear f hK hu
        go_simp
        try rfl
      exact Rp.Qj.nil
    . intro F a W f
      have ea:=Rp.ca f [6,7,8,9,10,11,12];have C:=f.ph
      simp only[Km,Tq,Rp.cv f 0 6,Rp.cv f 1 7,Rp.cv f 2 8,Rp.cv f 3 9,Rp.cv f 4 10,Rp.cu f 0 11,Rp.cu f 1 12]at ea
      clear f;subst ea;obtain⟨-,rfl,Y⟩:=C;obtain⟨v2,E,ht⟩:=Y;obtain⟨M,I,rfl⟩:=Qg (show W.ownsRow R 4 1 v2 (N n') (Bs n')from E.s.own.tail.head);obtain⟨B,A⟩:∃c,c=cells.set 15 (S M (N n') I):=⟨_,rfl⟩;rw[<- A]at E;have b6:Hid (B[15]?=some (S M (N n') I)):=by show _=_;rw[A];exact Ky (by have:=E.s.len;rw[A]at this;simp at this;omega)
      have aq:Hid (B[16]?=some (S ia (N p.is) ic)):=by show _=_;rw[A,Kz (by decide)];exact b5.o
      have b3:Hid (B[17]?=some kv):=by show _=_;rw[A,Kz (by decide)];exact b4.o
      have b8:Hid (B[13]?=some (U O Sz0.last)):=by show _=_;rw[A,Kz (by decide)];exact HS.o.last
      have b7:Hid (B[14]?=some mp):=by show _=_;rw[A,Kz (by decide)];exact HS.o.map
      have dr:Hid (MR Sz0.m B L):=by show MR _ _ _;rw[A];exact HM.o.set_far (by decide) _
      have cz:Hid (∀(j:Nat) (b:ByteArray),B[j]?≠some (Pw b)):=by show ∀(j:Nat) (b:ByteArray),_≠_;rw[A];exact Ju HS.o.ns _ (by intro b e;cases e)
      obtain⟨ah,ab⟩:∃r,r=Q9 (S M (N n') I) n'::nR (S la (N x.l) lc) x.l::(L.flatten++(kI++rh)):=⟨_,rfl⟩;have dq:=Hm ab
      have bb:Hid (Ln W1 R q B (⟨70,5,N p.is,S ia (N p.is) ic,cI⟩::box 70 5 g [U O x.op,U O x.a,U O x.b,U Ou x.v,S la (N x.l) lc]::ah) W/\Te W q ws bd):=by
       refine⟨E.perm ?_,ht⟩
       rw[ab,bt.o]
       exact perm_row _ _ _ _ _ _ _
      clear E ht A ab H
      go_simp
      go_upto_region 3 with fail
      refine Rp.rg (nN:=40) [ptr R 0,ptr R 0,ptr R 0,ptr R 16,(S ia (N p.is) ic),Ag #[U O x.op,U O x.a,U O x.b,U Ou x.v,S la (N x.l) lc],undef,undef,ptr R 0,ptr R 16,undef] [6,7,10] 2 (Fj W1 R q B ah ws bd g (N p.is) (S ia (N p.is) ic) cI [U O x.op,U O x.a,U O x.b,U Ou x.v,S la (N x.l) lc]) ?_ ?_ ?_
      . exact⟨λ_=>⟨(bb.o.1.s.cell 16 aq.o).1,λj u hu hj=>bb.o.1.b1 j hu hj⟩,rfl,bb.o.1.below bFz.drew,bb.o.2.below bFz.drew⟩
      . refine Rp.os 0 (ptr R 0) ?_
        refine Rp.os 0 (ptr R 0) ?_
        refine Rp.o1 1 17 ?_
        refine Rp.o1 2 18 ?_
        refine Rp.l1 3 19 (λk F W hk C=>(C.1 hk).1) ?_
        refine Rp.Qj.c (by kernel_rfl) (λa W kk F Kc f hk hb hu C hK=>?_) ?_
        . have e4:a.tmps[4]?.getD undef=ptr g 0:=(Rp.JQ f 4 (by kernel_rfl)).trans rfl;have ec:=(C.1 hk).2 0 _ rfl (by decide);have eb:=(C.1 hk).2 1 _ rfl (by decide);have d9:=(C.1 hk).2 2 _ rfl (by decide);have d8:=(C.1 hk).2 3 _ rfl (by decide);have d7:=(C.1 hk).2 4 _ rfl (by decide)
          refine Rp.QA (Ag #[U O x.op,U O x.a,U O x.b,U Ou x.v,S la (N x.l) lc]) (Rp.Qd rfl) rfl ?_ hK
          clear f hK C hu hb
          go_simp
          try rfl
        refine Rp.hv 0 (λa W F f hu C=>?_) ?_
        . have el:=Rp.va f 5 21;obtain⟨bk,rfl,E,ht⟩:=C
          refine⟨(S (some ⟨W.heap.size,0,none⟩) 1 1),W.alloc (Fc #[U O x.op,U O x.a,U O x.b,U Ou x.v,S la (N x.l) lc] 70),?_,?_⟩
          . clear f hu
            go_simp
            try rfl
          . have hb:Bw W.heap.size W (W.alloc (Fc #[U O x.op,U O x.a,U O x.b,U Ou x.v,S la (N x.l) lc] 70)):=bFz.alloc lRz _;have ar:=E.below hb
            exact⟨λ_=>⟨(ar.s.cell 16 aq.o).1,λj u hu hj=>ar.b1 j hu hj⟩,W.heap.size,rfl,ar,ht.below hb,Qq _ _ _⟩
        refine Rp.ha 1 (λa W F f hu C Kc hK=>?_) ?_
        . have dn:=Rp.va f 4 20;have dm:=Rp.vu hu 0 22;obtain⟨bk,g1,rfl,E,ht,dl⟩:=C;have ho:W.ownsRow R 70 5 (S ia (N p.is) ic) (N p.is) cI:=E.s.own.tail.head
          refine Rp.ap (news:=[U O x.op,U O x.a,U O x.b,U Ou x.v,S la (N x.l) lc]) dn ho dm dl (in_one x la lc) info70 (by have:=c3.o;unfold maxLen;omega) (by have:=c3.o;omega) (Kf (Nat.le_of_lt E.s.lt) E.s.gr.size) (λv' w' h1 h2 h3=>?_) hK
          obtain⟨a',c',rfl⟩:=Qg h1;have bo:Ln W1 R q B (⟨70,5,N p.is+1,S a' (N p.is+1) c',cI++[U O x.op,U O x.a,U O x.b,U Ou x.v,S la (N x.l) lc]⟩::box 70 5 g [U O x.op,U O x.a,U O x.b,U Ou x.v,S la (N x.l) lc]::ah) w':=E.push h2 h1 h3
          exact⟨λ_=>⟨(bo.s.cell 16 aq.o).1,λj u hu hj=>bo.b1 j hu hj⟩,g1,a',c',rfl,bo,E.teq h2 ht⟩
        refine Rp.o1 0 16 ?_
        refine Rp.o1 8 24 ?_
        refine Rp.ht 2 (λa W F f hu C=>?_) ?_
        . have ei:=Rp.va f 9 25;have ej:=Rp.vu hu 1 23;obtain⟨bk,g1,a',c',rfl,E,ht⟩:=C;obtain⟨em,ff⟩:=E.s.cell 16 aq.o
          refine⟨W.setCell ⟨R,16,none⟩ (S a' (N p.is+1) c'),?_,?_⟩
          . clear f hu
            go_simp
            try rfl
          . exact⟨λh=>by omega,g1,a',c',rfl,E.set 16 _,E.tes ht 16 _⟩
        exact Rp.Qj.nil
      . intro F a W f
        have ea:=Rp.ca f [16,17,18,19,20,21,22,23,24,25];have C:=f.ph
        simp only[Km,Tq,Rp.cv f 0 16,Rp.cv f 1 17,Rp.cv f 2 18,Rp.cv f 3 19,Rp.cv f 4 20,Rp.cv f 5 21,Rp.cu f 0 22,Rp.cu f 1 23,Rp.cv f 8 24,Rp.cv f 9 25]at ea
        clear f;subst ea;obtain⟨-,g1,a',c',rfl,E,ht⟩:=C;obtain⟨d,z⟩:∃c,c=B.set 16 (S a' (N p.is+1) c'):=⟨_,rfl⟩;rw[<- z]at E;have bn:N B=18:=by have:=E.s.len;rw[z]at this;simpa using this
        have ak:Hid (d[15]?=some (S M (N n') I)):=by show _=_;rw[z,Kz (by decide)];exact b6.o
        have a2:Hid (d[16]?=some (S a' (N p.is+1) c')):=by show _=_;rw[z];exact Ky (by omega)
        have a1:Hid (d[17]?=some kv):=by show _=_;rw[z,Kz (by decide)];exact b3.o
        have a4:Hid (d[13]?=some (U O Sz0.last)):=by show _=_;rw[z,Kz (by decide)];exact b8.o
        have a3:Hid (d[14]?=some mp):=by show _=_;rw[z,Kz (by decide)];exact b7.o
        have bv:Hid (MR Sz0.m d L):=by show MR _ _ _;rw[z];exact dr.o.set_far (by decide) _
        have a0:Hid (∀(j:Nat) (b:ByteArray),d[j]?≠some (Pw b)):=by show ∀(j:Nat) (b:ByteArray),_≠_;rw[z];exact Ju cz.o _ (by intro b e;cases e)
        have bz:Hid (LI' (p.is++[x]) (S a' (N p.is+1) c') (⟨70,5,N p.is+1,S a' (N p.is+1) c',cI++[U O x.op,U O x.a,U O x.b,U Ou x.v,S la (N x.l) lc]⟩::(kI++[nR (S la (N x.l) lc) x.l]))):=⟨_,_,dt.o.snoc (x:=x) (cs:=[U O x.op,U O x.a,U O x.b,U Ou x.v,S la (N x.l) lc]) (rs:=[nR (S la (N x.l) lc) x.l]) ⟨_,rfl,rfl⟩,by simp⟩
        have bu:=Hm (E.perm (rs':=Q9 (S M (N n') I) n'::(L.flatten++((⟨70,5,N p.is+1,S a' (N p.is+1) c',cI++[U O x.op,U O x.a,U O x.b,U Ou x.v,S la (N x.l) lc]⟩::(kI++[nR (S la (N x.l) lc) x.l]))++rh))++[box 70 5 g [U O x.op,U O x.a,U O x.b,U Ou x.v,S la (N x.l) lc]]) (by
         rw[dq.o]
         refine(perm_ins _ _ _ _ _ _ _).trans ?_
         rfl))
        have ct:=(E.s.cell 15 ak.o).1;have bs:=Hm ht;clear E ht z bn
        go_simp
        by_cases a7:n'=[]
        . subst a7;have au:=Hm (Ji M 0 I W);obtain⟨kf,bl,bw,gh,rfl,bq,-⟩:=kp_c W1 R q d _ W Sz0.m (p.is++[x]) ws bd (Ln.right (rs:=[Q9 (S M 0 I) []]) bu.o.left) bs.o L bv.o a' (N p.is+1) c' _ bz.o a0.o p.hd kv rh b2.o (Im _) cw.o;have du:=Hm bq;obtain⟨bh,ay⟩:∃r,r=L.flatten++((⟨70,5,N p.is+1,S a' (N p.is+1) c',cI++[U O x.op,U O x.a,U O x.b,U Ou x.v,S la (N x.l) lc]⟩::(kI++[nR (S la (N x.l) lc) x.l]))++rh):=⟨_,rfl⟩;obtain⟨m',bm⟩:∃m,m=Xsz0 Sz0.m (p.is++[x]) p.hd:=⟨_,rfl⟩;have ds:=Hm bm
          have HK:Hid (∀W,Ln W1 R q d bh W->Te W q ws bd->Ec Q kf #[S a' (N p.is+1) c',ptr bl 0,ptr bw 0,ptr gh 0] W (KpP m' W1 R q d ws bd)):=by
           intro W E ht
           obtain⟨d4,ep,eo,ed,ek,-,hK⟩:=kp_c W1 R q d _ W Sz0.m (p.is++[x]) ws bd E ht L bv.o a' (N p.is+1) c' _ bz.o a0.o p.hd _ rh b2.o (by rw[ay]) cw.o
           cases ek
           rw[bm];exact hK
          have ba:Hid (Ln W1 R q d bh W/\Te W q ws bd):=by rw[ay];exact⟨Ln.right (rs:=[Q9 (S M 0 I) []]) bu.o.left,bs.o⟩
          clear bq ay bm
          go_wp2_with fail
          refine au.o.mono ?_
          rintro e w3 ⟨rfl,rfl⟩;clear au ct
          go_upto_region 5 with fail
          refine Rp.rg (nN:=40) [ptr R 0,ptr R 0,ptr R 17,(.func (.func kf) #[] #[ptr bl 0,ptr bw 0,ptr gh 0]),ptr R 0,ptr R 0,ptr R 16,(S a' (N p.is+1) c'),undef] [8] 0 (Fk W1 R q d bh ws bd (S a' (N p.is+1) c') (.func (.func kf) #[] #[ptr bl 0,ptr bw 0,ptr gh 0]) m') ?_ ?_ ?_
          . exact⟨λ_=>⟨(ba.o.1.s.cell 16 a2.o).1,(ba.o.1.s.cell 17 a1.o).1⟩,rfl,ba.o.1.below bFz.drew,ba.o.2.below bFz.drew⟩
          . refine Rp.os 0 (ptr R 0) ?_
            refine Rp.o1 0 31 ?_
            refine Rp.o1 1 32 ?_
            refine Rp.l1 2 33 (λk F W hk C=>(C.1 hk).2) ?_
            refine Rp.os 0 (ptr R 0) ?_
            refine Rp.o1 4 35 ?_
            refine Rp.o1 5 36 ?_
            refine Rp.l1 6 37 (λk F W hk C=>(C.1 hk).1) ?_
            refine Rp.hc 0 (λa W F f hu C=>?_) ?_
            . have eh:=Rp.va f 3 34;have eg:=Rp.va f 7 38;obtain⟨bk,rfl,E,ht⟩:=C;have bq:=du.o
              refine⟨kf,#[(S a' (N p.is+1) c'),ptr bl 0,ptr bw 0,ptr gh 0],?_,?_⟩
              . clear f hu
                go_simp
                try rfl
              . refine(HK.o W E ht).mono ?_
                rintro e w1 a8;obtain rfl:=a8.1
                exact⟨_,rfl,λh=>by omega,rfl,a8⟩
            exact Rp.Qj.nil
          . intro F a W f
            have ea:=Rp.ca f [31,32,33,34,35,36,37,38,39];have C:=f.ph
            simp only[Km,Tq,Rp.cv f 0 31,Rp.cv f 1 32,Rp.cv f 2 33,Rp.cv f 3 34,Rp.cv f 4 35,Rp.cv f 5 36,Rp.cv f 6 37,Rp.cv f 7 38,Rp.cu f 0 39]at ea
            clear f;subst ea;obtain⟨-,rfl,a8⟩:=C;obtain⟨-,a9,db,dk,df,⟨L6,dj,dg⟩,br,di⟩:=a8
            go_wp2
            go_end0
            refine⟨rfl,a9,db,bd,dk,df,λhb=>⟨hb,_,⟨p,[],HO.o,ag.o,rfl⟩,?_⟩,λhb _=>hb⟩
            rw[if_pos rfl,ds.o.symm]
            exact⟨by rw[br 13 (by decide)];exact a4.o,by rw[br 14 (by decide)];exact a3.o,⟨L6,[],dj,by rw[Tb];exact dg,⟨⟨M,I,by rw[br 15 (by decide)];exact ak.o⟩,rfl⟩⟩,di⟩
        . have ck:decide (N n'=0)=false:=by simp;exact a7
          have au:=Hm (Ji M (N n') I W);rw[ck]at au;have c2:=Hm a7;clear ck a7
          go_wp2_with fail
          refine au.o.mono ?_
          rintro e w3 ⟨rfl,rfl⟩;clear au ct
          go_wp2
          go_end0
          refine⟨rfl,d,_,bd,bu.o.left,bs.o,λhb=>⟨hb,_,⟨p,n',HO.o,ag.o,rfl⟩,?_⟩,λhb _=>hb⟩
          rw[if_neg c2.o]
          exact⟨a4.o,a3.o,⟨L,_,bv.o,List.perm_middle.symm,⟨_,_,_,_,rh,ak.o,a2.o,a1.o,bz.o,b2.o,rfl,c2.o⟩⟩,a0.o⟩
end
def InsLG (op:Int)(Sz0:St)(r:List Wd)(S':St):Prop:=∃x,x.op=op/\Arg (QD (Qe op)) r x/\InsG Sz0 x S'
section
variable (W1:J) (R q:Nat) (mp:Vu) (cells:List Vu) (rs:List Qb) (V:J) (Sz0:St) (ws:List Wd)
def Fn29 (b1 b2:Nat)(op:Int)(k:Nat)(us:List Vu)(W:J):Prop:=Rp.Fz (λW=>W.cell? ⟨b1,0,none⟩=some (ptr R 0)/\W.cell? ⟨b2,0,none⟩=some (U O op)) 1
 [fun us W=>us=[]/\Ln W1 R q cells rs W/\Tw W q ws false,
  λus W=>∃x la lc ws' bd,us=[Ag #[U O x.op,U O x.a,U O x.b,U Ou x.v,S la (N x.l) lc]]/\x.op=op/\Ln W1 R q cells (nR (S la (N x.l) lc) x.l::rs) W/\Te W q ws' bd/\(bd=false->ws'=[]->Arg (QD (Qe op)) ws x)/\((∃y,Arg (QD (Qe op)) ws y)->bd=false/\ws'=[]),
  fun us W=>∃v,us=[v,.tuple #[]]/\LnP (InsLG op Sz0 ws) W1 R q mp (Z (.tuple #[])) W] k us W
theorem insl_c (b1 B:Nat)(op:Int)(h:Ln W1 R q cells rs V)(t:Tw V q ws false)(hS:SR W1 R mp Sz0 cells rs)(h1:Bt W1 R b1 (ptr R 0))(h2:Bt W1 R B (U O op))(hz:Sz0.sz<=1048576)(hl:∀x∈ws,N x<=1048576)(hV:Vs R W1):Ec Q 29 #[ptr q 0,ptr b1 0,ptr B 0] V (LnP (InsLG op Sz0 ws) W1 R q mp):=by
 have z:=Hm h1;have u:=Hm h2;have HS:=Hm hS;have af:=Hm hz;have ag:=Hm hl;have ae:=Hm hV;have C:=Hm (And.intro h t);clear h t hS h1 h2 hz hl hV;go_enter func29,ntmps29;go_upto_region 0 with fail
 refine Rp.rg (nN:=10) [ptr R 0,ptr q 0,U O op,undef,ptr q 0,undef] [3,5] 1 (Fn29 W1 R q mp cells rs Sz0 ws b1 B op) ?_ ?_ ?_
 . exact⟨λ_=>⟨C.o.1.s.bx z.o,C.o.1.s.bx u.o⟩,rfl,C.o.1.below bFz.drew,C.o.2.keep bFz.drew⟩
 . refine Rp.ls 1 (ptr b1 0) (λk A W hk g=>(g.1 hk).1) ?_;refine Rp.os 0 (ptr q 0) ?_;refine Rp.ls 2 (ptr B 0) (λk A W hk g=>(g.1 hk).2) ?_;refine Rp.hc 0 (λa W A f hu g=>?_) ?_
   . have e5:=Rp.va f 1 5;have e6:=Rp.va f 2 6;obtain⟨X,rfl,hl,ht⟩:=g;refine⟨31,#[ptr q 0,U O op],?_,?_⟩
     . clear f hu;go_simp;try rfl
     refine(ins_c q ws op W ht (λx hx=>Kf (ag.o x hx) (by decide)) (hl.vs ae.o)).mono ?_;rintro e w1 ⟨x,la,lc,c,bd,rfl,d,r,I,ab,F,E⟩;obtain⟨m,M⟩:=hl.read (ns:=[nR (S la (N x.l) lc) x.l]) ⟨Own.one r,I,ab,ht.lt⟩;exact⟨_,rfl,λ_=>⟨m.s.bx z.o,m.s.bx u.o⟩,x,la,lc,c,bd,rfl,d,m,M,F,E⟩
   refine Rp.os 0 (ptr q 0) ?_;refine Rp.hc 1 (λa W A f hu g=>?_) ?_
   . have e4:=Rp.va f 0 4;have e7:=Rp.vu hu 0 7;have e8:=Rp.va f 4 8;obtain⟨X,x,la,lc,c,bd,rfl,d,hl,ht,F,E⟩:=g;refine⟨30,#[ptr R 0,Ag #[U O x.op,U O x.a,U O x.b,U Ou x.v,S la (N x.l) lc],ptr q 0],?_,?_⟩
     . clear f hu;go_simp;try rfl
     refine(insr_c W1 R q mp cells rs W Sz0 x la lc c bd hl ht HS.o af.o).mono ?_;rintro e w1 ⟨rfl,j,D,ad,Y,L,j1,j2⟩;refine⟨_,rfl,λh=>by omega,_,rfl,rfl,j,D,c,ad,Y,L,λhb H=>?_,?_⟩
     . obtain⟨n,S',g1,g2⟩:=j1 hb;exact⟨S',⟨x,d,F n H,g1⟩,g2⟩
     rintro⟨S',y,e1,e2,p,n',g1,g2,-⟩;obtain⟨n,H⟩:=E ⟨y,e2⟩;exact⟨j2 n ⟨_,p,n',g1,by rw[d,<- e1];exact g2,rfl⟩,H⟩
   exact Rp.Qj.nil
 intro A a W f;have ea:=Rp.ca f [4,5,6,7,8,9];have g:=f.ph;simp only[Km,Tq,Rp.cv f 0 4,Rp.cv f 1 5,Rp.cv f 2 6,Rp.cu f 0 7,Rp.cv f 4 8,Rp.cu f 1 9]at ea;clear f;subst ea;obtain⟨-,v,rfl,aa⟩:=g;go_wp2;go_end0;exact aa
end
def secL:List (Wd × Nat):=[([99,117,115,116,111,109],0),([116,121,112,101],1),([105,109,112,111,114,116],2),([102,117,110,99],3),([116,97,98,108,101],4),([109,101,109,111,114,121],5),([103,108,111,98,97,108],6),([101,120,112,111,114,116],7),([115,116,97,114,116],8),([101,108,101,109],9),([99,111,100,101],10),([100,97,116,97],11)]
def Xc (s:Wd):Option Nat:=(secL.find? (λp=>p.1==s)).map (·.2)
def JL (W1:J)(R:Nat)(rv:Vu)(f off e:Nat):Prop:=∃b1 b2,rv=.func (.func f) #[] #[ptr b1 0,ptr b2 0]/\Bt W1 R b1 (ptr R off)/\Bt W1 R b2 (fnV e)
def Xw (W1:J)(R:Nat)(rv:Vu)(f e off wf:Nat):Prop:=∃bh br bl bw,rv=.func (.func f) #[] #[ptr bh 0,ptr br 0,ptr bl 0,ptr bw 0]/\Bt W1 R bh (fnV e)/\Bt W1 R br (ptr R 0)/\Bt W1 R bl (ptr R off)/\Bt W1 R bw (fnV wf)
def ReadC (W1:J)(R:Nat)(rv:Vu):Nat->Prop
 |1=>JL W1 R rv 149 0 86
 |2=>JL W1 R rv 150 1 88
 |3=>JL W1 R rv 152 2 90
 |4=>JL W1 R rv 153 3 92
 |5=>JL W1 R rv 153 4 92
 |6=>Xw W1 R rv 155 97 5 98
 |7=>JL W1 R rv 154 6 94
 |8=>∃b,rv=.func (.func 95) #[] #[ptr b 0]/\Bt W1 R b (ptr R 0)
 |9=>Xw W1 R rv 160 100 9 101
 |10=>Xw W1 R rv 162 103 10 104
 |11=>Xw W1 R rv 165 106 11 107
 |_=>False
def SecC (W1:J)(R:Nat)(cv:Vu)(k:Nat):Prop:=∃b1 b2 b3 rv,cv=.func (.func 148) #[] #[ptr b1 0,ptr b2 0,ptr b3 0]/\Bt W1 R b1 (ptr R 0)/\Bt W1 R b2 (U O (k:Int))/\Bt W1 R b3 rv/\ReadC W1 R rv k
def CusC (W1:J)(R:Nat)(cv:Vu):Prop:=∃b,cv=.func (.func 80) #[] #[ptr b 0]/\Bt W1 R b (ptr R 0)
def InsC (W1:J)(R:Nat)(cv:Vu)(op:Int):Prop:=∃b1 b2,cv=.func (.func 29) #[] #[ptr b1 0,ptr b2 0]/\Bt W1 R b1 (ptr R 0)/\Bt W1 R b2 (U O op)
def CL (W1:J)(R:Nat)(s:Wd)(cv:Vu):Prop:=match Xc s with
 |some 0=>CusC W1 R cv
 |some k=>SecC W1 R cv k
 |none=>0<=Qt s/\InsC W1 R cv (Qt s)
def J3 (Sz0:St)(s:Wd)(r:List Wd)(S':St):Prop:=match Xc s with
 |some 0=>CusG Sz0 r S'
 |some k=>SecG k Sz0 r S'
 |none=>0<=Qt s/\InsLG (Qt s) Sz0 r S'
theorem read_c (W1:J)(R q:Nat)(mp:Vu)(ws:List Wd)(hl:∀x∈ws,N x<=1048576)(d:N ws<=1048576)(a:Vs R W1)(k:Nat)(c:Vu)(h:ReadC W1 R c k):∃rf caps,c=.func (.func rf) #[] caps/\(∀(args:Array Vu) (w:J),(callFunc rf args).run Q w=.ok (.enter rf args) w)/\∀(cells:List Vu) (rs:List Qb) (V:J) (bad:Bool) (Sz0:St),Ln W1 R q cells rs V->Tw V q ws bad->SR W1 R mp Sz0 cells rs->Sz0.sz<=1048576->Ec Q rf (#[ptr q 0]++caps) V (XY k W1 R q mp Sz0 ws bad):=by
 match k,h with
 |1,⟨b1,b2,e,h1,h2⟩=>exact⟨_,_,e,(λargs w=>by go_simp),λcells rs V bad Sz0 hl1 ht hS hz=>item1 W1 R q mp cells rs V Sz0 ws bad hl1 ht hS hz b1 b2 h1 h2⟩
 |2,⟨b1,b2,e,h1,h2⟩=>exact⟨_,_,e,(λargs w=>by go_simp),λcells rs V bad Sz0 hl1 ht hS hz=>item2 W1 R q mp cells rs V Sz0 ws bad hl1 ht hS hz b1 b2 h1 h2 hl a⟩
 |3,⟨b1,b2,e,h1,h2⟩=>exact⟨_,_,e,(λargs w=>by go_simp),λcells rs V bad Sz0 hl1 ht hS hz=>item3 W1 R q mp cells rs V Sz0 ws bad hl1 ht hS hz b1 b2 h1 h2 hl a⟩
 |4,⟨b1,b2,e,h1,h2⟩=>exact⟨_,_,e,(λargs w=>by go_simp),λcells rs V bad Sz0 hl1 ht hS hz=>item4 W1 R q mp cells rs V Sz0 ws bad hl1 ht hS hz b1 b2 h1 h2 hl a⟩
 |5,⟨b1,b2,e,h1,h2⟩=>exact⟨_,_,e,(λargs w=>by go_simp),λcells rs V bad Sz0 hl1 ht hS hz=>item5 W1 R q mp cells rs V Sz0 ws bad hl1 ht hS hz b1 b2 h1 h2 hl a⟩
 |6,⟨bh,br,bl,bw,e,h1,h2,h3,h4⟩=>exact⟨_,_,e,(λargs w=>by go_simp),λcells rs V bad Sz0 hl1 ht hS hz=>item6 W1 R q mp cells rs V Sz0 ws bad hl1 ht hS bh br bl bw h1 h2 h3 h4⟩
 |7,⟨b1,b2,e,h1,h2⟩=>exact⟨_,_,e,(λargs w=>by go_simp),λcells rs V bad Sz0 hl1 ht hS hz=>item7 W1 R q mp cells rs V Sz0 ws bad hl1 ht hS hz b1 b2 h1 h2 hl a⟩
 |8,⟨b,e,h1⟩=>exact⟨_,_,e,(λargs w=>by go_simp),λcells rs V bad Sz0 hl1 ht hS hz=>item8 W1 R q mp cells rs V Sz0 ws bad hl1 ht hS b h1 hl a⟩
 |9,⟨bh,br,bl,bw,e,h1,h2,h3,h4⟩=>exact⟨_,_,e,(λargs w=>by go_simp),λcells rs V bad Sz0 hl1 ht hS hz=>item9 W1 R q mp cells rs V Sz0 ws bad hl1 ht hS bh br bl bw h1 h2 h3 h4 hl a⟩
 |10,⟨bh,br,bl,bw,e,h1,h2,h3,h4⟩=>exact⟨_,_,e,(λargs w=>by go_simp),λcells rs V bad Sz0 hl1 ht hS hz=>item10 W1 R q mp cells rs V Sz0 ws bad hl1 ht hS bh br bl bw h1 h2 h3 h4 hl a d⟩
 |11,⟨bh,br,bl,bw,e,h1,h2,h3,h4⟩=>exact⟨_,_,e,(λargs w=>by go_simp),λcells rs V bad Sz0 hl1 ht hS hz=>item11 W1 R q mp cells rs V Sz0 ws bad hl1 ht hS bh br bl bw h1 h2 h3 h4 hl a⟩
theorem line_cl (W1:J)(R q:Nat)(mp:Vu)(cells:List Vu)(rs:List Qb)(V:J)(Sz0:St)(s:Wd)(ws:List Wd)(cv:Vu)(hc:CL W1 R s cv)(h:Ln W1 R q cells rs V)(t:Tw V q ws false)(p:SR W1 R mp Sz0 cells rs)(m:Sz0.sz<=1048576)(hl:∀x∈ws,N x<=1048576)(D:N ws<=1048576)(o:Vs R W1):∃f d,cv=.func (.func f) #[] d/\(∀(args:Array Vu) (w:J),(callFunc f args).run Q w=.ok (.enter f args) w)/\Ec Q f (#[ptr q 0]++d) V (LnP (J3 Sz0 s ws) W1 R q mp):=by
 unfold CL at hc;unfold J3;split at hc
 . obtain⟨b,l,j⟩:=hc;exact⟨_,_,l,(λargs w=>by go_simp),cus_c W1 R q mp cells rs V Sz0 ws b h t p j m hl o⟩
 . rename_i k e0 e;obtain⟨b1,u,L,z,l,j,r,E,C⟩:=hc;obtain⟨A,d,rfl,n,K⟩:=read_c W1 R q mp ws hl D o k z C;refine⟨_,_,l,(λargs w=>by go_simp),?_⟩;exact add_c W1 R q mp cells rs V Sz0 ws k b1 u L A d n h t p j r E (λcells' V' bad a b c=>K cells' rs V' bad _ a b c m)
 obtain⟨F,b1,u,l,j,r⟩:=hc;refine⟨_,_,l,(λargs w=>by go_simp),(insl_c W1 R q mp cells rs V Sz0 ws b1 u (Qt s) h t p j r m hl o).mono ?_⟩;rintro e w' ⟨rfl,I,B,y,bd,a1,Y,X,M⟩;exact⟨rfl,I,B,y,bd,a1,Y,λhb hw=>by obtain⟨v,g1,H⟩:=X hb hw;exact⟨v,⟨F,g1⟩,H⟩,λ⟨v,g⟩=>M ⟨v,g.2⟩⟩
open Go.RowKit Go.Sort Go.WideMaps Go.Maps
def RV (v:Vu):Option (DataW Vu × List MemPlace):=some (.held v,[])
structure Env (W1:J)(R mb:Nat):Prop where
 map:∃n D,W1.ownsMap Q 9 RV mb n D/\∀s:Wd,(has D (.string s)=true->∃cv,D.atKey (.string s) (.held .nilFunc)=.held cv/\CL W1 R s cv)/\(has D (.string s)=false->Xc s=none/\Qt s<0)
 ne:mb≠R
 vs:Vs R W1
theorem zero89 (w:J):(zeroValue 89).run Q w=.ok .nilFunc w:=by kernel_rfl
def Look (mb:Nat)(s:Wd)(cv:Vu)(fd:Bool)(W:J):Prop:=(Instr.lookup 56 (.map (some mb)) (Xs (Sz0 s)) true).run Q W=.ok (.tuple #[cv,G fd]) W
theorem Env.look {W1:J}(h:Env W1 R mb)(s:Wd)(m:N s<=1048576):∃cv fd,(∀V,W1.grownBy V (some R)->Look mb s cv fd V)/\(fd=true->CL W1 R s cv)/\(fd=false->Xc s=none/\Qt s<0):=by
 obtain⟨n,D,c,d⟩:=h.map;have a:keyOf Q 9 (.string (Sz0 s))=some (.string s):=by have:=keyOf_string_mk (P:=Q) (k:=9) underlying9 (s:=Sz0 s) (by rw[QJ];unfold maxLen;omega);rwa [QB]at this
 obtain⟨cv,b⟩:∃cv,D.atKey (.string s) (.held .nilFunc)=.held cv:=by obtain⟨v,g,-,hv⟩:=c.look_ok law9 underlying56 (zero89 W1) (zd:=.held .nilFunc) (zp:=[]) rfl a;exact⟨v,(congrArg Prod.fst (Option.some.inj hv)).symm⟩
 refine⟨cv,has D (.string s),λV hV=>?_,λhf=>?_,λhf=>(d s).2 hf⟩
 . obtain⟨v,g,j,hv⟩:=(c.kept hV (λe=>h.ne (Option.some.inj e))).look_ok law9 underlying56 (zero89 V) (zd:=.held .nilFunc) (zp:=[]) rfl a;(have:v=cv:=by have f:=congrArg Prod.fst (Option.some.inj hv);rw[b]at f;cases f;rfl);subst this;exact j
 obtain⟨l,e,hc⟩:=(d s).1 hf;rw[b]at e;cases e;exact hc
def JR (Zz0:St)(l:Wd)(Z':St):Prop:=∃s r,Jm l=s::r/\J3 Zz0 s r Z'
def LineP (W1:J)(R mb:Nat)(Zz0:St)(l:Wd)(e:Ending)(w':J):Prop:=∃ok cells rs,e=Z (G ok)/\Sr W1 R cells rs w'/\(ok=true->∃Z',JR Zz0 l Z'/\SR W1 R (.map (some mb)) Z' cells rs)/\((∃Z',JR Zz0 l Z')->ok=true)
section
variable (W1:J) (R q mb:Nat) (cells:List Vu) (rs:List Qb) (V:J) (Zz0:St)
abbrev Fl (s:Wd)(cv:Vu)(fd:Bool)(r:List Wd)(k:Nat)(us:List Vu)(W:J):Prop:=Fcz0 (λW=>W.cell? ⟨R,14,none⟩=some (.map (some mb))/\Look mb s cv fd W) [Xs (Sz0 s),.tuple #[cv,G fd],.tuple #[cv,G fd]]
 [λW=>Ln W1 R q cells rs W/\Tw W q (s::r) false,λW=>Ln W1 R q cells rs W/\Tw W q r false,λW=>Ln W1 R q cells rs W/\Tw W q r false,λW=>Ln W1 R q cells rs W/\Tw W q r false] k us W
theorem Sr.ln {W2}(h:Sr W1 R cells rs V)(b:Bw V.heap.size V W2)(a:V.heap.size<=q)(hl:q<W2.heap.size):Ln W1 R q cells rs W2:=⟨h.below b,Kf h.gr.size a,λhk=>by have:=(h.own.tail.lt hk).2;omega,hl⟩
theorem line_c (E:Env W1 R mb)(h:Sr W1 R cells rs V)(hS:SR W1 R (.map (some mb)) Zz0 cells rs)(hz:Zz0.sz<=1048576)(l:Wd)(hl:N l<=1000000):Ec Q 34 #[ptr R 0,Xs (Sz0 l)] V (LineP W1 R mb Zz0 l):=by
 have KS:=Hm (split_c l V (by omega));have HS:=Hm hS;have aw:=Hm hz;have av:=Hm E.vs;have HH:=Hm h;have ad:=Hm hS.map;obtain⟨s,r,C⟩:∃s r,Jm l=s::r:=by
  cases e:Jm l with
  |nil=>exact absurd e (psplit_ne l)
  |cons s r=>exact⟨s,r,rfl⟩
 obtain⟨z,y⟩:=psplit_len (N l) l lRz;rw[C]at z y;have ae:Hid ((∀x∈r,N x<=1048576)/\N r<=1048576):=⟨λx hx=>by have:=y x (mC hx);omega,by simp at z;omega⟩;have X:N s<=1048576:=by have:=y s (mS ..);omega
 obtain⟨cv,d,D,ac,ab⟩:=E.look s X;have af:=Hm D;have az:=Hm ac;have ay:=Hm ab;have B:=Hm C;have ax:Hid ((s::r).length<=1099511627776):=by show _<=_;simp at z⊢;omega
 clear h hS hz hl D ac ab C z y X E;go_enter func34,ntmps34;go_wp2_with fail
 refine KS.o.mono ?_;rintro e w1 ⟨v,rfl,g,m⟩;rw[B.o]at g;obtain⟨wb,wc,rfl,-⟩:=own_words g (by simp);obtain⟨q,hq⟩:∃q,q=w1.heap.size:=⟨_,rfl⟩;obtain⟨V2,p⟩:∃W,W=w1.alloc (Fc #[S (some ⟨wb,0,none⟩) (s::r).length wc,G false] 184):=⟨_,rfl⟩;have HL:Hid (Ln W1 R q cells rs V2/\Tw V2 q (s::r) false):=by
  refine⟨?_,?_⟩
  . rw[hq,p];exact HH.o.ln W1 R w1.heap.size cells rs V (m.alloc m.size _) m.size (by simp)
  rw[hq,p];exact tw_new g (by simp) ax.o
 simp only[Kj]at p;clear g m KS HH;go_upto_region 2 with fail
 rw[<- p,<- hq];clear p hq;refine Rp.rg (nN:=25) [ptr R 0,ptr R 0,ptr R 14,.map (some mb),undef,undef,undef,cv,G d,cv,G d] [4,5,6] 3 (Fl W1 R q mb cells rs s cv d r) ?_ ?_ ?_
 . exact⟨⟨(HL.o.1.s.cell 14 ad.o).1,af.o _ (HL.o.1.below bFz.drew).s.gr⟩,rfl,HL.o.1.below bFz.drew,HL.o.2.keep bFz.drew⟩
 . refine Rp.os 0 (ptr R 0) ?_;refine Rp.o1 0 12 ?_;refine Rp.o1 1 13 ?_;refine Rp.l1 2 14 (λk u W hk b=>b.1.1) ?_;refine Rp.hc 0 (λa W u f hu b=>?_) ?_
   . have e5:a.tmps[5]?.getD undef=ptr q 0:=(Rp.JQ f 5 (by kernel_rfl)).trans rfl;obtain⟨t,rfl,hl,ht⟩:=b;refine⟨119,#[ptr q 0],?_,?_⟩
     . clear f hu;go_simp;try rfl
     refine(next_g q (s::r) false W ht).mono ?_;rintro e w1 ⟨rfl,t1,g1⟩;have F:=hl.call g1;exact⟨_,rfl,⟨(F.s.cell 14 ad.o).1,af.o _ F.s.gr⟩,rfl,F,t1⟩
   refine Rp.Qj.h 1 (by kernel_rfl) (λa W u Kc f hu b j=>?_) ?_
   . have bk:=Rp.va f 3 15;have L:=Qv (show Fl W1 R q mb cells rs s cv d r 1 u W from b) 0 (by decide);have bj:a.tmps[16]?.getD undef=Xs (Sz0 s):=(Rp.vu hu 0 16).trans L;clear L;obtain⟨t,rfl,hl,ht⟩:=b;have D:(Instr.lookup 56 (.map (some mb)) (Xs (Sz0 s)) true).run Q W=.ok (.tuple #[cv,G d]) W:=t.2;refine Rp.Jv (Gz0:=λv W'=>Fl W1 R q mb cells rs s cv d r 2 ([_]++[v]) W') (.tuple #[cv,G d]) (Rp.Qd rfl) (W':=W) ?_ ⟨t,rfl,hl,ht⟩ j;clear f j hu;go_simp;try rfl
   refine Rp.Qj.h 2 (by kernel_rfl) (λa W u Kc f hu b j=>?_) ?_
   . have I:=Qv (show Fl W1 R q mb cells rs s cv d r 2 u W from b) 1 (by decide);have bh:a.tmps[17]?.getD undef=.tuple #[cv,G d]:=(Rp.vu hu 1 17).trans I;clear I;obtain⟨t,rfl,hl,ht⟩:=b;refine Rp.Jv (Gz0:=λv W'=>Fl W1 R q mb cells rs s cv d r 3 ([_,_]++[v]) W') (.tuple #[cv,G d]) (Rp.Qd rfl) (W':=W) ?_ ⟨t,rfl,hl,ht⟩ j;clear f j hu;go_simp;try rfl
   refine Rp.Qj.c (by kernel_rfl) (λa W kk u Kc f hk m hu b j=>?_) ?_
   . have n:=Qv (show Fl W1 R q mb cells rs s cv d r kk u W from b) 2 (m 2 (of_decide_eq_true (by kernel_rfl)) (by kernel_rfl));have ar:a.tmps[11]?.getD undef=.tuple #[cv,G d]:=(Rp.cx_us hu 2 11 (by kernel_rfl) (m 2 (of_decide_eq_true (by kernel_rfl)) (by kernel_rfl))).trans n;clear n;refine Rp.QA (cv) (Rp.Qd rfl) rfl ?_ j;clear f j b hu m;go_simp;try rfl
   refine Rp.Qj.c (by kernel_rfl) (λa W kk u Kc f hk m hu b j=>?_) ?_
   . have n:=Qv (show Fl W1 R q mb cells rs s cv d r kk u W from b) 2 (m 2 (of_decide_eq_true (by kernel_rfl)) (by kernel_rfl));have ar:a.tmps[11]?.getD undef=.tuple #[cv,G d]:=(Rp.cx_us hu 2 11 (by kernel_rfl) (m 2 (of_decide_eq_true (by kernel_rfl)) (by kernel_rfl))).trans n;clear n;refine Rp.QA (G d) (Rp.Qd rfl) rfl ?_ j;clear f j b hu m;go_simp;try rfl
   refine Rp.o1 7 18 ?_;refine Rp.o1 8 19 ?_;exact Rp.Qj.nil
 intro u a W f;have ea:=Rp.ca f [12,13,14,15,16,17,11,18,19,6,7];have b:=f.ph;simp only[Km,Tq,Rp.cv f 0 12,Rp.cv f 1 13,Rp.cv f 2 14,Rp.cv f 3 15,Rp.cu f 0 16,Rp.cu f 1 17,Rp.cu f 2 11,Rp.cv f 7 18,Rp.cv f 8 19,Rp.cv f 9 6,Rp.cv f 10 7]at ea;clear f;subst ea;obtain⟨-,rfl,hl,ht⟩:=b;go_simp;cases d with
 |false =>
  have H:=Hm (And.intro hl (ay.o rfl));clear hl ht
  go_wp2
  go_ret
  refine⟨false,cells,rs,rfl,H.o.1.s,(λh=>by cases h),?_⟩
  rintro⟨Z',s',r',e,hg⟩;rw[B.o]at e
  cases e
  exfalso
  unfold J3 at hg;rw[H.o.2.1]at hg
  have:=H.o.2.2
  have:=hg.1
  omega
 |true =>
  obtain⟨f,a4,rfl,bg,j⟩:=line_cl W1 R q (.map (some mb)) cells rs W Zz0 s r cv (az.o rfl) hl ht HS.o aw.o ae.o.1 ae.o.2 av.o;have KK:=Hm j;clear hl ht j
  go_wp2_with fail
  refine KK.o.mono ?_
  rintro e w2 ⟨rfl,A,ak,aj,au,Y,M,k1,k2⟩;have KG:=Hm (good_e q w2 aj au M);have H:=Hm (And.intro Y (And.intro k1 k2));clear Y M k1 k2 KK
  go_wp2_with fail
  refine KG.o.mono ?_
  rintro e w3 ⟨rfl,rfl⟩;clear KG
  go_wp2
  go_ret
  refine⟨_,A,ak,rfl,H.o.1.s,λh=>?_,?_⟩
  . simp at h
    obtain⟨Z',g1,g2⟩:=H.o.2.1 h.1 h.2
    exact⟨Z',⟨s,r,B.o,g1⟩,g2⟩
  . rintro⟨Z',s',r',e,hg⟩;rw[B.o]at e
    cases e
    obtain⟨g1,g2⟩:=H.o.2.2 ⟨Z',hg⟩
    simp[g1,g2]
end
open Go.RowKit Go.Sort
theorem idx_eq {c:UInt8}{o:Nat}(h1:l[o]?=some c)(d:∀k,k<o->l[k]?≠some c):Lib.indexByte l c=(o:Int):=by
 rcases Jc l c with e|⟨b,e,_,h⟩
 . exact absurd h1 (Lib.indexByte_none e o)
 obtain⟨g1,f⟩:=Lib.indexByte_some e;rcases Eh o b with a|a|a
 . exact absurd h1 (f o a)
 . rw[e,a]
 exact absurd g1 (d b a)
def Okw (t:Wd):Prop:=Cln t\/okS t=true
theorem okS_shape (h:okS s=true):∃m:Wd,s=34::(m++[34])/\∀x∈m,x≠34:=by
 obtain⟨b,rfl⟩:=okS_iff.1 h;refine⟨b.flatMap enc,rfl,λx hx=>?_⟩;obtain⟨c,-,hc⟩:=List.mem_flatMap.1 hx;exact enc_nq c x hc
theorem mid_at (a:∀x∈m,x≠34)(r:Wd):(m++34::r)[N m]?=some 34/\∀k,k<N m->(m++34::r)[k]?≠some 34:=by
 refine⟨by simp,λk hk e=>?_⟩;rw[List.getElem?_append_left hk]at e;exact a 34 (Tj e) rfl
theorem from_q (a:∀x∈m,x≠34)(r:Wd):JX (34::(m++34::r))=N m+1:=by
 unfold JX;obtain⟨c,b⟩:=mid_at a r;rw[if_pos (by simp[Lib.hasPrefix,List.isPrefixOf]),List.drop_one,Ij,idx_eq c b];omega
theorem wlen_q (b:∀x∈m,x≠34)(r:Wd):XH (34::(m++34::r))=some (N m+2):=by
 obtain⟨f,d⟩:=mid_at b r;have a:run nq (m++34::r)=N m:=run_eq (fun i c hi e=>by
  have:=d i hi
  rw[e]at this
  simp[nq]
  intro g;rw[g]at this;exact this rfl) (.inr ⟨34,f,by decide⟩) (by simp)
 unfold XH;rw[if_pos (by rfl),Ij,a,if_pos (by simp)]
theorem end_q (c:∀x∈m,x≠34)(r:Wd)(hr:r=[]\/∃a,r=32::a):Jb (34::(m++34::r))=N m+2:=by
 unfold Jb;rw[from_q c r];have d:(34::(m++34::r)).drop (N m+1)=34::r:=by simp
 rw[d];rcases hr with rfl|⟨a,rfl⟩
 . have:Lib.indexByte ([34]:Wd) 32=-1:=by
    rcases Jc ([34]:Wd) 32 with e|⟨o,-,b,e⟩
    . exact e
    simp at b;subst b;exact absurd e (by decide)
   rw[this,if_neg (by omega)];simp
 rw[idx_eq (o:=1) rfl (fun k hk=>by
   have:k=0:=by omega
   subst this
   simp)]
 simp
theorem wlen_end (h:Okw (l.take (Jb l))):XH l=some (Jb l):=by
 have s:=end_le l;rcases h with h|h
 . have b:0<Jb l:=by
    rcases Am (Jb l)with e|e
    . rw[e]at h;exact absurd rfl h.1
    exact e
   (have d:∀i c,i<Jb l->l[i]?=some c->c≠34:=by intro i c f e n;subst n;apply h.2;(have:(l.take (Jb l))[i]?=some 34:=by rw[List.getElem?_take,if_pos f];exact e);exact Tj this);have k:l.head?≠some 34:=by intro e;(have:l[0]?=some 34:=by rw[<- List.head?_eq_getElem?];exact e);exact d 0 34 b this rfl
   have a:run nw l=Jb l:=by
    refine run_eq (λi c f e=>?_) ?_ (end_le l)
    . have u:=d i c f e;have t:c≠32:=by
       rcases end_plain k with ⟨_,g⟩|⟨_,g⟩
       . exact λec=>g i (by rw[<- ec];exact e)
       exact λec=>g i f (by rw[<- ec];exact e)
      simp[nw,u,t]
    rcases end_plain k with ⟨j,_⟩|⟨j,_⟩
    . exact .inl j
    exact .inr ⟨32,j,by decide⟩
   unfold XH;rw[if_neg k,a,if_neg (by omega)]
 obtain⟨m,o,q⟩:=okS_shape h;have p:l=34::(m++34::l.drop (Jb l)):=by
  conv=>lhs;rw[<- Ld (Jb l) l,o]
  simp
 have r:Jb l=N m+2:=by have:=congrArg Hx o;simp at this;omega
 rw[r]at p⊢;rw[p];exact wlen_q q _
theorem wlen_le (h:XH l=some j):j<=N l:=by
 unfold XH at h;split at h
 . split at h
   . cases h;(have:N l.tail=N l-1:=by simp);omega
   cases h
 split at h
 . cases h
 cases h;exact run_le _ _
theorem end_wlen (f:XH l=some j)(h:Okw (l.take j))(d:j=N l\/l[j]?=some 32):Jb l=j:=by
 have B:=wlen_le f;rcases h with h|h
 . have t:l.head?≠some 34:=λe=>by
    have C:0<j:=by
     rcases Am j with p|p
     . rw[p]at h;exact absurd rfl h.1
     exact p
    cases l with
    |nil=>cases e
    |cons a l =>
     simp at e;subst e
     apply h.2
     obtain⟨k,rfl⟩:∃k,j=k+1:=⟨j-1,by omega⟩
     simp
   unfold XH at f;rw[if_neg t]at f;split at f
   . cases f
   simp at f;(have o:∀i c,i<j->l[i]?=some c->c≠32:=λi c hi e ec=>by rw[<- f]at hi;have:=run_in nw l i c hi e;rw[ec]at this;exact absurd this (by decide));rcases end_plain t with ⟨q,n⟩|⟨q,n⟩
   . rcases d with b|b
     . omega
     exact absurd b (n j)
   rcases Eh (Jb l) j with b|b|b
   . exact absurd rfl (o _ _ b q)
   . exact b
   rcases d with u|u
   . have:=end_le l;omega
   exact absurd u (n j b)
 obtain⟨m,s,y⟩:=okS_shape h;have A:l=34::(m++34::l.drop j):=by
  conv=>lhs;rw[<- Ld j l,s]
  simp
 have z:j=N m+2:=by have:=congrArg Hx s;simp at this;omega
 have v:l.drop j=[]\/∃r',l.drop j=32::r':=by
  rcases d with e|e
  . left;rw[e];simp
  right;have g:j<N l:=by
   rcases Nat.lt_or_ge j (N l)with b|b
   . exact b
   rw[List.getElem?_eq_none b]at e;cases e
  rw[List.drop_eq_getElem_cons g];rw[Kv g]at e;exact⟨_,by rw[Option.some.inj e]⟩
 generalize l.drop j=r at *;subst A;rw[z];exact end_q y r v
theorem words_okw:∀(n:Nat) (l:Wd),N l<=n->(∀t∈Jm l,Okw t)->QV l=some (Jm l)
 |n,l,hn,hc=>by
  have a:∃t,t∈Jm l/\t=l.take (Jb l):=by
   by_cases h:Jb l<N l
   . rw[JO h];exact⟨_,by simp,rfl⟩
   . rw[JP h];exact⟨l,by simp,(My (by omega)).symm⟩
  obtain⟨t,ht,c⟩:=a;have b:=hc t ht;rw[c]at b;rw[QV,wlen_end b]
  simp only
  by_cases h:Jb l<N l
  . rw[dif_pos h,if_pos (end_at l h)];rw[JO h]at hc⊢;rw[words_okw (n-1) (l.drop (Jb l+1)) (by simp;omega) (λt ht=>hc t (by simp[ht]))]
    rfl
  . rw[dif_neg h,JP h]
termination_by n l=>N l
decreasing_by simp;omega
theorem okw_words:∀(n:Nat) (l:Wd) (ws:List Wd),N l<=n->QV l=some ws->(∀t∈ws,Okw t)->Jm l=ws
 |n,l,ws,hn,hw,hc=>by
  rw[QV]at hw
  cases hj:XH l with
  |none=>rw[hj]at hw;cases hw
  |some j =>
   rw[hj]at hw
   simp only at hw
   by_cases h:j<N l
   . rw[dif_pos h]at hw
     split at hw
     · rename_i a
       cases hr:QV (l.drop (j+1))with
       |none=>rw[hr]at hw;cases hw
       |some r =>
        rw[hr]at hw
        simp at hw
        subst hw;have e:=end_wlen hj (hc _ (by simp)) (.inr a);rw[JO (by omega),e,okw_words (n-1) (l.drop (j+1)) r (by simp;omega) hr (λt ht=>hc t (by simp[ht]))]
     . cases hw
   . rw[dif_neg h]at hw
     simp at hw
     subst hw;have b:=wlen_le hj;have e:=end_wlen hj (by rw[My (by omega)];exact hc l (by simp)) (.inl (by omega));rw[JP (by omega)]
termination_by n l=>N l
decreasing_by simp;omega
theorem okw_U (h:okU t=true):Okw t:=by
 have a:okN 0 4294967295 t=true:=h;cases hv:okP t with
 |none=>unfold okN at a;rw[hv]at a;cases a
 |some v=>exact .inl (X4 (v:=v) ⟨a,hv⟩)
theorem okw_T (h:okT t=true):Okw t:=.inl (ty_cln (by simpa[okT]using h))
theorem okw_S (h:okS t=true):Okw t:=.inr h
theorem okw_Nm (h:JA t=true):Okw t:=.inr (by unfold JA at h;simp at h;exact h.1)
theorem lk_mem {L:List (Wd × Int)}(h:(lkL L s).isSome=true):∃p∈L,p.1=s:=by
 unfold lkL at h;simp only[Hf]at h;obtain⟨p,a⟩:=Option.isSome_iff_exists.1 h;exact⟨p,Mw a,by simpa using If a⟩
theorem okw_K (h:okK t=true):Okw t:=by
 obtain⟨p,a,rfl⟩:=lk_mem (L:=knL) h;simp[knL]at a;rcases a with rfl|rfl|rfl|rfl<;>exact .inl ⟨by decide,by decide⟩
theorem okw_M (h:okM t=true):Okw t:=by
 obtain⟨p,a,rfl⟩:=lk_mem (L:=mtL) h;simp[mtL]at a;rcases a with rfl|rfl<;>exact .inl ⟨by decide,by decide⟩
theorem okw_ar:Okw arW:=.inl ⟨by decide,by decide⟩
theorem okw_sec {k:Nat}(h:Xc s=some k):Okw s:=by
 unfold Xc at h;rw[Tz]at h;obtain⟨p,a,-⟩:=h;have b:=Mw a;have c:p.1=s:=by simpa using If a
 subst c;simp[secL]at b;rcases b with rfl|rfl|rfl|rfl|rfl|rfl|rfl|rfl|rfl|rfl|rfl|rfl<;>exact .inl ⟨by decide,by decide⟩
theorem okw_uF (h:(uF r).isSome):∀t∈r,Okw t:=by
 unfold uF if1 at h;split at h
 . split at h
   . rename_i a b;intro t ht;simp at ht;subst ht;exact okw_U b
   cases h
 cases h
theorem okw_datF (h:(datF r).isSome):∀t∈r,Okw t:=by
 unfold datF if1 at h;split at h
 . split at h
   . rename_i a b;intro t ht;simp at ht;subst ht;exact okw_S b
   cases h
 cases h
theorem okw_limF (h:(Q5 r).isSome):∀t∈r,Okw t:=by
 unfold Q5 at h;split at h
 . split at h
   . rename_i a c;intro t ht;simp at ht;subst ht;exact okw_U c
   cases h
 . split at h
   . rename_i a b c;simp at c;intro t ht;simp at ht;rcases ht with rfl|rfl
     . exact okw_U c.1
     exact okw_U c.2
   cases h
 cases h
theorem okw_gtF (h:(gtF r).isSome):∀t∈r,Okw t:=by
 unfold gtF at h;split at h
 . split at h
   . rename_i a b c;simp at c;intro t ht;simp at ht;rcases ht with rfl|rfl
     . exact okw_T c.1
     exact okw_M c.2
   cases h
 cases h
theorem okw_if3 {α:Type}{o1 o2 o3:Wd->Bool}{f:Wd->Wd->Wd->α}(k:∀{t},o1 t=true->Okw t)(j:∀{t},o2 t=true->Okw t)(g:∀{t},o3 t=true->Okw t)(h:(if3 o1 o2 o3 f r).isSome):∀t∈r,Okw t:=by
 unfold if3 at h;split at h
 . split at h
   . rename_i a b c d;simp at d;intro t ht;simp at ht;rcases ht with rfl|rfl|rfl
     . exact k d.1
     . exact j d.2.1
     exact g d.2.2
   cases h
 cases h
theorem okw_impF (h:(Xy r).isSome):∀t∈r,Okw t:=by
 unfold Xy pre3 at h;split at h
 . split at h
   . rename_i a b c r d;simp at d;have f:∀t∈r,Okw t:=by
      unfold XD at h;split at h
      . exact okw_uF (by simpa using h)
      split at h
      . exact okw_gtF (by simpa using h)
      exact okw_limF (by simpa using h)
     intro t ht;simp at ht;rcases ht with rfl|rfl|rfl|ht
     . exact okw_Nm d.1
     . exact okw_Nm d.2.1
     . exact okw_K d.2.2
     exact f t ht
   cases h
 cases h
theorem okw_numsF (h:(Xo r).isSome):∀t∈r,Okw t:=by
 unfold Xo at h;split at h
 . rename_i a;rw[Px]at a;exact λt ht=>okw_U (a t ht)
 cases h
theorem okw_grpP:∀{r:List Wd},(JH r).isSome->∀t∈r,Okw t
 |[],_,t,ht=>by cases ht
 |[_],h,_,_=>by simp[JH]at h
 |a::b::r,h,t,ht=>by
  unfold JH at h
  split at h
  · rename_i c
    simp at c
    simp only[Hf]at h
    simp at ht
    rcases ht with rfl|rfl|ht
    . exact okw_U c.1
    . exact okw_T c.2
    . exact okw_grpP h t ht
  . cases h
theorem okw_grpsF (h:(Js r).isSome):∀t∈r,Okw t:=by
 unfold Js at h;split at h
 . rename_i l a;exact okw_grpP (by rw[a];rfl)
 cases h
theorem okw_ftF (h:(ftF r).isSome):∀t∈r,Okw t:=by
 unfold ftF at h;split at h
 . rename_i d;rw[Px]at d;have f:∀t∈r.dropWhile (·≠arW),Okw t:=by
    (have c:∀a l,r.dropWhile (·≠arW)=a::l->a=arW:=λa l e=>by have:=List.head?_dropWhile_not (p:=(·≠arW)) (l:=r);rw[e]at this;simpa using this);split at h
    . rename_i a e;rw[e];intro t ht;simp at ht;subst ht;rw[c _ _ e];exact okw_ar
    . split at h
      . rename_i a b e g;rw[e];intro t ht;simp at ht;rcases ht with rfl|rfl
        . rw[c _ _ e];exact okw_ar
        exact okw_T g
      cases h
    cases h
   intro t ht;rw[<- List.takeWhile_append_dropWhile (p:=(·≠arW)) (l:=r)]at ht;rcases List.mem_append.1 ht with ht|ht
   . exact okw_T (d t ht)
   exact f t ht
 cases h
theorem okw_item {k:Nat}{m:Mod}(h:(QN k m r).isSome):∀t∈r,Okw t:=by
 unfold QN at h
 split at h<;>first
  |(cases h;done)
  |(simp only[Hf]at h;first|exact okw_ftF h|exact okw_impF h|exact okw_uF h|exact okw_limF h|exact okw_gtF h|exact okw_if3 okw_Nm okw_K okw_U h|exact okw_numsF h|exact okw_grpsF h|exact okw_datF h)
  | (
   split at h
   · cases h
   . simp only[Hf]at h;exact okw_uF h)
theorem okw_line (h:J3 Zz0 s r Z'):∀t∈s::r,Okw t:=by
 intro t ht;unfold J3 at h;split at h
 . rename_i f;obtain⟨-,c,hc,-⟩:=h;rcases List.mem_cons.1 ht with rfl|ht
   . exact okw_sec f
   exact okw_if3 okw_U okw_Nm okw_S (by rw[show if3 okU JA okS (λa b c=>(⟨nv a,Sz0 (Qm b),Iy (Qm c)⟩:Cus)) r=some c from hc];rfl) t ht
 . rename_i k f;obtain⟨-,-,i,m,-⟩:=h;rcases List.mem_cons.1 ht with rfl|ht
   . exact okw_sec ‹_›
   exact okw_item (by rw[m];rfl) t ht
 obtain⟨n,x,hx,ha,-⟩:=h;rcases List.mem_cons.1 ht with rfl|ht
 . obtain⟨_,j,_,l,g,d⟩:=code_form t n;rw[<- g];exact .inl (name_cln j l (by rw[g];exact d))
 exact .inl (arg_cln _ r x ha t ht)
theorem Xq:JR Zz0 l Z' ↔ ∃s r,QV l=some (s::r)/\J3 Zz0 s r Z':=by
 constructor
 . rintro⟨s,r,e,h⟩;exact⟨s,r,by rw[<- e];exact words_okw _ l lRz (by rw[e];exact okw_line h),h⟩
 rintro⟨s,r,e,h⟩;exact⟨s,r,okw_words _ l _ lRz e (okw_line h),h⟩
def secW (i:Nat):Wd:=(secL.getD i ([],0)).1
theorem secW_at:∀k:Fin 12,Xc (secW k.val)=some k.val:=by decide
theorem sec_no (h:∀i,i<12->secW i≠s):Xc s=none:=by
 unfold Xc;rw[Option.map_eq_none_iff,List.find?_eq_none];intro p c e;obtain⟨i,b,rfl⟩:=List.getElem_of_mem c;have a:i<12:=b;exact h i a (by unfold secW;simp only[List.getD,Kv b,Option.getD_some];simpa using e)
def scM (s:Wd):Int:=match Xc s with|some k=>(k:Int)|none=>-1
theorem secW_new (w:J)(i:Nat)(hi:i<12):(w.alloc (Fc #[Xs ⟨#[99,117,115,116,111,109]⟩,Xs ⟨#[116,121,112,101]⟩,Xs ⟨#[105,109,112,111,114,116]⟩,Xs ⟨#[102,117,110,99]⟩,Xs ⟨#[116,97,98,108,101]⟩,Xs ⟨#[109,101,109,111,114,121]⟩,Xs ⟨#[103,108,111,98,97,108]⟩,Xs ⟨#[101,120,112,111,114,116]⟩,Xs ⟨#[115,116,97,114,116]⟩,Xs ⟨#[101,108,101,109]⟩,Xs ⟨#[99,111,100,101]⟩,Xs ⟨#[100,97,116,97]⟩] 9)).cell? ⟨w.heap.size,i,none⟩=some (Xs (Sz0 (secW i))):=by
 have:i=0\/i=1\/i=2\/i=3\/i=4\/i=5\/i=6\/i=7\/i=8\/i=9\/i=10\/i=11:=by omega
 rcases this with rfl|rfl|rfl|rfl|rfl|rfl|rfl|rfl|rfl|rfl|rfl|rfl<;>exact Qn _ _ _ _ rfl
theorem msec_c (s:Wd)(w:J):Ec Q 21 #[Xs (Sz0 s)] w λe w'=>e=Z (U O (scM s))/\Bw w.heap.size w w':=by
 obtain⟨g,j⟩:∃g,g=w.heap.size:=⟨_,rfl⟩;obtain⟨V,f⟩:∃V,V=w.alloc (Fc #[Xs ⟨#[99,117,115,116,111,109]⟩,Xs ⟨#[116,121,112,101]⟩,Xs ⟨#[105,109,112,111,114,116]⟩,Xs ⟨#[102,117,110,99]⟩,Xs ⟨#[116,97,98,108,101]⟩,Xs ⟨#[109,101,109,111,114,121]⟩,Xs ⟨#[103,108,111,98,97,108]⟩,Xs ⟨#[101,120,112,111,114,116]⟩,Xs ⟨#[115,116,97,114,116]⟩,Xs ⟨#[101,108,101,109]⟩,Xs ⟨#[99,111,100,101]⟩,Xs ⟨#[100,97,116,97]⟩] 9):=⟨_,rfl⟩;have l:Hid (Bw w.heap.size w V):=Hm (by rw[f];exact bFz.alloc lRz _);have q:Hid (∀i,i<12->V.cell? ⟨g,i,none⟩=some (Xs (Sz0 (secW i)))):=Hm (by rw[f,j];exact secW_new w);go_enter func21,ntmps21;go_upto_region 3 with fail
 rw[<- f,<- j];clear f j;go_loopw [4] (λi wr=>∃k:Nat,k<=12/\i=U O k/\(∀i,i<k->secW i≠s)/\wr=V) (λi _=>12-(intOf i).toNat)
 case atStart=>exact⟨0,by omega,rfl,λi hi=>by omega,rfl⟩
 obtain⟨k,v,rfl,a,rfl⟩:=hrel;have m:=Hm a;clear a;by_cases d:k<12
 . (have n:(k:Int)<12:=by omega);have p:=q.o k d;by_cases b:secW k=s
   . have c:=S_eq b;have t:Hid (scM s=(k:Int)):=Hm (by unfold scM;rw[<- b,secW_at ⟨k,d⟩]);clear b;generalize secW k=x at *;go_wp2;go_ret;exact⟨by rw[t.o];rfl,l.o⟩
   have c:=S_ne b;have u:=Hm b;clear b;obtain⟨x,hx⟩:∃x,x=secW k:=⟨_,rfl⟩;rw[<- hx]at p c;have y:=Hm hx;clear hx;go_wp2;go_roundw
   case rel=>exact⟨k+1,by omega,by go_num,fun i hi=>by
    rcases(by omega:i<k\/i=k)with h|h
    . exact m.o i h
    . subst h;exact u.o,trivial⟩
   case measure=>simp[intOf];omega
 have e:k=12:=by omega
 subst e;have r:Hid (scM s=-1):=Hm (by unfold scM;rw[sec_no m.o]);go_wp2;go_ret;exact⟨by rw[r.o];rfl,l.o⟩
section
variable {F:Fence}{n:Nat}{P:Program}
def Rec2 (B:Nat)(W W':J):Prop:=W'.heap[B]?=W.heap[B]?/\W'.heap[B+1]?=W.heap[B+1]?
def BoxPost {α:Type}(B:Nat)(Kp:J->J->Prop)(I Ix:List α->J->Prop)(xs:List α)(W:J):Exit->Act->J->Prop
 |.normal,_,W'=>Rec2 B W W'/\Kp W W'/\I xs W'
 |.ret,_,W'=>Rec2 B W W'/\Ix xs W'
 |_,_,_=>False
def SeqBox {α:Type}(F:Fence)(n:Nat)(P:Program)(gf:Nat)(lb:Array Vu)(encs:α->Array Vu)(Kp:J->J->Prop)(A Ap:List α->Prop)(Gz0:α->Prop)(nN Bs:Nat)(w:J):Prop :=
 ∀(l:Nat) (Jz0 Jx:List α->J->Prop) (W:J),(∀k,k<w.heap.size->W.heap[k]?=w.heap[k]?)->(∀pre W x,Jz0 pre W->Jz0 pre (W.setCell ⟨Bs,0,none⟩ (Xs x)))->(∀pre W W',Jz0 pre W->W.grownBy W' none->Jz0 pre W') ->
  (∀pre x W1,Jz0 pre W1->N pre<nN->Gz0 x->YieldAt F (n-1) P l (encs x) W1 λe W'=>(e=Z (G true)/\Jz0 (pre++[x]) W'/\Kp W1 W')\/(e=Z (G false)/\Jx (pre++[x]) W')) ->
  Jz0 [] W->CallsIn F n P gf (#[.func (.yield l) #[] #[]]++lb) W λe W'=>(∃v,e=Z v)/\((∃xs,A xs/\Jz0 xs W')\/(∃pre,Ap pre/\Jx pre W'))
theorem range_box {α:Type}{g:Operand}{ps:Array Tmp}{assign body:Code}{y:Exit->Act->J->Prop}{a:Act}{w:J}(aj:F.round=none)(h1:1<=n){gf:Nat}{lb:Array Vu}(hg:a.eval g=.func (.func gf) #[] lb)(au:F.fn gf)(eg:∀args w,(callFunc gf args).run P w=.ok (.enter gf args) w) {d:α->Array Vu} {z:J->J->Prop} {A Ap:List α->Prop} {Gz0:α->Prop} {nN Bs:Nat} (ba:Bs<w.heap.size) (M:SeqBox F (n-1) P gf lb d z A Ap Gz0 nN Bs w) (ac:∀{A B C:J},z A B->z B C->z A C) (ad:∀(W:J) (l:Nat) (o':Obj),w.heap.size<=l->z W (W.putObj l o')) (ak:∀x,(d x).size=ps.size) (I Ix:List α->J->Prop) (H:OwnFrom w.heap.size I) (ae:OwnFrom w.heap.size Ix) (aq:∀b W x,I b W->I b (W.setCell ⟨Bs,0,none⟩ (Xs x))) (h0:I [] w) (a₁:α->Act) (j:∀(l:Nat) (x:α) (W:J) (K:Act->J->Prop),K (a₁ x) W->assign.wpIn (F.inRound l) (n-1-1) P (Exit.then K (λ_ _ _=>False)) { tmps:=(ps.zip (d x)).foldl (λt (p,v)=>t.setIfInBounds p v) a.tmps,defers:=[] } W) (hbody:∀(l:Nat) (b:List α) (x:α) (W:J),I b W->N b<nN->Gz0 x->w.heap.size+2<=W.heap.size->body.wpIn (F.inRound l) (n-1-1) P (BoxPost w.heap.size z I Ix (b++[x]) W) (a₁ x) W) (hdone:∀(D:Nat) (xs:List α) (W:J),w.heap.size<=D->A xs->I xs W->W.heap[D]?=some (.deferred (some []))->y .normal { a with defers:={ target:=.collected D,args:=#[] }::a.defers } W) (hstop:∀(D:Nat) (b:List α) (W:J),w.heap.size<=D->Ap b->Ix b W->W.heap[D]?=some (.deferred (some []))->Code.ret.wpIn F n P y { a with defers:={ target:=.collected D,args:=#[] }::a.defers } W):(Code.rangeFunc g ps assign body).wpIn F n P y a w:=by
 refine wpIn_rangeFunc λfn hfn=>?_;rw[aj];obtain⟨L,o⟩:∃L:LoopState->Option Code->Loop,L=λst pe=>{ state:=st,pending:=pe,fn,tmps:=a.tmps,params:=ps,assign,body,defers:=w.heap.size }:=⟨_,rfl⟩;obtain⟨X,hX⟩:∃X,(w.alloc (.deferred (some []))).alloc (.loop (L .ready none))=X:=⟨_,rfl⟩;have xl:X.heap[w.heap.size+1]?=some (.loop (L .ready none)):=by have:=Aj (w.alloc (.deferred (some []))) (.loop (L .ready none));rw[Aw,hX]at this;exact this
 have xd:X.heap[w.heap.size]?=some (.deferred (some [])):=by rw[<- hX];exact(Below.heap_alloc _ _ _ (by simp)).trans (Aj w _)
 have xI:I [] X:=by rw[<- hX];exact H.alloc _ (H.alloc _ h0)
 have xb:Bw w.heap.size w X:=by rw[<- hX];exact((Below.refl _ w).alloc lRz _).alloc (by simp) _
 refine⟨w.heap.size+1,[{ target:=.collected w.heap.size,args:=#[] }],X,{ target:=.fn (.func gf) lb,args:=#[.func (.yield (w.heap.size+1)) #[] #[]] },X,gf,#[.func (.yield (w.heap.size+1)) #[] #[]]++lb,X,?_,?_,?_,?_,λ_=>h1,?_⟩
 . rw[<- hX,o];exact run_enterLoop_outer _ _ _ _ _
 . simp only[resolve,hg];simp[go_sem]
 . intro f' Y;simp[Target.leads]at Y;subst Y;exact au
 . simp[invoke,go_sem,eg]
 have u:∀(W:J) (v:Vu) (k:Nat),k≠Bs->(W.setCell ⟨Bs,0,none⟩ v).heap[k]?=W.heap[k]?:=λW v k hk=>Hk _ _ _ _ (λe=>hk (by simpa using e))
 refine(M (w.heap.size+1)
  (λb W=>I b W/\W.heap[w.heap.size+1]?=some (.loop (L .ready none))/\W.heap[w.heap.size]?=some (.deferred (some [])))
  (λb W=>Ix b W/\W.heap[w.heap.size+1]?=some (.loop (L .done (some .ret)))/\W.heap[w.heap.size]?=some (.deferred (some [])))
  X (fun k hk=>xb.block k hk) (fun b W v hh=>⟨aq b W v hh.1,(u W _ _ (by omega)).trans hh.2.1,(u W _ _ (by omega)).trans hh.2.2⟩) (fun b W W' hh hg=>⟨H b W W' none hh.1 hg (fun r e=>by cases e),(hg.block _ (Array.getElem?_eq_some_iff.1 hh.2.1).1 (by simp)).trans hh.2.1,(hg.block _ (Array.getElem?_eq_some_iff.1 hh.2.2).1 (by simp)).trans hh.2.2⟩) ?_ ⟨xI,xl,xd⟩).mono ?_
 . rintro b x W ⟨V,m,hd⟩ R ar;have ao:w.heap.size+1<W.heap.size:=(Array.getElem?_eq_some_iff.1 m).1;have hy:=run_yield (P:=P) (args:=d x) m (by rw[o];exact ak x);rw[o]at hy;refine⟨fn,_,assign,body,hy,roundIn_of_wpIn hfn (j _ x W _ ⟨_,run_beginRound m (by rw[o]),?_⟩)⟩;obtain⟨W2,f⟩:∃W2,W2=W.putObj (w.heap.size+1) (.loop { L .ready none with state:=.busy }):=⟨_,rfl⟩;(have l2:W2.heap[w.heap.size+1]?=some (.loop { L .ready none with state:=.busy }):=by rw[f];exact Rj ao);(have d2:W2.heap[w.heap.size]?=some (.deferred (some [])):=by rw[f];exact(Mz (by omega)).trans hd);(have k2:z W W2:=by rw[f];exact ad _ _ _ (by omega));(have i2:I b W2:=by rw[f];exact H.putObj _ V (by omega) m rfl);rw[<- f];refine wpIn_mono (hbody _ b x W2 i2 R ar (by rw[f];simp only[Cw,Array.size_setIfInBounds];omega)) ?_
   have fin:∀(c:Option Code) (q:J),Rec2 w.heap.size W2 q->(Instr.endRound (w.heap.size+1) c).run P q=.ok (G c.isNone) (q.putObj (w.heap.size+1) (.loop (L (if c.isNone then .ready else .done) c)))/\q.heap[w.heap.size+1]?=some (.loop { L .ready none with state:=.busy }) /\
       (q.putObj (w.heap.size+1) (.loop (L (if c.isNone then .ready else .done) c))).heap[w.heap.size+1]?=some (.loop (L (if c.isNone then .ready else .done) c))/\(q.putObj (w.heap.size+1) (.loop (L (if c.isNone then .ready else .done) c))).heap[w.heap.size]?=some (.deferred (some [])):=by
    intro c q E
    have s:=E.2.trans l2;have hr:=run_endRound (P:=P) c s;rw[o]at hr⊢;rw[o]at s
    exact⟨hr,s,Rj (Array.getElem?_eq_some_iff.1 s).1,(Mz (by omega)).trans (E.1.trans d2)⟩
   intro e a3 q hp;match e,hp with
   |.normal,⟨E,kp3,i3⟩ =>
    obtain⟨r3,s,l4,d4⟩:=fin none q E
    exact⟨_,_,r3,.inl ⟨rfl,⟨H.putObj _ i3 (by omega) s rfl,l4,d4⟩,ac (ac k2 kp3) (ad _ _ _ (by omega))⟩⟩
   |.ret,⟨E,i3⟩ =>
    obtain⟨r3,s,l4,d4⟩:=fin (some .ret) q E
    exact⟨_,_,r3,.inr ⟨rfl,ae.putObj _ i3 (by omega) s rfl,l4,d4⟩⟩
 rintro e W2 ⟨⟨v,rfl⟩,(⟨xs,hA,V,m,hd⟩|⟨b,hA,V,m,hd⟩)⟩
 . exact⟨none,_,by have:=run_endLoop (P:=P) m (by rw[o];simp);rw[o]at this;exact this,hdone _ xs _ lRz hA (H.putObj _ V (by omega) m rfl) ((Mz (by omega)).trans hd)⟩
 exact⟨some .ret,_,by have:=run_endLoop (P:=P) m (by rw[o];simp);rw[o]at this;exact this,hstop _ b _ lRz hA (ae.putObj _ V (by omega) m rfl) ((Mz (by omega)).trans hd)⟩
end
def lns (t:Wd):List Wd:=if h:t=[]then []else if 0<=Lib.indexByte t 10 then t.take ((Lib.indexByte t 10).toNat+1)::lns (t.drop ((Lib.indexByte t 10).toNat+1))else [t]
termination_by (N t)
decreasing_by cases t with|nil=>exact absurd rfl h|cons a l=>simp;omega
theorem lns_nil:lns []=[]:=by rw[lns,dif_pos rfl]
theorem lns_nl (h:t≠[]){o:Nat}(a:Lib.indexByte t 10=(o:Int)):lns t=t.take (o+1)::lns (t.drop (o+1)):=by rw[lns,dif_neg h,a,if_pos (by omega)];rfl
theorem lns_no (h:t≠[])(a:Lib.indexByte t 10=-1):lns t=[t]:=by rw[lns,dif_neg h,a,if_neg (by omega)]
theorem lns_pre {pre:List Wd}{x:Wd}(h:lns t=pre++x::r):pre++[x]=(lns t).take (N pre+1):=by rw[h];simp[List.take_append,My]
def szB (Bs:Nat)(W:J):Nat:=match W.cell? ⟨Bs,0,none⟩with|some (Xs b)=>b.size|_=>0
def FzL (Bs:Nat)(rest:Wd)(o:Nat)(Jz0:J->Prop)(k:Nat)(us:List Vu)(W:J):Prop:=Rp.Fz (λW=>W.cell? ⟨Bs,0,none⟩=some (Xs (Sz0 rest))/\True) 0
 [λus W=>us=[]/\Jz0 W/\Boxed W Bs 9 (Xs (Sz0 rest)),λus W=>us=[undef]/\Jz0 W/\Boxed W Bs 9 (Xs (Sz0 (rest.drop (o+1))))] k us W
theorem lines_in (n:Nat)(hn:1<=n)(l Bs:Nat)(t:Wd)(hl:N t<=1048576)(Kp:J->J->Prop)(X:∀W W',Kp W W'->W'.heap[Bs]?=W.heap[Bs]?)(g Jx:List Wd->J->Prop)(Y:∀d W x,g d W->g d (W.setCell ⟨Bs,0,none⟩ (Xs x)))(ah:∀d W W',g d W->W.grownBy W' none->g d W') (hY:∀d x W1,g d W1->N d<(lns t).length->N x<=N t->YieldAt Fence.wide (n-1) Q l #[Xs (Sz0 x)] W1 λe W'=>(e=Z (G true)/\g (d++[x]) W'/\Kp W1 W')\/(e=Z (G false)/\Jx (d++[x]) W')) (W:J) (hB:Boxed W Bs 9 (Xs (Sz0 t))) (h0:g [] W):CallsIn Fence.wide n Q 115 #[.func (.yield l) #[] #[],ptr Bs 0] W λe W'=>(∃v,e=Z v)/\((∃xs,xs=lns t/\g xs W')\/(∃d,(∃k,d=(lns t).take k)/\Jx d W')):=by
 have HB:=Hm hB;clear hB;refine callsIn_of_wp func115 rfl trivial ?_ rfl;simp only[ntmps115,Rv,Kj,Kg,Bc,Dz,Ax,Aq,Bg,Af,Hj,Tv];gi_wp2
 gi_loopw [3,4] (λv3 v4 wr=>∃(d:List Wd) (b:Wd),N b<=N t/\g d wr/\Boxed wr Bs 9 (Xs (Sz0 b))/\lns t=d++lns b) (λ_ _ wr=>szB Bs wr)
 case atStart=>exact⟨[],t,lRz,h0,HB.o,rfl⟩
 obtain⟨d,b,af,C,p,s⟩:=hrel;have c0:=p.cell;have A:=Hm p;by_cases H:b=[]
 . subst H;have ae:(Sz0 []).size=0:=QJ [];(have z:Hid (lns t=d):=by show _=_;rw[s,lns_nil];simp);clear p s;(gi_wp2);go_end0;exact⟨⟨_,rfl⟩,.inl ⟨_,z.o.symm,C⟩⟩
 have ax:(Sz0 b).size=N b:=QJ b;have hp:0<N b:=by cases b with|nil=>exact absurd rfl H|cons a l=>simp
 have KI:=Hm (strings_IndexByte (Sz0 b) 10 wr);rw[QB]at KI;rcases Jc b 10 with m|⟨o,m,ag,-⟩
 . (have r:Hid (lns t=d++b::[]):=by show _=_;rw[s,lns_no H m]);(have E:Hid (N d<(lns t).length):=by show _<_;rw[r.o];simp);have j:Lib.indexByte b (Int.toNat 10).toUInt8=-1:=m;rw[j]at KI;have f0:=p.frozen;have F:=Hm (p.set (Xs ⟨#[]⟩));obtain⟨fn,L,y,aa,M,D⟩:=hY _ b (wr.setCell ⟨Bs,0,none⟩ (Xs ⟨#[]⟩)) (Y _ _ _ C) E.o af;clear p s m j H C;(gi_wp2_with (refine⟨trivial,?_⟩;gi_at_call 116;refine(callsIn_wide.2 KI.o).mono ?_;rintro e w1 ⟨rfl,rfl⟩));refine D.mono ?_;rintro e W3 (⟨rfl,hJ3,hk3⟩|⟨rfl,hJx3⟩)
   . have z:=Hm (And.intro hJ3 (show Boxed W3 Bs 9 (Xs (Sz0 []))from(X _ _ hk3).trans F.o));clear hJ3 hk3 D M;(gi_wp2);(go_roundw);(case rel=>exact⟨d++[b],[],by simp,z.o.1,z.o.2,by rw[r.o,lns_nil];simp⟩);have h1:=z.o.2.cell;have h2:=A.o.cell;simp only[szB,h1,h2,QJ,Kg];exact hp
   clear D M;(gi_wp2);refine bodyPost_ret (results_none rfl _ _ _) rfl ?_;exact⟨⟨_,rfl⟩,.inr ⟨_,⟨_,(lns_pre r.o)⟩,hJx3⟩⟩
 have r:Hid (lns t=d++b.take (o+1)::lns (b.drop (o+1))):=by show _=_;rw[s,lns_nl H m]
 have E:Hid (N d<(lns t).length):=by show _<_;rw[r.o];simp
 have HO:=Hm ag;have j:Lib.indexByte b (Int.toNat 10).toUInt8=(o:Int):=m;rw[j]at KI;have I:Hid (IntKind.i64.wrap ((o:Int)+1)=(o:Int)+1/\(Sz0 b).size=N b/\((Sz0 b).extract 0 (o+1)=Sz0 (b.take (o+1)))/\(Sz0 b).extract (o+1) (N b)=Sz0 (b.drop (o+1))):=⟨by rw[Kw];omega,QJ b,by rw[XX];simp,by rw[XX];simp⟩;have HJ:=Hm C;clear p s m j H C;gi_wp2_with (refine⟨trivial,?_⟩;gi_at_call 116;refine(callsIn_wide.2 KI.o).mono ?_;rintro e w1 ⟨rfl,rfl⟩)
 refine wpIn_wide.2 ?_;refine Rp.rg (nN:=25) [Xs (Sz0 b),U O (o:Int),U O ((o:Int)+1),Xs (Sz0 (b.take (o+1))),Xs (Sz0 b),U O (o:Int),U O ((o:Int)+1),Xs (Sz0 (b.drop (o+1))),Xs (Sz0 (b.take (o+1))),undef] [9] 0 (FzL Bs b o (g d)) ?_ ?_ ?_
 . exact⟨λ_=>⟨A.o.cell,trivial⟩,rfl,ah _ _ _ HJ.o ⟨rfl,rfl,rfl,lRz,λ_ _ _=>rfl⟩,A.o⟩
 . refine Rp.ls 1 (ptr Bs 0) (λk B W hk q=>(q.1 hk).1) ?_;refine Rp.os 4 (U O (o:Int)) ?_;refine Rp.Qj.c (by kernel_rfl) (λa W kk B Kc f hk u hu q hK=>?_) ?_
   . have a6:=Rp.va f 1 13;have hw:=I.o.1;refine Rp.QA (U O ((o:Int)+1)) (Rp.Qd rfl) rfl ?_ hK;clear f hK q hu u;go_simp;try rfl
   refine Rp.Qj.c (by kernel_rfl) (λa W kk B Kc f hk u hu q hK=>?_) ?_
   . have a7:=Rp.va f 0 12;have a5:=Rp.va f 2 14;have hw:=I.o.2.1;have ac:=I.o.2.2.1;(have b1:(0:Int)<=(o:Int)+1:=by omega);(have b2:(o:Int)+1<=(N b:Int):=by have:=HO.o;omega);refine Rp.QA (Xs (Sz0 (b.take (o+1)))) (Rp.Qd rfl) rfl ?_ hK;clear f hK q hu u;go_simp;try rfl
   refine Rp.ls 1 (ptr Bs 0) (λk B W hk q=>(q.1 hk).1) ?_;refine Rp.os 4 (U O (o:Int)) ?_;refine Rp.Qj.c (by kernel_rfl) (λa W kk B Kc f hk u hu q hK=>?_) ?_
   . have a3:=Rp.va f 5 17;have hw:=I.o.1;refine Rp.QA (U O ((o:Int)+1)) (Rp.Qd rfl) rfl ?_ hK;clear f hK q hu u;go_simp;try rfl
   refine Rp.Qj.c (by kernel_rfl) (λa W kk B Kc f hk u hu q hK=>?_) ?_
   . have a4:=Rp.va f 4 16;have a2:=Rp.va f 6 18;have hw:=I.o.2.1;have ac:=I.o.2.2.2;(have b1:(0:Int)<=(o:Int)+1:=by omega);(have b2:(o:Int)+1<=(N b:Int):=by have:=HO.o;omega);refine Rp.QA (Xs (Sz0 (b.drop (o+1)))) (Rp.Qd rfl) rfl ?_ hK;clear f hK q hu u;go_simp;try rfl
   refine Rp.o1 3 15 ?_;refine Rp.ht 0 (λa W B f hu q=>?_) ?_
   . have e1:a.tmps[1]?.getD undef=ptr Bs 0:=(Rp.JQ f 1 (by kernel_rfl)).trans rfl;have a1:=Rp.va f 7 19;obtain⟨ae,rfl,C,u⟩:=q;have hf:=u.frozen;refine⟨W.setCell ⟨Bs,0,none⟩ (Xs (Sz0 (b.drop (o+1)))),?_,?_⟩
     . clear f hu;go_simp;try rfl
     exact⟨λh=>by omega,rfl,Y _ _ _ C,u.set _⟩
   exact Rp.Qj.nil
 intro B a W f;have ea:=Rp.ca f [12,13,14,15,16,17,18,19,3];have q:=f.ph;simp only[Km,Tq,Rp.cv f 0 12,Rp.cv f 1 13,Rp.cv f 2 14,Rp.cv f 3 15,Rp.cv f 4 16,Rp.cv f 5 17,Rp.cv f 6 18,Rp.cv f 7 19,Rp.cv f 8 3]at ea;clear f;subst ea;obtain⟨-,rfl,R,V⟩:=q;obtain⟨fn,L,y,aa,M,D⟩:=hY _ (b.take (o+1)) W R E.o (by simp;omega);have F:=Hm V;clear R V;go_simp;gi_wp2
 refine D.mono ?_;rintro e W3 (⟨rfl,hJ3,hk3⟩|⟨rfl,hJx3⟩)
 . have z:=Hm (And.intro hJ3 (show Boxed W3 Bs 9 (Xs (Sz0 (b.drop (o+1))))from(X _ _ hk3).trans F.o));clear hJ3 hk3 D M;(gi_wp2);(go_roundw);(case rel=>exact⟨d++[b.take (o+1)],b.drop (o+1),by rw[Rx];omega,z.o.1,z.o.2,by rw[r.o];simp⟩);have h1:=z.o.2.cell;have h2:=A.o.cell;simp only[szB,h1,h2,QJ,Rx];have:=HO.o;omega
 clear D M;gi_wp2
 refine bodyPost_ret (results_none rfl _ _ _) rfl ?_;exact⟨⟨_,rfl⟩,.inr ⟨_,⟨_,(lns_pre r.o)⟩,hJx3⟩⟩
theorem lineR_uniq {o m:St}(h:JR Zz0 l o)(g:JR Zz0 l m):o=m:=by
 obtain⟨s,r,e,h⟩:=h;obtain⟨F,H,n,g⟩:=g;rw[e]at n;cases n;unfold J3 at h g;split at h
 . rename_i f;simp only[f]at g;obtain⟨-,c,E,-,rfl⟩:=h;obtain⟨-,R,j,-,rfl⟩:=g;rw[E]at j;cases j;rfl
 . rename_i k D f;have g:SecG k Zz0 r m:=by
    cases k with
    |zero=>exact absurd rfl D
    |succ k=>simp only[f]at g;exact g
   obtain⟨-,-,i,C,rfl⟩:=h;obtain⟨-,-,M,d,rfl⟩:=g;rw[C]at d;cases d;rfl
 rename_i f;simp only[f]at g;obtain⟨-,x,v,u,p,L,A,z,rfl⟩:=h;obtain⟨-,y,t,q,I,B,b,a,rfl⟩:=g;rw[A]at b;cases b;have e:=arg_uniq (Qt s) r x y u q (v.trans t.symm);subst e;rw[z]at a;cases a;rfl
open Classical in
noncomputable def lineF (Zz0:St) (l:Wd):Option St:=if h:∃Z',JR Zz0 l Z' then some h.choose else none
theorem X5:lineF Zz0 l=some Z' ↔ JR Zz0 l Z':=by
 unfold lineF;constructor
 . intro h;split at h
   . rename_i hx;cases h;exact hx.choose_spec
   cases h
 intro h;rw[dif_pos ⟨Z',h⟩];exact congrArg some (lineR_uniq (Exists.choose_spec (⟨Z',h⟩:∃Z',JR Zz0 l Z')) h)
theorem lineF_none:lineF Zz0 l=none ↔ ¬∃Z',JR Zz0 l Z':=by
 unfold lineF;constructor
 . intro h hx;rw[dif_pos hx]at h;cases h
 intro h;rw[dif_neg h]
theorem step_len {n a:List Bool}{op:Int}(h:Q0 n op=some a):N a<=N n+1:=by
 unfold Q0 at h;split at h
 . cases h
 split at h
 . cases h;simp
 split at h
 . cases h;simp
 split at h
 . split at h
   . cases h;simp only[Kb,List.length_dropLast,Kj,Kg];omega
   cases h
 split at h
 . cases h;simp;omega
 cases h;omega
theorem lineR_sz (h:JR Zz0 l Z'):Z'.sz<=Zz0.sz+2:=by
 obtain⟨s,r,-,h⟩:=h;unfold J3 at h;split at h
 . obtain⟨-,c,-,-,rfl⟩:=h;simp only[St.sz,Kb,Kj,Kg];omega
 . obtain⟨f,-,i,a,rfl⟩:=h;rename_i k _ _;unfold St.sz;rw[f];unfold QN at a
   split at a<;>first
    |(cases a;done)
    | (
     split at a
     · cases a
     . rw[Tz]at a;obtain⟨x,-,rfl⟩:=a
       simp only[St.put];omega)
    | (
     rw[Tz]at a;obtain⟨x,-,rfl⟩:=a
     simp only[St.put,Kb,Kj,Kg];omega)
 obtain⟨-,x,-,-,p,g,d,b,rfl⟩:=h;have j:=step_len b;unfold St.sz;rw[d];split
 · cases p.hd<;>simp only[Xsz0,Kb,Kj,Kg]<;>omega
 simp only[Kb,Kj,Kg];omega
abbrev JY (x:Wd):Bool:=Lib.hasSuffix x [10]
abbrev Xr (x:Wd):Wd:=Lib.trimSuffix x [10]
def Xa (Zz0:St):Bool:=Zz0.op.isNone&&N Zz0.m.gq==N Zz0.m.jv
noncomputable def runF (Zz0:St):List Wd->Option St
 |[]=>some Zz0
 |x::ls=>if JY x then(lineF Zz0 (Xr x)).bind λZ'=>runF Z' ls else none
theorem runF_snoc (Zz0:St)(ls:List Wd)(x:Wd):runF Zz0 (ls++[x])=(runF Zz0 ls).bind λZ'=>if JY x then lineF Z' (Xr x)else none:=by
 induction ls generalizing Zz0 with
 |nil =>
  simp only[Hj,runF,Pq]
  split
  · cases lineF Zz0 (Xr x)<;>rfl
  . rfl
 |cons y ls ih =>
  simp only[Tv,runF]
  split
  · cases lineF Zz0 (Xr y)with
    |none=>rfl
    |some Z'=>exact ih Z'
  . rfl
noncomputable def textF (Zz0:St):List Wd->Nat->Int × Option St
 |[],n=>if Xa Zz0 then(0,some Zz0)else ((n:Int)+1,none)
 | x::ls,n=>if JY x then(match lineF Zz0 (Xr x)with
  |some Z'=>textF Z' ls (n+1)
  | none=>((n:Int)+1,none))else ((n:Int)+1,none)
theorem textF_run {ls:List Wd}(h:runF Zz0 ls=some Z')(n:Nat):textF Zz0 ls n=if Xa Z' then(0,some Z')else (((n+N ls:Nat):Int)+1,none):=by
 induction ls generalizing Zz0 n with
 |nil=>cases h;rfl
 |cons x ls ih =>
  simp only[runF]at h
  split at h
  · rename_i a
    cases hl:lineF Zz0 (Xr x)with
    |none=>rw[hl]at h;cases h
    |some Z1 =>
     rw[hl]at h
     simp only[textF,a,if_true,hl]
     rw[ih h (n+1)]
     simp only[Kj,show n+1+N ls=n+(N ls+1) by omega]
  . cases h
theorem textF_stop {pre:List Wd}{x:Wd}(h:runF Zz0 pre=some Z')(hx:(if JY x then lineF Z' (Xr x)else none)=none)(n:Nat):textF Zz0 (pre++x::r) n=(((n+N pre:Nat):Int)+1,none):=by
 induction pre generalizing Zz0 n with
 |nil =>
  cases h
  simp only[Hj,textF]
  split
  · rename_i a
    rw[if_pos a]at hx;rw[hx];simp
  . simp
 |cons y pre ih =>
  simp only[runF]at h
  split at h
  · rename_i a
    cases hl:lineF Zz0 (Xr y)with
    |none=>rw[hl]at h;cases h
    |some Z1 =>
     rw[hl]at h
     simp only[Tv,textF,a,if_true,hl]
     rw[ih h (n+1)]
     simp only[Kj,show n+1+N pre=n+(N pre+1) by omega]
  . cases h
theorem runF_sz {ls:List Wd}(h:runF Zz0 ls=some Z'):Z'.sz<=Zz0.sz+2*N ls:=by
 induction ls generalizing Zz0 with
 |nil=>cases h;simp
 |cons x ls ih =>
  simp only[runF]at h
  split at h
  · cases hl:lineF Zz0 (Xr x)with
    |none=>rw[hl]at h;cases h
    |some Z1 =>
     rw[hl]at h;have b:=ih h;have a:=lineR_sz (X5.1 hl)
     simp only[Kj];omega
  . cases h
theorem lns_len:∀(n:Nat) (t:Wd),N t<=n->(lns t).length<=N t/\∀x∈lns t,N x<=N t
 |n,t,hn=>by
  by_cases c:t=[]
  . subst c;rw[lns_nil];simp
  . have k:0<N t:=by cases t with|nil=>exact absurd rfl c|cons a l=>simp
    rcases Jc t 10 with b|⟨o,b,f,-⟩
    . rw[lns_no c b];simp;omega
    . rw[lns_nl c b];have g:(t.drop (o+1)).length=N t-(o+1):=Rx;obtain⟨j,d⟩:=lns_len (n-1) (t.drop (o+1)) (by omega);rw[g]at j d
      refine⟨by simp;omega,λx hx=>?_⟩
      rcases List.mem_cons.1 hx with rfl|hx
      . simp;omega
      . have:=d x hx;omega
section
variable (W1:J) (R:Nat) (mp:Vu) (cells:List Vu) (rs:List Qb) (V:J) (Zz0:St)
abbrev Fw (nv cv fv:Vu)(vals:List Vu)(k:Nat)(us:List Vu)(W:J):Prop:=Fcz0 (λW=>W.cell? ⟨R,15,none⟩=some nv/\W.cell? ⟨R,10,none⟩=some cv/\W.cell? ⟨R,2,none⟩=some fv) vals [λW=>W=V.drew,λW=>W=V.drew,λW=>W=V.drew,λW=>W=V.drew] k us W
theorem whole_c (h:Sr W1 R cells rs V)(hS:SR W1 R mp Zz0 cells rs):Ec Q 35 #[ptr R 0] V λe w'=>e=Z (G (Xa Zz0))/\w'=V.drew:=by
 obtain⟨l,z,j,M,E⟩:=hS.nest (h.ln W1 R V.heap.size cells rs V (W2:=V.alloc (Fc #[] 2)) (bFz.alloc lRz _) lRz (by simp));obtain⟨L,P,hm,hp,-⟩:=hS.rep;obtain⟨vc,ae,kc,ec,ab,pc⟩:=hm.gq.at_;obtain⟨vf,ad,kf,ef,aa,pf⟩:=hm.jv.at_;obtain⟨s,H⟩:∃n,n=N Zz0.m.gq:=⟨_,rfl⟩;obtain⟨r,F⟩:∃n,n=N Zz0.m.jv:=⟨_,rfl⟩;have mc:(⟨81,2,N Zz0.m.gq,vc,ae⟩:Qb)∈rs:=hp.mem_iff.2 (mL (pc.mem_iff.2 (mS ..)));have mf:(⟨2,1,N Zz0.m.jv,vf,ad⟩:Qb)∈rs:=hp.mem_iff.2 (mL (pf.mem_iff.2 (mS ..)));obtain⟨ca,y,rfl⟩:=Qg (show V.ownsRow R 81 2 vc (N Zz0.m.gq) ae from h.own.all _ (mC mc));obtain⟨u,t,rfl⟩:=Qg (show V.ownsRow R 2 1 vf (N Zz0.m.jv) ad from h.own.all _ (mC mf));rw[<- H]at ec;rw[<- F]at ef;have af:=Hm (h.cell 15 M).1;have ag:=Hm (h.cell 10 ec).1;have C2:=Hm (h.cell 2 ef).1;obtain⟨q,D⟩:∃q,((s:Int)==(r:Int))=q:=⟨_,rfl⟩;have ay:=Hm D;have C:Xa Zz0=(decide (z=0)&&q):=by
  unfold Xa;rw[<- H,<- F,<- D];have e1:Zz0.op.isNone=decide (z=0):=by
   cases ho:Zz0.op with
   |none=>simp[E.2 ho]
   |some p=>simp;intro e;have:=E.1 e;rw[ho]at this;cases this
  rw[e1];congr 1
  rw[Bool.eq_iff_iff];simp;omega
 cases z with
 |zero =>
  have X:Hid (Ending.returned (G q)=Ending.returned (G (Xa Zz0))):=by show _=_;rw[C];rfl
  clear h hS M E hm hp ab pc aa pf H F mc mf ec ef D C
  go_enter func35,ntmps35
  go_upto_region 1 with fail
  refine Rp.rg (nN:=23) [ptr R 0,ptr R 0,ptr R 15,(S l 0 j),undef,undef,ptr R 0,ptr R 0,ptr R 0,ptr R 10,(S ca s y),U O (s:Int),ptr R 0,ptr R 0,ptr R 0,ptr R 2,(S u r t),U O (r:Int),G q,undef,G q] [4,5,19] 3 (Fw R V (S l 0 j) (S ca s y) (S u r t) [G true,G true,G q]) ?_ ?_ ?_
  . exact⟨⟨af.o,ag.o,C2.o⟩,rfl,rfl⟩
  . refine Rp.os 0 (ptr R 0) ?_
    refine Rp.o1 0 3 ?_
    refine Rp.o1 1 4 ?_
    refine Rp.l1 2 5 (λk g W hk b=>b.1.1) ?_
    refine Rp.hc 0 (λa W g f hu b=>?_) ?_
    . have e6:=Rp.va f 3 6;obtain⟨d,rfl,B⟩:=b
      refine⟨83,#[(S l 0 j)],?_,?_⟩
      . clear f hu
        go_simp
        try rfl
      . refine(Ji l 0 j W).mono ?_
        rintro e w1 ⟨rfl,rfl⟩
        exact⟨_,rfl,d,rfl,B⟩
    refine Rp.Qj.h 1 (by kernel_rfl) (λa W g Kc f hu b hK=>?_) ?_
    . have Y:=Qv (show Fw R V (S l 0 j) (S ca s y) (S u r t) [G true,G true,G q] 1 g W from b) 0 (by decide);have e7:a.tmps[7]?.getD undef=G true:=(Rp.vu hu 0 7).trans Y;clear Y;obtain⟨d,rfl,B⟩:=b
      refine Rp.Jv (Gz0:=λv W'=>Fw R V (S l 0 j) (S ca s y) (S u r t) [G true,G true,G q] 2 ([_]++[v]) W') (G true) (Rp.Qd rfl) (W':=W) ?_ ⟨d,rfl,B⟩ hK
      clear f hK hu
      go_simp
      try rfl
    refine Rp.gs (Rp.wc 1 8 (λ_ _ _ h=>Qv h 1)) 0 (ptr R 0) ?_
    refine Rp.g1 (Rp.wc 1 8 (λ_ _ _ h=>Qv h 1)) 6 9 ?_
    refine Rp.g1 (Rp.wc 1 8 (λ_ _ _ h=>Qv h 1)) 7 10 ?_
    refine Rp.g1 (Rp.wc 1 8 (λ_ _ _ h=>Qv h 1)) 8 11 ?_
    refine Rp.gl (Rp.wc 1 8 (λ_ _ _ h=>Qv h 1)) 9 12 (λk g W hk b=>b.1.2.1) ?_
    refine Rp.g1 (Rp.wc 1 8 (λ_ _ _ h=>Qv h 1)) 10 13 ?_
    refine Rp.gs (Rp.wc 1 8 (λ_ _ _ h=>Qv h 1)) 0 (ptr R 0) ?_
    refine Rp.g1 (Rp.wc 1 8 (λ_ _ _ h=>Qv h 1)) 12 15 ?_
    refine Rp.g1 (Rp.wc 1 8 (λ_ _ _ h=>Qv h 1)) 13 16 ?_
    refine Rp.g1 (Rp.wc 1 8 (λ_ _ _ h=>Qv h 1)) 14 17 ?_
    refine Rp.gl (Rp.wc 1 8 (λ_ _ _ h=>Qv h 1)) 15 18 (λk g W hk b=>b.1.2.2) ?_
    refine Rp.g1 (Rp.wc 1 8 (λ_ _ _ h=>Qv h 1)) 16 19 ?_
    refine Rp.Qj.c (by kernel_rfl) (λa W kk g Kc f hk hb hu b hK=>?_) ?_
    . have a7:=Rp.va f 11 14;have a6:=Rp.va f 17 20;have I:=Qv (show Fw R V (S l 0 j) (S ca s y) (S u r t) [G true,G true,G q] kk g W from b) 1 (hb 1 (of_decide_eq_true (by kernel_rfl)) (by kernel_rfl));have e8:a.tmps[8]?.getD undef=G true:=(Rp.cx_us hu 1 8 (by kernel_rfl) (hb 1 (of_decide_eq_true (by kernel_rfl)) (by kernel_rfl))).trans I;clear I;have a1:=ay.o
      refine Rp.QA (G q) (Rp.want_is rfl rfl (Nat.lt_of_lt_of_eq (show 8<23 by decide) f.sz.symm) e8 rfl) rfl ?_ hK
      clear f hK b hu hb
      go_simp
      try rfl
    refine Rp.Qj.h 2 (by kernel_rfl) (λa W g Kc f hu b hK=>?_) ?_
    . have I:=Qv (show Fw R V (S l 0 j) (S ca s y) (S u r t) [G true,G true,G q] 2 g W from b) 1 (by decide);have e8:a.tmps[8]?.getD undef=G true:=(Rp.vu hu 1 8).trans I;clear I;have ax:=Rp.va f 18 21;obtain⟨d,rfl,B⟩:=b
      refine Rp.Jv (Gz0:=λv W'=>Fw R V (S l 0 j) (S ca s y) (S u r t) [G true,G true,G q] 3 ([_,_]++[v]) W') (G q) (Rp.Qd rfl) (W':=W) ?_ ⟨d,rfl,B⟩ hK
      clear f hK hu
      go_simp
      try rfl
    refine Rp.Qj.c (by kernel_rfl) (λa W kk g Kc f hk hb hu b hK=>?_) ?_
    . have A:=Qv (show Fw R V (S l 0 j) (S ca s y) (S u r t) [G true,G true,G q] kk g W from b) 2 (hb 2 (of_decide_eq_true (by kernel_rfl)) (by kernel_rfl));have aw:a.tmps[22]?.getD undef=G q:=(Rp.cx_us hu 2 22 (by kernel_rfl) (hb 2 (of_decide_eq_true (by kernel_rfl)) (by kernel_rfl))).trans A;clear A
      refine Rp.QA (G q) (Rp.Qd rfl) rfl ?_ hK
      clear f hK b hu hb
      go_simp
      try rfl
    exact Rp.Qj.nil
  . intro g a W f
    have ea:=Rp.ca f [3,4,5,6,7,8,9,10,11,12,13,14,15,16,17,18,19,20,21,22,2];have b:=f.ph
    simp only[Km,Tq,Rp.cv f 0 3,Rp.cv f 1 4,Rp.cv f 2 5,Rp.cv f 3 6,Rp.cu f 0 7,Rp.cu f 1 8,Rp.cv f 6 9,Rp.cv f 7 10,Rp.cv f 8 11,Rp.cv f 9 12,Rp.cv f 10 13,Rp.cv f 11 14,Rp.cv f 12 15,Rp.cv f 13 16,Rp.cv f 14 17,Rp.cv f 15 18,Rp.cv f 16 19,Rp.cv f 17 20,Rp.cv f 18 21,Rp.cu f 2 22,Rp.cv f 20 2]at ea
    clear f;subst ea;obtain⟨-,rfl,rfl⟩:=b
    go_simp
    go_wp2
    go_ret
    exact⟨X.o,rfl⟩
 |succ z =>
  have X:Hid (Ending.returned (G false)=Ending.returned (G (Xa Zz0))):=by show _=_;rw[C];rfl
  clear h hS M E hm hp ab pc aa pf H F mc mf ec ef D C
  go_enter func35,ntmps35
  go_upto_region 1 with fail
  refine Rp.rg (nN:=23) [ptr R 0,ptr R 0,ptr R 15,(S l (z+1) j),undef,undef,undef,undef,undef,undef,undef,undef,undef,undef,undef,undef,undef,undef,undef,undef,G false] [4,5,19] 3 (Fw R V (S l (z+1) j) (S ca s y) (S u r t) [G false,G false,G false]) ?_ ?_ ?_
  . exact⟨⟨af.o,ag.o,C2.o⟩,rfl,rfl⟩
  . refine Rp.os 0 (ptr R 0) ?_
    refine Rp.o1 0 3 ?_
    refine Rp.o1 1 4 ?_
    refine Rp.l1 2 5 (λk g W hk b=>b.1.1) ?_
    refine Rp.hc 0 (λa W g f hu b=>?_) ?_
    . have e6:=Rp.va f 3 6;obtain⟨d,rfl,B⟩:=b
      refine⟨83,#[(S l (z+1) j)],?_,?_⟩
      . clear f hu
        go_simp
        try rfl
      . refine(Ji l (z+1) j W).mono ?_
        rintro e w1 ⟨rfl,rfl⟩
        exact⟨_,rfl,d,rfl,B⟩
    refine Rp.Qj.h 1 (by kernel_rfl) (λa W g Kc f hu b hK=>?_) ?_
    . have Y:=Qv (show Fw R V (S l (z+1) j) (S ca s y) (S u r t) [G false,G false,G false] 1 g W from b) 0 (by decide);have e7:a.tmps[7]?.getD undef=G false:=(Rp.vu hu 0 7).trans Y;clear Y;obtain⟨d,rfl,B⟩:=b
      refine Rp.Jv (Gz0:=λv W'=>Fw R V (S l (z+1) j) (S ca s y) (S u r t) [G false,G false,G false] 2 ([_]++[v]) W') (G false) (Rp.Qd rfl) (W':=W) ?_ ⟨d,rfl,B⟩ hK
      clear f hK hu
      go_simp
      try rfl
    refine Rp.gn (Rp.wc 1 8 (λ_ _ _ h=>Qv h 1)) ?_
    refine Rp.gn (Rp.wc 1 8 (λ_ _ _ h=>Qv h 1)) ?_
    refine Rp.gn (Rp.wc 1 8 (λ_ _ _ h=>Qv h 1)) ?_
    refine Rp.gn (Rp.wc 1 8 (λ_ _ _ h=>Qv h 1)) ?_
    refine Rp.gn (Rp.wc 1 8 (λ_ _ _ h=>Qv h 1)) ?_
    refine Rp.gn (Rp.wc 1 8 (λ_ _ _ h=>Qv h 1)) ?_
    refine Rp.gn (Rp.wc 1 8 (λ_ _ _ h=>Qv h 1)) ?_
    refine Rp.gn (Rp.wc 1 8 (λ_ _ _ h=>Qv h 1)) ?_
    refine Rp.gn (Rp.wc 1 8 (λ_ _ _ h=>Qv h 1)) ?_
    refine Rp.gn (Rp.wc 1 8 (λ_ _ _ h=>Qv h 1)) ?_
    refine Rp.gn (Rp.wc 1 8 (λ_ _ _ h=>Qv h 1)) ?_
    refine Rp.gn (Rp.wc 1 8 (λ_ _ _ h=>Qv h 1)) ?_
    refine Rp.gn (Rp.wc 1 8 (λ_ _ _ h=>Qv h 1)) ?_
    refine Rp.Qj.h 2 (by kernel_rfl) (λa W g Kc f hu b hK=>?_) ?_
    . have I:=Qv (show Fw R V (S l (z+1) j) (S ca s y) (S u r t) [G false,G false,G false] 2 g W from b) 1 (by decide);have e8:a.tmps[8]?.getD undef=G false:=(Rp.vu hu 1 8).trans I;clear I;have ax:=Rp.va f 18 21;obtain⟨d,rfl,B⟩:=b
      refine Rp.Jv (Gz0:=λv W'=>Fw R V (S l (z+1) j) (S ca s y) (S u r t) [G false,G false,G false] 3 ([_,_]++[v]) W') (G false) (Rp.Qd rfl) (W':=W) ?_ ⟨d,rfl,B⟩ hK
      clear f hK hu
      go_simp
      try rfl
    refine Rp.Qj.c (by kernel_rfl) (λa W kk g Kc f hk hb hu b hK=>?_) ?_
    . have A:=Qv (show Fw R V (S l (z+1) j) (S ca s y) (S u r t) [G false,G false,G false] kk g W from b) 2 (hb 2 (of_decide_eq_true (by kernel_rfl)) (by kernel_rfl));have aw:a.tmps[22]?.getD undef=G false:=(Rp.cx_us hu 2 22 (by kernel_rfl) (hb 2 (of_decide_eq_true (by kernel_rfl)) (by kernel_rfl))).trans A;clear A
      refine Rp.QA (G false) (Rp.Qd rfl) rfl ?_ hK
      clear f hK b hu hb
      go_simp
      try rfl
    exact Rp.Qj.nil
  . intro g a W f
    have ea:=Rp.ca f [3,4,5,6,7,8,9,10,11,12,13,14,15,16,17,18,19,20,21,22,2];have b:=f.ph
    simp only[Km,Tq,Rp.cv f 0 3,Rp.cv f 1 4,Rp.cv f 2 5,Rp.cv f 3 6,Rp.cu f 0 7,Rp.cu f 1 8,Rp.cv f 6 9,Rp.cv f 7 10,Rp.cv f 8 11,Rp.cv f 9 12,Rp.cv f 10 13,Rp.cv f 11 14,Rp.cv f 12 15,Rp.cv f 13 16,Rp.cv f 14 17,Rp.cv f 15 18,Rp.cv f 16 19,Rp.cv f 17 20,Rp.cv f 18 21,Rp.cu f 2 22,Rp.cv f 20 2]at ea
    clear f;subst ea;obtain⟨-,rfl,rfl⟩:=b
    go_simp
    go_wp2
    go_ret
    exact⟨X.o,rfl⟩
end
open Go.RowKit Go.Sort Go.WideMaps Go.Maps
section
variable {W0 W1 W2 W W':J}{R mb r:Nat}{cells:List Vu}{rs:List Qb}{Zz0:St}{o:Obj}
theorem Bt.to (h:∀k,k<W1.heap.size->k≠R->W2.heap[k]?=W1.heap[k]?){b:Nat}(a:Bt W1 R b v):Bt W2 R b v :=
 ⟨(Kx (h b (Kh W1 _ a.1) a.2)).trans a.1,a.2⟩
theorem HdR.mono (m:∀b o,Bt W1 R b (ptr R o)->Bt W2 R b (ptr R o))(p:∀b f,Bt W1 R b (fnV f)->Bt W2 R b (fnV f)){r:Vu}{q:List Qb}{h:Hd}(n:HdR W1 R r q h):HdR W2 R r q h:=by
 cases h with
 |glob t=>obtain⟨k,j,d,e,b1,l,g⟩:=n;exact⟨k,j,d,e,m _ _ b1,p _ _ l,g⟩
 |elem fs=>obtain⟨k,j,d,a,c,e,b1,l,g⟩:=n;exact⟨k,j,d,a,c,e,m _ _ b1,p _ _ l,g⟩
 |code ls=>obtain⟨k,j,d,a,c,e,b1,l,g⟩:=n;exact⟨k,j,d,a,c,e,m _ _ b1,p _ _ l,g⟩
 |data bs=>obtain⟨k,j,d,a,c,e,b1,l,g⟩:=n;exact⟨k,j,d,a,c,e,m _ _ b1,p _ _ l,g⟩
theorem SR.mono {mp:Vu}(l:∀b o,Bt W1 R b (ptr R o)->Bt W2 R b (ptr R o))(m:∀b f,Bt W1 R b (fnV f)->Bt W2 R b (fnV f))(h:SR W1 R mp Zz0 cells rs):SR W2 R mp Zz0 cells rs:=by
 obtain⟨L,P,q,n,a⟩:=h.rep;refine⟨h.last,h.map,⟨L,P,q,n,?_⟩,h.ns⟩;cases ho:Zz0.op with
 |none=>rw[ho]at a;exact a
 |some p =>
  rw[ho]at a;obtain⟨c,d,k,j,g,y,v,u,t,s,r⟩:=a
  exact⟨c,d,k,j,g,y,v,u,t,HdR.mono l m s,r⟩
theorem CL.mono (d:∀b v,Bt W1 R b v->Bt W2 R b v){cv:Vu}(h:CL W1 R s cv):CL W2 R s cv:=by
 have c:∀{j:Vu} {f o e:Nat},JL W1 R j f o e->JL W2 R j f o e:=λ⟨b1,m,e,g,l⟩=>⟨b1,m,e,d _ _ g,d _ _ l⟩;have head:∀{j:Vu} {f e o w:Nat},Xw W1 R j f e o w->Xw W2 R j f e o w:=λ⟨b1,m,p,b4,e,g,l,n,h4⟩=>⟨b1,m,p,b4,e,d _ _ g,d _ _ l,d _ _ n,d _ _ h4⟩;unfold CL at h⊢;split
 · rename_i e;simp only[e]at h;obtain⟨b,e,g⟩:=h;exact⟨b,e,d _ _ g⟩
 . rename_i k q e;have h:SecC W1 R cv k:=by
    cases k with
    |zero=>exact absurd rfl q
    |succ k=>simp only[e]at h;exact h
   obtain⟨b1,m,p,j,e,g,l,n,a⟩:=h;refine⟨b1,m,p,j,e,d _ _ g,d _ _ l,d _ _ n,?_⟩;match k,a with
   |1,a=>exact c a
   |2,a=>exact c a
   |3,a=>exact c a
   |4,a=>exact c a
   |5,a=>exact c a
   |6,a=>exact head a
   |7,a=>exact c a
   |8,⟨b,e,g⟩=>exact⟨b,e,d _ _ g⟩
   |9,a=>exact head a
   |10,a=>exact head a
   |11,a=>exact head a
 rename_i e;simp only[e]at h;obtain⟨r,b1,m,e,g,l⟩:=h;exact⟨r,b1,m,e,d _ _ g,d _ _ l⟩
theorem Env.to (h:Env W0 R mb)(d:R<W0.heap.size)(hg:W0.grownBy W1 (some R)):Env W1 R mb:=by
 obtain⟨n,D,c,a⟩:=h.map;refine⟨⟨n,D,c.kept hg (λe=>h.ne (Option.some.inj e)),λs=>⟨λhs=>?_,(a s).2⟩⟩,h.ne,h.vs.keep (Jt hg d)⟩;obtain⟨cv,e,hc⟩:=(a s).1 hs;exact⟨cv,e,CL.mono (λb v hb=>Bt.to (λk hk hne=>hg.block k hk (λe=>hne (Option.some.inj e))) hb) hc⟩
theorem Sr.base (h:Sr W1 R cells rs W)(a:blk rs=[]):Sr W R cells rs W:=⟨h.own,(λk hk=>by rw[a]at hk;cases hk),World.grownBy.refl _ _,Tc h.lt h.gr.size⟩
theorem Sr.re (h:Sr W1 R cells rs W)(hg:W.grownBy W' (some r))(hr:r<W1.heap.size)(c:r≠R)(d:W'.heap[r]?=some o):Sr (W1.putObj r o) R cells rs W':=by
 have b:(W1.putObj r o).heap.size=W1.heap.size:=by simp[Cw]
 refine⟨h.own.grown hg (λk hk a=>?_),λk hk=>by rw[b];exact h.ge k hk,⟨hg.os.trans h.gr.os,hg.tape.trans h.gr.tape,hg.output.trans h.gr.output,by rw[b];exact Kf h.gr.size hg.size,λk hk hkR=>?_⟩,by rw[b];exact h.lt⟩
 . cases hk;rw[show blk (box 62 18 R cells::rs)=R::blk rs from rfl]at a;rcases List.mem_cons.1 a with a|a
   . exact c a
   have:=h.ge _ a;omega
 rw[b]at hk;by_cases e:k=r
 . subst e;rw[d,Rj hk]
 rw[Mz e,hg.block k (Tc hk h.gr.size) (by simpa using e),h.gr.block k hk hkR]
end
structure Lp1 (W0 W1:J)(R mb B2 B4 B5 Bs B:Nat)(cells:List Vu)(rs:List Qb)(Zz0:St)(num:Nat)(W:J):Prop where
 ag:W0.grownBy W1 (some R)
 c2:W1.cell? ⟨B2,0,none⟩=some (ptr R 0)
 b4:Boxed W1 B4 2 (U O 0)
 b5:Boxed W1 B5 2 (U O (num:Int))
 bs:∃x,Boxed W1 Bs 9 (Xs x)
 bb:blk rs=[]\/B+2<=W1.heap.size
 hB:B<=W1.heap.size
 s:Sr W1 R cells rs W
 r:SR W1 R (.map (some mb)) Zz0 cells rs
structure Bs5 (W0:J)(R B2 B4 B5 Bs B:Nat):Prop where
 hR:R<W0.heap.size
 h2:W0.heap.size<=B2/\B2<B
 h4:W0.heap.size<=B4/\B4<B
 h5:W0.heap.size<=B5/\B5<B
 hs:W0.heap.size<=Bs/\Bs<B
 d:B2≠B4/\B2≠B5/\B4≠B5/\Bs≠B2/\Bs≠B4/\Bs≠B5
def Lp (W0:J)(R mb B2 B4 B5 Bs B:Nat)(Zz0:St)(num:Nat)(W:J):Prop:=∃W1 cells rs,Lp1 W0 W1 R mb B2 B4 B5 Bs B cells rs Zz0 num W
section
variable {W0 W1 W W':J}{R mb B2 B4 B5 Bs B:Nat}{cells:List Vu}{rs:List Qb}{Zz0:St}{num:Nat}
theorem Lp1.wide (b:Bs5 W0 R B2 B4 B5 Bs B)(h:Lp1 W0 W1 R mb B2 B4 B5 Bs B cells rs Zz0 num W)(g:B+2<=W.heap.size):∃W2,Lp1 W0 W2 R mb B2 B4 B5 Bs B cells rs Zz0 num W/\B+2<=W2.heap.size:=by
 rcases h.bb with d|d
 . have a:∀k,k<W1.heap.size->k≠R->W.heap[k]?=W1.heap[k]?:=λk a hne=>h.s.gr.block k a (λe=>hne (Option.some.inj e));have l:=h.hB;have j:=b.hR;have p:=b.h2;have n:=b.h4;have m:=b.h5;refine⟨W,⟨Ql h.ag h.s.gr,(Kx (a B2 (by omega) (by omega))).trans h.c2,(a B4 (by omega) (by omega)).trans h.b4,(a B5 (by omega) (by omega)).trans h.b5,(by obtain⟨x,hx⟩:=h.bs;have:=b.hs;exact⟨x,(a Bs (by omega) (by omega)).trans hx⟩),.inl d,by omega,h.s.base d,h.r.mono (λc o hc=>Bt.to a hc) (λc f hc=>Bt.to a hc)⟩,g⟩
 exact⟨W1,h,d⟩
theorem Lp1.turn (b:Bs5 W0 R B2 B4 B5 Bs B)(h:Lp1 W0 W1 R mb B2 B4 B5 Bs B cells rs Zz0 num W){r:Nat}{o:Obj}{num':Nat}(hg:W.grownBy W' (some r))(hr:r<W1.heap.size)(C:W0.heap.size<=r)(z:W'.heap[r]?=some o)(hp:∀o',W1.heap[r]?=some o'->∀cs t fz,o'=Fc cs t fz->∀v,cs[0]?=some v->(∀a,v≠Yp a)/\(∀f x y,v≠.func f x y))(q:r≠B2)(p:r≠B4)(j:(r≠B5/\num'=num)\/(r=B5/\o=Fc #[U O (num':Int)] 2))(g:r≠Bs\/∃x,o=Fc #[Xs x] 9):Lp1 W0 (W1.putObj r o) R mb B2 B4 B5 Bs B cells rs Zz0 num' W':=by
 have A:=b.hR;have n:(W1.putObj r o).heap.size=W1.heap.size:=by simp[Cw]
 have d:∀k,k≠r->(W1.putObj r o).heap[k]?=W1.heap[k]?:=λk d=>Mz d;have m:∀c v,Bt W1 R c v->((∃a,v=Yp a)\/∃f x y,v=.func f x y)->Bt (W1.putObj r o) R c v:=by
  intro c v hc hv;have u:c≠r:=by
   rintro rfl;have l:=hc.1;simp only[Rq]at l;cases ho':W1.heap[c]? with
   |none=>rw[ho']at l;simp at l
   |some o' =>
    rw[ho']at l
    cases o' with
    |cells cs t fz =>
     have:=hp _ ho' cs t fz rfl v (by simpa using l)
     rcases hv with ⟨a,rfl⟩|⟨f,x,y,rfl⟩
     . exact this.1 a rfl
     . exact this.2 f x y rfl
    |_=>simp at l
  exact⟨(Kx (d c u)).trans hc.1,hc.2⟩
 refine⟨⟨h.ag.os,h.ag.tape,h.ag.output,by rw[n];exact h.ag.size,λk hk' hne=>(d k (by omega)).trans (h.ag.block k hk' hne)⟩,(Kx (d B2 q.symm)).trans h.c2,(d B4 p.symm).trans h.b4,?_,?_,by rw[n];exact h.bb,by rw[n];exact h.hB,h.s.re hg hr (by omega) z,h.r.mono (λc o hc=>m _ _ hc (.inl ⟨_,rfl⟩)) (λc f hc=>m _ _ hc (.inr ⟨_,_,_,rfl⟩))⟩
 . rcases j with ⟨j,rfl⟩|⟨rfl,rfl⟩
   . exact(d B5 j.symm).trans h.b5
   exact Rj hr
 by_cases e:r=Bs
 . subst e;rcases g with g|⟨x,rfl⟩
   . exact absurd rfl g
   exact⟨x,Rj hr⟩
 obtain⟨x,hx⟩:=h.bs;exact⟨x,(d Bs (Ne.symm e)).trans hx⟩
theorem Lp.own (b:Bs5 W0 R B2 B4 B5 Bs B):OwnFrom B (λ(x:St × Nat) W=>Lp W0 R mb B2 B4 B5 Bs B x.1 x.2 W):=by
 rintro⟨Zz0,num⟩ W W' row ⟨W1,cells,rs,h⟩ f q;have p:∀k,row=some k->k∉blk rs:=λk e p=>by
  obtain⟨y,u,c⟩:=QF.1 p;obtain⟨-,o,m,hc⟩:=q k e;rcases(h.s.own.all y (mC u)).2 with ⟨e0,_⟩|⟨g,z,v,hv,_,d,_⟩
  . rw[e0]at c;cases c
  rw[hv]at c;simp[Lc]at c;subst c;rw[m]at d;cases d;cases hc
 have H:=b.h2;have F:=b.h4;have E:=b.h5;cases row with
 |none=>exact⟨W1,cells,rs,⟨h.ag,h.c2,h.b4,h.b5,h.bs,h.bb,h.hB,h.s.grown f (λk e=>by cases e),h.r⟩⟩
 |some k =>
  obtain⟨D,o,m,hc⟩:=q k rfl
  by_cases a:k<W1.heap.size
  . have n:k<W'.heap.size:=Tc (Tc a h.s.gr.size) f.size;have C:=b.hR
    refine⟨_,cells,rs,h.turn b (o:=W'.heap[k]) (num':=num) f a (by omega) (Array.getElem?_eq_getElem n) ?_ (by omega) (by omega) (.inl ⟨by omega,rfl⟩) (.inl (by have:=b.hs;omega))⟩
    intro A l L t I e
    have:W.heap[k]?=W1.heap[k]?:=h.s.gr.block k a (λe=>by have c:=Option.some.inj e;omega)
    rw[m,l]at this
    cases this
    rw[e]at hc;cases hc
  . exact⟨W1,cells,rs,⟨h.ag,h.c2,h.b4,h.b5,h.bs,h.bb,h.hB,h.s.grown f (λj e=>by cases e;exact⟨by omega,p _ rfl⟩),h.r⟩⟩
theorem Lp.setBs (b:Bs5 W0 R B2 B4 B5 Bs B)(h:Lp W0 R mb B2 B4 B5 Bs B Zz0 num W)(y:ByteArray):Lp W0 R mb B2 B4 B5 Bs B Zz0 num (W.setCell ⟨Bs,0,none⟩ (Xs y)):=by
 obtain⟨W1,cells,rs,h⟩:=h;obtain⟨x,hx⟩:=h.bs;have l:=b.hs;have n:=h.hB;have m:=b.hR;have j:Boxed W Bs 9 (Xs x):=(h.s.gr.block Bs (by omega) (λe=>by have p:=Option.some.inj e;omega)).trans hx;refine⟨_,cells,rs,h.turn b (num':=num) (JF W Bs 0 _) (by omega) (by omega) (j.set _) ?_ (by have:=b.d;omega) (by have:=b.d;omega) (.inl ⟨by have:=b.d;omega,rfl⟩) (.inr ⟨y,rfl⟩)⟩;intro k c q t o e u g;rw[hx]at c;cases c;cases e;simp at g;subst g;exact⟨(λa e=>by cases e),(λf x y e=>by cases e)⟩
theorem Lp1.set5 (b:Bs5 W0 R B2 B4 B5 Bs B)(h:Lp1 W0 W1 R mb B2 B4 B5 Bs B cells rs Zz0 num W)(num':Nat):Lp1 W0 (W1.putObj B5 (Fc #[U O (num':Int)] 2)) R mb B2 B4 B5 Bs B cells rs Zz0 num' (W.setCell ⟨B5,0,none⟩ (U O (num':Int))):=by
 have n:=b.h5;have m:=h.hB;have l:=b.hR;have j:Boxed W B5 2 (U O (num:Int)):=(h.s.gr.block B5 (by omega) (λe=>by have p:=Option.some.inj e;omega)).trans h.b5;refine h.turn b (JF W B5 0 _) (by omega) (by omega) (j.set _) ?_ (by have:=b.d;omega) (by have:=b.d;omega) (.inr ⟨rfl,rfl⟩) (.inl (by have:=b.d;omega));intro k c q t o e u g;rw[h.b5]at c;cases c;cases e;simp at g;subst g;exact⟨(λa e=>by cases e),(λf x y e=>by cases e)⟩
theorem Lp1.at5 (b:Bs5 W0 R B2 B4 B5 Bs B)(h:Lp1 W0 W1 R mb B2 B4 B5 Bs B cells rs Zz0 num W):W.cell? ⟨B2,0,none⟩=some (ptr R 0)/\Boxed W B4 2 (U O 0)/\Boxed W B5 2 (U O (num:Int)):=by
 have d:=h.hB;have c:=b.hR;have j:=b.h2;have g:=b.h4;have f:=b.h5;have a:∀k,k<W1.heap.size->k≠R->W.heap[k]?=W1.heap[k]?:=λk a hne=>h.s.gr.block k a (λe=>hne (Option.some.inj e));exact⟨(Kx (a B2 (by omega) (by omega))).trans h.c2,(a B4 (by omega) (by omega)).trans h.b4,(a B5 (by omega) (by omega)).trans h.b5⟩
end
def c0 (mb:Nat):List Vu:=[S none 0 0,S none 0 0,S none 0 0,S none 0 0,S none 0 0,S none 0 0,S none 0 0,G false,U O 0,S none 0 0,S none 0 0,S none 0 0,S none 0 0,U O 0,.map (some mb),S none 0 0,S none 0 0,.nilFunc]
structure Bd (w0:J)(R mb n:Nat)(D:DataW Vu)(ws:List Wd)(V:J):Prop where
 bel:Bw w0.heap.size w0 V
 hR:w0.heap.size<=R
 hm:w0.heap.size<=mb/\mb≠R
 box:V.heap[R]?=some (Fc (c0 mb).toArray 62 (0,0))
 map:V.ownsMap Q 9 RV mb n D
 im:IsMap D
 cl:∀s:Wd,has D (.string s)=true->∃cv,D.atKey (.string s) (.held .nilFunc)=.held cv/\CL V R s cv
 hs:∀s:Wd,has D (.string s)=true ↔ s∈ws
section
variable {w0 V V':J}{R mb n:Nat}{D:DataW Vu}{ws:List Wd}
theorem Bd.ltR (h:Bd w0 R mb n D ws V):R<V.heap.size:=(Array.getElem?_eq_some_iff.1 h.box).1
theorem Bd.le (h:Bd w0 R mb n D ws V):w0.heap.size<=V.heap.size:=h.bel.size
theorem Bd.turn {r:Option Nat}(h:Bd w0 R mb n D ws V)(hg:V.grownBy V' r)(hr:∀k,r=some k->w0.heap.size<=k/\k≠mb/\∃o:Obj,V.heap[k]?=some o/\o.isCells=false):Bd w0 R mb n D ws V':=by
 have c:∀k cs t z,V.heap[k]?=some (Fc cs t z)->some k≠r:=λk cs t z hk e=>by obtain⟨-,-,o,a,hc⟩:=hr k e.symm;rw[hk]at a;cases a;cases hc
 have f:∀b v,Bt V R b v->Bt V' R b v:=λb v hb=>by
  have g:=hb.1;have d:=Kh V _ hb.1;refine⟨?_,hb.2⟩;cases a:V.heap[b]? with
  |none=>simp[Rq,a]at g
  |some o =>
   cases o with
   |cells cs t z=>exact(Kx (hg.block b d (c b cs t z a))).trans g
   |_=>simp[Rq,a]at g
 refine⟨h.bel.grown hg h.le (λk hk=>(hr k hk).1),h.hR,h.hm,(hg.block R h.ltR (c R _ _ _ h.box)).trans h.box,h.map.kept hg (λe=>(hr mb e.symm).2.1 rfl),h.im,λs hs=>?_,h.hs⟩;obtain⟨cv,e,hc⟩:=h.cl s hs;exact⟨cv,e,CL.mono f hc⟩
theorem Bd.below (h:Bd w0 R mb n D ws V)(a:Bw V.heap.size V V'):Bd w0 R mb n D ws V':=h.turn (r:=none) (Qu a) (λk hk=>by cases hk)
theorem Jo {b:Nat}(h:Bd w0 R mb n D ws V)(hg:V.grownBy V' (some mb))(c:Bt V R b v):Bt V' R b v:=by
 have f:=c.1;have a:=Kh V _ c.1;refine⟨(Kx (hg.block b a (λe=>?_))).trans f,c.2⟩;have j:b=mb:=Option.some.inj e;subst j;obtain⟨k,d,g,-⟩:=h.map;simp[Rq,g]at f
theorem Bd.put {cv:Vu}(h:Bd w0 R mb n D ws V)(hg:V.grownBy V' (some mb))(g:V'.ownsMap Q 9 RV mb (n+1) (D.put (.string s) (.held cv)))(hc:CL V R s cv):Bd w0 R mb (n+1) (D.put (.string s) (.held cv)) (s::ws) V':=by
 have c:∀b v,Bt V R b v->Bt V' R b v:=λb v hb=>Jo h hg hb;refine⟨h.bel.grown hg h.le (λk hk=>by cases hk;exact h.hm.1),h.hR,h.hm,(hg.block R h.ltR (λe=>h.hm.2 (Option.some.inj e).symm)).trans h.box,g,h.im.put _ _,λx hx=>?_,λx=>?_⟩
 . by_cases e:x=s
   . subst e;exact⟨cv,atKey_put_same h.im (by simp[WideAt.IsKeyLit]) _ _,CL.mono c hc⟩
   have a:(Lit.string x)≠Lit.string s:=λy=>e (by injection y);rw[has_put_other a]at hx;obtain⟨f,j,d⟩:=h.cl x hx;exact⟨f,(atKey_put_other a _ _).trans j,CL.mono c d⟩
 by_cases e:x=s
 . subst e;simp[has_put_same h.im (show WideAt.IsKeyLit (.string x) by simp[WideAt.IsKeyLit])]
 have a:(Lit.string x)≠Lit.string s:=λy=>e (by injection y);rw[has_put_other a,h.hs x];simp[e]
theorem Bd.c14 (h:Bd w0 R mb n D ws V):V.cell? ⟨R,14,none⟩=some (.map (some mb)):=by simp[Rq,h.box,c0]
end
theorem key_s (s:Wd)(a:N s<=1000):keyOf Q 9 (.string (Sz0 s))=some (.string s):=by
 have:=keyOf_string_mk (P:=Q) (k:=9) underlying9 (s:=Sz0 s) (by rw[QJ];unfold maxLen;omega);rwa [QB]at this
theorem QU {t:TypeId}(b:R<V.heap.size)(a:Bw (V.heap.size+1) (V.alloc (Fc #[v] t)) W):Bt W R V.heap.size v :=
 ⟨(a.cell (p:=⟨V.heap.size,0,none⟩) (show V.heap.size<_ by omega)).trans (Qn V #[v] t 0 rfl),by omega⟩
theorem XG (w0 V:J)(R mb n:Nat)(D:DataW Vu)(ws:List Wd)(h:Bd w0 R mb n D ws V)(hn:n<=1000)(s:Wd)(L:N s<=1000)(k r:Nat)(j:Array Vu)(z:Xc s=some k)(E:k≠0)(hr:ReadC V R (.func (.func r) #[] j) k):Ec Q 84 #[ptr R 0,.string (Sz0 s),U O (k:Int),.func (.func r) #[] j] V λe w'=>e=Z (.tuple #[])/\V.grownBy w' (some mb)/\∃D',Bd w0 R mb (n+1) D' (s::ws) w':=by
 obtain⟨q,m⟩:∃W,W=(((V.alloc (Fc #[ptr R 0] 53)).alloc (Fc #[U O (k:Int)] 2)).alloc (Fc #[.func (.func r) #[] j] 89)):=⟨_,rfl⟩;have B:Bw V.heap.size V q:=by rw[m];exact((bFz.alloc lRz _).alloc (by simp) _).alloc (by simp;omega) _
 have b1:Bt q R V.heap.size (ptr R 0):=by rw[m];exact QU h.ltR ((bFz.alloc (by simp) _).alloc (by simp) _)
 have I:Bt q R (V.heap.size+1) (U O (k:Int)):=by have:=QU (V:=V.alloc (Fc #[ptr R 0] 53)) (W:=q) (R:=R) (v:=U O (k:Int)) (t:=2) (by have:=h.ltR;simp;omega) (by rw[m];exact bFz.alloc (by simp) _);simpa using this
 have H:Bt q R (V.heap.size+1+1) (.func (.func r) #[] j):=by have:=QU (V:=(V.alloc (Fc #[ptr R 0] 53)).alloc (Fc #[U O (k:Int)] 2)) (W:=q) (R:=R) (v:=.func (.func r) #[] j) (t:=89) (by have:=h.ltR;simp;omega) (by rw[m];exact bFz);simpa using this
 have d:∀b v,Bt V R b v->Bt q R b v:=λb v hb'=>Bt.to (λk z _=>B.block k z) hb';have C:=h.below B;have hc:CL q R s (.func (.func 148) #[] #[ptr V.heap.size 0,ptr (V.heap.size+1) 0,ptr (V.heap.size+1+1) 0]):=by
  unfold CL;rw[z];cases k with
  |zero=>exact absurd rfl E
  |succ k =>
   refine⟨_,_,_,_,rfl,b1,I,H,?_⟩
   have a:∀{rv:Vu} {f o e:Nat},JL V R rv f o e->JL q R rv f o e:=λ⟨c1,c2,e,g1,g2⟩=>⟨c1,c2,e,d _ _ g1,d _ _ g2⟩;have head:∀{rv:Vu} {f e o w:Nat},Xw V R rv f e o w->Xw q R rv f e o w:=λ⟨c1,c2,c3,c4,e,g1,g2,g3,g4⟩=>⟨c1,c2,c3,c4,e,d _ _ g1,d _ _ g2,d _ _ g3,d _ _ g4⟩
   match k,hr with
   |0,hr=>exact a hr
   |1,hr=>exact a hr
   |2,hr=>exact a hr
   |3,hr=>exact a hr
   |4,hr=>exact a hr
   |5,hr=>exact head hr
   |6,hr=>exact a hr
   |7,⟨c,e,g⟩=>exact⟨c,e,d _ _ g⟩
   |8,hr=>exact head hr
   |9,hr=>exact head hr
   |10,hr=>exact head hr
 have y:=key_s s L;have c14:=C.c14;have M:=b1.1;have u:=C.map;have Y:=Hm C;have X:=Hm hc;have A:Hid (V.grownBy q none):=Qu B;clear d h hr hc B b1 I H C;go_enter func84,ntmps84;go_upto_region 1 with fail
 rw[<- m];clear m;go_wp2_with (at_mapUpdate;refine wpList_mapUpdate_own _ rfl _ _ _ 56 rfl 9 89 law9 underlying56 RV mb n D rfl u (by unfold maxLen;omega) _ _ (.string s) rfl rfl y (.held (.func (.func 148) #[] #[ptr V.heap.size 0,ptr (V.heap.size+1) 0,ptr (V.heap.size+1+1) 0])) [] rfl ?_;intro w2 p l;have F:=Hm (And.intro p l);clear p l)
 go_end0;exact⟨rfl,Ql ⟨A.o.os,A.o.tape,A.o.output,A.o.size,λk z _=>A.o.block k z (by simp)⟩ F.o.2,_,Y.o.put F.o.2 F.o.1 X.o⟩
theorem mk85 (V:J)(R o:Nat)(a:R<V.heap.size):Ec Q 85 #[ptr R o,fnV 86] V λe w'=>e=Z (.func (.func 149) #[] #[ptr V.heap.size 0,ptr (V.heap.size+1) 0])/\JL w' R (.func (.func 149) #[] #[ptr V.heap.size 0,ptr (V.heap.size+1) 0]) 149 o 86/\Bw V.heap.size V w':=by
 have H:Hid (JL ((V.alloc (Fc #[ptr R o] 138)).alloc (Fc #[fnV 86] 139)) R (.func (.func 149) #[] #[ptr V.heap.size 0,ptr (V.heap.size+1) 0]) 149 o 86):=by refine⟨_,_,rfl,QU a (bFz.alloc (by simp) _),?_⟩;have:=QU (V:=V.alloc (Fc #[ptr R o] 138)) (R:=R) (v:=fnV 86) (t:=139) (by simp;omega) bFz;simpa using this
 go_enter func85,ntmps85;go_wp2;go_ret;exact⟨rfl,H.o,(bFz.alloc lRz _).alloc (by simp) _⟩
theorem mk87 (V:J)(R o:Nat)(a:R<V.heap.size):Ec Q 87 #[ptr R o,fnV 88] V λe w'=>e=Z (.func (.func 150) #[] #[ptr V.heap.size 0,ptr (V.heap.size+1) 0])/\JL w' R (.func (.func 150) #[] #[ptr V.heap.size 0,ptr (V.heap.size+1) 0]) 150 o 88/\Bw V.heap.size V w':=by
 have H:Hid (JL ((V.alloc (Fc #[ptr R o] 144)).alloc (Fc #[fnV 88] 145)) R (.func (.func 150) #[] #[ptr V.heap.size 0,ptr (V.heap.size+1) 0]) 150 o 88):=by refine⟨_,_,rfl,QU a (bFz.alloc (by simp) _),?_⟩;have:=QU (V:=V.alloc (Fc #[ptr R o] 144)) (R:=R) (v:=fnV 88) (t:=145) (by simp;omega) bFz;simpa using this
 go_enter func87,ntmps87;go_wp2;go_ret;exact⟨rfl,H.o,(bFz.alloc lRz _).alloc (by simp) _⟩
theorem mk89 (V:J)(R o:Nat)(a:R<V.heap.size):Ec Q 89 #[ptr R o,fnV 90] V λe w'=>e=Z (.func (.func 152) #[] #[ptr V.heap.size 0,ptr (V.heap.size+1) 0])/\JL w' R (.func (.func 152) #[] #[ptr V.heap.size 0,ptr (V.heap.size+1) 0]) 152 o 90/\Bw V.heap.size V w':=by
 have H:Hid (JL ((V.alloc (Fc #[ptr R o] 148)).alloc (Fc #[fnV 90] 149)) R (.func (.func 152) #[] #[ptr V.heap.size 0,ptr (V.heap.size+1) 0]) 152 o 90):=by refine⟨_,_,rfl,QU a (bFz.alloc (by simp) _),?_⟩;have:=QU (V:=V.alloc (Fc #[ptr R o] 148)) (R:=R) (v:=fnV 90) (t:=149) (by simp;omega) bFz;simpa using this
 go_enter func89,ntmps89;go_wp2;go_ret;exact⟨rfl,H.o,(bFz.alloc lRz _).alloc (by simp) _⟩
theorem mk91 (V:J)(R o:Nat)(a:R<V.heap.size):Ec Q 91 #[ptr R o,fnV 92] V λe w'=>e=Z (.func (.func 153) #[] #[ptr V.heap.size 0,ptr (V.heap.size+1) 0])/\JL w' R (.func (.func 153) #[] #[ptr V.heap.size 0,ptr (V.heap.size+1) 0]) 153 o 92/\Bw V.heap.size V w':=by
 have H:Hid (JL ((V.alloc (Fc #[ptr R o] 152)).alloc (Fc #[fnV 92] 153)) R (.func (.func 153) #[] #[ptr V.heap.size 0,ptr (V.heap.size+1) 0]) 153 o 92):=by refine⟨_,_,rfl,QU a (bFz.alloc (by simp) _),?_⟩;have:=QU (V:=V.alloc (Fc #[ptr R o] 152)) (R:=R) (v:=fnV 92) (t:=153) (by simp;omega) bFz;simpa using this
 go_enter func91,ntmps91;go_wp2;go_ret;exact⟨rfl,H.o,(bFz.alloc lRz _).alloc (by simp) _⟩
theorem mk93 (V:J)(R o:Nat)(a:R<V.heap.size):Ec Q 93 #[ptr R o,fnV 94] V λe w'=>e=Z (.func (.func 154) #[] #[ptr V.heap.size 0,ptr (V.heap.size+1) 0])/\JL w' R (.func (.func 154) #[] #[ptr V.heap.size 0,ptr (V.heap.size+1) 0]) 154 o 94/\Bw V.heap.size V w':=by
 have H:Hid (JL ((V.alloc (Fc #[ptr R o] 158)).alloc (Fc #[fnV 94] 159)) R (.func (.func 154) #[] #[ptr V.heap.size 0,ptr (V.heap.size+1) 0]) 154 o 94):=by refine⟨_,_,rfl,QU a (bFz.alloc (by simp) _),?_⟩;have:=QU (V:=V.alloc (Fc #[ptr R o] 158)) (R:=R) (v:=fnV 94) (t:=159) (by simp;omega) bFz;simpa using this
 go_enter func93,ntmps93;go_wp2;go_ret;exact⟨rfl,H.o,(bFz.alloc lRz _).alloc (by simp) _⟩
theorem mk96 (V:J)(R:Nat)(a:R<V.heap.size):Ec Q 96 #[ptr R 0,ptr R 5,fnV 97,fnV 98] V λe w'=>e=Z (.func (.func 155) #[] #[ptr (V.heap.size+1+1) 0,ptr V.heap.size 0,ptr (V.heap.size+1) 0,ptr (V.heap.size+1+1+1) 0])/\Xw w' R (.func (.func 155) #[] #[ptr (V.heap.size+1+1) 0,ptr V.heap.size 0,ptr (V.heap.size+1) 0,ptr (V.heap.size+1+1+1) 0]) 155 97 5 98/\Bw V.heap.size V w':=by
 have H:Hid (Xw ((((V.alloc (Fc #[ptr R 0] 53)).alloc (Fc #[ptr R 5] 162)).alloc (Fc #[fnV 97] 163)).alloc (Fc #[fnV 98] 165)) R (.func (.func 155) #[] #[ptr (V.heap.size+1+1) 0,ptr V.heap.size 0,ptr (V.heap.size+1) 0,ptr (V.heap.size+1+1+1) 0]) 155 97 5 98):=by
  refine⟨_,_,_,_,rfl,?_,QU a (((bFz.alloc (by simp) _).alloc (by simp<;>omega) _).alloc (by simp<;>omega) _),?_,?_⟩
  . have:=QU (V:=(V.alloc (Fc #[ptr R 0] 53)).alloc (Fc #[ptr R 5] 162)) (R:=R) (v:=fnV 97) (t:=163) (by simp;omega) (bFz.alloc (by simp) (Fc #[fnV 98] 165));simpa using this
  . have:=QU (V:=V.alloc (Fc #[ptr R 0] 53)) (R:=R) (v:=ptr R 5) (t:=162) (by simp;omega) ((bFz.alloc (by simp) (Fc #[fnV 97] 163)).alloc (by simp<;>omega) (Fc #[fnV 98] 165));simpa using this
  have:=QU (V:=((V.alloc (Fc #[ptr R 0] 53)).alloc (Fc #[ptr R 5] 162)).alloc (Fc #[fnV 97] 163)) (R:=R) (v:=fnV 98) (t:=165) (by simp;omega) bFz;simpa using this
 go_enter func96,ntmps96;go_wp2;go_ret;exact⟨rfl,H.o,(((bFz.alloc lRz _).alloc (by simp) _).alloc (by simp;omega) _).alloc (by simp;omega) _⟩
theorem mk99 (V:J)(R:Nat)(a:R<V.heap.size):Ec Q 99 #[ptr R 0,ptr R 9,fnV 100,fnV 101] V λe w'=>e=Z (.func (.func 160) #[] #[ptr (V.heap.size+1+1) 0,ptr V.heap.size 0,ptr (V.heap.size+1) 0,ptr (V.heap.size+1+1+1) 0])/\Xw w' R (.func (.func 160) #[] #[ptr (V.heap.size+1+1) 0,ptr V.heap.size 0,ptr (V.heap.size+1) 0,ptr (V.heap.size+1+1+1) 0]) 160 100 9 101/\Bw V.heap.size V w':=by
 have H:Hid (Xw ((((V.alloc (Fc #[ptr R 0] 53)).alloc (Fc #[ptr R 9] 167)).alloc (Fc #[fnV 100] 168)).alloc (Fc #[fnV 101] 170)) R (.func (.func 160) #[] #[ptr (V.heap.size+1+1) 0,ptr V.heap.size 0,ptr (V.heap.size+1) 0,ptr (V.heap.size+1+1+1) 0]) 160 100 9 101):=by
  refine⟨_,_,_,_,rfl,?_,QU a (((bFz.alloc (by simp) _).alloc (by simp<;>omega) _).alloc (by simp<;>omega) _),?_,?_⟩
  . have:=QU (V:=(V.alloc (Fc #[ptr R 0] 53)).alloc (Fc #[ptr R 9] 167)) (R:=R) (v:=fnV 100) (t:=168) (by simp;omega) (bFz.alloc (by simp) (Fc #[fnV 101] 170));simpa using this
  . have:=QU (V:=V.alloc (Fc #[ptr R 0] 53)) (R:=R) (v:=ptr R 9) (t:=167) (by simp;omega) ((bFz.alloc (by simp) (Fc #[fnV 100] 168)).alloc (by simp<;>omega) (Fc #[fnV 101] 170));simpa using this
  have:=QU (V:=((V.alloc (Fc #[ptr R 0] 53)).alloc (Fc #[ptr R 9] 167)).alloc (Fc #[fnV 100] 168)) (R:=R) (v:=fnV 101) (t:=170) (by simp;omega) bFz;simpa using this
 go_enter func99,ntmps99;go_wp2;go_ret;exact⟨rfl,H.o,(((bFz.alloc lRz _).alloc (by simp) _).alloc (by simp;omega) _).alloc (by simp;omega) _⟩
theorem mk102 (V:J)(R:Nat)(a:R<V.heap.size):Ec Q 102 #[ptr R 0,ptr R 10,fnV 103,fnV 104] V λe w'=>e=Z (.func (.func 162) #[] #[ptr (V.heap.size+1+1) 0,ptr V.heap.size 0,ptr (V.heap.size+1) 0,ptr (V.heap.size+1+1+1) 0])/\Xw w' R (.func (.func 162) #[] #[ptr (V.heap.size+1+1) 0,ptr V.heap.size 0,ptr (V.heap.size+1) 0,ptr (V.heap.size+1+1+1) 0]) 162 103 10 104/\Bw V.heap.size V w':=by
 have H:Hid (Xw ((((V.alloc (Fc #[ptr R 0] 53)).alloc (Fc #[ptr R 10] 172)).alloc (Fc #[fnV 103] 173)).alloc (Fc #[fnV 104] 175)) R (.func (.func 162) #[] #[ptr (V.heap.size+1+1) 0,ptr V.heap.size 0,ptr (V.heap.size+1) 0,ptr (V.heap.size+1+1+1) 0]) 162 103 10 104):=by
  refine⟨_,_,_,_,rfl,?_,QU a (((bFz.alloc (by simp) _).alloc (by simp<;>omega) _).alloc (by simp<;>omega) _),?_,?_⟩
  . have:=QU (V:=(V.alloc (Fc #[ptr R 0] 53)).alloc (Fc #[ptr R 10] 172)) (R:=R) (v:=fnV 103) (t:=173) (by simp;omega) (bFz.alloc (by simp) (Fc #[fnV 104] 175));simpa using this
  . have:=QU (V:=V.alloc (Fc #[ptr R 0] 53)) (R:=R) (v:=ptr R 10) (t:=172) (by simp;omega) ((bFz.alloc (by simp) (Fc #[fnV 103] 173)).alloc (by simp<;>omega) (Fc #[fnV 104] 175));simpa using this
  have:=QU (V:=((V.alloc (Fc #[ptr R 0] 53)).alloc (Fc #[ptr R 10] 172)).alloc (Fc #[fnV 103] 173)) (R:=R) (v:=fnV 104) (t:=175) (by simp;omega) bFz;simpa using this
 go_enter func102,ntmps102;go_wp2;go_ret;exact⟨rfl,H.o,(((bFz.alloc lRz _).alloc (by simp) _).alloc (by simp;omega) _).alloc (by simp;omega) _⟩
theorem mk105 (V:J)(R:Nat)(a:R<V.heap.size):Ec Q 105 #[ptr R 0,ptr R 11,fnV 106,fnV 107] V λe w'=>e=Z (.func (.func 165) #[] #[ptr (V.heap.size+1+1) 0,ptr V.heap.size 0,ptr (V.heap.size+1) 0,ptr (V.heap.size+1+1+1) 0])/\Xw w' R (.func (.func 165) #[] #[ptr (V.heap.size+1+1) 0,ptr V.heap.size 0,ptr (V.heap.size+1) 0,ptr (V.heap.size+1+1+1) 0]) 165 106 11 107/\Bw V.heap.size V w':=by
 have H:Hid (Xw ((((V.alloc (Fc #[ptr R 0] 53)).alloc (Fc #[ptr R 11] 177)).alloc (Fc #[fnV 106] 178)).alloc (Fc #[fnV 107] 180)) R (.func (.func 165) #[] #[ptr (V.heap.size+1+1) 0,ptr V.heap.size 0,ptr (V.heap.size+1) 0,ptr (V.heap.size+1+1+1) 0]) 165 106 11 107):=by
  refine⟨_,_,_,_,rfl,?_,QU a (((bFz.alloc (by simp) _).alloc (by simp<;>omega) _).alloc (by simp<;>omega) _),?_,?_⟩
  . have:=QU (V:=(V.alloc (Fc #[ptr R 0] 53)).alloc (Fc #[ptr R 11] 177)) (R:=R) (v:=fnV 106) (t:=178) (by simp;omega) (bFz.alloc (by simp) (Fc #[fnV 107] 180));simpa using this
  . have:=QU (V:=V.alloc (Fc #[ptr R 0] 53)) (R:=R) (v:=ptr R 11) (t:=177) (by simp;omega) ((bFz.alloc (by simp) (Fc #[fnV 106] 178)).alloc (by simp<;>omega) (Fc #[fnV 107] 180));simpa using this
  have:=QU (V:=((V.alloc (Fc #[ptr R 0] 53)).alloc (Fc #[ptr R 11] 177)).alloc (Fc #[fnV 106] 178)) (R:=R) (v:=fnV 107) (t:=180) (by simp;omega) bFz;simpa using this
 go_enter func105,ntmps105;go_wp2;go_ret;exact⟨rfl,H.o,(((bFz.alloc lRz _).alloc (by simp) _).alloc (by simp;omega) _).alloc (by simp;omega) _⟩
section
variable (w0 V:J) (R mb n:Nat) (D:DataW Vu) (ws:List Wd)
theorem addCustom_c (h:Bd w0 R mb n D ws V)(u:n<=900):Ec Q 25 #[ptr R 0] V λe w'=>e=Z (.tuple #[])/\V.grownBy w' (some mb)/\∃D',Bd w0 R mb (n+1) D' ([99,117,115,116,111,109]::ws) w':=by
 obtain⟨l,c⟩:∃W,W=V.alloc (Fc #[ptr R 0] 53):=⟨_,rfl⟩;have m:Bw V.heap.size V l:=by rw[c];exact bFz.alloc lRz _
 have b1:Bt l R V.heap.size (ptr R 0):=by rw[c];exact QU h.ltR bFz
 have j:=h.below m;have r:Hid (CL l R [99,117,115,116,111,109] (.func (.func 80) #[] #[ptr V.heap.size 0])):=⟨_,rfl,b1⟩;have f:keyOf Q 9 (.string ⟨#[99,117,115,116,111,109]⟩)=some (.string [99,117,115,116,111,109]):=key_s [99,117,115,116,111,109] (by decide);have c14:=j.c14;have q:=b1.1;have d:=j.map;have s:=Hm j;have g:Hid (V.grownBy l none):=Qu m;clear h m b1 j;go_enter func25,ntmps25;go_upto_region 1 with fail
 rw[<- c];clear c;go_wp2_with (at_mapUpdate;refine wpList_mapUpdate_own _ rfl _ _ _ 56 rfl 9 89 law9 underlying56 RV mb n D rfl d (by unfold maxLen;omega) _ _ (.string [99,117,115,116,111,109]) rfl rfl f (.held (.func (.func 80) #[] #[ptr V.heap.size 0])) [] rfl ?_;intro t b a;have p:=Hm (And.intro b a);clear b a)
 go_end0;exact⟨rfl,Ql ⟨g.o.os,g.o.tape,g.o.output,g.o.size,λk hk _=>g.o.block k hk (by simp)⟩ p.o.2,_,s.o.put p.o.2 p.o.1 r.o⟩
def Fe (b f off ef:Nat)(s:Wd)(k:Nat)(us:List Vu)(W:J):Prop:=Rp.Fz (λW=>W.cell? ⟨b,0,none⟩=some (ptr R 0)) 1
 [fun us W=>us=[]/\Bd w0 R mb n D ws W/\Bt W R b (ptr R 0)/\(∀c v,Bt V R c v->Bt W R c v),
  λus W=>∃c1 c2,us=[.func (.func f) #[] #[ptr c1 0,ptr c2 0]]/\JL W R (.func (.func f) #[] #[ptr c1 0,ptr c2 0]) f off ef/\Bd w0 R mb n D ws W/\Bt W R b (ptr R 0)/\(∀c v,Bt V R c v->Bt W R c v),
  fun us W=>∃v D',us=[v,.tuple #[]]/\Bd w0 R mb (n+1) D' (s::ws) W/\Bt W R b (ptr R 0)/\(∀c v,Bt V R c v->Bt W R c v)] k us W
theorem addEntries_c (h:Bd w0 R mb n D ws V)(hn:n<=900):Ec Q 26 #[ptr R 0] V λe w'=>e=Z (.tuple #[])/\(∀c v,Bt V R c v->Bt w' R c v)/\∃C,Bd w0 R mb (n+7) C ([115,116,97,114,116]::[101,120,112,111,114,116]::[109,101,109,111,114,121]::[116,97,98,108,101]::[102,117,110,99]::[105,109,112,111,114,116]::[116,121,112,101]::ws) w':=by
 obtain⟨V1,ad⟩:∃W,W=V.alloc (Fc #[ptr R 0] 53):=⟨_,rfl⟩;obtain⟨b,ae⟩:∃b,b=V.heap.size:=⟨_,rfl⟩;have m:Bw V.heap.size V V1:=by rw[ad];exact bFz.alloc lRz _
 have au:Hid (Bt V1 R b (ptr R 0)):=by show Bt _ _ _ _;rw[ad,ae];exact QU h.ltR bFz
 have bf:=Hm (h.below m);have a8:Hid (∀c v,Bt V R c v->Bt V1 R c v):=λc v hc=>Bt.to (λk hk _=>m.block k hk) hc;have HN:=Hm hn;clear h m hn;go_enter func26,ntmps26;go_upto_region 1 with fail
 rw[<- ad,<- ae];clear ad ae;refine Rp.rg (nN:=47) [ptr R 0,ptr R 0,ptr R 0,ptr R 0,ptr R 0,undef,undef] [5,6] 1 (Fe w0 V R mb n D ws b 149 0 86 [116,121,112,101]) ?_ ?_ ?_
 . exact⟨λ_=>au.o.1,rfl,bf.o.below bFz.drew,au.o,a8.o⟩
 . refine Rp.ls 1 (ptr b 0) (λk q W hk j=>j.1 hk) ?_;refine Rp.ls 1 (ptr b 0) (λk q W hk j=>j.1 hk) ?_;refine Rp.o1 1 3 ?_;refine Rp.o1 2 4 ?_;refine Rp.o1 3 5 ?_;refine Rp.hc 0 (λa W q f hu j=>?_) ?_
   . have e6:=Rp.va f 4 6;obtain⟨s,rfl,g,m,d⟩:=j;refine⟨85,#[ptr R 0,fnV 86],?_,?_⟩
     . clear f hu;go_simp;try rfl
     refine(mk85 W R 0 g.ltR).mono ?_;rintro e y ⟨rfl,t,l⟩;have p:Bt y R b (ptr R 0):=Bt.to (λk hk _=>l.block k hk) m;exact⟨_,rfl,λ_=>p.1,_,_,rfl,t,g.below l,p,λc v hc=>Bt.to (λk hk _=>l.block k hk) (d c v hc)⟩
   refine Rp.hc 1 (λa W q f hu j=>?_) ?_
   . have e2:=Rp.va f 0 2;have e7:=Rp.vu hu 0 7;obtain⟨s,B,A,rfl,t,g,m,d⟩:=j;refine⟨84,#[ptr R 0,Xs (Sz0 [116,121,112,101]),U O ((1:Nat):Int),.func (.func 149) #[] #[ptr B 0,ptr A 0]],?_,?_⟩
     . clear f hu;go_simp;try rfl
     refine(XG w0 W R mb n D ws g (by have:=HN.o;omega) [116,121,112,101] (by decide) 1 149 #[ptr B 0,ptr A 0] (by decide) (by decide) t).mono ?_;rintro e y ⟨rfl,u,C,r⟩;exact⟨_,rfl,λh=>by omega,_,C,rfl,r,Jo g u m,λc v hc=>Jo g u (d c v hc)⟩
   exact Rp.Qj.nil
 intro q a W f;have z:=Rp.ca f [2,3,4,5,6,7,8];have j:=f.ph;simp only[Km,Tq,Rp.cv f 0 2,Rp.cv f 1 3,Rp.cv f 2 4,Rp.cv f 3 5,Rp.cv f 4 6,Rp.cu f 0 7,Rp.cu f 1 8]at z;clear f;subst z;obtain⟨-,v,D1,rfl,g,m,d⟩:=j;obtain⟨ac,M⟩:∃x,x=[116,121,112,101]::ws:=⟨_,rfl⟩;rw[<- M]at g;have bd:Hid (Bd w0 R mb (n+1) D1 ac W):=g;have ar:=Hm m;have a7:=Hm d;have a1:=Hm M;clear g m d M;go_simp;go_upto_region 2 with fail
 refine Rp.rg (nN:=47) [ptr R 0,ptr R 0,ptr R 0,ptr R 0,ptr R 1,undef,undef] [5,6] 1 (Fe w0 V R mb (n+1) D1 ac b 150 1 88 [105,109,112,111,114,116]) ?_ ?_ ?_
 . exact⟨λ_=>ar.o.1,rfl,bd.o.below bFz.drew,ar.o,a7.o⟩
 . refine Rp.ls 1 (ptr b 0) (λk q W hk j=>j.1 hk) ?_;refine Rp.ls 1 (ptr b 0) (λk q W hk j=>j.1 hk) ?_;refine Rp.o1 1 10 ?_;refine Rp.o1 2 11 ?_;refine Rp.o1 3 12 ?_;refine Rp.hc 0 (λa W q f hu j=>?_) ?_
   . have b6:=Rp.va f 4 13;obtain⟨s,rfl,g,m,d⟩:=j;refine⟨87,#[ptr R 1,fnV 88],?_,?_⟩
     . clear f hu;go_simp;try rfl
     refine(mk87 W R 1 g.ltR).mono ?_;rintro e y ⟨rfl,t,l⟩;have p:Bt y R b (ptr R 0):=Bt.to (λk hk _=>l.block k hk) m;exact⟨_,rfl,λ_=>p.1,_,_,rfl,t,g.below l,p,λc v hc=>Bt.to (λk hk _=>l.block k hk) (d c v hc)⟩
   refine Rp.hc 1 (λa W q f hu j=>?_) ?_
   . have e9:=Rp.va f 0 9;have b5:=Rp.vu hu 0 14;obtain⟨s,B,A,rfl,t,g,m,d⟩:=j;refine⟨84,#[ptr R 0,Xs (Sz0 [105,109,112,111,114,116]),U O ((2:Nat):Int),.func (.func 150) #[] #[ptr B 0,ptr A 0]],?_,?_⟩
     . clear f hu;go_simp;try rfl
     refine(XG w0 W R mb (n+1) D1 ac g (by have:=HN.o;omega) [105,109,112,111,114,116] (by decide) 2 150 #[ptr B 0,ptr A 0] (by decide) (by decide) t).mono ?_;rintro e y ⟨rfl,u,C,r⟩;exact⟨_,rfl,λh=>by omega,_,C,rfl,r,Jo g u m,λc v hc=>Jo g u (d c v hc)⟩
   exact Rp.Qj.nil
 intro q a W f;have z:=Rp.ca f [9,10,11,12,13,14,15];have j:=f.ph;simp only[Km,Tq,Rp.cv f 0 9,Rp.cv f 1 10,Rp.cv f 2 11,Rp.cv f 3 12,Rp.cv f 4 13,Rp.cu f 0 14,Rp.cu f 1 15]at z;clear f;subst z;obtain⟨-,v,D2,rfl,g,m,d⟩:=j;obtain⟨ab,L⟩:∃x,x=[105,109,112,111,114,116]::ac:=⟨_,rfl⟩;rw[<- L]at g;have bc:Hid (Bd w0 R mb (n+2) D2 ab W):=g;have aq:=Hm m;have a6:=Hm d;have a0:=Hm L;clear g m d L;go_simp;go_upto_region 3 with fail
 refine Rp.rg (nN:=47) [ptr R 0,ptr R 0,ptr R 0,ptr R 0,ptr R 2,undef,undef] [5,6] 1 (Fe w0 V R mb (n+2) D2 ab b 152 2 90 [102,117,110,99]) ?_ ?_ ?_
 . exact⟨λ_=>aq.o.1,rfl,bc.o.below bFz.drew,aq.o,a6.o⟩
 . refine Rp.ls 1 (ptr b 0) (λk q W hk j=>j.1 hk) ?_;refine Rp.ls 1 (ptr b 0) (λk q W hk j=>j.1 hk) ?_;refine Rp.o1 1 17 ?_;refine Rp.o1 2 18 ?_;refine Rp.o1 3 19 ?_;refine Rp.hc 0 (λa W q f hu j=>?_) ?_
   . have b3:=Rp.va f 4 20;obtain⟨s,rfl,g,m,d⟩:=j;refine⟨89,#[ptr R 2,fnV 90],?_,?_⟩
     . clear f hu;go_simp;try rfl
     refine(mk89 W R 2 g.ltR).mono ?_;rintro e y ⟨rfl,t,l⟩;have p:Bt y R b (ptr R 0):=Bt.to (λk hk _=>l.block k hk) m;exact⟨_,rfl,λ_=>p.1,_,_,rfl,t,g.below l,p,λc v hc=>Bt.to (λk hk _=>l.block k hk) (d c v hc)⟩
   refine Rp.hc 1 (λa W q f hu j=>?_) ?_
   . have b4:=Rp.va f 0 16;have b2:=Rp.vu hu 0 21;obtain⟨s,B,A,rfl,t,g,m,d⟩:=j;refine⟨84,#[ptr R 0,Xs (Sz0 [102,117,110,99]),U O ((3:Nat):Int),.func (.func 152) #[] #[ptr B 0,ptr A 0]],?_,?_⟩
     . clear f hu;go_simp;try rfl
     refine(XG w0 W R mb (n+2) D2 ab g (by have:=HN.o;omega) [102,117,110,99] (by decide) 3 152 #[ptr B 0,ptr A 0] (by decide) (by decide) t).mono ?_;rintro e y ⟨rfl,u,C,r⟩;exact⟨_,rfl,λh=>by omega,_,C,rfl,r,Jo g u m,λc v hc=>Jo g u (d c v hc)⟩
   exact Rp.Qj.nil
 intro q a W f;have z:=Rp.ca f [16,17,18,19,20,21,22];have j:=f.ph;simp only[Km,Tq,Rp.cv f 0 16,Rp.cv f 1 17,Rp.cv f 2 18,Rp.cv f 3 19,Rp.cv f 4 20,Rp.cu f 0 21,Rp.cu f 1 22]at z;clear f;subst z;obtain⟨-,v,D3,rfl,g,m,d⟩:=j;obtain⟨aa,I⟩:∃x,x=[102,117,110,99]::ab:=⟨_,rfl⟩;rw[<- I]at g;have bb:Hid (Bd w0 R mb (n+3) D3 aa W):=g;have ao:=Hm m;have a5:=Hm d;have az:=Hm I;clear g m d I;go_simp;go_upto_region 4 with fail
 refine Rp.rg (nN:=47) [ptr R 0,ptr R 0,ptr R 0,ptr R 0,ptr R 3,undef,undef] [5,6] 1 (Fe w0 V R mb (n+3) D3 aa b 153 3 92 [116,97,98,108,101]) ?_ ?_ ?_
 . exact⟨λ_=>ao.o.1,rfl,bb.o.below bFz.drew,ao.o,a5.o⟩
 . refine Rp.ls 1 (ptr b 0) (λk q W hk j=>j.1 hk) ?_;refine Rp.ls 1 (ptr b 0) (λk q W hk j=>j.1 hk) ?_;refine Rp.o1 1 24 ?_;refine Rp.o1 2 25 ?_;refine Rp.o1 3 26 ?_;refine Rp.hc 0 (λa W q f hu j=>?_) ?_
   . have bw:=Rp.va f 4 27;obtain⟨s,rfl,g,m,d⟩:=j;refine⟨91,#[ptr R 3,fnV 92],?_,?_⟩
     . clear f hu;go_simp;try rfl
     refine(mk91 W R 3 g.ltR).mono ?_;rintro e y ⟨rfl,t,l⟩;have p:Bt y R b (ptr R 0):=Bt.to (λk hk _=>l.block k hk) m;exact⟨_,rfl,λ_=>p.1,_,_,rfl,t,g.below l,p,λc v hc=>Bt.to (λk hk _=>l.block k hk) (d c v hc)⟩
   refine Rp.hc 1 (λa W q f hu j=>?_) ?_
   . have bz:=Rp.va f 0 23;have bv:=Rp.vu hu 0 28;obtain⟨s,B,A,rfl,t,g,m,d⟩:=j;refine⟨84,#[ptr R 0,Xs (Sz0 [116,97,98,108,101]),U O ((4:Nat):Int),.func (.func 153) #[] #[ptr B 0,ptr A 0]],?_,?_⟩
     . clear f hu;go_simp;try rfl
     refine(XG w0 W R mb (n+3) D3 aa g (by have:=HN.o;omega) [116,97,98,108,101] (by decide) 4 153 #[ptr B 0,ptr A 0] (by decide) (by decide) t).mono ?_;rintro e y ⟨rfl,u,C,r⟩;exact⟨_,rfl,λh=>by omega,_,C,rfl,r,Jo g u m,λc v hc=>Jo g u (d c v hc)⟩
   exact Rp.Qj.nil
 intro q a W f;have z:=Rp.ca f [23,24,25,26,27,28,29];have j:=f.ph;simp only[Km,Tq,Rp.cv f 0 23,Rp.cv f 1 24,Rp.cv f 2 25,Rp.cv f 3 26,Rp.cv f 4 27,Rp.cu f 0 28,Rp.cu f 1 29]at z;clear f;subst z;obtain⟨-,v,D4,rfl,g,m,d⟩:=j;obtain⟨Y,H⟩:∃x,x=[116,97,98,108,101]::aa:=⟨_,rfl⟩;rw[<- H]at g;have ba:Hid (Bd w0 R mb (n+4) D4 Y W):=g;have ak:=Hm m;have a4:=Hm d;have ay:=Hm H;clear g m d H;go_simp;go_upto_region 5 with fail
 refine Rp.rg (nN:=47) [ptr R 0,ptr R 0,ptr R 0,ptr R 0,ptr R 4,undef,undef] [5,6] 1 (Fe w0 V R mb (n+4) D4 Y b 153 4 92 [109,101,109,111,114,121]) ?_ ?_ ?_
 . exact⟨λ_=>ak.o.1,rfl,ba.o.below bFz.drew,ak.o,a4.o⟩
 . refine Rp.ls 1 (ptr b 0) (λk q W hk j=>j.1 hk) ?_;refine Rp.ls 1 (ptr b 0) (λk q W hk j=>j.1 hk) ?_;refine Rp.o1 1 31 ?_;refine Rp.o1 2 32 ?_;refine Rp.o1 3 33 ?_;refine Rp.hc 0 (λa W q f hu j=>?_) ?_
   . have bt:=Rp.va f 4 34;obtain⟨s,rfl,g,m,d⟩:=j;refine⟨91,#[ptr R 4,fnV 92],?_,?_⟩
     . clear f hu;go_simp;try rfl
     refine(mk91 W R 4 g.ltR).mono ?_;rintro e y ⟨rfl,t,l⟩;have p:Bt y R b (ptr R 0):=Bt.to (λk hk _=>l.block k hk) m;exact⟨_,rfl,λ_=>p.1,_,_,rfl,t,g.below l,p,λc v hc=>Bt.to (λk hk _=>l.block k hk) (d c v hc)⟩
   refine Rp.hc 1 (λa W q f hu j=>?_) ?_
   . have bu:=Rp.va f 0 30;have bs:=Rp.vu hu 0 35;obtain⟨s,B,A,rfl,t,g,m,d⟩:=j;refine⟨84,#[ptr R 0,Xs (Sz0 [109,101,109,111,114,121]),U O ((5:Nat):Int),.func (.func 153) #[] #[ptr B 0,ptr A 0]],?_,?_⟩
     . clear f hu;go_simp;try rfl
     refine(XG w0 W R mb (n+4) D4 Y g (by have:=HN.o;omega) [109,101,109,111,114,121] (by decide) 5 153 #[ptr B 0,ptr A 0] (by decide) (by decide) t).mono ?_;rintro e y ⟨rfl,u,C,r⟩;exact⟨_,rfl,λh=>by omega,_,C,rfl,r,Jo g u m,λc v hc=>Jo g u (d c v hc)⟩
   exact Rp.Qj.nil
 intro q a W f;have z:=Rp.ca f [30,31,32,33,34,35,36];have j:=f.ph;simp only[Km,Tq,Rp.cv f 0 30,Rp.cv f 1 31,Rp.cv f 2 32,Rp.cv f 3 33,Rp.cv f 4 34,Rp.cu f 0 35,Rp.cu f 1 36]at z;clear f;subst z;obtain⟨-,v,D5,rfl,g,m,d⟩:=j;obtain⟨X,F⟩:∃x,x=[109,101,109,111,114,121]::Y:=⟨_,rfl⟩;rw[<- F]at g;have a9:Hid (Bd w0 R mb (n+5) D5 X W):=g;have aj:=Hm m;have a3:=Hm d;have ax:=Hm F;clear g m d F;go_simp;go_upto_region 6 with fail
 refine Rp.rg (nN:=47) [ptr R 0,ptr R 0,ptr R 0,ptr R 0,ptr R 6,undef,undef] [5,6] 1 (Fe w0 V R mb (n+5) D5 X b 154 6 94 [101,120,112,111,114,116]) ?_ ?_ ?_
 . exact⟨λ_=>aj.o.1,rfl,a9.o.below bFz.drew,aj.o,a3.o⟩
 . refine Rp.ls 1 (ptr b 0) (λk q W hk j=>j.1 hk) ?_;refine Rp.ls 1 (ptr b 0) (λk q W hk j=>j.1 hk) ?_;refine Rp.o1 1 38 ?_;refine Rp.o1 2 39 ?_;refine Rp.o1 3 40 ?_;refine Rp.hc 0 (λa W q f hu j=>?_) ?_
   . have bq:=Rp.va f 4 41;obtain⟨s,rfl,g,m,d⟩:=j;refine⟨93,#[ptr R 6,fnV 94],?_,?_⟩
     . clear f hu;go_simp;try rfl
     refine(mk93 W R 6 g.ltR).mono ?_;rintro e y ⟨rfl,t,l⟩;have p:Bt y R b (ptr R 0):=Bt.to (λk hk _=>l.block k hk) m;exact⟨_,rfl,λ_=>p.1,_,_,rfl,t,g.below l,p,λc v hc=>Bt.to (λk hk _=>l.block k hk) (d c v hc)⟩
   refine Rp.hc 1 (λa W q f hu j=>?_) ?_
   . have br:=Rp.va f 0 37;have bp:=Rp.vu hu 0 42;obtain⟨s,B,A,rfl,t,g,m,d⟩:=j;refine⟨84,#[ptr R 0,Xs (Sz0 [101,120,112,111,114,116]),U O ((7:Nat):Int),.func (.func 154) #[] #[ptr B 0,ptr A 0]],?_,?_⟩
     . clear f hu;go_simp;try rfl
     refine(XG w0 W R mb (n+5) D5 X g (by have:=HN.o;omega) [101,120,112,111,114,116] (by decide) 7 154 #[ptr B 0,ptr A 0] (by decide) (by decide) t).mono ?_;rintro e y ⟨rfl,u,C,r⟩;exact⟨_,rfl,λh=>by omega,_,C,rfl,r,Jo g u m,λc v hc=>Jo g u (d c v hc)⟩
   exact Rp.Qj.nil
 intro q a W f;have z:=Rp.ca f [37,38,39,40,41,42,43];have j:=f.ph;simp only[Km,Tq,Rp.cv f 0 37,Rp.cv f 1 38,Rp.cv f 2 39,Rp.cv f 3 40,Rp.cv f 4 41,Rp.cu f 0 42,Rp.cu f 1 43]at z;clear f;subst z;obtain⟨-,v,D6,rfl,g,m,d⟩:=j;obtain⟨ag,E⟩:∃x,x=[101,120,112,111,114,116]::X:=⟨_,rfl⟩;rw[<- E]at g;have ah:Hid (Bd w0 R mb (n+6) D6 ag W):=g;have ai:=Hm m;have a2:=Hm d;have aw:=Hm E;clear g m d E;have KA:=Hm (XG w0 W R mb (n+6) D6 ag ah.o (by have:=HN.o;omega) [115,116,97,114,116] (by decide) 8 95 #[ptr b 0] (by decide) (by decide) ⟨b,rfl,ai.o⟩);have cb:=ai.o.1;go_simp;go_wp2_with fail
 refine KA.o.mono ?_;rintro e y ⟨rfl,u,C,r⟩;clear KA cb;go_wp2;go_end0;refine⟨rfl,(λc v hc=>Jo ah.o u (a2.o c v hc)),C,?_⟩;rw[aw.o,ax.o,ay.o,az.o,a0.o,a1.o]at r;exact r
theorem addHeads_c (h:Bd w0 R mb n D ws V)(hn:n<=900):Ec Q 27 #[ptr R 0] V λe w'=>e=Z (.tuple #[])/\(∀c v,Bt V R c v->Bt w' R c v)/\∃D',Bd w0 R mb (n+4) D' ([100,97,116,97]::[99,111,100,101]::[101,108,101,109]::[103,108,111,98,97,108]::ws) w':=by
 have z:=Hm h;have ar:Hid (∀c v,Bt V R c v->Bt V R c v):=λc v hc=>hc;have K0:=Hm (mk96 V R h.ltR);clear h;go_enter func27,ntmps27;go_wp2_with fail
 refine K0.o.mono ?_;rintro e F ⟨rfl,m,a⟩;have ae:Hid (Bd w0 R mb n D ws F):=z.o.below a;have aa:Hid (∀c v,Bt V R c v->Bt F R c v):=λc v hc=>Bt.to (λk hk _=>a.block k hk) (ar.o c v hc);have p:=Hm (XG w0 F R mb n D ws (z.o.below a) (by omega) [103,108,111,98,97,108] (by decide) 6 155 _ (by decide) (by decide) m);clear m a K0;go_wp2_with fail
 refine p.o.mono ?_;rintro e L ⟨rfl,b,D1,d⟩;have aq:Hid (∀c v,Bt V R c v->Bt L R c v):=λc v hc=>Jo ae.o b (aa.o c v hc);clear b;clear p;obtain⟨s,l⟩:∃x,x=[103,108,111,98,97,108]::ws:=⟨_,rfl⟩;rw[<- l]at d;have y:Hid (Bd w0 R mb (n+1) D1 s L):=d;have ai:=Hm l;clear d l;have K1:=Hm (mk99 L R y.o.ltR);go_wp2_with fail
 refine K1.o.mono ?_;rintro e E ⟨rfl,m,a⟩;have ad:Hid (Bd w0 R mb (n+1) D1 s E):=y.o.below a;have Y:Hid (∀c v,Bt V R c v->Bt E R c v):=λc v hc=>Bt.to (λk hk _=>a.block k hk) (aq.o c v hc);have p:=Hm (XG w0 E R mb (n+1) D1 s (y.o.below a) (by omega) [101,108,101,109] (by decide) 9 160 _ (by decide) (by decide) m);clear m a K1;go_wp2_with fail
 refine p.o.mono ?_;rintro e I ⟨rfl,b,D2,d⟩;have ao:Hid (∀c v,Bt V R c v->Bt I R c v):=λc v hc=>Jo ad.o b (Y.o c v hc);clear b;clear p;obtain⟨r,j⟩:∃x,x=[101,108,101,109]::s:=⟨_,rfl⟩;rw[<- j]at d;have u:Hid (Bd w0 R mb (n+2) D2 r I):=d;have ah:=Hm j;clear d j;have K2:=Hm (mk102 I R u.o.ltR);go_wp2_with fail
 refine K2.o.mono ?_;rintro e C ⟨rfl,m,a⟩;have ac:Hid (Bd w0 R mb (n+2) D2 r C):=u.o.below a;have X:Hid (∀c v,Bt V R c v->Bt C R c v):=λc v hc=>Bt.to (λk hk _=>a.block k hk) (ao.o c v hc);have p:=Hm (XG w0 C R mb (n+2) D2 r (u.o.below a) (by omega) [99,111,100,101] (by decide) 10 162 _ (by decide) (by decide) m);clear m a K2;go_wp2_with fail
 refine p.o.mono ?_;rintro e H ⟨rfl,b,D3,d⟩;have ak:Hid (∀c v,Bt V R c v->Bt H R c v):=λc v hc=>Jo ac.o b (X.o c v hc);clear b;clear p;obtain⟨q,g⟩:∃x,x=[99,111,100,101]::r:=⟨_,rfl⟩;rw[<- g]at d;have t:Hid (Bd w0 R mb (n+3) D3 q H):=d;have ag:=Hm g;clear d g;have K3:=Hm (mk105 H R t.o.ltR);go_wp2_with fail
 refine K3.o.mono ?_;rintro e B ⟨rfl,m,a⟩;have ab:Hid (Bd w0 R mb (n+3) D3 q B):=t.o.below a;have M:Hid (∀c v,Bt V R c v->Bt B R c v):=λc v hc=>Bt.to (λk hk _=>a.block k hk) (ak.o c v hc);have p:=Hm (XG w0 B R mb (n+3) D3 q (t.o.below a) (by omega) [100,97,116,97] (by decide) 11 165 _ (by decide) (by decide) m);clear m a K3;go_wp2_with fail
 refine p.o.mono ?_;rintro e u3 ⟨rfl,b,D4,d⟩;have aj:Hid (∀c v,Bt V R c v->Bt u3 R c v):=λc v hc=>Jo ab.o b (M.o c v hc);clear b;clear p;obtain⟨A,f⟩:∃x,x=[100,97,116,97]::q:=⟨_,rfl⟩;rw[<- f]at d;have au:Hid (Bd w0 R mb (n+4) D4 A u3):=d;have af:=Hm f;clear d f;go_wp2;go_end0;refine⟨rfl,aj.o,D4,?_⟩;have:=au.o;rw[af.o,ag.o,ah.o,ai.o]at this;exact this
end
open Go.RowKit Go.Sort Go.Shelf
attribute [local go_sem] Oper.semAt_some
theorem lines_c (F:Fence)(n:Nat)(b:F.fn 32)(a:F.round=none)(x:ByteArray)(w:J):CallsIn F n Q 32 #[Xs x] w λe w'=>e=Z (.func (.func 115) #[] #[ptr w.heap.size 0])/\w'=w.alloc (Fc #[Xs x] 9):=by
 refine callsIn_of_wp func32 rfl b ?_ a;simp only[ntmps32,Rv,Kj,Kg,Bc,Dz,Ax,Aq,Bg,Af,Hj,Tv];gi_wp2
 go_ret;exact⟨rfl,rfl⟩
def TextP (V:J)(R mb:Nat)(Zz0:St)(t:Wd)(e:Ending)(w':J):Prop:=e=Z (U O (textF Zz0 (lns t) 0).1)/\V.grownBy w' (some R)/\∀Z',(textF Zz0 (lns t) 0).2=some Z'->∃W1 cells rs,Own R w' (box 62 18 R cells::rs)/\(∀k∈blk rs,V.heap.size<=k)/\SR W1 R (.map (some mb)) Z' cells rs
theorem cut_len (x:Wd):(Xr x).length<=N x:=by
 unfold Xr Lib.trimSuffix;split
 · simp
 exact lRz
section
variable {V:J}{R mb B2 B4 B5 Bs B:Nat}{Zz0:St}
theorem Lp1.frame {W1:J}{cells:List Vu}{rs:List Qb}{num:Nat}(h:Lp1 V W1 R mb B2 B4 B5 Bs B cells rs Z' num W):V.grownBy W (some R):=Ql h.ag h.s.gr
theorem gr_up {W':J}{r:Nat}(h:V.grownBy W (some R))(hg:W.grownBy W' (some r))(hr:V.heap.size<=r):V.grownBy W' (some R) :=
 ⟨hg.os.trans h.os,hg.tape.trans h.tape,hg.output.trans h.output,Kf h.size hg.size,λk hk hne=>(hg.block k (Tc hk h.size) (by simp;omega)).trans (h.block k hk hne)⟩
end
theorem text_c (V:J)(R mb:Nat)(cells rs)(Zz0:St)(t:Wd)(E:Env V R mb)(h:Sr V R cells rs V)(hS:SR V R (.map (some mb)) Zz0 cells rs)(hb:blk rs=[])(hz:Zz0.sz<=100)(ht:N t<=300000):Ec Q 15 #[ptr R 0,Xs (Sz0 t)] V (TextP V R mb Zz0 t):=by
 obtain⟨di,dh⟩:=lns_len (N t) t lRz;refine(callsIn_wide (n:=8)).1 ?_;refine callsIn_of_wp_marks func15 rfl trivial ?_ rfl;simp only[ntmps15,Rv,Kj,Kg,Bc,Dz,Ax,Aq,Bg,Af,Hj,Tv];gi_wp2_with (refine⟨trivial,?_⟩;gi_at_call 32;refine(lines_c Fence.wide _ trivial rfl _ _).mono ?_;rintro e w' ⟨rfl,rfl⟩)
 obtain⟨W0,F⟩:∃W0,W0=((((V.alloc (Fc #[ptr R 0] 53)).alloc (Fc #[U O 0] 2)).alloc (Fc #[U O 0] 2)).alloc (Fc #[Xs (Sz0 t)] 9)):=⟨_,rfl⟩;rw[<- F];obtain⟨B,ck⟩:∃B,B=V.heap.size+4:=⟨_,rfl⟩;have az:W0.heap.size=B:=by rw[F,ck];simp
 have b5:Bs5 V R V.heap.size (V.heap.size+1) (V.heap.size+1+1) (V.heap.size+1+1+1) B:=⟨h.lt,by omega,by omega,by omega,by omega,by omega⟩;have ab:Bw V.heap.size V W0:=by rw[F];exact(((bFz.alloc lRz _).alloc (by simp) _).alloc (by simp;omega) _).alloc (by simp;omega) _
 have e2:Boxed W0 V.heap.size 53 (ptr R 0):=by rw[F];exact(((Boxed.new V 53 (ptr R 0)).alloc _).alloc _).alloc _
 have e4:Boxed W0 (V.heap.size+1) 2 (U O 0):=by rw[F];have:=((Boxed.new (V.alloc (Fc #[ptr R 0] 53)) 2 (U O 0)).alloc (Fc #[U O 0] 2)).alloc (Fc #[Xs (Sz0 t)] 9);simpa using this
 have e5:Boxed W0 (V.heap.size+1+1) 2 (U O 0):=by rw[F];have:=(Boxed.new ((V.alloc (Fc #[ptr R 0] 53)).alloc (Fc #[U O 0] 2)) 2 (U O 0)).alloc (Fc #[Xs (Sz0 t)] 9);simpa using this
 have es:Boxed W0 (V.heap.size+1+1+1) 9 (Xs (Sz0 t)):=by rw[F];have:=Boxed.new (((V.alloc (Fc #[ptr R 0] 53)).alloc (Fc #[U O 0] 2)).alloc (Fc #[U O 0] 2)) 9 (Xs (Sz0 t));simpa using this
 have cj:Lp V R mb V.heap.size (V.heap.size+1) (V.heap.size+1+1) (V.heap.size+1+1+1) B Zz0 0 W0:=by have cf:=h.below ab;refine⟨W0,cells,rs,⟨Qu ab,e2.cell,e4,e5,⟨_,es⟩,.inl hb,by omega,cf.base hb,hS.mono (λb o hb=>Bt.to (λk j _=>ab.block k j) hb) (λb f hb=>Bt.to (λk j _=>ab.block k j) hb)⟩⟩
 have ci:=h.lt;have HE:=Hm E;have bg:SeqBox Fence.wide 7 Q 115 #[ptr (V.heap.size+1+1+1) 0] (λx:Wd=>#[Xs (Sz0 x)]) (λW W'=>W'.heap[V.heap.size+1+1+1]?=W.heap[V.heap.size+1+1+1]?) (λys=>ys=lns t) (λc=>∃k,c=(lns t).take k) (λx=>N x<=N t) (lns t).length (V.heap.size+1+1+1) W0:=λl Jz0 Jx W hW hJs hJg hY h0=>by refine(lines_in 7 (by omega) l (V.heap.size+1+1+1) t (by omega) _ (λ_ _ h=>h) Jz0 Jx hJs hJg hY W ((hW _ (by omega)).trans es) h0)
 clear F h hS E e2 e4 e5 es
 refine range_box rfl (by omega) (gf:=115) (lb:=#[ptr (V.heap.size+1+1+1) 0]) rfl trivial (enters_of func115 (by kernel_rfl) rfl) (by omega) bg
  (λh1 h2=>h2.trans h1) (λW l o' hl=>Mz (by omega)) (λ_=>rfl)
  (λc W=>∃Z',runF Zz0 c=some Z'/\Lp V R mb V.heap.size (V.heap.size+1) (V.heap.size+1+1) (V.heap.size+1+1+1) B Z' (N c) W)
  (λc W=>∃p x Z',c=p++[x]/\runF Zz0 p=some Z'/\(if JY x then lineF Z' (Xr x)else none)=none/\Boxed W (V.heap.size+1) 2 (U O ((N p+1:Nat):Int))/\V.grownBy W (some R))
  (λc A C row ⟨Z',e,I⟩ hg hr=>⟨Z',e,Lp.own b5 (Z',N c) A C row I hg (by rw[<- az];exact hr)⟩)
  (λc A C row ⟨p0,x,Z',e1,e3,e6,a1,z⟩ hg hr=>⟨p0,x,Z',e1,e3,e6,a1.kept hg (λe=>by have:=(hr _ e.symm).1;omega),?_⟩)
  (λc W x ⟨Z',e,I⟩=>⟨Z',e,I.setBs b5 x⟩)
  ⟨Zz0,rfl,cj⟩
  (λx=>{ tmps:=#[ptr R 0,Xs (Sz0 t),ptr V.heap.size 0,undef,ptr (V.heap.size+1) 0,ptr (V.heap.size+1+1) 0,Xs (Sz0 x),undef,undef,Xs (Sz0 t),.func (.func 115) #[] #[ptr (V.heap.size+1+1+1) 0],Xs (Sz0 x),undef,undef,undef,undef,undef,undef,undef,undef,undef,undef,undef,undef,undef,undef,undef,undef,undef,undef,undef,undef,undef],defers:=[] }) ?assign ?body ?done ?stop
 . cases row with
   |none=>exact⟨hg.os.trans z.os,hg.tape.trans z.tape,hg.output.trans z.output,Kf z.size hg.size,λk j hne=>(hg.block k (Tc j z.size) (by simp)).trans (z.block k j hne)⟩
   |some r=>exact gr_up z hg (by have:=(hr r rfl).1;omega)
 case assign=>
  intro l x W K hK;gi_wp2
  exact hK
 case body=>
  rintro l' c x W ⟨Z',hr,dw,aj,b9,bk⟩ c3 dk cg;obtain⟨W1,I,ch⟩:=bk.wide b5 (by omega);obtain⟨d2,d4,d5⟩:=I.at5 b5;have H:=I.set5 b5 (N c+1);have dg:N c<300000:=by omega
  obtain⟨X,u⟩:∃X:Int,X=((N c+1:Nat):Int):=⟨_,rfl⟩;have hw:IntKind.i64.wrap ((N c:Int)+1)=X:=by rw[u,Kw];omega
  rw[<- u]at H;have c5:=d5.cell;have f5:=d5.frozen;obtain⟨W2,m⟩:∃W2,W2=W.setCell ⟨V.heap.size+1+1,0,none⟩ (U O X):=⟨_,rfl⟩;obtain⟨W3,a2⟩:∃W3,W3=W1.putObj (V.heap.size+1+1) (Fc #[U O X] 2):=⟨_,rfl⟩;rw[<- m,<- a2]at H;have ce:W3.heap.size=W1.heap.size:=by rw[a2];simp[Cw]
  have ac:∀k,k≠V.heap.size+1+1->W2.heap[k]?=W.heap[k]?:=λk j=>by rw[m];exact Hk _ _ _ _ (λe=>j (by simpa using e))
  obtain⟨g2,g4,g5⟩:=H.at5 b5;rw[<- u]at g5;have ar:=Hm u;clear u;have KC:=Hm (strings_CutSuffix (Sz0 x) ⟨#[10]⟩ W2 (by rw[QJ];omega));rw[QB]at KC;have bf:Z'.sz<=1048576:=by have:=runF_sz hr;omega
  have KL:=Hm (line_c W3 R mb aj b9 W2 Z' (HE.o.to ci H.ag) H.s H.r bf (Xr x) (by have:=cut_len x;omega));have D:=Hm H;have br:=Hm ac;have a7:=Hm hr;have c7:=g4.cell;have c6:=g4.frozen;have bh:=g5.cell;have bu:=Hm g4;have a6:Hid (B+2<=W3.heap.size):=by show _<=_;omega
  have ay:Hid (∀Wx:J,(∀k,k<W3.heap.size->k≠R->Wx.heap[k]?=W2.heap[k]?)->Rec2 W0.heap.size W Wx/\Wx.heap[V.heap.size+1+1+1]?=W.heap[V.heap.size+1+1+1]?):=by intro Wx hx;rw[az];exact⟨⟨(hx B (by omega) (by omega)).trans (ac B (by omega)),(hx (B+1) (by omega) (by omega)).trans (ac (B+1) (by omega))⟩,(hx _ (by omega) (by omega)).trans (ac _ (by omega))⟩
  have ah:Hid (∀(Wx:J) (v:Vu),(∀k,k<W3.heap.size->k≠R->Wx.heap[k]?=W2.heap[k]?)->Rec2 W0.heap.size W (Wx.setCell ⟨V.heap.size+1,0,none⟩ v)):=by intro Wx v hx;have Y:∀k,k≠V.heap.size+1->(Wx.setCell ⟨V.heap.size+1,0,none⟩ v).heap[k]?=Wx.heap[k]?:=λk j=>Hk _ _ _ _ (λe=>j (by simpa using e));obtain⟨⟨q1,q2⟩,-⟩:=ay.o Wx hx;rw[az]at q1 q2⊢;exact⟨(Y B (by omega)).trans q1,(Y (B+1) (by omega)).trans q2⟩
  clear I bk H hr ac a2 ce d4 d5 g4 g5 ch cg;cases he:JY x with
  |false =>
   have ad:Lib.hasSuffix x [10]=false:=he;rw[show(⟨#[10]⟩:ByteArray).data.toList=[10]from rfl,ad]at KC;have av:=Hm he;clear he ad KL
   gi_wp2_with fail
   refine⟨trivial,?_⟩
   rw[<- m]
   refine(CallsIn.inRound l' (callsIn_wide.2 KC.o)).mono ?_
   rintro e w' ⟨rfl,d⟩;have d:=d.symm;subst d;clear m KC;have HF:=Hm (gr_up D.o.frame (JF W2 (V.heap.size+1) 0 (U O X)) (by omega))
   gi_wp2
   refine⟨trivial,?_⟩
   gi_wp2
   refine⟨ah.o W2 _ (λk _ _=>rfl),c,x,Z',rfl,a7.o,by rw[av.o];rfl,?_,HF.o⟩
   rw[<- ar.o]
   exact bu.o.set _
  |true =>
   have ad:Lib.hasSuffix x [10]=true:=he;rw[show(⟨#[10]⟩:ByteArray).data.toList=[10]from rfl,ad]at KC;have av:=Hm he;clear he ad
   gi_wp2_with fail
   refine⟨trivial,?_⟩
   rw[<- m]
   refine(CallsIn.inRound l' (callsIn_wide.2 KC.o)).mono ?_
   rintro e w' ⟨rfl,d⟩;have d:=d.symm;subst d;clear m KC
   gi_wp2_with fail
   refine⟨trivial,?_⟩
   refine(CallsIn.inRound l' (callsIn_wide.2 KL.o)).mono ?_
   rintro e w4 ⟨ok,ak,cb,rfl,a0,k1,k2⟩;have au:Hid (∀k,k<W3.heap.size->k≠R->w4.heap[k]?=W2.heap[k]?):=λk j hne=>(a0.gr.block k j (λe=>hne (Option.some.inj e))).trans (D.o.s.gr.block k j (λe=>hne (Option.some.inj e))).symm;have bo:=Hm a0;have dr:w4.cell? ⟨V.heap.size+1+1,0,none⟩=some (U O X):=(Kx (au.o (V.heap.size+1+1) (by have:=a6.o;omega) (by omega))).trans bh;have ao:Boxed w4 (V.heap.size+1) 2 (U O 0):=(au.o _ (by have:=a6.o;omega) (by omega)).trans bu.o;have dv:=ao.cell;have dm:=ao.frozen;have bv:=Hm ao;have bq:=Hm (And.intro k1 k2);clear KL a0 k1 k2 ao
   cases ok with
   |true =>
    gi_wp2
    obtain⟨Z2,g1,g2⟩:=bq.o.1 (by simp);obtain⟨r1,r2⟩:=ay.o w4 au.o
    refine⟨r1,r2,Z2,?_,W3,ak,cb,⟨D.o.ag,D.o.c2,D.o.b4,?_,D.o.bs,.inr a6.o,D.o.hB,bo.o,g2⟩⟩
    . rw[runF_snoc,a7.o]
      simp only[Pq]
      rw[if_pos av.o]
      exact X5.2 g1
    . have:=D.o.b5
      simpa using this
   |false =>
    have HF:=Hm (gr_up (Ql D.o.ag bo.o.gr) (JF w4 (V.heap.size+1) 0 (U O X)) (by omega))
    gi_wp2
    refine⟨ah.o w4 _ au.o,c,x,Z',rfl,a7.o,?_,?_,HF.o⟩
    . rw[if_pos av.o]
      exact lineF_none.2 (λhx=>by simpa using bq.o.2 hx)
    . rw[<- ar.o]
      exact bv.o.set _
 case done=>
  rintro M ys W hD rfl ⟨Z',hr,W1,a,q,I⟩ hK;obtain⟨d2,d4,d5⟩:=I.at5 b5;have KW:=Hm (whole_c W1 R (.map (some mb)) a q W Z' I.s I.r);have dj:(lns t).length<=300000:=by omega
  obtain⟨X,u⟩:∃X:Int,X=(((lns t).length+1:Nat):Int):=⟨_,rfl⟩;have hw:IntKind.i64.wrap (((lns t).length:Int)+1)=X:=by rw[u,Kw];omega
  have ar:=Hm u;have L:=Hm (textF_run hr 0);obtain⟨W2,m⟩:∃W2,W2=W.drew:=⟨_,rfl⟩;have c4:Boxed W2 (V.heap.size+1) 2 (U O 0):=by rw[m];exact d4
  have c5:W2.cell? ⟨V.heap.size+1+1,0,none⟩=some (U O ((lns t).length:Int)):=by rw[m];exact d5.cell
  have du:=c4.cell;have dt:=c4.frozen;have ct:=Hm c4;have a3:W2.heap[M]?=some (.deferred (some [])):=by rw[m];exact hK
  have br:=Hm a3;have cr:Hid (V.grownBy W2 (some R)):=by show V.grownBy _ _;rw[m];exact Ql I.frame ⟨rfl,rfl,rfl,lRz,λ_ _ _=>rfl⟩
  have bp:Hid (Own R W2 (box 62 18 R a::q)):=by show Own _ _ _;rw[m];exact I.s.own.cq (λk _=>rfl)
  have bm:=Hm I.r;have bt:Hid (∀k∈blk q,B<=k):=λk j=>Kf I.hB (I.s.ge k j);have co:Hid (M∉blk (box 62 18 R a::q)):=by
   intro j;obtain⟨y,hy,e2⟩:=QF.1 j;rcases(bp.o.all y hy).2 with ⟨e0,_⟩|⟨g,dq,dp,hv,_,bj,_⟩
   . rw[e0]at e2;cases e2
   rw[hv]at e2;simp[Lc]at e2;subst e2;rw[a3]at bj;cases bj
  have cp:Hid (V.heap.size+1∉blk (box 62 18 R a::q)):=by
   intro j;rw[show blk (box 62 18 R a::q)=R::blk q from rfl]at j;rcases List.mem_cons.1 j with j|j
   . omega
   have:=bt.o _ j;omega
  have bw:Hid (∀v:Vu,((W2.setCell ⟨V.heap.size+1,0,none⟩ v).heap[M]?=some (.deferred (some [])))/\(((W2.setCell ⟨V.heap.size+1,0,none⟩ v).putObj M (.deferred none)).cell? ⟨V.heap.size+1,0,none⟩=some v)/\V.grownBy ((W2.setCell ⟨V.heap.size+1,0,none⟩ v).putObj M (.deferred none)) (some R)/\Own R ((W2.setCell ⟨V.heap.size+1,0,none⟩ v).putObj M (.deferred none)) (box 62 18 R a::q)):=by intro v;have Y:∀k,k≠V.heap.size+1->(W2.setCell ⟨V.heap.size+1,0,none⟩ v).heap[k]?=W2.heap[k]?:=λk j=>Hk _ _ _ _ (λe=>j (by simpa using e));have g1:=JF W2 (V.heap.size+1) 0 v;have g2:(W2.setCell ⟨V.heap.size+1,0,none⟩ v).grownBy ((W2.setCell ⟨V.heap.size+1,0,none⟩ v).putObj M (.deferred none)) (some M):=grownBy_putObj' _ M (.deferred none);refine⟨(Y M (by omega)).trans br.o,?_,gr_up (gr_up cr.o g1 (by omega)) g2 (by omega),(bp.o.grown g1 (λk j=>by cases j;exact cp.o)).grown g2 (λk j=>by cases j;exact co.o)⟩;exact(Kx (Mz (show V.heap.size+1≠M by omega))).trans (ct.o.set v).cell
  clear hr I hK d4 d5 a3 c4 u;cases hwb:Xa Z' with
  |true =>
   rw[hwb]at KW;have af:=Hm hwb;clear hwb
   gi_wp2_with fail
   refine⟨trivial,?_⟩
   refine(callsIn_wide.2 KW.o).mono ?_
   rintro e w' ⟨rfl,d⟩;rw[<- m]at d;have d:=d.symm;subst d;clear m KW
   gi_wp2
   obtain⟨k1,k2,k3,k4⟩:=bw.o (U O 0)
   refine⟨by simp,.inl ⟨_,_,rfl,run_takeDeferred k1,?_⟩⟩
   refine⟨U O 0,by simp[results,results15,go_sem,k2],?_,k3,λZ2 h2=>?_⟩
   . rw[L.o,if_pos af.o]
   . rw[L.o,if_pos af.o]at h2
     cases h2
     exact⟨W1,a,q,k4,λk j=>by have:=bt.o k j;omega,bm.o⟩
  |false =>
   rw[hwb]at KW;have af:=Hm hwb;clear hwb
   gi_wp2_with fail
   refine⟨trivial,?_⟩
   refine(callsIn_wide.2 KW.o).mono ?_
   rintro e w' ⟨rfl,d⟩;rw[<- m]at d;have d:=d.symm;subst d;clear m KW
   gi_wp2
   obtain⟨k1,k2,k3,k4⟩:=bw.o (U O X)
   refine⟨by simp,.inl ⟨_,_,rfl,run_takeDeferred k1,?_⟩⟩
   refine⟨U O X,by simp[results,results15,go_sem,k2],?_,k3,λZ2 h2=>?_⟩
   . rw[L.o,if_neg (by rw[af.o];decide),ar.o];simp
   . rw[L.o,if_neg (by rw[af.o];decide)]at h2
     cases h2
 rintro M c W hD ⟨k,j⟩ ⟨p,x,Z',rfl,hr,hx,a1,z⟩ hK;have ai:∃r,lns t=p++x::r:=⟨(lns t).drop k,by
  have h1:=Ld k (lns t);rw[<- j,List.append_assoc]at h1
  exact h1.symm⟩
 obtain⟨r,ai⟩:=ai;have L:=Hm (textF_stop (r:=r) hr hx 0);have bn:=Hm ai;have cw:=Hm a1;clear hr hx ai j;gi_wp2
 refine⟨by simp,.inl ⟨_,_,rfl,run_takeDeferred hK,?_⟩⟩;have k2:(W.putObj M (.deferred none)).cell? ⟨V.heap.size+1,0,none⟩=some (U O ((N p+1:Nat):Int)):=(Kx (Mz (show V.heap.size+1≠M by omega))).trans cw.o.cell;refine⟨U O ((N p+1:Nat):Int),by simp[results,results15,go_sem,k2],?_,gr_up z (grownBy_putObj' _ M (.deferred none)) (by omega),λZ2 h2=>?_⟩
 . rw[bn.o,L.o];simp
 rw[bn.o,L.o]at h2;cases h2
open Go.RowKit Go.Sort Go.WideMaps Go.Maps
theorem sec_find:secL.all (λp=>(JT 192 p.1).isNone)=true:=by decide +kernel
theorem sec_none (h:JT 192 s=some j):Xc s=none:=by
 cases hs:Xc s with
 |none=>rfl
 |some k =>
  unfold Xc at hs;rw[Tz]at hs;obtain⟨p,a,-⟩:=hs;have b:=Mw a;have c:p.1=s:=by have:=If a;simpa using this
  have:=List.all_eq_true.1 sec_find p b
  rw[c,h]at this
  cases this
def wsL:List Wd:=[[100,97,116,97],[99,111,100,101],[101,108,101,109],[103,108,111,98,97,108],[115,116,97,114,116],[101,120,112,111,114,116],[109,101,109,111,114,121],[116,97,98,108,101],[102,117,110,99],[105,109,112,111,114,116],[116,121,112,101],[99,117,115,116,111,109]]
theorem sec_mem (s:Wd):s∈wsL ↔ (Xc s).isSome=true:=by
 constructor
 . intro h;(have:wsL.all (λx=>(Xc x).isSome)=true:=by decide);exact List.all_eq_true.1 this s h
 intro h;unfold Xc at h;rw[Hf]at h;obtain⟨p,a⟩:=Option.isSome_iff_exists.1 h;have b:=Mw a;have c:p.1=s:=by have:=If a;simpa using this
 have:secL.all (λx=>wsL.contains x.1)=true:=by decide
 have:=List.all_eq_true.1 this p b;rw[c]at this;simpa using this
theorem str_inv (a:Vu)(b:Lit)(h:keyOf Q 9 a=some b):∃x:ByteArray,a=.string x/\b=.string x.data.toList:=by
 cases a<;>simp[keyOf,underlying9,mapKey]at h
 obtain⟨-,rfl⟩:=h;exact⟨_,rfl,rfl⟩
def St0:St:=⟨Mod.z,0,none⟩
def rs0:List Qb:=[⟨137,2,0,S none 0 0,[]⟩,⟨143,9,0,S none 0 0,[]⟩,⟨2,1,0,S none 0 0,[]⟩,⟨120,3,0,S none 0 0,[]⟩,⟨120,3,0,S none 0 0,[]⟩,⟨76,3,0,S none 0 0,[]⟩,⟨157,3,0,S none 0 0,[]⟩,⟨78,2,0,S none 0 0,[]⟩,⟨81,2,0,S none 0 0,[]⟩,⟨83,2,0,S none 0 0,[]⟩,⟨131,3,0,S none 0 0,[]⟩]
theorem sr_new (W1:J)(R mb:Nat):SR W1 R (.map (some mb)) St0 (c0 mb) rs0:=by
 refine⟨rfl,rfl,⟨rs0.map (λr=>[r]),[],⟨(show 13<=18 by decide),rfl,rfl,rfl,?_,?_,?_,?_,?_,?_,?_,?_,?_,?_,?_⟩,?_,⟨⟨none,0,rfl⟩,rfl⟩⟩,λj b=>?_⟩
 all_goals first
  |exact⟨_,[],[],rfl,rfl,LR.nil _⟩
  |(rw[Tb];exact Im _)
  |skip
 unfold c0;match j with
 |0|1|2|3|4|5|6|7|8|9|10|11|12|13|14|15|16|17=>simp
 |j+18=>simp
theorem own_new (h:W.heap[R]?=some (Fc (c0 mb).toArray 62 (0,0))):Own R W (box 62 18 R (c0 mb)::rs0):=by
 refine⟨λr a=>?_,?_⟩
 . rcases List.mem_cons.1 a with rfl|a
   . exact⟨rfl,.inr ⟨R,1,(c0 mb).toArray,rfl,lRz,h,lRz,by decide,rfl,rfl⟩⟩
   (have:r.v=S none 0 0/\r.n=0/\r.cs=[]:=by unfold rs0 at a;simp at a;rcases a with rfl|rfl|rfl|rfl|rfl|rfl|rfl|rfl|rfl|rfl|rfl<;>exact⟨rfl,rfl,rfl⟩);refine⟨?_,.inl ⟨this.1,this.2.1⟩⟩;rw[this.2.1,this.2.2];simp
 show [R].Nodup;simp
theorem Bd.fin {w0:J}{n:Nat}{D:DataW Vu}{ws:List Wd}(h:Bd w0 R mb n D ws V)(c:Vs w0.heap.size w0)(b:∀s:Wd,s∈ws ↔ (Xc s).isSome=true\/0<=Qt s):Env V R mb/\Sr V R (c0 mb) rs0 V:=by
 refine⟨⟨⟨n,D,h.map,λs=>⟨h.cl s,λhf=>?_⟩⟩,h.hm.2,(c.keep h.bel).up h.hR⟩,own_new h.box,λk hk=>?_,World.grownBy.refl _ _,h.ltR⟩
 . (have a:¬s∈ws:=λhm=>by have:=(h.hs s).2 hm;rw[hf]at this;cases this);rw[b s]at a;refine⟨?_,by omega⟩;cases hs:Xc s with
   |none=>rfl
   |some k=>exact absurd (.inl (by rw[hs];rfl)) a
 have:blk rs0=[]:=rfl;rw[this]at hk;cases hk
theorem new_c (w:J)(hV:Vs w.heap.size w):Ec Q 14 #[] w λe w'=>∃R mb,e=Z (ptr R 0)/\w.heap.size<=R/\Bw w.heap.size w w'/\Env w' R mb/\Sr w' R (c0 mb) rs0 w':=by
 have ch:=@run_makeMap Q;obtain⟨mb,ar⟩:∃mb,mb=w.heap.size:=⟨_,rfl⟩;obtain⟨R,hR⟩:∃R,R=w.heap.size+1:=⟨_,rfl⟩;obtain⟨b1,a0⟩:∃b,b=w.heap.size+1+1:=⟨_,rfl⟩;obtain⟨V,p⟩:∃V,V=((w.alloc (.map #[] 0)).alloc (Fc (c0 mb).toArray 62)).alloc (Fc #[ptr R 0] 53):=⟨_,rfl⟩;have m:Bd w R mb 0 (.map []) [] V:=by
  refine⟨?_,by omega,by omega,?_,?_,isMap_empty,(λs hs=>by cases hs),(λs=>⟨(λhs=>by cases hs),(λhs=>by cases hs)⟩)⟩
  . rw[p];exact((bFz.alloc lRz _).alloc (by simp) _).alloc (by simp;omega) _
  . rw[p,hR];have h1:=Aj (w.alloc (.map #[] 0)) (Fc (c0 mb).toArray 62);rw[Aw]at h1;exact(Jy _ _ _ (by simp)).trans h1
  rw[p,ar];exact((World.ownsMap_made w Q 9 RV).alloc _).alloc _
 have HB:Hid (Bt V R b1 (ptr R 0)):=by show Bt _ _ _ _;have:=QU (V:=(w.alloc (.map #[] 0)).alloc (Fc (c0 mb).toArray 62)) (W:=V) (R:=R) (v:=ptr R 0) (t:=53) (by rw[hR];simp) (by rw[p];exact bFz);rw[a0];simpa using this
 have cp:=Hm hV;have cb:=HB.o.1;have K1:=Hm (addCustom_c w V R mb 0 (.map []) [] m (by omega));have bw:=Hm m;clear m hV;go_enter func14,ntmps14;go_upto_region 2 with fail
 rw[<- a0,<- hR,<- ar];rw[show(((w.alloc (.map #[] 0)).alloc (Fc #[S none 0 0,S none 0 0,S none 0 0,S none 0 0,S none 0 0,S none 0 0,S none 0 0,G false,U O 0,S none 0 0,S none 0 0,S none 0 0,S none 0 0,U O 0,.map (some mb),S none 0 0,S none 0 0,.nilFunc] 62)).alloc (Fc #[ptr R 0] 53))=V from p.symm];clear p ar hR a0 ch;go_wp2_with fail
 refine K1.o.mono ?_;rintro e v1 ⟨rfl,g1,D1,bn⟩;have a4:=Hm (Jo bw.o g1 HB.o);have K2:=Hm (addEntries_c w v1 R mb 1 D1 _ bn (by omega));clear K1 g1 bn cb bw HB;have cb:=a4.o.1;go_wp2_with fail
 refine K2.o.mono ?_;rintro e v2 ⟨rfl,g2,D2,bm⟩;have a3:=Hm (g2 _ _ a4.o);have K3:=Hm (addHeads_c w v2 R mb 8 D2 _ bm (by omega));clear K2 g2 bm cb a4;have cb:=a3.o.1;go_wp2_with fail
 refine K3.o.mono ?_;rintro e v3 ⟨rfl,g3,D3,bl⟩;have b2:=Hm (g3 _ _ a3.o);have ab:Hid (Bd w R mb 12 D3 wsL v3):=bl;have K4:=Hm (opNames_c v3);clear K3 g3 bl cb a3;go_wp2_with fail
 refine K4.o.mono ?_;rintro e v4 ⟨Do,rfl,L,B,ay⟩;have aa:=Hm (ab.o.below ay);have bz:Hid (Bt v4 R b1 (ptr R 0)):=Bt.to (λk hk _=>ay.block k hk) b2.o;obtain⟨ob,aq⟩:∃b,b=v3.heap.size:=⟨_,rfl⟩;have bg:Hid (ob≠mb/\w.heap.size<=ob):=by
  refine⟨?_,?_⟩
  . have:=ab.o.map.lt;omega
  have:=ab.o.le;omega
 rw[<- aq]at L;rw[<- aq];have HG:=Hm B;clear aq K4 ay ab b2 B;go_wp2_with (at_range;refine wpList_range_own _ rfl _ 84 rfl 9 2 law9 underlying84 (plainElem Q 2) ob 192 Do rfl L ?_;intro v5 a bk bc;have Y:=Hm (And.intro a (And.intro bk bc));clear a bk bc)
 go_frame
 obtain⟨r,hr⟩:∃r,r=v4.heap.size:=⟨_,rfl⟩;rw[<- hr];have a:=Y.o.1;rw[<- hr]at a;have bu:=Hm a;have bp:Bd w R mb 12 D3 wsL v5:=aa.o.turn (r:=none) Y.o.2.1 (λk hk=>by cases hk);have bq:Bt v5 R b1 (ptr R 0):=Bt.to (λk hk _=>Y.o.2.1.block k hk (by simp)) bz.o;have br:=Hm (And.intro bp bq);have ao:Hid (w.heap.size<=r/\r≠mb):=by
  refine⟨?_,?_⟩
  . have:=aa.o.le;omega
  have:=aa.o.map.lt;omega
 have cd:Hid (Maps.size Do<=192):=by obtain⟨es,H,-,-,h1,rfl⟩:=L;show _<=_;simp only[Maps.size,length_sorted,List.length_map,Array.length_toList];exact h1
 clear hr a bp bq aa bz Y L;go_loopw [] (λwr=>∃(left:Lit->Bool) (X n:Nat) (D:DataW Vu) (ws:List Wd),wr.ranges Q 9 (plainElem Q 2) ob r 192 Do left X/\n+X<=300/\Bd w R mb n D ws wr/\Bt wr R b1 (ptr R 0)/\(∀s:Wd,s∈ws ↔ (Xc s).isSome=true\/(has Do (.string s)=true/\left (.string s)=false))) (λwr=>wr.rangeLeft ob r)
 case atStart=>
  refine⟨_,_,12,D3,wsL,bu.o,by have:=cd.o;omega,br.o.1,br.o.2,λs=>?_⟩;rw[sec_mem];constructor
  . exact λh=>.inl h
  rintro(h|⟨h1,h2⟩)
  . exact h
  rw[h1]at h2;cases h2
 obtain⟨left,X,n,D,ws,bd,dc,m,aw,bb⟩:=hrel;have a2:=Hm bd;have d:=Hm (And.intro m aw);have bs:=Hm bb;have cb:=aw.1;clear m aw bb
 go_wp2_with (first
  |(at_next;refine wpList_next_ranges _ rfl _ rfl 9 law9 (plainElem Q 2) Pw (Value.int O) (λkey kl h=>by obtain⟨x,e,-⟩:=str_inv key kl h;exact⟨x,e⟩) (λv y h=>by obtain⟨c,e,-⟩:=plainElem_int_inv underlying2 h;exact⟨c,e⟩) ob r 192 Do left X rfl bd ?_ ?_)
  | fail)
 . intro dd bj;have cr:=Hm bj;clear bj;go_wp2;go_ret;obtain⟨hE,cl⟩:=d.o.1.fin cp.o (by
    intro s
    rw[bs.o s,cr.o,(HG.o.2 s).1];unfold Qt
    cases JT 192 s with
    |none=>simp
    | some j=>simp)
   exact⟨R,mb,rfl,d.o.1.hR,d.o.1.bel,hE,cl⟩
 intro x c kl ya yb w1 ah A bh ba M q ci av ce ck;obtain⟨x',ex,rfl⟩:=str_inv _ _ A;cases ex;obtain⟨t,ht⟩:∃t:Wd,t=x.data.toList:=⟨_,rfl⟩;obtain rfl:x=Sz0 t:=by rw[ht];simp[Sz0]
 rw[QB]at A bh M q;clear ht;obtain⟨c',ec,ey,cc⟩:=plainElem_int_inv underlying2 ba;cases ec;cases ey;obtain⟨j,hj,au⟩:∃j,JT 192 t=some j/\c=(j:Int):=by
  have h2:=(HG.o.2 t).2 (.lit (.int O 0));have h3:=M (.lit (.int O 0));rw[h2]at h3;cases hf:JT 192 t with
  |none =>
   exfalso
   have h4:=(HG.o.2 t).2 .nil;have h5:=M .nil;rw[h4,hf]at h5
   cases h5
  |some j=>rw[hf]at h3;cases h3;exact⟨j,rfl,rfl⟩
 have ae:has Do (.string t)=true:=by rw[(HG.o.2 t).1,hj];rfl
 have ak:=sec_none hj;have C:Qt t=c:=by unfold Qt;rw[hj,au]
 have E:Bd w R mb n D ws w1:=d.o.1.turn av (fun k hk=>by
  cases hk
  refine⟨ao.o.1,ao.o.2,?_⟩
  obtain⟨es,H,ai,a9,cn,-,-,-,-,h5,-⟩:=a2.o
  exact⟨_,h5,rfl⟩)
 have ag:Bt w1 R b1 (ptr R 0):=by refine⟨(Kx (av.block b1 (Kh _ _ d.o.2.1) (λe=>?_))).trans d.o.2.1,d.o.2.2⟩;have e2:b1=r:=Option.some.inj e;obtain⟨es,H,ai,a9,cn,-,-,-,-,h5,-⟩:=a2.o;have h6:=d.o.2.1;rw[e2]at h6;simp[Rq,h5]at h6
 obtain⟨W2,F⟩:∃W,W=w1.alloc (Fc #[U O c] 2):=⟨_,rfl⟩;obtain⟨b3,az⟩:∃b,b=w1.heap.size:=⟨_,rfl⟩;have ax:Bw w1.heap.size w1 W2:=by rw[F];exact bFz.alloc lRz _
 have l:=E.below ax;have g:Bt W2 R b1 (ptr R 0):=Bt.to (λk hk _=>ax.block k hk) ag;have af:Bt W2 R b3 (U O c):=by rw[F,az];exact QU E.ltR bFz
 have bo:CL W2 R t (.func (.func 29) #[] #[ptr b1 0,ptr b3 0]):=by unfold CL;rw[ak,C];exact⟨by rw[au];omega,_,_,rfl,g,af⟩
 have ad:W2.ranges Q 9 (plainElem Q 2) ob r 192 Do (λz=>left z&&!z.sameKey (.string t)) ah:=by rw[F];exact q.alloc _
 have bt:=Hm ad;have I:=Hm (And.intro l g);have cs:=Hm bo;have HH:=Hm (And.intro ae ak);have bv:=Hm ci;have c14:=l.c14;have dk:=g.1;have bf:=l.map;have cj:WideAt.IsKeyLit (.string t):=by simp[WideAt.IsKeyLit]
 clear E ag l g af bo ad ax q av ce M bh ba cc hj au ae ak C cb;go_upto_region 8 with fail
 rw[<- F,<- az];clear F az ck;go_wp2_with (at_mapUpdate;refine wpList_mapUpdate_own _ rfl _ _ _ 56 rfl 9 89 law9 underlying56 RV mb n D rfl bf (by unfold maxLen;omega) _ _ (.string t) rfl rfl A (.held (.func (.func 29) #[] #[ptr b1 0,ptr b3 0])) [] rfl ?_;intro w3 u f;have HO:=Hm (And.intro u f);clear u f)
 go_frame
 have ac:=bt.o.kept HO.o.2 (λe=>bg.o.1 (Option.some.inj e)) (λe=>ao.o.2 (Option.some.inj e));go_roundw
 case rel=>
  refine⟨_,ah,n+1,_,t::ws,ac,by have:=bv.o;omega,I.o.1.put HO.o.2 HO.o.1 cs.o,Jo I.o.1 HO.o.2 I.o.2,λs=>?_⟩;by_cases e:s=t
  . subst e;simp only[mS,true_iff];refine .inr ⟨HH.o.1,?_⟩;rw[WideAt.sameKey_self cj];simp
  have cg:(Lit.string s).sameKey (.string t)=false:=by
   cases h:(Lit.string s).sameKey (.string t)with
   |false=>rfl
   |true=>have:=WideAt.sameKey_eq h;exact absurd (by injection this) e
  rw[List.mem_cons,bs.o s,cg];simp[e]
 case measure=>rw[ac.left_eq,a2.o.left_eq];exact bv.o
