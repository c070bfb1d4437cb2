import Derived.Test.YtaccbbndmmhenaaGreatGaw
set_option linter.all false
set_option maxHeartbeats 400000000
set_option maxRecDepth 100000
namespace Go.Proofs
open Value renaming int->U,slice->S,bool->G,agg->Ag
open IntKind renaming i64->O
open Ending renaming returned->Z
open Obj renaming cells->Fc
open Go renaming World->J,Calls->Ec,Value->Vu,Addr->Ad
open Tryz renaming prog->Q
open Tryz
open List renaming length->N
namespace YtaccbbndmmhenaaGreat.Va
open Go.RowKit Go.Sort
variable {V:J}{rs:List Qb}
theorem row_has {B:Nat}{b:List Int}{v:Vu}(h:V.ownsRow B 2 1 v (N b) (I b)):∃a c,v=S a (N b) c/\Has V a b:=by
 by_cases d:N b=0
 . have:b=[]:=List.length_eq_zero_iff.1 d;subst this;rcases h.2 with ⟨e,_⟩|⟨g,cap,f,e,_⟩
   . exact⟨_,_,e,.inl rfl⟩
   exact⟨_,_,e,.inl rfl⟩
 obtain⟨g,cap,e,_⟩:=own_split h (by omega);subst e;exact⟨_,_,rfl,own_has h⟩
theorem eqS_c (ok g:Bool)(a b)(c k:Nat)(d:List Int)(V)(q:N d<=1099511627776)(p:Has V a d)(m:Has V b d):Ec Q 8 #[Ag #[G ok,G g,S a (N d) c],Ag #[G ok,G g,S b (N d) k]] V λe w'=>e=Z (G true)/\Below V.heap.size V w':=by
 obtain⟨W,l⟩:∃W,W=(V.alloc (Fc #[G ok,G g,S a (N d) c] 36)).alloc (Fc #[G ok,G g,S b (N d) k] 36):=⟨_,rfl⟩;have j:Mo V.heap.size V [] V:=⟨Own.nil _ _,bFz,lRz⟩;have f:Mo V.heap.size V [box 36 3 (V.heap.size+1) [G ok,G g,S b (N d) k],box 36 3 V.heap.size [G ok,G g,S a (N d) c]] W:=by have:=(j.box (cur:=#[G ok,G g,S a (N d) c]) 36 3 rfl).box (cur:=#[G ok,G g,S b (N d) k]) 36 3 rfl;rw[l];simpa using this
 have B:=(f.tail.b0 0).1;have A:=(f.tail.b0 1).1;have z:=(f.tail.b0 2).1;have y:=(f.b0 0).1;have v:=(f.b0 1).1;have u:=(f.b0 2).1;have s:=Hm (eq_any a b c k d W q (p.keep f.b) (m.keep f.b));have r:=Hm f.b;clear j f p m;go_enter func8,ntmps8;go_upto_region 1 with fail
 rw[<- l];clear l;go_wp2_with fail
 refine s.o.mono ?_;rintro e t ⟨rfl,n,rfl⟩;go_wp2;go_ret;exact⟨rfl,Qo r.o n⟩
theorem heldS_c (ok d:Bool)(a)(c n:Nat)(V)(g:n<=1099511627776)(f:Has V a (Ju 1 n)):Ec Q 12 #[Ag #[G ok,G d,S a n c],U O 1] V λe w'=>e=Z (U O (1+n))/\Below V.heap.size V w':=by
 have b:Below V.heap.size V (V.alloc (Fc #[G ok,G d,S a n c] 36)):=bFz.alloc lRz _;have j:=Hm (held_any a c n 1 (V.alloc (Fc #[G ok,G d,S a n c] 36)) (by omega) g (f.keep b));have k:=Hm b;clear f b;go_enter func12,ntmps12;go_wp2_with fail
 refine j.o.mono ?_;rintro e l ⟨rfl,rfl⟩;go_wp2;go_ret;exact⟨rfl,k.o⟩
theorem Mo.grow {D g:Nat}{b W:J}{r r':Qb}(h:Mo D b (r::rs) V)(c:V.grownBy W (some g))(hr:r.v.ownBlock=some g)(a:r'.v=r.v)(own:r'.Ok D W):Mo D b (r'::rs) W :=
 h.push (V1:=V) bFz (by rw[hr];exact c) own (.inl (by rw[a]))
theorem markI_m {D w0 V}(a:Option Ad)(c:Nat)(b:List Int)(d:Mo D w0 (⟨2,1,N b,S a (N b) c,I b⟩::rs) V)(j:N b<=1099511627776):Ec Q 59 #[S a (N b) c,U O 1] V λe w'=>e=Z (U O (1+N b))/\Mo D w0 (⟨2,1,N b,S a (N b) c,I (Ju 1 (N b))⟩::rs) w':=by
 by_cases f:N b=0
 . have:b=[]:=List.length_eq_zero_iff.1 f;subst this;exact(mark_nil a c 1 V).mono λe w' ⟨he,hw⟩=>⟨by rw[he];rfl,by subst hw;exact d⟩
 obtain⟨g,cap,e,k⟩:=own_split (show V.ownsRow D 2 1 (S a (N b) c) (N b) (I b)from d.own.head) (by omega);cases e;exact(mark_any D g (N b) c 1 b V (by omega) j d.own.head).mono λe w' ⟨he,ho,hgr⟩=>⟨by rw[he];rfl,d.grow (r':=⟨2,1,N b,S (some ⟨g,0,none⟩) (N b) c,I (Ju 1 (N b))⟩) hgr rfl rfl ho⟩
theorem markS_c {D w0 V}(ok j:Bool)(a:Option Ad)(c:Nat)(b:List Int)(f:Mo D w0 (⟨2,1,N b,S a (N b) c,I b⟩::rs) V)(l:N b<=1099511627776):Ec Q 11 #[Ag #[G ok,G j,S a (N b) c],U O 1] V λe w'=>e=Z (U O (1+N b))/\Mo D w0 (⟨2,1,N b,S a (N b) c,I (Ju 1 (N b))⟩::rs) w':=by
 have g:Below V.heap.size V (V.alloc (Fc #[G ok,G j,S a (N b) c] 36)):=bFz.alloc lRz _;have k:=Hm (markI_m a c b (f.keep g) l);obtain⟨n,d⟩:∃n,n=N b:=⟨_,rfl⟩;rw[<- d]at k⊢;clear g f d;go_enter func11,ntmps11;go_wp2_with fail
 refine k.o.mono ?_;rintro e p ⟨rfl,h⟩;have m:=Hm h;clear h;go_wp2;go_ret;exact⟨rfl,m.o⟩
theorem Mo.bet {D B C:Nat}{a W:J}{rs}(h:Mo D a rs V)(t:Bet B C V W)(c:D<=B)(hr:∀k,k∈blk rs->k<B\/C<=k):Mo D a rs W :=
 ⟨h.own.cq λk hk=>t.block k ((hr k hk).imp id λhc=>⟨hc,(h.own.lt hk).2⟩),h.b.trans (t.below.mono c),Nat.le_trans h.le t.size⟩
theorem mk_of {g d:J}(h:Go.Proofs.YtaccbbndmmhenaaGreat.NF.Below g.heap.size g d)(f:Below d.heap.size d V):Mk g.heap.size d V:=by
 refine⟨λb o a n c hc=>(f.cell (p:=⟨b,o,none⟩) (World.block_lt_of_cell? d _ hc)).trans hc,λb o v hc=>⟨v,(f.cell (p:=⟨b,o,none⟩) (World.block_lt_of_cell? d _ hc)).trans hc⟩,λb o h1 h2=>?_,f.size,h.size⟩;rw[f.frozen (p:=⟨b,o,none⟩) h2];cases hf:d.frozen? ⟨b,o,none⟩with
 |false=>rfl
 |true =>
  have:=h.nz _ hf
  unfold World.frozen? at this;rw[Array.getElem?_eq_none (show g.heap.size<=b from h1)]at this
  simp at this
