import Derived.Test.YtedcmcdbejjgcaaGreatGaa
import Derived.Test.YtedcmcdbejjgcaaGreatGab
import Derived.Test.YtedcmcdbejjgcaaGreatGac
import Derived.Test.YtedcmcdbejjgcaaGreatGad
import Derived.Test.YtedcmcdbejjgcaaGreatGae
import Derived.Test.YtedcmcdbejjgcaaGreatGaf
import Derived.Test.YtedcmcdbejjgcaaGreatGag
import Derived.Test.YtedcmcdbejjgcaaGreatGah
import Derived.OwnWalk
import Derived.Handy
import Derived.Deep.OwnRows
import Derived.Laws.MakeOwn
import Derived.Laws.OwnMore
import Derived.Lib.QuietBelow
import Derived.Maps.AppendAt
import Derived.Laws.AppendOwn
import Derived.Deep.RegionLaw
import Derived.Laws.BitsLemmas
import Derived.Deep.Cut
import Derived.Deep.DeepCutAuto
set_option linter.all false
set_option maxHeartbeats 400000000
set_option maxRecDepth 100000
namespace Go.Proofs.YtedcmcdbejjgcaaGreat.Rp
open Go.RowKit Go.Sort
structure AT where
 ops:List Oper
 N:Nat
 vs:List Value
 i1:Nat
 i2:Nat
 L:Nat
 S:World->Prop
 A:World->Value->Prop
 w1:World
 w2:World
 a0:Act
def AT.pt (T:AT):PT:=⟨T.ops,T.N,λi _ v=>i=T.i2\/i=T.L\/v=T.vs.getD i undef,λ_ _=>True,T.w1,T.a0⟩
structure AT.Ph (T:AT)(l:Array Bool)(a:Act)(W:World):Prop where
 h1:l.getD T.i1 false=false->W=T.w1
 h2:l.getD T.i1 false=true->l.getD T.i2 false=false->W=T.w2
 h3:l.getD T.i2 false=true->T.A W (at_ a (QA T.ops T.i2))
 hL:l.getD T.L false=false
structure AT.Fin (T:AT)(a:Act)(W:World):Prop where
 sz:a.tmps.size=T.N
 df:a.defers=T.a0.defers
 va:∀ i,i<T.L->i≠T.i2->at_ a (QA T.ops i)=T.vs.getD i undef
 ap:T.A W (at_ a (QA T.ops T.i2))
 sm:∀ s,(∀ i,i<T.ops.length->QA T.ops i≠some s)->a.eval (.tmp s)=T.a0.eval (.tmp s)
def StepX (P:Program)(T:AT)(Q:Exit->Act->World->Prop)(i:Nat)(o:Oper):Prop :=
 if i=T.L then ∀ (a:Act) (W:World) (K:Act->World->Prop),T.Fin a W->(∀ v W',Q .normal (a.put o.dst v) W'->K (a.put o.dst v) W')->if Region.wanted o (yielded T.ops.toArray a.tmps) then o.wp P a W K Q else K (a.put o.dst undef) W
 else if i=T.i2 then ∀ (a:Act) (K:Act->World->Prop),T.pt.Fx i a T.w2->(∀ v W,T.A W v->K (a.put o.dst v) W)->if Region.wanted o (yielded T.ops.toArray a.tmps) then o.wp P a T.w2 K Q else K (a.put o.dst undef) T.w2
 else if i=T.i1 then ∀ (a:Act) (K:Act->World->Prop),T.pt.Fx i a T.w1->K (a.put o.dst (T.vs.getD i undef)) T.w2->if Region.wanted o (yielded T.ops.toArray a.tmps) then o.wp P a T.w1 K Q else K (a.put o.dst undef) T.w1
 else ∀ (a:Act) (W:World) (K:Act->World->Prop),T.pt.Fx i a W->T.S W->K (a.put o.dst (T.vs.getD i undef)) W->if Region.wanted o (yielded T.ops.toArray a.tmps) then o.wp P a W K Q else K (a.put o.dst undef) W
def QX (P:Program)(T:AT)(Q:Exit->Act->World->Prop):Nat->List Oper->Prop
 |_,[]=>True
 |i,o::r=>StepX P T Q i o/\QX P T Q (i+1) r
theorem QX.nil {P:Program}{T:AT}{Q:Exit->Act->World->Prop}{i:Nat}:QX P T Q i []:=trivial
theorem QX.get {P:Program}{T:AT}{Q:Exit->Act->World->Prop}:∀ (l:List Oper) (k i:Nat) (o:Oper),QX P T Q k l->l[i]?=some o->StepX P T Q (k+i) o
 |[],k,i,o,_,h=>by simp at h
 |x::r,k,0,o,⟨h1,_⟩,h=>by simp at h;subst h;exact h1
 |x::r,k,i+1,o,⟨_,h2⟩,h=>by
  have:=QX.get r (k+1) i o h2 (by simpa using h)
  rwa [show k+1+i=k+(i+1) by omega] at this
theorem QX.c {P:Program}{T:AT}{Q:Exit->Act->World->Prop}{i:Nat}{o:Oper}{r:List Oper}(b:(!(i==T.L)&&!(i==T.i2)&&!(i==T.i1))=true)(h:∀ (a:Act) (W:World) (K:Act->World->Prop),T.pt.Fx i a W->T.S W->K (a.put o.dst (T.vs.getD i undef)) W->if Region.wanted o (yielded T.ops.toArray a.tmps) then o.wp P a W K Q else K (a.put o.dst undef) W)(hr:QX P T Q (i+1) r):QX P T Q i (o::r):=by
 simp only [Bool.and_eq_true,Bool.not_eq_true',beq_eq_false_iff_ne] at b
 refine ⟨?_,hr⟩
 unfold StepX;rw [if_neg b.1.1,if_neg b.1.2,if_neg b.2];exact h
theorem QX.l {P:Program}{T:AT}{Q:Exit->Act->World->Prop}{i:Nat}{o:Oper}{r:List Oper}(b:(!(i==T.L)&&!(i==T.i2)&&i==T.i1)=true)(h:∀ (a:Act) (K:Act->World->Prop),T.pt.Fx i a T.w1->K (a.put o.dst (T.vs.getD i undef)) T.w2->if Region.wanted o (yielded T.ops.toArray a.tmps) then o.wp P a T.w1 K Q else K (a.put o.dst undef) T.w1)(hr:QX P T Q (i+1) r):QX P T Q i (o::r):=by
 simp only [Bool.and_eq_true,Bool.not_eq_true',beq_eq_false_iff_ne,beq_iff_eq] at b
 refine ⟨?_,hr⟩
 unfold StepX;rw [if_neg b.1.1,if_neg b.1.2,if_pos b.2];exact h
theorem QX.a {P:Program}{T:AT}{Q:Exit->Act->World->Prop}{i:Nat}{o:Oper}{r:List Oper}(b:(!(i==T.L)&&i==T.i2)=true)(h:∀ (a:Act) (K:Act->World->Prop),T.pt.Fx i a T.w2->(∀ v W,T.A W v->K (a.put o.dst v) W)->if Region.wanted o (yielded T.ops.toArray a.tmps) then o.wp P a T.w2 K Q else K (a.put o.dst undef) T.w2)(hr:QX P T Q (i+1) r):QX P T Q i (o::r):=by
 simp only [Bool.and_eq_true,Bool.not_eq_true',beq_eq_false_iff_ne,beq_iff_eq] at b
 refine ⟨?_,hr⟩
 unfold StepX;rw [if_neg b.1,if_pos b.2];exact h
theorem QX.e {P:Program}{T:AT}{Q:Exit->Act->World->Prop}{i:Nat}{o:Oper}{r:List Oper}(b:(i==T.L)=true)(h:∀ (a:Act) (W:World) (K:Act->World->Prop),T.Fin a W->(∀ v W',Q .normal (a.put o.dst v) W'->K (a.put o.dst v) W')->if Region.wanted o (yielded T.ops.toArray a.tmps) then o.wp P a W K Q else K (a.put o.dst undef) W)(hr:QX P T Q (i+1) r):QX P T Q i (o::r):=by
 simp only [beq_iff_eq] at b
 refine ⟨?_,hr⟩
 unfold StepX;rw [if_pos b];exact h
theorem at_put_same {ops:List Oper}{a:Act}{i:Nat}{o:Oper}{v:Value}{N:Nat}(c:ops[i]?=some o)(d:a.tmps.size=N)(b:∀ s,QA ops i=some s->s<N):at_ (a.put o.dst v) (QA ops i)=res o v:=by
 have e:QA ops i=o.dst:=by simp [QA,c]
 rw [e] at b⊢
 cases hd:o.dst with
 |none=>simp [at_,res,hd]
 |some s =>
  show (a.put (some s) v).eval (.tmp s)=_
  rw [Act.eval_put_same a s v (by rw [d];exact b s hd)]
  simp [res,hd]
theorem at_put_ne {ops:List Oper}{a:Act}{i j:Nat}{o:Oper}{v:Value}(c:ops[i]?=some o)(b:∀ s,QA ops i=some s->QA ops j≠some s):at_ (a.put o.dst v) (QA ops j)=at_ a (QA ops j):=by
 have e:QA ops i=o.dst:=by simp [QA,c]
 rw [e] at b
 cases hj:QA ops j with
 |none=>rfl
 |some s =>
  cases hd:o.dst with
  |none=>rfl
  |some t =>
   show (a.put (some t) v).eval (.tmp s)=a.eval (.tmp s)
   exact Act.eval_put_ne a _ _ v (λe'=>b t hd (by rw [hj,e']))
theorem ready_all {ops:List Oper}{l:Array Bool}(c:l.size=ops.length)(h:∀ i,i<ops.length->l.getD i false=true):Region.ready .any ops.toArray l=[]:=by
 rw [List.eq_nil_iff_forall_not_mem]
 intro i b
 simp only [Region.ready,List.mem_filter,List.mem_range,List.size_toArray,Bool.and_eq_true] at b
 obtain ⟨a,d,_⟩:=b
 have:=h i a
 rw [<- c] at a;rw [Array.getD_eq_getD_getElem?,Array.getElem?_eq_getElem a] at d this
 simp_all
theorem wpAny_all {P:Program}{ops:List Oper}{Q:Exit->Act->World->Prop}{l:Array Bool}{a:Act}{W:World}(b:l.size=ops.length)(h:∀ i,i<ops.length->l.getD i false=true)(c:Q .normal a W):∀ fuel,wpAny P .any ops.toArray Q fuel l a W
 |0=>⟨ready_all b h,c⟩
 |fuel+1=>⟨λ_=>c,λi hi=>by rw [ready_all b h] at hi;cases hi⟩
theorem all_listed {T:PT}(n:T.Ok){l:Array Bool}(k:l.size=T.ops.length)(hr:Region.ready .any T.ops.toArray l=[]):∀ i,i<T.ops.length->l.getD i false=true:=by
 intro i
 induction i using Nat.strongRecOn with
 |_ i ih =>
  intro b
  cases hc:l.getD i false with
  |true=>rfl
  |false =>
   exfalso
   have g:T.ops[i]?=some T.ops[i]:=List.getElem?_eq_getElem b
   have a:i ∈ Region.ready .any T.ops.toArray l:=by
    have c:i<l.size:=by rw [k];exact b
    simp only [Region.ready,List.mem_filter,List.mem_range,List.size_toArray,List.getElem?_toArray,g,Option.map_some,Option.getD_some,Bool.and_eq_true]
    refine ⟨b,?_,?_⟩
    . rw [Array.getD_eq_getD_getElem?,Array.getElem?_eq_getElem c] at hc⊢
      simpa using hc
    . rw [Array.all_eq_true']
      intro e m
      by_cases j:Region.binds .any e=true
      . have d:XX T.ops i e.on=true:=by
          simp only [XX,g,Option.map_some,Option.getD_some,Array.any_eq_true',Bool.and_eq_true,beq_iff_eq]
          exact ⟨e,m,j,rfl⟩
        have f:=n.pr i e.on b d;rw [ih e.on f (by omega)]
        simp
      . simp [j]
   rw [hr] at a
   cases a
theorem ag_any {P:Program}{T:AT}{Q:Exit->Act->World->Prop}(U:T.pt.Ok)(J:T.ops.length=T.L+1)(aw:T.i1<T.i2)(ai:T.i2<T.L)(r:preF T.ops 9 T.i2 T.i1=true)(O:∀ j,j<T.L->preF T.ops 9 T.L j=true)
    (ag:T.S T.w1) (af:T.S T.w2) (hA:∀ W v,T.A W v->T.S W) (ab:∀ i o,i<T.L->T.ops[i]?=some o->o.dst.isNone=false) (V:QX P T Q 0 T.ops) :
    ∀ (b:Nat) (l:Array Bool) (a:Act) (W:World),Iv T.pt l a W->T.Ph l a W->l.toList.count false<=b->wpAny P .any T.ops.toArray Q b l a W:=by
 have ah:∀ (l:Array Bool),l.size=T.ops.length->T.L<l.size:=λl h=>by rw [h,J];omega
 intro b
 induction b with
 |zero =>
  intro l a W h d hc
  exfalso
  have z:=ah l h.ls
  have hm:false ∈ l.toList:=by
   have:=d.hL
   rw [Array.getD_eq_getD_getElem?,Array.getElem?_eq_getElem z] at this
   have:l[T.L]=false:=by simpa using this
   rw [<- this];simp
  have:=List.count_pos_iff.2 hm
  omega
 |succ b ihf =>
  intro l a W h d hc
  refine ⟨λhr=>?_,λi hi=>?_⟩
  . have:=all_listed U h.ls hr T.L (by show T.L<T.ops.length;omega)
    rw [d.hL] at this;cases this
  have ar:=hi
  simp only [Region.ready,List.mem_filter,List.mem_range,List.size_toArray,Bool.and_eq_true] at hi
  obtain ⟨h1,h2,h3⟩:=hi;have u:T.ops[i]?=some T.ops[i]:=List.getElem?_eq_getElem h1;generalize T.ops[i]=o at u;rw [List.getElem?_toArray,u,Option.map_some,Option.getD_some] at h3;have p:i<l.size:=by rw [h.ls];exact h1
  have B:l[i]?=some false:=by
   rw [Array.getElem?_eq_getElem p];rw [Array.getD_eq_getD_getElem?,Array.getElem?_eq_getElem p] at h2
   simpa using h2
  have z:l.getD i false=false:=by rw [Array.getD_eq_getD_getElem?,B];rfl
  have M:(l.setIfInBounds i true).toList.count false<=b:=by
   have:=count_set l.toList i (by simpa using B)
   rw [Array.toList_setIfInBounds]
   omega
  have I:∀ c,XX T.ops i c=true->l.getD c false=true:=λc hc=>pre_listed u h3 hc
  have G:T.pt.Fx i a W:=by
   refine ⟨h.sz,h.kp,λf j hf hj=>h.va j hj (JY h.cl f i j I hf),λs q=>h.sm s (λj hj hlj e=>?_)⟩
   rcases q j hj e with rfl|hq
   . rw [z] at hlj;cases hlj
   . have:=h.cl j i hlj hq
     rw [z] at this;cases this
  have q:=QX.get T.ops 0 i o V u;rw [Nat.zero_add] at q;have Z:∀ j,j≠i->j<T.ops.length->∀ s,QA T.ops i=some s->QA T.ops j≠some s:=λj hne hj s g e2=>hne (U.sl j i s hj h1 e2 g);have ad:∀ s,QA T.ops i=some s->s<T.N:=λs e=>U.op i s e
  -- what comes behind an operation that is not the last
  have F:∀ v W',i≠T.L->(i=T.i2\/i=T.L\/res o v=T.vs.getD i undef)->(i=T.i1->W'=T.w2)->(i=T.i2->T.A W' (res o v))->(i≠T.i1->i≠T.i2->W'=W)->wpAny P .any T.ops.toArray Q b (l.setIfInBounds i true) (a.put o.dst v) W':=λv W' hiL hv q1 q2 q3=>by
   refine ihf _ _ _ (h.next U u z I trivial hv) ⟨λg=>?_,λg e2=>?_,λe2=>?_,?_⟩ M
   . rw [J4 p] at g
     by_cases ei:T.i1=i
     . rw [if_pos ei] at g;cases g
     . rw [if_neg ei] at g
       have D:i≠T.i2:=λe=>by
        have:=JY h.cl 9 i T.i1 I (by rw [e];exact r)
        rw [g] at this;cases this
       rw [q3 (λe=>ei e.symm) D];exact d.h1 g
   . rw [J4 p] at g e2
     by_cases m:T.i2=i
     . rw [if_pos m] at e2;cases e2
     . rw [if_neg m] at e2
       by_cases H:T.i1=i
       . exact q1 H.symm
       . rw [if_neg H] at g;rw [q3 (λe=>H e.symm) (λe=>m e.symm)];exact d.h2 g e2
   . rw [J4 p] at e2
     by_cases m:T.i2=i
     . rw [m,at_put_same u h.sz ad];exact q2 m.symm
     . rw [if_neg m] at e2;rw [at_put_ne u (Z T.i2 m (by omega))]
       have E:i≠T.i1:=λe=>by
        have:=JY h.cl 9 T.i2 T.i1 (λk hk=>h.cl T.i2 k e2 hk) r
        rw [<- e,z] at this;cases this
       rw [q3 E (λe=>m e.symm)];exact d.h3 e2
   . rw [J4 p,if_neg (λe=>hiL e.symm)];exact d.hL
  have hS:T.S W:=by
   cases g:l.getD T.i1 false with
   |false=>rw [d.h1 g];exact ag
   |true=>cases e2:l.getD T.i2 false with
    |false=>rw [d.h2 g e2];exact af
    |true=>exact hA _ _ (d.h3 e2)
  have C:∀ v,i≠T.L->res o v=v:=λv hiL=>by
   have:=ab i o (by omega) u
   simp [res,this]
  have fin:∀ {X Y:Prop},(if Region.wanted o (yielded T.ops.toArray a.tmps) then X else Y)->(if Region.wanted o (yielded T.ops.toArray a.tmps) then (X\/False) else Y):=λh=>by
   split<;>rename_i R<;>simp_all
  have t:if Region.wanted o (yielded T.ops.toArray a.tmps) then o.wp P a W (wpAny P .any T.ops.toArray Q b (l.setIfInBounds i true)) Q else wpAny P .any T.ops.toArray Q b (l.setIfInBounds i true) (a.put o.dst undef) W:=by
   unfold StepX at q
   by_cases y:i=T.L
   . rw [if_pos y] at q;have n:∀ j,j<T.L->l.getD j false=true:=λj hj=>JY h.cl 9 i j I (by rw [y];exact O j hj)
     refine q a W _ ⟨h.sz,h.df,λj hj hne=>?_,d.h3 (n _ ai),λs hs'=>h.sm s (λj hj _=>hs' j hj)⟩ (λv W' hq=>?_)
     . rcases h.va j (by show j<T.ops.length;omega) (n j hj) with e|e|e
       . exact absurd e hne
       . omega
       . exact e
     . refine wpAny_all (by rw [Array.size_setIfInBounds];exact h.ls) (λj hj=>?_) hq _
       rw [J4 p]
       by_cases e:j=i
       . rw [if_pos e]
       . rw [if_neg e];exact n j (by omega)
   . rw [if_neg y] at q
     by_cases e2:i=T.i2
     . rw [if_pos e2] at q;have D:l.getD T.i2 false=false:=by rw [<- e2];exact z
       have E:l.getD T.i1 false=true:=JY h.cl 9 i T.i1 I (by rw [e2];exact r);have hW:=d.h2 E D;subst hW
       exact q a _ G (λv W' hA'=>F v W' y (.inl e2) (λe=>absurd (e ▸ e2:T.i1=T.i2) (by omega)) (λ_=>by rw [C v y];exact hA') (λ_ hn=>absurd e2 hn))
     . rw [if_neg e2] at q
       by_cases g:i=T.i1
       . rw [if_pos g] at q;have hW:=d.h1 (by rw [<- g];exact z);subst hW
         exact q a _ G (F _ _ y (.inr (.inr (C _ y))) (λ_=>rfl) (λe=>absurd e e2) (λhn _=>absurd g hn))
       . rw [if_neg g] at q
         exact q a W _ G hS (F _ _ y (.inr (.inr (C _ y))) (λe=>absurd e g) (λe=>absurd e e2) (λ_ _=>rfl))
  unfold wpOp
  simp only [List.getElem?_toArray,u]
  split
  · rename_i R
    rw [if_pos R] at t
    exact .inl t
  . rename_i R
    rw [if_neg R] at t
    exact t
def depB (ops:List Oper)(i1 i2 L:Nat):Bool:=ops.length==L+1&&decide (i1<i2)&&decide (i2<L)&&preF ops 9 i2 i1&&((List.range L).all λj=>preF ops 9 L j)&&((List.range L).all λj=>((ops[j]?).map λo=>!o.dst.isNone).getD true)
theorem Ji {P:Program}{Q:Exit->Act->World->Prop}{d N:Nat}{ops:List Oper}{vs:List Value}{i1 i2 L:Nat}{S:World->Prop}{A:World->Value->Prop}{w w2:World}{a0:Act}
    (f:P.follows .mixedOrders=true) (a:okB ops N=true) (c:depB ops i1 i2 L=true) (g:a0.tmps.size=N) (b:S { w with drawn:=w.drawn+1 }) (hS2:S w2) (hA:∀ W v,A W v->S W)
    (hst:QX P ⟨ops,N,vs,i1,i2,L,S,A,{ w with drawn:=w.drawn+1 },w2,a0⟩ Q 0 ops) :
    (Code.region d ops.toArray true).wp P Q a0 w:=by
 simp only [depB,Bool.and_eq_true,beq_iff_eq,decide_eq_true_eq,List.all_eq_true,List.mem_range] at c
 obtain ⟨⟨⟨⟨⟨q,p⟩,n⟩,m⟩,l⟩,k⟩:=c
 refine wp_region_any f ?_
 rw [List.size_toArray]
 refine ag_any (T:=⟨ops,N,vs,i1,i2,L,S,A,{ w with drawn:=w.drawn+1 },w2,a0⟩) (ok_of (T:=AT.pt _) a (λi W W' v h _=>h) (λ_ _=>trivial)) q p n m l b hS2 hA (λi o hi ho=>?_) hst _ _ _ _ ?_ ?_ ?_
 . have:=k i hi
   rw [show ops[i]?=some o from ho] at this
   simpa using this
 . refine ⟨g,rfl,by show (Array.replicate ops.length false).size=ops.length;simp,λi j hi _=>?_,trivial,λi _ hi=>?_,λs _=>rfl⟩
   . rw [Xy] at hi;cases hi
   . rw [Xy] at hi;cases hi
 . refine ⟨λ_=>rfl,λe=>?_,λe=>?_,Xy _ _⟩
   . rw [Xy] at e;cases e
   . rw [Xy] at e;cases e
 . simp
section
variable {ops:List Oper} {N:Nat} {vs:List Value} {i1 i2 L:Nat} {S:World->Prop} {A:World->Value->Prop} {w1 w2:World} {a0:Act} {i:Nat} {a:Act} {W:World}
theorem Jb (f:PT.Fx (AT.pt ⟨ops,N,vs,i1,i2,L,S,A,w1,w2,a0⟩) i a W)(k j s:Nat)(v:Value)(hp:(preF ops k i j&&decide (j<L)&&!(j==i2)&&QA ops j==some s)=true)(hl:ops.length=L+1)(hv:vs[j]?=some v):a.tmps[s]?.getD undef=v:=by
 simp only [Bool.and_eq_true,decide_eq_true_eq,beq_iff_eq,Bool.not_eq_true',beq_eq_false_iff_ne] at hp
 have h:=f.va k j hp.1.1.1 (show j<ops.length by have:=hp.1.1.2;omega);rw [show QA (AT.pt ⟨ops,N,vs,i1,i2,L,S,A,w1,w2,a0⟩).ops j=some s from hp.2] at h
 rcases h with e|e|e
 . exact absurd e hp.1.2
 . have:j=L:=e;have:=hp.1.1.2;omega
 . rw [<- QW];exact e.trans (by simp [List.getD,hv])
theorem ax_sm (f:PT.Fx (AT.pt ⟨ops,N,vs,i1,i2,L,S,A,w1,w2,a0⟩) i a W)(s:Nat)(h:((List.range ops.length).all λj=>!(QA ops j==some s) || j==i || XX ops j i)=true):a.tmps[s]?.getD undef=a0.tmps[s]?.getD undef:=by
 rw [<- QW,<- QW]
 refine f.sm s (λj hj e=>?_)
 rw [List.all_eq_true] at h
 have:=h j (List.mem_range.2 hj)
 rw [show QA ops j=some s from e] at this
 exact (by simpa using this:j=i\/XX ops j i=true)
theorem XI (f:AT.Fin ⟨ops,N,vs,i1,i2,L,S,A,w1,w2,a0⟩ a W)(j s:Nat)(v:Value)(hp:(decide (j<L)&&!(j==i2)&&QA ops j==some s)=true)(hv:vs[j]?=some v):a.eval (.tmp s)=v:=by
 simp only [Bool.and_eq_true,decide_eq_true_eq,beq_iff_eq,Bool.not_eq_true',beq_eq_false_iff_ne] at hp
 have h:=f.va j hp.1.1 hp.1.2;rw [show QA (AT.mk ops N vs i1 i2 L S A w1 w2 a0).ops j=some s from hp.2] at h
 exact (show a.eval (.tmp s)=vs.getD j undef from h).trans (by simp [List.getD,hv])
theorem XF (f:AT.Fin ⟨ops,N,vs,i1,i2,L,S,A,w1,w2,a0⟩ a W)(s:Nat)(hp:QA ops i2=some s):A W (a.eval (.tmp s)):=by
 have h:=f.ap;rw [show QA (AT.mk ops N vs i1 i2 L S A w1 w2 a0).ops (AT.mk ops N vs i1 i2 L S A w1 w2 a0).i2=some s from hp] at h
 exact h
theorem an_act (f:AT.Fin ⟨ops,N,vs,i1,i2,L,S,A,w1,w2,a0⟩ a W)(d:List Nat)(c:(ops.filterMap (·.dst))=d)(g:a0.tmps.size=N):a=d.foldl (λb s=>b.put (some s) (a.eval (.tmp s))) a0:=by
 subst c
 refine act_puts _ a a0 (f.sz.trans g.symm) f.df (λs hs=>f.sm s (λi hi e=>hs ?_))
 rw [List.mem_filterMap]
 refine ⟨ops[i],List.getElem_mem hi,?_⟩
 simpa [QA,List.getElem?_eq_getElem hi] using e
theorem JW {P:Program}{K:Act->World->Prop}{Q:Exit->Act->World->Prop}{o:Oper}(v:Value)(c:Region.wanted o (yielded ops.toArray a.tmps)=true){W':World}(b:(execOp a.eval o).run P W=.ok (.value v) W')
    (d:K (a.put o.dst v) W'):if Region.wanted o (yielded ops.toArray a.tmps) then o.wp P a W K Q else K (a.put o.dst undef) W:=by
 rw [if_pos c];unfold Oper.wp;rw [b,Oper.upon_value]
 exact d
theorem JL {P:Program}{K:Act->World->Prop}{Q:Exit->Act->World->Prop}{o:Oper}(c:Region.wanted o (yielded ops.toArray a.tmps)=true){W':World}(b:(execOp a.eval o).run P W=.ok .skip W')
    (d:K (a.put o.dst undef) W'):if Region.wanted o (yielded ops.toArray a.tmps) then o.wp P a W K Q else K (a.put o.dst undef) W:=by
 rw [if_pos c];unfold Oper.wp;rw [b,Oper.upon_skip]
 exact d
end
section
variable {P:Program} {T:AT} {Q:Exit->Act->World->Prop} {i:Nat} {o:Oper} {r:List Oper} {u u' v:Value}
abbrev AT.n (T:AT)(i:Nat):Bool:=!(i==T.L)&&!(i==T.i2)&&!(i==T.i1)
abbrev AT.p (T:AT)(i j s:Nat):Bool:=preF T.ops 3 i j&&decide (j<T.L)&&!(j==T.i2)&&QA T.ops j==some s
abbrev AT.s (T:AT)(i s:Nat):Bool:=(List.range T.ops.length).all λj=>!(QA T.ops j==some s) || j==i || XX T.ops j i
theorem AT.va {T:AT}{a:Act}{W:World}{j s:Nat}(f:T.pt.Fx i a W)(hp:T.p i j s=true)(hl:T.ops.length=T.L+1)(b:T.vs[j]?=some u):a.tmps[s]?.getD undef=u:=Jb (ops:=T.ops) (N:=T.N) (vs:=T.vs) (i1:=T.i1) (i2:=T.i2) (L:=T.L) (S:=T.S) (A:=T.A) (w1:=T.w1) (w2:=T.w2) (a0:=T.a0) f 3 j s u hp hl b
theorem AT.sm {T:AT}{a:Act}{W:World}{s:Nat}(f:T.pt.Fx i a W)(hp:T.s i s=true)(b:T.a0.tmps[s]?.getD undef=u):a.tmps[s]?.getD undef=u:=(ax_sm (ops:=T.ops) (N:=T.N) (vs:=T.vs) (i1:=T.i1) (i2:=T.i2) (L:=T.L) (S:=T.S) (A:=T.A) (w1:=T.w1) (w2:=T.w2) (a0:=T.a0) f s hp).trans b
theorem AT.at {T:AT}(hv:T.vs[i]?=some v):T.vs.getD i undef=v:=by simp [List.getD,hv]
theorem v1 (j:Nat){s:Nat}(m:QA T.ops j=some s)(g:(T.n i&&T.p i j s)=true)(hl:T.ops.length=T.L+1)(d:T.vs[j]?=some u)(hv:T.vs[i]?=some v)(hg:o.guard=none)(b:∀ (a:Act) (W:World),T.S W->a.tmps[s]?.getD undef=u->(execOp a.eval o).run P W=.ok (.value v) W)(hr:QX P T Q (i+1) r):QX P T Q i (o::r):=by
 obtain ⟨l,k⟩:=Bool.and_eq_true_iff.1 g
 refine QX.c l (λa W K f hS hK=>?_) hr
 rw [AT.at hv] at hK
 exact JW v (Qe hg) (b a W hS (AT.va f k hl d)) hK
theorem v2 (j g:Nat){s d:Nat}(A:QA T.ops j=some s)(q:QA T.ops g=some d)(t:(T.n i&&(T.p i j s&&T.p i g d))=true)(hl:T.ops.length=T.L+1)(m:T.vs[j]?=some u)(k:T.vs[g]?=some u')(hv:T.vs[i]?=some v)(hg:o.guard=none)(b:∀ (a:Act) (W:World),T.S W->a.tmps[s]?.getD undef=u->a.tmps[d]?.getD undef=u'->(execOp a.eval o).run P W=.ok (.value v) W)(hr:QX P T Q (i+1) r):QX P T Q i (o::r):=by
 obtain ⟨z,l⟩:=Bool.and_eq_true_iff.1 t;obtain ⟨l,y⟩:=Bool.and_eq_true_iff.1 l
 refine QX.c z (λa W K f hS hK=>?_) hr
 rw [AT.at hv] at hK
 exact JW v (Qe hg) (b a W hS (AT.va f l hl m) (AT.va f y hl k)) hK
theorem v0 (s:Nat)(u:Value)(g:(T.n i&&T.s i s)=true)(d:T.a0.tmps[s]?.getD undef=u)(hv:T.vs[i]?=some v)(hg:o.guard=none)(b:∀ (a:Act) (W:World),T.S W->a.tmps[s]?.getD undef=u->(execOp a.eval o).run P W=.ok (.value v) W)(hr:QX P T Q (i+1) r):QX P T Q i (o::r):=by
 obtain ⟨k,j⟩:=Bool.and_eq_true_iff.1 g
 refine QX.c k (λa W K f hS hK=>?_) hr
 rw [AT.at hv] at hK
 exact JW v (Qe hg) (b a W hS (AT.sm f j d)) hK
theorem l1 (j:Nat){s:Nat}(m:QA T.ops j=some s)(d:(!(i==T.L)&&!(i==T.i2)&&i==T.i1&&T.p i j s)=true)(hl:T.ops.length=T.L+1)(c:T.vs[j]?=some u)(hv:T.vs[i]?=some v)(hg:o.guard=none)(b:∀ (a:Act),a.tmps[s]?.getD undef=u->(execOp a.eval o).run P T.w1=.ok (.value v) T.w2)(hr:QX P T Q (i+1) r):QX P T Q i (o::r):=by
 obtain ⟨k,g⟩:=Bool.and_eq_true_iff.1 d
 refine QX.l k (λa K f hK=>?_) hr
 rw [AT.at hv] at hK
 exact JW v (Qe hg) (b a (AT.va f g hl c)) hK
def Oe:Nat->List Value->Act->Act
 |_,[],b=>b
 |s,v::vs,b=>Oe (s+1) vs (b.put (some s) v)
theorem putN_of (h:Nat->Value):∀ (xs:List Value) (s:Nat) (b:Act),(∀ i,i<xs.length->h (s+i)=xs.getD i undef)->(List.range' s xs.length).foldl (λb t=>b.put (some t) (h t)) b=Oe s xs b
 |[],s,b,_=>rfl
 |x::xs,s,b,hh=>by
  have h0:=hh 0 (by simp);rw [Nat.add_zero] at h0;rw [List.length_cons,List.range'_succ,List.foldl_cons,h0,Oe]
  refine putN_of h xs (s+1) _ (λi hi=>?_)
  have:=hh (i+1) (by simp;omega)
  rw [show s+1+i=s+(i+1) by omega,this]
  simp
theorem Xs {a:Act}{W:World}{b:Value}(f:AT.Fin T a W){s:Nat}(n:QA T.ops 0=some s)(m:a.eval (.tmp (s+T.i2))=b)(d:((List.range T.L).all (λi=>QA T.ops i==some (s+i))&&(T.ops.filterMap (·.dst))==List.range' s T.L&&T.vs.length==T.L)=true)(l:T.a0.tmps.size=T.N):a=Oe s (T.vs.set T.i2 b) T.a0:=by
 simp only [Bool.and_eq_true,List.all_eq_true,List.mem_range,beq_iff_eq] at d
 obtain ⟨⟨k,j⟩,z3⟩:=d;have h:=an_act (ops:=T.ops) (N:=T.N) (vs:=T.vs) (i1:=T.i1) (i2:=T.i2) (L:=T.L) (S:=T.S) (A:=T.A) (w1:=T.w1) (w2:=T.w2) (a0:=T.a0) f _ j l
 refine h.trans ?_
 rw [<- z3,show T.vs.length=(T.vs.set T.i2 b).length by simp]
 refine putN_of (λt=>a.eval (.tmp t)) _ s _ (λi hi=>?_)
 have c:i<T.vs.length:=by simpa using hi
 by_cases e:i=T.i2
 . subst e;rw [List.getD_eq_getElem?_getD,List.getElem?_set_self c]
   exact m
 . have g:=f.va i (by omega) e;rw [k i (by omega)] at g;rw [List.getD_eq_getElem?_getD,List.getElem?_set_ne (λe'=>e e'.symm),<- List.getD_eq_getElem?_getD]
   exact g
end
end Go.Proofs.YtedcmcdbejjgcaaGreat.Rp
namespace Go.Proofs.YtedcmcdbejjgcaaGreat
open Go.RowKit
theorem up1 {w w1:World}{o:Obj}(h:Below (w.alloc o).heap.size (w.alloc o) w1):Below w.heap.size w w1:=Below.trans (bF.alloc lR _) (h.mono (by simp))
theorem up2 {w w1:World}{o a:Obj}(h:Below ((w.alloc o).alloc a).heap.size ((w.alloc o).alloc a) w1):Below w.heap.size w w1:=up1 (up1 h)
theorem rowNew (w w1:World)(r:Row)(t:TypeId)(h:Below (w.alloc (.cells (rowL r).toArray t)).heap.size (w.alloc (.cells (rowL r).toArray t)) w1):Below w.heap.size w w1/\w1.cell? ⟨w.heap.size,0,none⟩=some (.string r.nm)/\w1.cell? ⟨w.heap.size,1,none⟩=some (.int .i64 r.f)/\w1.cell? ⟨w.heap.size,2,none⟩=some (.int .i64 r.a)/\w1.cell? ⟨w.heap.size,3,none⟩=some (.int .i64 r.b)/\w1.cell? ⟨w.heap.size,4,none⟩=some (.int .i64 r.g)/\(∀ i,w1.frozen? ⟨w.heap.size,i,none⟩=false):=by
 have c:w.heap.size<(w.alloc (.cells (rowL r).toArray t)).heap.size:=by simp
 refine ⟨up1 h,?_,?_,?_,?_,?_,?_⟩
 . rw [h.cell (p:=⟨w.heap.size,0,none⟩) c];exact Qw rfl rfl
 . rw [h.cell (p:=⟨w.heap.size,1,none⟩) c];exact Qw rfl rfl
 . rw [h.cell (p:=⟨w.heap.size,2,none⟩) c];exact Qw rfl rfl
 . rw [h.cell (p:=⟨w.heap.size,3,none⟩) c];exact Qw rfl rfl
 . rw [h.cell (p:=⟨w.heap.size,4,none⟩) c];exact Qw rfl rfl
 . intro i;rw [h.frozen (p:=⟨w.heap.size,i,none⟩) c];exact World.frozen?_alloc_new w _ t i
theorem set5 {w w1}(v0 v1 v2 b a:Value)(b0:Below w.heap.size w w1):Below w.heap.size w (((((w1.setCell ⟨w.heap.size,0,none⟩ v0).setCell ⟨w.heap.size,1,none⟩ v1).setCell ⟨w.heap.size,2,none⟩ v2).setCell ⟨w.heap.size,3,none⟩ b).setCell ⟨w.heap.size,4,none⟩ a) :=
 ((((b0.setCell (by simp) _).setCell (by simp) _).setCell (by simp) _).setCell (by simp) _).setCell (by simp) _
theorem find_o0 (p:Int)(w:World)(a:p<=-1):Calls Tryz.prog 315 #[.int .i64 p] w λe w'=>e=.returned (Xv Z0)/\Below w.heap.size w w':=by
 have b:p<0:=by omega
 go_enter Tryz.func315,Tryz.ntmps315
 go_wp2
 exact bodyPost_ret (v:=Xv Z0) (by simp [results,Tryz.results315,go_sem,Z0]) rfl ⟨rfl,by repeat (first|exact bF|assumption|refine Below.setCell ?_ (by first|(simp;done)|(simp;omega)) _|refine Below.alloc ?_ (by first|(simp;done)|(simp;omega)) _|apply Below.drew)⟩
theorem find_o1 (p:Int)(w:World)(h1:192<=p):Calls Tryz.prog 315 #[.int .i64 p] w λe w'=>e=.returned (Xv Z0)/\Below w.heap.size w w':=by
 have a:¬ p<0:=by omega
 go_enter Tryz.func315,Tryz.ntmps315
 go_wp2
 exact bodyPost_ret (v:=Xv Z0) (by simp [results,Tryz.results315,go_sem,Z0]) rfl ⟨rfl,by repeat (first|exact bF|assumption|refine Below.setCell ?_ (by first|(simp;done)|(simp;omega)) _|refine Below.alloc ?_ (by first|(simp;done)|(simp;omega)) _|apply Below.drew)⟩
theorem find_opControl (p:Nat)(w:World)(h1:0<=p)(j:p<=39):Calls Tryz.prog 315 #[.int .i64 p] w λe w'=>e=.returned (Xv (Qr p))/\Below w.heap.size w w':=by
 have a:=Hm (opControl_c p (w.alloc (.cells (rowL Z0).toArray 329)) (by omega) (by omega));generalize f:Qr p=r at *;generalize g:(p:Int)=q at *;have l:¬ q<0:=by omega
 have k:q<40:=by omega
 go_enter Tryz.func315,Tryz.ntmps315
 go_wp2_with fail
 refine (a.o).mono ?_
 rintro e w1 ⟨rfl,b⟩;obtain ⟨b0,c0,c1,d,c3,c,fz⟩:=rowNew w w1 Z0 329 b
 go_wp2
 exact bodyPost_ret (v:=Xv r) (by simp [results,Tryz.results315,go_sem,c0,c1,d,c3,c]) rfl ⟨rfl,set5 _ _ _ _ _ b0⟩
theorem find_opMemory (p:Nat)(w:World)(h1:40<=p)(j:p<=68):Calls Tryz.prog 315 #[.int .i64 p] w λe w'=>e=.returned (Xv (Qr p))/\Below w.heap.size w w':=by
 have a:=Hm (opMemory_c p (w.alloc (.cells (rowL Z0).toArray 329)) (by omega) (by omega));generalize f:Qr p=r at *;generalize g:(p:Int)=q at *;have m:¬ q<0:=by omega
 have l:¬ q<40:=by omega
 have k:q<69:=by omega
 go_enter Tryz.func315,Tryz.ntmps315
 go_wp2_with fail
 refine (a.o).mono ?_
 rintro e w1 ⟨rfl,b⟩;obtain ⟨b0,c0,c1,d,c3,c,fz⟩:=rowNew w w1 Z0 329 b
 go_wp2
 exact bodyPost_ret (v:=Xv r) (by simp [results,Tryz.results315,go_sem,c0,c1,d,c3,c]) rfl ⟨rfl,set5 _ _ _ _ _ b0⟩
theorem find_opTests (p:Nat)(w:World)(h1:69<=p)(j:p<=102):Calls Tryz.prog 315 #[.int .i64 p] w λe w'=>e=.returned (Xv (Qr p))/\Below w.heap.size w w':=by
 have a:=Hm (opTests_c p (w.alloc (.cells (rowL Z0).toArray 329)) (by omega) (by omega));generalize f:Qr p=r at *;generalize g:(p:Int)=q at *;have n:¬ q<0:=by omega
 have m:¬ q<40:=by omega
 have l:¬ q<69:=by omega
 have k:q<103:=by omega
 go_enter Tryz.func315,Tryz.ntmps315
 go_wp2_with fail
 refine (a.o).mono ?_
 rintro e w1 ⟨rfl,b⟩;obtain ⟨b0,c0,c1,d,c3,c,fz⟩:=rowNew w w1 Z0 329 b
 go_wp2
 exact bodyPost_ret (v:=Xv r) (by simp [results,Tryz.results315,go_sem,c0,c1,d,c3,c]) rfl ⟨rfl,set5 _ _ _ _ _ b0⟩
theorem find_opIntegers (p:Nat)(w:World)(h1:103<=p)(j:p<=138):Calls Tryz.prog 315 #[.int .i64 p] w λe w'=>e=.returned (Xv (Qr p))/\Below w.heap.size w w':=by
 have a:=Hm (opIntegers_c p (w.alloc (.cells (rowL Z0).toArray 329)) (by omega) (by omega));generalize f:Qr p=r at *;generalize g:(p:Int)=q at *;have s:¬ q<0:=by omega
 have n:¬ q<40:=by omega
 have m:¬ q<69:=by omega
 have l:¬ q<103:=by omega
 have k:q<139:=by omega
 go_enter Tryz.func315,Tryz.ntmps315
 go_wp2_with fail
 refine (a.o).mono ?_
 rintro e w1 ⟨rfl,b⟩;obtain ⟨b0,c0,c1,d,c3,c,fz⟩:=rowNew w w1 Z0 329 b
 go_wp2
 exact bodyPost_ret (v:=Xv r) (by simp [results,Tryz.results315,go_sem,c0,c1,d,c3,c]) rfl ⟨rfl,set5 _ _ _ _ _ b0⟩
theorem find_opFloats (p:Nat)(w:World)(h1:139<=p)(j:p<=166):Calls Tryz.prog 315 #[.int .i64 p] w λe w'=>e=.returned (Xv (Qr p))/\Below w.heap.size w w':=by
 have a:=Hm (opFloats_c p (w.alloc (.cells (rowL Z0).toArray 329)) (by omega) (by omega));generalize f:Qr p=r at *;generalize g:(p:Int)=q at *;have t:¬ q<0:=by omega
 have s:¬ q<40:=by omega
 have n:¬ q<69:=by omega
 have m:¬ q<103:=by omega
 have l:¬ q<139:=by omega
 have k:q<167:=by omega
 go_enter Tryz.func315,Tryz.ntmps315
 go_wp2_with fail
 refine (a.o).mono ?_
 rintro e w1 ⟨rfl,b⟩;obtain ⟨b0,c0,c1,d,c3,c,fz⟩:=rowNew w w1 Z0 329 b
 go_wp2
 exact bodyPost_ret (v:=Xv r) (by simp [results,Tryz.results315,go_sem,c0,c1,d,c3,c]) rfl ⟨rfl,set5 _ _ _ _ _ b0⟩
theorem find_opConversions (p:Nat)(w:World)(h1:167<=p)(j:p<=191):Calls Tryz.prog 315 #[.int .i64 p] w λe w'=>e=.returned (Xv (Qr p))/\Below w.heap.size w w':=by
 have a:=Hm (opConversions_c p (w.alloc (.cells (rowL Z0).toArray 329)) (by omega) (by omega));generalize f:Qr p=r at *;generalize g:(p:Int)=q at *;have t:¬ q<0:=by omega
 have s:¬ q<40:=by omega
 have n:¬ q<69:=by omega
 have m:¬ q<103:=by omega
 have l:¬ q<139:=by omega
 have k:¬ q<167:=by omega
 go_enter Tryz.func315,Tryz.ntmps315
 go_wp2_with fail
 refine (a.o).mono ?_
 rintro e w1 ⟨rfl,b⟩;obtain ⟨b0,c0,c1,d,c3,c,fz⟩:=rowNew w w1 Z0 329 b
 go_wp2
 exact bodyPost_ret (v:=Xv r) (by simp [results,Tryz.results315,go_sem,c0,c1,d,c3,c]) rfl ⟨rfl,set5 _ _ _ _ _ b0⟩
theorem find_c (p:Int)(w:World):Calls Tryz.prog 315 #[.int .i64 p] w λe w'=>e=.returned (Xv (Qr p))/\Below w.heap.size w w':=by
 by_cases h:0<=p/\p<192
 . obtain ⟨n,rfl⟩:=Int.eq_ofNat_of_zero_le h.1;have a:(0<=n/\n<=39)\/(40<=n/\n<=68)\/(69<=n/\n<=102)\/(103<=n/\n<=138)\/(139<=n/\n<=166)\/(167<=n/\n<=191):=by omega
   rcases a with h|h|h|h|h|h
   . exact find_opControl n w h.1 h.2
   . exact find_opMemory n w h.1 h.2
   . exact find_opTests n w h.1 h.2
   . exact find_opIntegers n w h.1 h.2
   . exact find_opFloats n w h.1 h.2
   . exact find_opConversions n w h.1 h.2
 . have e:Qr p=Z0:=by simp only [Qr,h,if_false]
   rw [e]
   rcases (by omega:p<=-1\/192<=p) with h|h
   . exact find_o0 p w h
   . exact find_o1 p w h
theorem isE (a:ByteArray):a.toList.isEmpty=decide (a.size=0):=by
 rw [ByteArray.toList_eq]
 have:a.size=a.data.toList.length:=rfl
 rw [this]
 cases a.data.toList<;>simp
theorem belA {w w1}{o:Obj}(h:Below w.heap.size w w1):Below w.heap.size w (w1.alloc o):=h.alloc h.size o
theorem GJ (p:Int)(w:World):Calls Tryz.prog 270 #[.int .i64 p] w λe w'=>e=.returned (.int .i64 (QM (Qr p)))/\Below w.heap.size w w':=by
 have c:=Hm (find_c p w);generalize Qr p=r at *
 by_cases a:r.nm.size=0
 . have h0:r.nm.toList.isEmpty=true:=by rw [isE];simpa using a
   go_enter Tryz.func270,Tryz.ntmps270
   go_wp2_with fail
   refine c.o.mono ?_
   rintro e w1 ⟨rfl,b⟩
   go_wp2
   go_ret
   exact ⟨by simp [QM,a],belA b⟩
 . have h0:r.nm.toList.isEmpty=false:=by rw [isE];simpa using a
   go_enter Tryz.func270,Tryz.ntmps270
   go_wp2_with fail
   refine c.o.mono ?_
   rintro e w1 ⟨rfl,b⟩
   go_wp2
   go_ret
   exact ⟨by simp [QM,a],belA b⟩
theorem Tryz.info2:(Tryz.prog.info? 2).map (λi=>(i.zero,i.size,i.bytes))=some (some (.int .i64 0),1,8):=by kernel_rfl
abbrev I (xs:List Int):List Value:=xs.map λx=>Value.int .i64 x
def Has (w:World)(a:Option Addr)(xs:List Int):Prop :=
 xs=[]\/∃ b off,a=some ⟨b,off,none⟩/\∀ i,i<xs.length->w.cell? ⟨b,off+i,none⟩=some (.int .i64 (xs.getD i 0))
theorem eq_any (a b)(s r:Nat)(xs:List Int)(w)(hl:xs.length<=1099511627776)(l:Has w a xs)(j:Has w b xs) :
    Calls Tryz.prog 86 #[.slice a xs.length s,.slice b xs.length r] w λe w'=>e=.returned (.bool true)/\∃ n,w'=w.drewN n:=by
 by_cases c:xs=[]
 . subst c;clear l j hl
   go_enter Tryz.func86,Tryz.ntmps86
   go_wp2
   refine wp_loop_rounds 1 ?_
   rw [rounds_succ]
   go_wp2
   go_ret
   exact ⟨rfl,0,rfl⟩
 . have g:0<xs.length:=List.length_pos_iff.2 c
   rcases l with h|⟨b1,o,rfl,f⟩
   . exact absurd h c
   rcases j with h|⟨y,t,rfl,q⟩
   . exact absurd h c
   clear c
   go_enter Tryz.func86,Tryz.ntmps86
   go_wp2
   go_loopw [5] (λi wr=>∃ k:Nat,k<=xs.length/\i=.int .i64 k/\∃ m,wr=w.drewN m) (λi _=>xs.length-(intOf i).toNat)
   case atStart=>exact ⟨0,Nat.zero_le _,rfl,0,rfl⟩
   case round =>
    obtain ⟨k,u,rfl,m,rfl⟩:=hrel
    by_cases d:k<xs.length
    . have v:(w.drewN m).cell? ⟨b1,o+k,none⟩=some (.int .i64 (xs.getD k 0)):=f k d;have p:(k:Int)<(xs.length:Int):=by omega
      go_wp2
      go_quiet (fail)
      go_wp2
      go_roundw
      case rel=>exact ⟨k+1,by omega,by go_num,_,rfl⟩
      case measure=>simp [intOf];omega
    . go_wp2
      go_ret
      exact ⟨rfl,m,rfl⟩
def marks (k n:Nat):List Int:=(List.range n).map λi=>((k+i:Nat):Int)
theorem Qa {a b c:World}{row:Option Nat}(h:a.grownBy b row)(k:b.grownBy c row):a.grownBy c row :=
 ⟨k.os.trans h.os,k.tape.trans h.tape,k.output.trans h.output,Nat.le_trans h.size k.size,λi hi hne=>(k.block i (Nat.lt_of_lt_of_le hi h.size) hne).trans (h.block i hi hne)⟩
theorem J6 {B w w'}(h:Below B w w')(n:Nat):Below B w (w'.drewN n):=⟨h.os,h.tape,h.output,h.size,h.block⟩
theorem own_lt {w:World}{B n:Nat}{v:Value}{xs:List Value}(h:w.ownsRow B 2 1 v n xs):∀ j,v.ownBlock=some j->j<w.heap.size:=by
 intro j a;exact (h.lt j a).2
theorem heap_new (w:World)(o:Obj):(w.alloc o).heap[w.heap.size]?=some o:=by show (w.heap.push o)[w.heap.size]?=_;simp
theorem QF (w:World)(o:Obj)(k:Nat)(h:k<w.heap.size):(w.alloc o).heap[k]?=w.heap[k]?:=by show (w.heap.push o)[k]?=_;rw [Array.getElem?_push_lt h,Array.getElem?_eq_getElem h]
end Go.Proofs.YtedcmcdbejjgcaaGreat
namespace Go.Proofs.YtedcmcdbejjgcaaGreat.By
open Go.RowKit
def Has (w:World)(a:Option Addr)(xs:List Int):Prop :=
 xs=[]\/∃ b off,a=some ⟨b,off,none⟩/\∀ i,i<xs.length->w.cell? ⟨b,off+i,none⟩=some (.int .u8 (xs.getD i 0))
def marks (k n:Nat):List Int:=(List.range n).map λi=>((k+i:Nat):Int)%256
theorem own_has {w:World}{B g cap:Nat}{L:List Int}(h:w.ownsRow B 5 1 (.slice (some ⟨g,0,none⟩) L.length cap) L.length (U L)):Has w (some ⟨g,0,none⟩) L:=by
 refine .inr ⟨g,0,rfl,λi hi=>?_⟩
 rw [Nat.zero_add,h.cellAt i (by omega)]
 simp [List.getD,hi]
end Go.Proofs.YtedcmcdbejjgcaaGreat.By
namespace Go.Proofs.YtedcmcdbejjgcaaGreat
open Go.RowKit
structure In where
 op:Int
 a:Int
 b:Int
 v:Int
 l:List Int
abbrev inV (x:In)(la:Option Addr)(lc:Nat):Value:=.agg #[.int .i64 x.op,.int .i64 x.a,.int .i64 x.b,.int .u64 x.v,.slice la x.l.length lc]
def I0:In:=⟨0,0,0,0,[]⟩
def C5 (w:World)(g o:Nat)(a b c d e:Value):Prop :=
 (w.cell? ⟨g,o,none⟩=some a/\w.cell? ⟨g,o+1,none⟩=some b/\w.cell? ⟨g,o+2,none⟩=some c/\w.cell? ⟨g,o+3,none⟩=some d/\w.cell? ⟨g,o+4,none⟩=some e)/\∀ i,w.frozen? ⟨g,i,none⟩=false
theorem C5.keep {w w1:World}{g o:Nat}{a b c d e:Value}(h:C5 w g o a b c d e)(k:Below w.heap.size w w1):C5 w1 g o a b c d e:=by
 obtain ⟨⟨h0,q,n,m,l⟩,f⟩:=h;have j:=World.block_lt_of_cell? w _ h0
 exact ⟨⟨(k.cell (p:=⟨g,o,none⟩) j).trans h0,(k.cell (p:=⟨g,o+1,none⟩) j).trans q,(k.cell (p:=⟨g,o+2,none⟩) j).trans n,(k.cell (p:=⟨g,o+3,none⟩) j).trans m,(k.cell (p:=⟨g,o+4,none⟩) j).trans l⟩,λi=>(k.frozen (p:=⟨g,i,none⟩) j).trans (f i)⟩
theorem C5.new {w:World}{a b c d e:Value}{t:TypeId}:C5 (w.alloc (.cells #[a,b,c,d,e] t)) w.heap.size 0 a b c d e :=
 ⟨⟨Qw rfl rfl,Qw rfl rfl,Qw rfl rfl,Qw rfl rfl,Qw rfl rfl⟩,λi=>World.frozen?_alloc_new w _ t i⟩
theorem C5.past {w:World}{o:Obj}{g q:Nat}{a b c d e:Value}(h:C5 w g q a b c d e):C5 (w.alloc o) g q a b c d e:=h.keep (bF.alloc lR _)
theorem Tryz.info170:(Tryz.prog.info? 170).map (λi=>(i.zero,i.size,i.bytes))=some (some (.agg #[.int .i64 0,.int .i64 0,.int .i64 0,.int .u64 0,.slice none 0 0]),5,56):=by kernel_rfl
theorem QE {w:World}{p:Addr}{u v:Value}(h:w.cell? p=some u):(w.setCell p v).cell? p=some v:=World.cell?_setCell_same _ _ _ h
theorem Qd {w:World}{g i j:Nat}{u v:Value}(h:w.cell? ⟨g,j,none⟩=some u)(a:i≠j):(w.setCell ⟨g,i,none⟩ v).cell? ⟨g,j,none⟩=some u:=by
 rw [World.cell?_setCell_other _ _ _ _ (λhj=>a (congrArg Addr.off hj))];exact h
open Go.RowKit Go.Sort
def u32B (x:Int):Bool:=decide (0<=x/\x<=4294967295)
def tyB (x:Int):Bool:=decide (124<=x/\x<=127)
theorem ty_c (x:Int)(w:World):Calls Tryz.prog 124 #[.int .i64 x] w λe w'=>e=.returned (.bool (tyB x))/\w=w':=by
 have H:=Hm (l1In_c x 124 127)
 go_enter Tryz.func124,Tryz.ntmps124
 go_wp2_with fail
 refine (H.o _).mono ?_
 rintro e w1 ⟨rfl,rfl⟩;generalize a:decide (124<=x/\x<=127)=bb
 go_wp2
 go_ret
 exact ⟨by rw [<- a];rfl,rfl⟩
theorem iu32_c (x:Int)(w:World):Calls Tryz.prog 47 #[.int .i64 x] w λe w'=>e=.returned (.bool (u32B x))/\w=w':=by
 go_enter Tryz.func47,Tryz.ntmps47
 go_wp2
 all_goals
  go_ret
  refine ⟨?_,rfl⟩
  simp [u32B, *]
  try omega
theorem ity_c (x:Int)(w:World):Calls Tryz.prog 128 #[.int .i64 x] w λe w'=>e=.returned (.bool (tyB x))/\w=w':=by
 go_enter Tryz.func128,Tryz.ntmps128
 go_wp2
 all_goals
  go_ret
  refine ⟨?_,rfl⟩
  simp [tyB, *]
  try omega
theorem len0 (l:List Int):((l.length:Int)==0)=l.isEmpty:=by
 cases l with
 |nil=>rfl
 |cons a t=>simp;omega
theorem ibt_c (x:Int)(w:World):Calls Tryz.prog 271 #[.int .i64 x] w λe w'=>e=.returned (.bool (decide (x=64) || tyB x))/\w=w':=by
 have H:=Hm (ity_c x)
 by_cases h:x=64
 . subst h
   go_enter Tryz.func271,Tryz.ntmps271
   go_wp2
   go_ret
   exact ⟨rfl,rfl⟩
 . have f:(x==(64:Int))=false:=by simpa using h
   have a:=Hm h;clear h
   go_enter Tryz.func271,Tryz.ntmps271
   go_wp2_with (refine (H.o _).mono ?_;rintro e w1 ⟨rfl,rfl⟩)
   go_ret
   exact ⟨by simp [a.o],rfl⟩
theorem boxes {w w1:World}{c0 c1 c2 c3 f:Value}(h:Below (((w.alloc (.cells #[c0,c1,c2,c3,f] 170)).alloc (.cells #[c0,c1,c2,c3,f] 170)).drew).heap.size (((w.alloc (.cells #[c0,c1,c2,c3,f] 170)).alloc (.cells #[c0,c1,c2,c3,f] 170)).drew) w1) :
    C5 w1 w.heap.size 0 c0 c1 c2 c3 f/\C5 w1 (w.heap.size+1) 0 c0 c1 c2 c3 f/\Below w.heap.size w w1:=by
 have g:Below ((w.alloc (.cells #[c0,c1,c2,c3,f] 170)).alloc (.cells #[c0,c1,c2,c3,f] 170)).heap.size ((w.alloc (.cells #[c0,c1,c2,c3,f] 170)).alloc (.cells #[c0,c1,c2,c3,f] 170)) w1:=⟨h.os,h.tape,h.output,h.size,h.block⟩
 refine ⟨(C5.new.past).keep g,?_,up2 g⟩
 have:=(C5.new (w:=w.alloc (.cells #[c0,c1,c2,c3,f] 170)) (a:=c0) (b:=c1) (c:=c2) (d:=c3) (e:=f) (t:=170)).keep g
 simpa using this
def Jf (n:List Bool)(op:Int):Option (List Bool) :=
 if n.isEmpty then none
 else if op=2\/op=3 then some (n++[false])
 else if op=4 then some (n++[true])
 else if op=5 then (if n.getLast?=some true then some (n.dropLast++[false]) else none)
 else if op=11 then some n.dropLast
 else some n
abbrev Bs (n:List Bool):List Value:=n.map Value.bool
theorem Tryz.info4:(Tryz.prog.info? 4).map (λi=>(i.zero,i.size,i.bytes))=some (some (.bool false),1,1):=by kernel_rfl
theorem oneV (b:Bool):∀ u ∈ [Value.bool b],u.oneCell'=true:=by
 intro u a;simp at a;subst a;rfl
theorem QZ {w:World}{B e:Nat}{v:Value}{n:Nat}{b:List Value}(h:w.ownsRow B e 1 v n b):∃ a c,v=.slice a n c:=by
 rcases h.2 with ⟨e,h0⟩|⟨g,j,f,d,_⟩
 . rw [h0];exact ⟨_,_,e⟩
 . exact ⟨_,_,d⟩
theorem ownE_split {w:World}{B e:Nat}{v:Value}{n:Nat}{L:List Value}(h:w.ownsRow B e 1 v n L)(j:1<=n):∃ g a,v=.slice (some ⟨g,0,none⟩) n a/\B<=g/\g<w.heap.size/\n<=a:=by
 rcases h.2 with ⟨_,h0⟩|⟨g,a,f,b,hB,c,d,_⟩
 . omega
 . exact ⟨g,a,b,hB,(Array.getElem?_eq_some_iff.1 c).1,d⟩
theorem ownE_take {w:World}{B e g cap n:Nat}{j:List Value}(h:w.ownsRow B e 1 (.slice (some ⟨g,0,none⟩) (n+1) cap) (n+1) j):w.ownsRow B e 1 (.slice (some ⟨g,0,none⟩) n cap) n (j.take n):=by
 rcases h.2 with ⟨b,_⟩|⟨q,k,f,b,o,m,l,d,c,a⟩
 . simp at b
 . simp only [Value.slice.injEq,Option.some.injEq,Addr.mk.injEq,and_true,true_and] at b
   obtain ⟨rfl,rfl⟩:=b;have p:=h.1
   refine ⟨by simp;omega,.inr ⟨g,cap,f,rfl,o,m,by omega,d,c,?_⟩⟩
   rw [<- a,List.take_take]
   congr 1
   omega
theorem Js {w:World}{B e:Nat}{v u:Value}{n b o:Nat}{d:List Value}(h:w.ownsRow B e 1 v n d)(j:v.ownBlock≠some b):(w.setCell ⟨b,o,none⟩ u).ownsRow B e 1 v n d:=by
 refine ⟨h.1,?_⟩
 rcases h.2 with h0|⟨k,a,c,f,hB,g,r⟩
 . exact .inl h0
 . subst f
   exact .inr ⟨k,a,c,rfl,hB,(Below.heap_setCell _ _ _ _ (λe=>j (by simp [Value.ownBlock,e]))).trans g,r⟩
theorem GY (a:Option Addr)(n c:Nat)(w:World):Calls Tryz.prog 212 #[.slice a n c] w λe w'=>e=.returned (.bool (decide (n=0)))/\w=w':=by
 by_cases h:n=0
 . subst h
   go_enter Tryz.func212,Tryz.ntmps212
   go_wp2
   go_ret
   exact ⟨rfl,rfl⟩
 . have b:((n:Int)==0)=false:=by simp;omega
   go_enter Tryz.func212,Tryz.ntmps212
   go_wp2
   go_ret
   exact ⟨by simp [h],rfl⟩
structure Ne (B g:Nat)(v:Value)(n:List Bool)(w:World):Prop where
 cell:w.cell? ⟨g,0,none⟩=some v
 froz:w.frozen? ⟨g,0,none⟩=false
 own:w.ownsRow B 4 1 v n.length (Bs n)
 ne:v.ownBlock≠some g
 ge:B<=g
 lt:g<w.heap.size
theorem Ne.pushed {B g:Nat}{v v':Value}{n:List Bool}{z:Bool}{w w1:World}{o:Obj}(h:Ne B g v n w)(k:w1.ownsRow B 4 1 v' (n.length+1) (Bs n++[.bool z]))(hg:(w.alloc o).grownBy w1 v.ownBlock)(hl:v'.ownBlock=v.ownBlock\/v'.ownBlock=some (w.alloc o).heap.size) :
    Ne B g v' (n++[z]) (w1.setCell ⟨g,0,none⟩ v')/\Below B w (w1.setCell ⟨g,0,none⟩ v')/\w1.cell? ⟨g,0,none⟩=some v/\w1.frozen? ⟨g,0,none⟩=false:=by
 have lt:=h.lt;have f:=hg.size
 simp only [World.size_alloc] at f
 have c:w1.heap[g]?=w.heap[g]?:=by
  rw [hg.block g (by simp;omega) (λe=>h.ne e.symm)];exact QF w o g lt
 have c0:w1.cell? ⟨g,0,none⟩=some v:=(World.cell?_of_block c).trans h.cell;have d:w1.frozen? ⟨g,0,none⟩=false:=(World.frozen?_of_block c).trans h.froz
 have a:v'.ownBlock≠some g:=by
  rcases hl with e|e
  . rw [e];exact h.ne
  . rw [e];intro b;injection b with b;simp at b;omega
 refine ⟨⟨QE c0,by rw [World.frozen?_setCell];exact d,?_,a,h.ge,by simp;omega⟩,?_,c0,d⟩
 . have:w1.ownsRow B 4 1 v' (n++[z]).length (Bs (n++[z])):=by simpa using k
   exact Js this a
 . refine Below.setCell ?_ h.ge _
   refine (Below.alloc (Below.refl B w) (by have:=h.ge;omega) o).grown hg (by have:=h.ge;simp;omega) (λj hj=>(h.own.lt j hj).1)
theorem ne_facts {B g:Nat}{v:Value}{m:List Bool}{z:Bool}{w:World}(h:Ne B g v (m++[z]) w):∃ r a,v=.slice (some ⟨r,0,none⟩) (m.length+1) a/\B<=r/\r<w.heap.size/\m.length+1<=a/\r≠g/\w.cell? ⟨r,m.length,none⟩=some (.bool z)/\w.frozen? ⟨r,m.length,none⟩=false/\w.cell? ⟨g,0,none⟩=some (.slice (some ⟨r,0,none⟩) (m.length+1) a)/\w.frozen? ⟨g,0,none⟩=false /\
    w.ownsRow B 4 1 (.slice (some ⟨r,0,none⟩) (m.length+1) a) (m.length+1) (Bs (m++[z])):=by
 have own:=h.own;rw [show (m++[z]).length=m.length+1 by simp] at own;obtain ⟨r,a,rfl,d,c,b⟩:=ownE_split own (by omega)
 refine ⟨r,a,rfl,d,c,b,λe=>h.ne (by simp [Value.ownBlock,e]),?_,own.frozenAt _,h.cell,h.froz,own⟩
 rw [own.cellAt m.length (by omega)]
 simp
theorem Ne.set {B g:Nat}{v:Value}{m:List Bool}{z:Bool}{w:World}{r cap:Nat}(h:Ne B g v (m++[z]) w)(hv:v=.slice (some ⟨r,0,none⟩) (m.length+1) cap)(b:r≠g)(hr:B<=r)(a:Bool):Ne B g v (m++[a]) (w.setCell ⟨r,m.length,none⟩ (.bool a))/\Below B w (w.setCell ⟨r,m.length,none⟩ (.bool a)):=by
 subst hv;have own:=h.own;rw [show (m++[z]).length=m.length+1 by simp] at own;obtain ⟨s1,_⟩:=own.stored m.length (.bool a)
 refine ⟨⟨?_,by rw [World.frozen?_setCell];exact h.froz,?_,h.ne,h.ge,by simpa using h.lt⟩,bF.setCell hr _⟩
 . rw [World.cell?_setCell_other _ _ _ _ (λe=>b (congrArg Addr.block e))];exact h.cell
 . have e:(Bs (m++[z])).set m.length (.bool a)=Bs (m++[a]):=by
     simp only [Bs,List.map_append,List.map_cons,List.map_nil]
     rw [List.set_append_right _ _ (by simp)];simp
   rw [e] at s1;rw [show (m++[a]).length=m.length+1 by simp]
   exact s1
theorem Ne.drop {B g:Nat}{v:Value}{m:List Bool}{z:Bool}{w:World}{r cap:Nat}(h:Ne B g v (m++[z]) w)(hv:v=.slice (some ⟨r,0,none⟩) (m.length+1) cap)(b:r≠g)(hr:B<=r):Ne B g (.slice (some ⟨r,0,none⟩) m.length cap) m (w.setCell ⟨g,0,none⟩ (.slice (some ⟨r,0,none⟩) m.length cap))/\Below B w (w.setCell ⟨g,0,none⟩ (.slice (some ⟨r,0,none⟩) m.length cap)):=by
 subst hv;have own:=h.own;rw [show (m++[z]).length=m.length+1 by simp] at own;have c:=ownE_take own;have e:(Bs (m++[z])).take m.length=Bs m:=by simp [Bs]
 rw [e] at c;have a:(Value.slice (some ⟨r,0,none⟩) m.length cap).ownBlock≠some g:=λe=>b (by simpa [Value.ownBlock] using e)
 exact ⟨⟨QE h.cell,by rw [World.frozen?_setCell];exact h.froz,Js c a,a,h.ge,by simpa using h.lt⟩,bF.setCell h.ge _⟩
theorem form_range (a:Int):QM (Qr a)=-1\/QM (Qr a)=0\/QM (Qr a)=1\/QM (Qr a)=2\/QM (Qr a)=3\/QM (Qr a)=4\/QM (Qr a)=5\/QM (Qr a)=6\/QM (Qr a)=7\/QM (Qr a)=8\/QM (Qr a)=9\/QM (Qr a)=10:=by
 by_cases h:0<=a/\a<192
 . have e:=of_decide_eq_true (rng 0 192 (λi=>decide (-1<=QM (tbl.getD i Z0)/\QM (tbl.getD i Z0)<=10)) (by decide +kernel) a (by omega) (by omega));have er:Qr a=tbl.getD a.toNat Z0:=by simp only [Qr,h,and_self,if_true]
   rw [<- er] at e
   omega
 . have er:Qr a=Z0:=by simp only [Qr,h,if_false]
   rw [er];left;decide
theorem stepM_len {n a:List Bool}{b:Int}(h:Jf n b=some a):a.length<=n.length+1:=by
 unfold Jf at h
 split at h
 · cases h
 . split at h
   · cases h;simp
   . split at h
     · cases h;simp
     . split at h
       · split at h
         · cases h;simp
         . cases h
       . split at h
         · cases h;simp;omega
         . cases h;omega
theorem nestNew_c (w:World):Calls Tryz.prog 209 #[] w λe w'=>e=.returned (.slice (some ⟨w.heap.size,0,none⟩) 1 1)/\w'=w.alloc (.cells #[.bool false] 4):=by
 go_enter Tryz.func209,Tryz.ntmps209
 go_wp2
 go_ret
 exact ⟨rfl,rfl⟩
theorem ownE_down {w:World}{B d e n:Nat}{v:Value}{c:List Value}(h:w.ownsRow B e 1 v n c)(hB:d<=B):w.ownsRow d e 1 v n c:=by
 refine ⟨h.1,?_⟩
 rcases h.2 with h0|⟨g,b,a,f,j,r⟩
 . exact .inl h0
 . exact .inr ⟨g,b,a,f,by omega,r⟩
theorem oneU (L:List Int):∀ u ∈ U L,u.oneCell'=true:=by
 intro u a
 simp only [U,List.mem_map] at a
 obtain ⟨y,_,rfl⟩:=a
 rfl
theorem Qv {P:Program}{w:World}{ops:Array Oper}{o:Oper}{a:Act}{K:Act->World->Prop}{Q:Exit->Act->World->Prop}{E:Prop}(f:o.guard=none)(s x:Operand)(t:TypeId)
    (l:o.op=.call { callee:=.builtin .append,args:=#[s,x],argTypes:=#[t,t] })
    (base:Nat) (e:TypeId) (i:TypeInfo) (z:Value) (size bytes:Nat) (ht:P.underlying t=some (.slice e)) (hi:P.info? e=some i) (hz:i.zero=some z)
    (hsize:i.size=size) (hby:i.bytes=bytes) (hzs:z.cells.size=size) (hsz:0<size)
    (v:Value) (n:Nat) (xs:List Value) (hs:a.eval s=v) (hown:w.ownsRow base e size v n xs)
    (ad:Addr) (m c:Nat) (news:List Value) (hx:a.eval x=.slice (some ad) m c) (hl:news.length=m*size) (hn:∀ j u,news[j]?=some u->w.cell? (ad.add j)=some u) (h1:∀ u ∈ news,u.oneCell'=true)
    (h63:n+m<=maxLen) (hbytes:(n+m)*bytes<=140737488355328) (hbase:base<=w.heap.size)
    (h:∀ b d,d.ownsRow base e size b (n+m) (xs++news)->w.grownBy d v.ownBlock->(b.ownBlock=v.ownBlock\/b.ownBlock=some w.heap.size)->K (a.put o.dst b) d) :
    if Region.wanted o (yielded ops a.tmps)=true then Oper.wp P o a w K Q else E:=by
 have g:Region.wanted o (yielded ops a.tmps)=true:=by simp [Region.wanted,f]
 rw [if_pos g];obtain ⟨b,d,k,r,q,y,p⟩:=run_append_own_at (P:=P) w base t o.type e i z size bytes ht hi hz hsize hby hzs hsz v n xs hown ad m c news hl hn h1 h63 hbytes hbase;unfold Oper.wp execOp
 simp only [l,resolve,invoke,builtin,Sem.run_bind,Sem.run_pure,Result.andThen_ok,List.map_toArray,List.map_cons,List.map_nil,hs,hx,k]
 exact h b d r q p
end Go.Proofs.YtedcmcdbejjgcaaGreat
namespace Go.Proofs.YtedcmcdbejjgcaaGreat.By
open Go.RowKit
def P2 (n:Int):Int:=2 ^ n.toNat
theorem P2_nat (k:Nat):P2 (7*(k:Int))=2 ^ (7*k):=by unfold P2;rw [show (7*(k:Int)).toNat=7*k by omega]
theorem XO (n:Int):1<=P2 n:=by unfold P2;have:=Int.pow_pos (n:=(2:Int)) (m:=n.toNat) (by omega);omega
theorem P2_succ (n:Int)(h:0<=n):P2 (n+1)=2*P2 n:=by
 unfold P2;rw [show (n+1).toNat=n.toNat+1 by omega,Int.pow_succ];omega
theorem P2_7 (n:Int)(h:0<=n):P2 (n+7)=128*P2 n:=by
 unfold P2;rw [show (n+7).toNat=n.toNat+7 by omega,Int.pow_add];omega
theorem P2_le {m n:Int}(h0:m<=n):P2 m<=P2 n:=by
 unfold P2;have h:2 ^ m.toNat<=2 ^ n.toNat:=Nat.pow_le_pow_right (by omega) (by omega);have a:((2 ^ m.toNat:Nat):Int)<=((2 ^ n.toNat:Nat):Int):=by omega
 simpa using a
theorem P2_63 {n:Int}(h:n<=63):P2 n<=9223372036854775808:=by
 have:=P2_le h;rw [show P2 63=9223372036854775808 by decide] at this;exact this
theorem P2_62 {n:Int}(h:n<=62):P2 n<=4611686018427387904:=by
 have:=P2_le h;rw [show P2 62=4611686018427387904 by decide] at this;exact this
theorem P2_56 {n:Int}(h:n<=56):P2 n<=72057594037927936:=by
 have:=P2_le h;rw [show P2 56=72057594037927936 by decide] at this;exact this
def rok (s:Bool)(c u:Int):Bool :=
 if 7<=u then true else if s then (c%128 / P2 (u-1)==0) || (c%128 / P2 (u-1)==P2 (8-u)-1) else c%128 / P2 u==0
def Xt (s:Bool)(c room:Int):Int:=if 7<room then 0 else if 128<=c then 2 else if rok s c room then 0 else 3
theorem rokU_nat:∀ c:Nat,c<128->∀ u:Nat,u<8->1<=u->(GN (GN c 7) u != GN c 7)=!rok false c u:=by decide +kernel
theorem rokS_nat:∀ c:Nat,c<128->∀ u:Nat,u<8->1<=u->(GF (GF c 7) u != GF c 7)=!rok true c u:=by decide +kernel
theorem rokU (c u:Int)(h0:0<=c)(h1:c<128)(b:1<=u)(a:u<=7):(GN (GN c 7) u != GN c 7)=!rok false c u:=by
 obtain ⟨C,rfl⟩:=Int.eq_ofNat_of_zero_le h0;obtain ⟨V,rfl⟩:=Int.eq_ofNat_of_zero_le (show 0<=u by omega)
 exact rokU_nat C (by omega) V (by omega) (by omega)
theorem rokS (c u:Int)(h0:0<=c)(h1:c<128)(b:1<=u)(a:u<=7):(GF (GF c 7) u != GF c 7)=!rok true c u:=by
 obtain ⟨C,rfl⟩:=Int.eq_ofNat_of_zero_le h0;obtain ⟨V,rfl⟩:=Int.eq_ofNat_of_zero_le (show 0<=u by omega)
 exact rokS_nat C (by omega) V (by omega) (by omega)
theorem rok1U_nat:∀ c:Nat,c<128->rok false c 1=true->c<=1:=by decide +kernel
theorem rok1S_nat:∀ c:Nat,c<128->rok true c 1=true->c=0\/c=127:=by decide +kernel
theorem rok1U (c:Int)(h0:0<=c)(h1:c<128)(h:rok false c 1=true):c<=1:=by
 obtain ⟨C,rfl⟩:=Int.eq_ofNat_of_zero_le h0
 have:=rok1U_nat C (by omega) h;omega
theorem rok1S (c:Int)(h0:0<=c)(h1:c<128)(h:rok true c 1=true):c=0\/c=127:=by
 obtain ⟨C,rfl⟩:=Int.eq_ofNat_of_zero_le h0
 have:=rok1S_nat C (by omega) h;omega
def fin (s:Bool)(a c:Int)(k:Nat):Int:=if s=true/\64<=c then (a-P2 (7*(k:Int)+7))%18446744073709551616 else a%18446744073709551616
def JK (s:Bool)(bs:List Int)(p:Nat)(B:Int):Nat->Nat->Int->Int × Int × Int
 |0,_,_=>(0,0,0)
 |f+1,k,acc =>
  if bs.length<=p+k then (1,0,bs.length)
  else if B-7*(k:Int)<=7/\128<=bs.getD (p+k) 0 then (2,0,(p:Int)+k+1)
  else if B-7*(k:Int)<=7/\rok s (bs.getD (p+k) 0) (B-7*(k:Int))=false then (3,0,(p:Int)+k+1)
  else if bs.getD (p+k) 0<128 then (0,fin s (acc+bs.getD (p+k) 0%128*P2 (7*(k:Int))) (bs.getD (p+k) 0) k,(p:Int)+k+1)
  else JK s bs p B f (k+1) (acc+bs.getD (p+k) 0%128*P2 (7*(k:Int)))
def GI (b:Int):Int:=if 1<=b/\b<=64 then b else 64
theorem normB_bd (b:Int):1<=GI b/\GI b<=64:=by unfold GI;omega
def GD (s:Bool)(bs:List Int)(a b:Int):Int × Int × Int :=
 if 0<=a/\a<=bs.length then JK s bs a.toNat (GI b) 10 0 0 else (1,0,bs.length)
section
variable {s:Bool} {bs:List Int} {p f k:Nat} {B acc:Int}
theorem Oi (h:bs.length<=p+k):JK s bs p B (f+1) k acc=(1,0,(bs.length:Int)):=by
 simp only [JK];rw [if_pos h]
theorem Ge (h:p+k<bs.length)(hr:B-7*(k:Int)<=7)(a:128<=bs.getD (p+k) 0):JK s bs p B (f+1) k acc=(2,0,(p:Int)+k+1):=by
 simp only [JK];rw [if_neg (by omega),if_pos ⟨hr,a⟩]
theorem Gf (h:p+k<bs.length)(hr:B-7*(k:Int)<=7)(b:bs.getD (p+k) 0<128)(a:rok s (bs.getD (p+k) 0) (B-7*(k:Int))=false):JK s bs p B (f+1) k acc=(3,0,(p:Int)+k+1):=by
 simp only [JK];rw [if_neg (by omega),if_neg (by omega),if_pos ⟨hr,a⟩]
theorem GW (h:p+k<bs.length)(c:bs.getD (p+k) 0<128)(b:B-7*(k:Int)<=7->rok s (bs.getD (p+k) 0) (B-7*(k:Int))=true) :
    JK s bs p B (f+1) k acc=(0,fin s (acc+bs.getD (p+k) 0%128*P2 (7*(k:Int))) (bs.getD (p+k) 0) k,(p:Int)+k+1):=by
 simp only [JK]
 rw [if_neg (by omega),if_neg (by omega),if_neg (by rintro ⟨d,a⟩;rw [b d] at a;cases a),if_pos c]
theorem Gd (h:p+k<bs.length)(hr:7<B-7*(k:Int))(a:128<=bs.getD (p+k) 0) :
    JK s bs p B (f+1) k acc=JK s bs p B f (k+1) (acc+bs.getD (p+k) 0%128*P2 (7*(k:Int))):=by
 simp only [JK]
 rw [if_neg (by omega),if_neg (by omega),if_neg (by omega),if_neg (by omega)]
end
theorem mul_bd (c p:Int)(h0:0<=c)(h1:c<=127)(hp:1<=p):0<=c*p/\c*p<=127*p :=
 ⟨Int.mul_nonneg h0 (by omega),Int.mul_le_mul_of_nonneg_right h1 (by omega)⟩
theorem G6 (acc c:Int)(k:Nat)(h0:0<=acc)(h1:acc<P2 (7*(k:Int))):0<=acc+c%128*P2 (7*(k:Int))/\acc+c%128*P2 (7*(k:Int))<P2 (7*((k+1:Nat):Int)):=by
 have h:=mul_bd (c%128) (P2 (7*(k:Int))) (by omega) (by omega) (XO _);have e:P2 (7*((k+1:Nat):Int))=128*P2 (7*(k:Int)):=by rw [<- P2_7 _ (by omega),show 7*((k+1:Nat):Int)=7*(k:Int)+7 by omega]
 rw [e];omega
theorem or_comm' (k:IntKind)(x y:Int):bits .or k x y=bits .or k y x:=by
 unfold bits;simp only [BitVec.or_comm]
theorem join_u64 (acc d:Int)(k:Nat)(h0:0<=acc)(h1:acc<P2 (7*(k:Int)))(l:k<=9)(g:0<=d)(f:d*P2 (7*(k:Int))<=18446744073709551615) :
    bits .or .u64 acc (IntKind.u64.wrap (d*2 ^ (7*k)))=acc+d*P2 (7*(k:Int)):=by
 have j:=XO (7*(k:Int));have m:=P2_63 (n:=7*(k:Int)) (by omega);have c:0<=d*P2 (7*(k:Int)):=Int.mul_nonneg g (by omega);rw [<- P2_nat,IntKind.wrap_u64,Int.emod_eq_of_lt c (by omega),or_comm',bits_join .u64 64 (by decide) (λn a b=>by rw [IntKind.wrap_u64];omega) (7*k) _ _ c ?_ (by omega) h0 ?_ (by omega)]
 . omega
 . rw [P2_nat];exact Int.mul_emod_left _ _
 . rw [<- P2_nat];exact h1
theorem join_i64 (acc d:Int)(k:Nat)(h0:0<=acc)(h1:acc<P2 (7*(k:Int)))(l:k<=8)(j:0<=d)(c:d<=127) :
    bits .or .i64 acc (wrap64 (d*2 ^ (7*k)))=acc+d*P2 (7*(k:Int)):=by
 have f:=XO (7*(k:Int));have m:=P2_56 (n:=7*(k:Int)) (by omega);have g:=mul_bd d (P2 (7*(k:Int))) j c f;rw [<- P2_nat];have e:wrap64 (d*P2 (7*(k:Int)))=d*P2 (7*(k:Int)):=by unfold wrap64;omega
 rw [e,or_comm',bits_join .i64 63 (by decide) (λn a b=>by rw [IntKind.wrap_i64];omega) (7*k) _ _ g.1 ?_ (by omega) h0 ?_ (by omega)]
 . omega
 . rw [P2_nat];exact Int.mul_emod_left _ _
 . rw [<- P2_nat];exact h1
theorem join_i64_9 (acc:Int)(h0:0<=acc)(h1:acc<9223372036854775808):bits .or .i64 acc (wrap64 (127*2 ^ (7*9)))=acc-9223372036854775808:=by
 have e:wrap64 (127*2 ^ (7*9))=-9223372036854775808:=by unfold wrap64;decide
 rw [e];obtain ⟨A,rfl⟩:=Int.eq_ofNat_of_zero_le h0
 show IntKind.i64.wrap ((BitVec.ofInt 64 (A:Int) ||| BitVec.ofInt 64 (-9223372036854775808)).toNat:Int)=_
 have e2:(BitVec.ofInt 64 (-9223372036854775808)).toNat=9223372036854775808:=by decide
 rw [BitVec.toNat_or,ofInt_u64 A (by omega),e2,Nat.or_comm,nat_join 63 9223372036854775808 A (by decide) (by omega),IntKind.wrap_i64]
 omega
theorem join_i64_0 (acc:Int)(h0:0<=acc)(h1:acc<9223372036854775808)(k:Nat):bits .or .i64 acc (wrap64 (0*2 ^ (7*k)))=acc:=by
 rw [Int.zero_mul];have e:wrap64 0=0:=by unfold wrap64;decide
 rw [e,or_comm',bits_join .i64 63 (by decide) (λn a b=>by rw [IntKind.wrap_i64];omega) 63 _ _ (by omega) (by omega) (by omega) h0 (by omega) (by omega)]
 omega
theorem cutU_fit (a:Int)(k:Nat)(b:k<=8)(h0:0<=a)(h1:a<P2 (7*((k+1:Nat):Int))):GN a (7*((k:Int)+1))=a:=by
 rcases (show k=0\/k=1\/k=2\/k=3\/k=4\/k=5\/k=6\/k=7\/k=8 by omega) with rfl|rfl|rfl|rfl|rfl|rfl|rfl|rfl|rfl
 all_goals (simp [P2,GN,IntKind.wrap_u64] at *;omega)
theorem cutS_fit (a:Int)(k:Nat)(b:k<=8)(h0:0<=a)(h1:a<P2 (7*((k+1:Nat):Int))):GF a (7*((k:Int)+1))=if 64*P2 (7*(k:Int))<=a then a-P2 (7*(k:Int)+7) else a:=by
 rcases (show k=0\/k=1\/k=2\/k=3\/k=4\/k=5\/k=6\/k=7\/k=8 by omega) with rfl|rfl|rfl|rfl|rfl|rfl|rfl|rfl|rfl
 all_goals (simp [P2,GF,wrap64] at *;omega)
theorem finU (acc c:Int)(k:Nat)(j:k<=9)(h0:0<=acc)(h1:acc<P2 (7*(k:Int)))(d:0<=c)(l:c<128)(f:k=9->c<=1) :
    c%128*P2 (7*(k:Int))<=18446744073709551615/\0<=acc+c%128*P2 (7*(k:Int))/\acc+c%128*P2 (7*(k:Int))<=18446744073709551615 /\
    GN (acc+c%128*P2 (7*(k:Int))) (7*((k:Int)+1))=fin false (acc+c%128*P2 (7*(k:Int))) c k:=by
 have a:=G6 acc c k h0 h1
 by_cases h:k=9
 . subst h;have b:=f rfl;have e:P2 (7*((9:Nat):Int))=9223372036854775808:=by decide
   rw [e] at h1 a⊢;rw [show c%128=c by omega] at a⊢
   refine ⟨by omega,by omega,by omega,?_⟩
   unfold GN fin;rw [if_pos (by omega),if_neg (by simp)]
   omega
 . have g:=mul_bd (c%128) (P2 (7*(k:Int))) (by omega) (by omega) (XO _);have m:=P2_56 (n:=7*(k:Int)) (by omega)
   refine ⟨by omega,by omega,by omega,?_⟩
   rw [cutU_fit _ k (by omega) a.1 a.2];unfold fin;rw [if_neg (by simp)]
   omega
theorem finS (acc c:Int)(k:Nat)(o:k<=9)(h0:0<=acc)(h1:acc<P2 (7*(k:Int)))(f:0<=c)(p:c<128)(g:k=9->c=0\/c=127) :
    ∃ x,bits .or .i64 acc (wrap64 (c%128*2 ^ (7*k)))=x/\-9223372036854775808<=x/\x<=9223372036854775807 /\
    IntKind.u64.wrap (GF x (7*((k:Int)+1)))=fin true (acc+c%128*P2 (7*(k:Int))) c k:=by
 have b:=G6 acc c k h0 h1
 by_cases h:k=9
 . subst h;have e:P2 (7*((9:Nat):Int))=9223372036854775808:=by decide
   have j:P2 (7*((9:Nat):Int)+7)=1180591620717411303424:=by decide
   rw [e] at h1 b⊢
   rcases g rfl with rfl|rfl
   . refine ⟨acc,join_i64_0 acc h0 h1 9,by omega,by omega,?_⟩
     unfold GF fin;rw [if_pos (by omega),if_neg (by omega),IntKind.wrap_u64]
     omega
   . refine ⟨acc-9223372036854775808,join_i64_9 acc h0 h1,by omega,by omega,?_⟩
     unfold GF fin;rw [if_pos (by omega),if_pos ⟨rfl,by omega⟩,IntKind.wrap_u64,j]
     omega
 . have m:=mul_bd (c%128) (P2 (7*(k:Int))) (by omega) (by omega) (XO _);have q:=P2_56 (n:=7*(k:Int)) (by omega)
   refine ⟨_,join_i64 acc (c%128) k h0 h1 (by omega) (by omega) (by omega),by omega,by omega,?_⟩
   rw [cutS_fit _ k (by omega) b.1 b.2,IntKind.wrap_u64];have l:=XO (7*(k:Int));unfold fin;rw [show c%128=c by omega] at *
   by_cases a:64<=c
   . have d:64*P2 (7*(k:Int))<=c*P2 (7*(k:Int)):=Int.mul_le_mul_of_nonneg_right a (by omega);rw [if_pos (by omega),if_pos ⟨rfl,a⟩]
   . have d:c*P2 (7*(k:Int))<=63*P2 (7*(k:Int)):=Int.mul_le_mul_of_nonneg_right (by omega) (by omega);rw [if_neg (by omega),if_neg (by omega)]
end Go.Proofs.YtedcmcdbejjgcaaGreat.By
namespace Go.Proofs.YtedcmcdbejjgcaaGreat
open Go.RowKit Go.Sort
inductive Rs (α:Type) where
 |bad (err at_:Int)
 |ok (v:α) (p:Nat)
def Rs.bind {α β:Type}(r:Rs α)(k:α->Nat->Rs β):Rs β:=match r with
 |.bad e a=>.bad e a
 |.ok v p=>k v p
def Qx (bs:List Int)(p:Nat):Rs Int:=if bs.length<=p then .bad 2 bs.length else .ok (bs.getD p 0) (p+1)
abbrev flt (er at_:Int):PanicEntry:={ v:=.iface 60 (.agg #[.int .i64 er,.int .i64 at_,.nilIface]),recovered:=false }
def Qm (bs:List Int):Prop:=∀ i,0<=bs.getD i 0/\bs.getD i 0<=255
structure Bf where
 cap:Nat
 fs:List Int
 E:Int
 rest:List Value
def Bf.er (b:Bf):Int:=if b.E<b.fs.length then 6 else 2
def Bf.ea (b:Bf):Int:=if b.E<b.fs.length then b.E+1 else b.fs.length
def Bf.flt (b:Bf)(er at_:Int):PanicEntry:=if er=2 then YtedcmcdbejjgcaaGreat.flt b.er b.ea else YtedcmcdbejjgcaaGreat.flt er at_
structure Rd (w:World)(q:Nat)(ba:Option Addr)(bc:Bf)(bs:List Int)(p:Nat):Prop where
 c0:w.cell? ⟨q,0,none⟩=some (.slice ba bc.fs.length bc.cap)
 c1:w.cell? ⟨q,1,none⟩=some (.int .i64 p)
 c2:w.cell? ⟨q,2,none⟩=some (.int .i64 bc.E)
 fz:∀ i,w.frozen? ⟨q,i,none⟩=false
 has:By.Has w ba bs
 ne:∀ a,ba=some a->a.block≠q
 le:p<=bs.length
 cap:bs.length<=bc.cap
 cn:w.cell? ⟨q,18,none⟩=some .nilFunc
 cw:w.cell? ⟨q,19,none⟩=some (.slice none 0 0)
 hasF:By.Has w ba bc.fs
 win:bs=bc.fs.take bc.E.toNat
 e0:0<=bc.E
 capF:bc.fs.length<=bc.cap
 rst:∀ i v,bc.rest[i]?=some v->w.cell? ⟨q,3+i,none⟩=some v
 rl:bc.rest.length=15
 fl:bc.fs.length<=1099511627776
theorem Rd.lt {w q ba bc bs p}(h:Rd w q ba bc bs p):q<w.heap.size:=World.block_lt_of_cell? w _ h.c0
theorem By.Has.keep {w w1:World}{a:Option Addr}{xs:List Int}(h:By.Has w a xs)(d:Below w.heap.size w w1):By.Has w1 a xs:=by
 rcases h with h|⟨b,o,e,c⟩
 . exact .inl h
 . exact .inr ⟨b,o,e,λi hi=>(d.cell (World.block_lt_of_cell? w _ (c i hi))).trans (c i hi)⟩
theorem By.Has.grown {w w1:World}{a:Option Addr}{xs:List Int}{q:Nat}(h:By.Has w a xs)(hg:w.grownBy w1 (some q))(c:∀ x,a=some x->x.block≠q):By.Has w1 a xs:=by
 rcases h with h|⟨b,o,e,d⟩
 . exact .inl h
 . refine .inr ⟨b,o,e,λi hi=>?_⟩
   exact hg.cell (d i hi) (by have:=c _ e;simpa using this)
theorem Rd.keep {w w1 q ba bc bs p}(h:Rd w q ba bc bs p)(a:Below w.heap.size w w1):Rd w1 q ba bc bs p :=
 have b:=h.lt
 { h with
  c0:=(a.cell (p:=⟨q,0,none⟩) b).trans h.c0,c1:=(a.cell (p:=⟨q,1,none⟩) b).trans h.c1,c2:=(a.cell (p:=⟨q,2,none⟩) b).trans h.c2
  fz:=λi=>(a.frozen (p:=⟨q,i,none⟩) b).trans (h.fz i),has:=h.has.keep a,cn:=(a.cell (p:=⟨q,18,none⟩) b).trans h.cn,cw:=(a.cell (p:=⟨q,19,none⟩) b).trans h.cw
  hasF:=h.hasF.keep a,rst:=fun i v hv=>(a.cell (p:=⟨q,3+i,none⟩) b).trans (h.rst i v hv) }
theorem Rd.drewN {w q ba bc bs p}(h:Rd w q ba bc bs p)(n:Nat):Rd (w.drewN n) q ba bc bs p :=
 ⟨h.c0,h.c1,h.c2,h.fz,h.has,h.ne,h.le,h.cap,h.cn,h.cw,h.hasF,h.win,h.e0,h.capF,h.rst,h.rl,h.fl⟩
theorem Q2 {w w1:World}{r:Option Nat}(h:w.grownBy w1 r)(n:Nat):w.grownBy (w1.drewN n) r:=⟨h.os,h.tape,h.output,h.size,h.block⟩
theorem Qp (w:World)(q o:Nat)(v:Value):w.grownBy (w.setCell ⟨q,o,none⟩ v) (some q) :=
 ⟨rfl,rfl,rfl,by simp [World.setCell],λk hk hne=>Below.heap_setCell w ⟨q,o,none⟩ v k (by simpa using hne)⟩
theorem Rd.step {w q ba bc bs p}(h:Rd w q ba bc bs p)(a:Nat)(hp:a<=bs.length):Rd (w.setCell ⟨q,1,none⟩ (.int .i64 a)) q ba bc bs a :=
 { h with
  c0:=Qd h.c0 (by omega),c1:=QE h.c1,c2:=Qd h.c2 (by omega),fz:=λi=>by rw [World.frozen?_setCell];exact h.fz i
  has:=h.has.grown (Qp w q 1 _) h.ne,le:=hp,cn:=Qd h.cn (by omega),cw:=Qd h.cw (by omega)
  hasF:=h.hasF.grown (Qp w q 1 _) h.ne,rst:=fun i v hv=>Qd (h.rst i v hv) (by omega) }
theorem Rd.wl {w q ba bc bs p}(h:Rd w q ba bc bs p):bs.length=min bc.E.toNat bc.fs.length:=by rw [h.win];simp
theorem Rd.getF {w q ba bc bs p}(h:Rd w q ba bc bs p)(i:Nat)(a:i<bs.length):bc.fs.getD i 0=bs.getD i 0:=by
 have:=h.wl
 rw [h.win]
 simp only [List.getD_eq_getElem?_getD,List.getElem?_take]
 rw [if_pos (by omega)]
theorem JE (q:Nat)(er at_:Int)(w:World)(c1:w.cell? ⟨q,1,none⟩=some (.int .i64 at_)) :
    Calls Tryz.prog 78 #[.pointer (some ⟨q,0,none⟩),.int .i64 er] w λe w'=>e=.panicked [flt er at_]/\w=w':=by
 go_enter Tryz.func78,Tryz.ntmps78
 go_wp2
 exact ⟨rfl,rfl,rfl⟩
theorem neqF2 {P:Program}{t:TypeId}{c rs:Array TypeId}{a:Bool}(d:P.underlying t=some (.func c rs a))(w:World):(binOp .neq t .nilFunc .nilFunc).run P w=.ok (.bool false) w:=by
 have:=eqF2 d w
 simp only [binOp,Sem.run_bind,Sem.run_pure] at this⊢
 cases hq:Sem.run P (Op.equal t Value.nilFunc Value.nilFunc) w with
 |ok b w' =>
  rw [hq] at this
  simp [Result.andThen] at this⊢
  obtain ⟨rfl,rfl⟩:=this
  exact ⟨rfl,rfl⟩
 |_=>rw [hq] at this;simp [Result.andThen] at this
theorem drewN2 (w:World)(a b:Nat):(w.drewN a).drewN b=w.drewN (a+b):=by
 simp [World.drewN,Nat.add_assoc]
theorem more_c (q ba bc bs p w)(h:Rd w q ba bc bs p) :
    Calls Tryz.prog 80 #[.pointer (some ⟨q,0,none⟩)] w λe w'=>e=.returned (.bool (decide (p<bc.fs.length)))/\∃ n,w'=w.drewN n:=by
 have c0:=h.c0;have c1:=h.c1;have j:=h.cn;have f:p<=bc.fs.length:=by have:=h.le;have:=h.wl;omega
 have c:=λw=>neqF2 (P:=Tryz.prog) Tryz.underlying53 w;clear h;generalize bc.fs.length=N at *
 by_cases a:p<N
 . have g:(p:Int)<(N:Int):=by omega
   have d:((p:Int)==(N:Int))=false:=by simp;omega
   go_enter Tryz.func80,Tryz.ntmps80
   go_wp2
   go_quiet (fail)
   go_wp2
   go_quiet (fail)
   go_wp2
   go_ret
   exact ⟨by simp [a],_,drewN2 _ _ _⟩
 . have g:¬ (p:Int)<(N:Int):=by omega
   have b:p=N:=by omega
   subst b
   go_enter Tryz.func80,Tryz.ntmps80
   go_wp2
   go_quiet (fail)
   go_wp2
   go_quiet (fail)
   go_wp2
   go_ret
   exact ⟨by simp [a],_,drewN2 _ _ _⟩
end Go.Proofs.YtedcmcdbejjgcaaGreat
namespace Go.Proofs.YtedcmcdbejjgcaaGreat
open Go.RowKit Go.Sort
theorem Ql {P:Program}{c:Code}{Q:Exit->Act->World->Prop}{a:Act}{b:World}(R:World->Prop)(d:R b)(h:∀ W,R W->c.wp P Q a W):c.wp P Q a b:=h b d
theorem take_end (q ba bc bs p w)(h:Rd w q ba bc bs p)(hp:bc.fs.length<=p) :
    Calls Tryz.prog 77 #[.pointer (some ⟨q,0,none⟩)] w λe w'=>e=.panicked [flt 2 bc.fs.length]/\w.grownBy w' (some q):=by
 have c:=Hm (more_c q ba bc bs _ w h);have b:decide (p<bc.fs.length)=false:=by simp;omega
 have a:p=bc.fs.length:=by have:=h.le;have:=h.wl;omega
 rw [b] at c;have d:=Hm (λn=>JE q 2 bc.fs.length (w.drewN n) (by have:=h.c1;rw [a] at this;exact this));clear b h hp a
 go_enter Tryz.func77,Tryz.ntmps77
 go_wp2_with fail
 refine (c.o).mono ?_
 rintro e w1 ⟨rfl,n,rfl⟩
 go_wp2_with fail
 refine (d.o n).mono ?_
 rintro e w2 ⟨rfl,rfl⟩
 exact ⟨rfl,rfl,Q2 (World.grownBy.refl _ _) n⟩
theorem take_past (q ba bc bs p w)(h:Rd w q ba bc bs p)(hp:bs.length<=p)(b:p<bc.fs.length) :
    Calls Tryz.prog 77 #[.pointer (some ⟨q,0,none⟩)] w λe w'=>e=.panicked [flt 6 ((p:Int)+1)]/\w.grownBy w' (some q):=by
 have a:bc.E=(p:Int):=by have:=h.le;have:=h.wl;have:=h.e0;omega
 have k:(p:Int)<=1099511627776:=by have:=h.fl;omega
 have c:=Hm (more_c q ba bc bs _ w h);have d:decide (p<bc.fs.length)=true:=by simp [b]
 rw [d] at c;have H:=Hm h;have c1:∀ n,(w.drewN n).cell? ⟨q,1,none⟩=some (.int .i64 p):=λn=>h.c1;have g:∀ n,(w.drewN n).frozen? ⟨q,1,none⟩=false:=λn=>h.fz 1;clear d h
 go_enter Tryz.func77,Tryz.ntmps77
 go_wp2_with fail
 refine (c.o).mono ?_
 rintro e w1 ⟨rfl,n,rfl⟩;have j:=c1 n;have m:=g n;clear c1 g c
 go_upto_region 4 with fail
 refine Ql (λW=>W.cell? ⟨q,1,none⟩=some (.int .i64 ((p:Int)+1))/\W.cell? ⟨q,2,none⟩=some (.int .i64 (p:Int))/\w.grownBy W (some q)) ⟨?_,?_,?_⟩ ?_
 . exact QE j
 . have:=(H.o.drewN n).c2
   rw [a] at this
   exact Qd this (by omega)
 . exact Qa (Q2 (World.grownBy.refl _ _) n) (Qp _ q 1 _)
 rintro W ⟨r,e2,f⟩;have t:=Hm f;have s:=Hm (λn=>JE q 6 ((p:Int)+1) (W.drewN n) r);have l:(p:Int)<(p:Int)+1:=by omega
 clear f H j m a hp
 go_quiet (fail)
 go_wp2_with fail
 refine (s.o _).mono ?_
 rintro e w2 ⟨rfl,rfl⟩
 exact ⟨rfl,rfl,Q2 t.o _⟩
theorem XP (q ba bc bs p w)(h:Rd w q ba bc bs p)(hp:bs.length<=p) :
    Calls Tryz.prog 77 #[.pointer (some ⟨q,0,none⟩)] w λe w'=>e=.panicked [bc.flt 2 bs.length]/\w.grownBy w' (some q):=by
 have d:=h.wl;have b:=h.le;have f:=h.e0
 by_cases a:p<bc.fs.length
 . refine (take_past q ba bc bs p w h hp a).mono λe w' ⟨h1,h2⟩=>⟨?_,h2⟩
   rw [h1];have c:bc.E=(p:Int):=by omega
   unfold Bf.flt Bf.er Bf.ea;rw [if_pos rfl,if_pos (by omega),if_pos (by omega),c]
 . refine (take_end q ba bc bs p w h (by omega)).mono λe w' ⟨h1,h2⟩=>⟨?_,h2⟩
   rw [h1];unfold Bf.flt Bf.er Bf.ea;rw [if_pos rfl,if_neg (by omega),if_neg (by omega)]
theorem GG (q ba bc bs p w)(h:Rd w q ba bc bs p)(hp:p<bs.length)(hl:bs.length<=1099511627776) :
    Calls Tryz.prog 77 #[.pointer (some ⟨q,0,none⟩)] w λe w'=>e=.returned (.int .u8 (bs.getD p 0))/\Rd w' q ba bc bs (p+1)/\w.grownBy w' (some q):=by
 obtain ⟨y,k⟩:∃ y,bs.getD p 0=y:=⟨_,rfl⟩;have g:bc.fs.getD p 0=y:=(h.getF p hp).trans k;rw [k];have F:=Hm g;have c:p<bc.fs.length:=by have:=h.wl;omega
 have l:(p:Int)+1<=bc.E:=by have:=h.wl;have:=h.e0;omega
 clear k g;have m:=Hm (more_c q ba bc bs _ w h);have r:decide (p<bc.fs.length)=true:=by simp [c]
 rw [r] at m;have H:=Hm h;have c1:∀ n,(w.drewN n).cell? ⟨q,1,none⟩=some (.int .i64 p):=λn=>h.c1;have u:∀ n,(w.drewN n).frozen? ⟨q,1,none⟩=false:=λn=>h.fz 1;clear r h
 go_enter Tryz.func77,Tryz.ntmps77
 go_wp2_with fail
 refine (m.o).mono ?_
 rintro e w1 ⟨rfl,n,rfl⟩;have D:=c1 n;have B:=u n;clear c1 u m
 go_upto_region 4 with fail
 refine Ql (λW=>Rd W q ba bc bs (p+1)/\w.grownBy W (some q)) ⟨?_,?_⟩ ?_
 . have:=(H.o.drewN n).step (p+1) (by omega)
   simpa using this
 . exact Qa (Q2 (World.grownBy.refl _ _) n) (Qp _ q 1 _)
 rintro W ⟨f,t⟩;have I:=f.c0;have C:=f.c1;have e2:=f.c2;have j:=Hm t;have a:=Hm f
 rcases f.hasF with v|⟨b1,G,ea,s⟩
 . rw [v] at c;simp at c
 have d:=s p c;rw [F.o] at d;subst ea;have A:(p:Int)<(bc.fs.length:Int):=by omega
 have z:¬ bc.E<(p:Int)+1:=by omega
 have b:((p+1:Nat):Int)=(p:Int)+1:=by omega
 rw [b] at C;clear f t s H D B b l;generalize bc.fs.length=NF at *;generalize bc.E=EE at *
 go_quiet (fail)
 go_wp2_with fail
 go_quiet (fail)
 go_wp2_with fail
 go_ret
 exact ⟨rfl,⟨a.o.c0,a.o.c1,a.o.c2,a.o.fz,a.o.has,a.o.ne,a.o.le,a.o.cap,a.o.cn,a.o.cw,a.o.hasF,a.o.win,a.o.e0,a.o.capF,a.o.rst,a.o.rl,a.o.fl⟩,⟨j.o.os,j.o.tape,j.o.output,j.o.size,j.o.block⟩⟩
end Go.Proofs.YtedcmcdbejjgcaaGreat
namespace Go.Proofs.YtedcmcdbejjgcaaGreat
open Go.RowKit Go.Sort
def Qy (s:Bool)(B:Int)(bs:List Int)(p:Nat):Rs Int :=
 if (By.JK s bs p B 10 0 0).1=1 then .bad 2 bs.length else if (By.JK s bs p B 10 0 0).1=0 then .ok (By.JK s bs p B 10 0 0).2.1 (By.JK s bs p B 10 0 0).2.2.toNat else .bad 7 (By.JK s bs p B 10 0 0).2.2
def Inv (s:Bool)(bs:List Int)(p:Nat)(B:Int)(k:Nat):Prop :=
 ∃ acc,By.JK s bs p B 10 0 0=By.JK s bs p B (10-k) k acc/\∀ m,p+k<=m->By.JK s (bs.take m) p B 10 0 0=By.JK s (bs.take m) p B (10-k) k acc
theorem Inv.start (s:Bool)(bs:List Int)(p:Nat)(B:Int):Inv s bs p B 0:=⟨0,rfl,λ_ _=>rfl⟩
theorem take_getD (bs:List Int)(m i:Nat)(h:i<m):(bs.take m).getD i 0=bs.getD i 0:=by simp [List.getD,h]
theorem Inv.step {s:Bool}{bs:List Int}{p:Nat}{B:Int}{k:Nat}(h:Inv s bs p B k)(hp:p+k<bs.length)(hB:B<=64)(hr:7*((k:Int)+1)<B)(b:128<=bs.getD (p+k) 0):Inv s bs p B (k+1):=by
 obtain ⟨acc,a,c⟩:=h;have e:10-k=(10-(k+1))+1:=by omega
 rw [e] at a c;rw [By.Gd hp (by omega) b] at a
 refine ⟨_,a,λm hm=>?_⟩
 have g:=take_getD bs m (p+k) (by omega);rw [c m (by omega),By.Gd (by simp;omega) (by omega) (by rw [g];exact b),g]
theorem Inv.fin {s:Bool}{bs:List Int}{p:Nat}{B:Int}{k:Nat}(h:Inv s bs p B k)(hp:p+k<bs.length)(hB:B<=64)(hr:7*(k:Int)<B)(j:bs.getD (p+k) 0<128\/B<=7*((k:Int)+1)) :
    ∃ r v:Int,By.JK s bs p B 10 0 0=(r,v,(p:Int)+k+1)/\By.JK s (bs.take (p+k+1)) p B 10 0 0=(r,v,(p:Int)+k+1)/\r≠1:=by
 obtain ⟨acc,a,f⟩:=h;have e:10-k=(9-k)+1:=by omega
 rw [e] at a f;have g:=take_getD bs (p+k+1) (p+k) (by omega);have d:p+k<(bs.take (p+k+1)).length:=by simp;omega
 have b:=f (p+k+1) (by omega)
 by_cases c1:128<=bs.getD (p+k) 0
 . rw [By.Ge hp (by omega) c1] at a;rw [By.Ge d (by omega) (by rw [g];exact c1)] at b
   exact ⟨2,0,a,b,by decide⟩
 . by_cases c:B-7*(k:Int)<=7/\By.rok s (bs.getD (p+k) 0) (B-7*(k:Int))=false
   . rw [By.Gf hp c.1 (by omega) c.2] at a;rw [By.Gf d c.1 (by rw [g];omega) (by rw [g];exact c.2)] at b
     exact ⟨3,0,a,b,by decide⟩
   . have c3:B-7*(k:Int)<=7->By.rok s (bs.getD (p+k) 0) (B-7*(k:Int))=true:=λh=>by
       cases hh:By.rok s (bs.getD (p+k) 0) (B-7*(k:Int)) with
       |false=>exact absurd ⟨h,hh⟩ c
       |true=>rfl
     rw [By.GW hp (by omega) c3] at a;rw [By.GW d (by rw [g];omega) (by rw [g];exact c3),g] at b
     exact ⟨0,_,a,b,by decide⟩
theorem Inv.short {s:Bool}{bs:List Int}{p:Nat}{B:Int}{k:Nat}(h:Inv s bs p B k)(hp:bs.length<=p+k)(hB:B<=64)(hr:7*(k:Int)<B):Qy s B bs p=.bad 2 bs.length:=by
 obtain ⟨acc,a,b⟩:=h;have e:10-k=(9-k)+1:=by omega
 rw [e,By.Oi hp] at a;unfold Qy;rw [a,if_pos rfl]
theorem numM_ok {s:Bool}{bs:List Int}{p:Nat}{B:Int}{n:Nat}{v:Int}(h:By.JK s bs p B 10 0 0=(0,v,(n:Int))):Qy s B bs p=.ok v n:=by
 unfold Qy;rw [h,if_neg (show ¬ ((0:Int)=1) by decide),if_pos rfl,Int.toNat_natCast]
theorem GQ {s:Bool}{bs:List Int}{p:Nat}{B:Int}{r v n:Int}(h:By.JK s bs p B 10 0 0=(r,v,n))(h0:r≠0)(h1:r≠1):Qy s B bs p=.bad 7 n:=by
 unfold Qy;rw [h,if_neg h1,if_neg h0]
end Go.Proofs.YtedcmcdbejjgcaaGreat
namespace Go.Proofs.YtedcmcdbejjgcaaGreat.By
open Go.RowKit
theorem Has.below {w w' a xs}(h:Has w a xs)(b:Below w.heap.size w w'):Has w' a xs:=By.Has.keep h b
theorem Jt (n:Int)(w:World)(h0:0<=n)(h1:n<=63) :
    Calls Tryz.prog 276 #[.int .i64 n] w λe w'=>e=.returned (.int .u64 (P2 n))/\w=w':=by
 go_enter Tryz.func276,Tryz.ntmps276
 go_wp2
 go_loop [3,4] (λx i=>∃ k:Int,0<=k/\k<=n/\i=.int .i64 k/\x=.int .u64 (P2 k)) (λ_ i=>(n-intOf i).toNat)
 case atStart=>exact ⟨0,by omega,h0,rfl,rfl⟩
 case round =>
  obtain ⟨k,a,f,rfl,rfl⟩:=hrel;have d:=XO k
  by_cases b:k<n
  . have g:=P2_62 (n:=k) (by omega);have c:Hid (P2 (k+1)=2*P2 k):=P2_succ k a
    go_wp2
    go_round
    case rel=>exact ⟨k+1,by omega,by omega,rfl,by rw [c.o,Int.mul_comm]⟩
    case measure=>simp [intOf];omega
  . have e:k=n:=by omega
    subst e
    go_wp2
    go_ret
    exact ⟨rfl,rfl⟩
theorem rest_any (s:Bool)(c u:Int)(w:World)(l:0<=c)(k:c<=255)(f:1<=u)(d:u<=64) :
    Calls Tryz.prog 275 #[.int .u8 c,.int .i64 u,.bool s] w λe a=>e=.returned (.bool (rok s c u))/\w=a:=by
 by_cases b:7<=u
 . have e:rok s c u=true:=by unfold rok;rw [if_pos b]
   rw [e];clear e
   go_enter Tryz.func275,Tryz.ntmps275
   go_wp2
   go_ret
   exact ⟨rfl,rfl⟩
 . have o:=XO u;have j:=XO (u-1);have g:=XO (8-u);have m:=P2_62 (n:=8-u) (by omega)
   cases s
   . have e:rok false c u=(c%128 / P2 u==0):=by unfold rok;rw [if_neg b];rfl
     rw [e];clear e
     go_enter Tryz.func275,Tryz.ntmps275
     go_wp2_with (go_at_call 276;refine (Jt _ _ (by omega) (by omega)).mono ?_;rintro e a ⟨rfl,rfl⟩)
     go_ret
     exact ⟨rfl,rfl⟩
   . have e:rok true c u=((c%128 / P2 (u-1)==0) || (c%128 / P2 (u-1)==P2 (8-u)-1)):=by unfold rok;rw [if_neg b];rfl
     rw [e];clear e
     cases hq:(c%128 / P2 (u-1)==0)
     . go_enter Tryz.func275,Tryz.ntmps275
       go_wp2_with (go_at_call 276;refine (Jt _ _ (by omega) (by omega)).mono ?_;rintro e a ⟨rfl,rfl⟩)
       go_ret
       exact ⟨rfl,rfl⟩
     . go_enter Tryz.func275,Tryz.ntmps275
       go_wp2_with (go_at_call 276;refine (Jt _ _ (by omega) (by omega)).mono ?_;rintro e a ⟨rfl,rfl⟩)
       go_ret
       exact ⟨rfl,rfl⟩
theorem GS (c u:Int)(w:World)(d:0<=c)(o:c<=255)(b:1<=u)(l:u<=64) :
    Calls Tryz.prog 350 #[.int .u8 c,.int .i64 u] w λe a=>e=.returned (.int .i64 (Xt false c u))/\w=a:=by
 unfold Xt
 by_cases k:7<u
 . rw [if_pos k]
   go_enter Tryz.func350,Tryz.ntmps350
   go_wp2
   go_ret
   exact ⟨rfl,rfl⟩
 . rw [if_neg k]
   by_cases j:128<=c
   . rw [if_pos j]
     go_enter Tryz.func350,Tryz.ntmps350
     go_wp2
     go_ret
     exact ⟨rfl,rfl⟩
   . rw [if_neg j];have g:=rokU c u d (by omega) b (by omega);have f:=cutU_7 c;have n:0<=GN c 7:=by omega
     have m:GN c 7<=127:=by omega
     clear f
     cases hq:rok false c u
     . rw [hq] at g;rw [if_neg (by simp)];clear hq
       go_enter Tryz.func350,Tryz.ntmps350
       go_wp2_with (go_at_call 341;refine (Gw _ _ _ (by omega) (by omega) (by omega) (by omega)).mono ?_;rintro e a ⟨rfl,rfl⟩)
       go_ret
       exact ⟨rfl,rfl⟩
     . rw [hq] at g;rw [if_pos rfl];clear hq
       go_enter Tryz.func350,Tryz.ntmps350
       go_wp2_with (go_at_call 341;refine (Gw _ _ _ (by omega) (by omega) (by omega) (by omega)).mono ?_;rintro e a ⟨rfl,rfl⟩)
       go_ret
       exact ⟨rfl,rfl⟩
theorem GT (c u:Int)(w:World)(d:0<=c)(o:c<=255)(b:1<=u)(l:u<=64) :
    Calls Tryz.prog 364 #[.int .u8 c,.int .i64 u] w λe a=>e=.returned (.int .i64 (Xt true c u))/\w=a:=by
 unfold Xt
 by_cases k:7<u
 . rw [if_pos k]
   go_enter Tryz.func364,Tryz.ntmps364
   go_wp2
   go_ret
   exact ⟨rfl,rfl⟩
 . rw [if_neg k]
   by_cases j:128<=c
   . rw [if_pos j]
     go_enter Tryz.func364,Tryz.ntmps364
     go_wp2
     go_ret
     exact ⟨rfl,rfl⟩
   . rw [if_neg j];have g:=rokS c u d (by omega) b (by omega);have f:=cutS_7 c;have n:-64<=GF c 7:=by omega
     have m:GF c 7<=63:=by omega
     clear f
     cases hq:rok true c u
     . rw [hq] at g;rw [if_neg (by simp)];clear hq
       go_enter Tryz.func364,Tryz.ntmps364
       go_wp2_with (go_at_call 365;refine (Gx _ _ _ (by omega) (by omega) (by omega) (by omega)).mono ?_;rintro e a ⟨rfl,rfl⟩)
       go_ret
       exact ⟨rfl,rfl⟩
     . rw [hq] at g;rw [if_pos rfl];clear hq
       go_enter Tryz.func364,Tryz.ntmps364
       go_wp2_with (go_at_call 365;refine (Gx _ _ _ (by omega) (by omega) (by omega) (by omega)).mono ?_;rintro e a ⟨rfl,rfl⟩)
       go_ret
       exact ⟨rfl,rfl⟩
end Go.Proofs.YtedcmcdbejjgcaaGreat.By
namespace Go.Proofs.YtedcmcdbejjgcaaGreat.By
open Go.RowKit
def inB (x lo hi:Int):Bool:=decide (lo<=x/\x<=hi)
theorem in_false {x a b:Int}(h:(!inB x a b)=true):¬ (a<=x/\x<=b):=by
 unfold inB at h;simp at h;omega
theorem in_true {x a b:Int}(h:inB x a b=true):a<=x/\x<=b:=by
 unfold inB at h;simpa using h
def RV (r:Int × Int × Int):Value:=.agg #[.int .i64 r.1,.int .u64 r.2.1,.int .i64 r.2.2]
theorem val1 {v acc q:Int}(h:v=acc%18446744073709551616):IntKind.u64.wrap (v+IntKind.u64.wrap q)=(acc+q)%18446744073709551616:=by
 rw [IntKind.wrap_u64,IntKind.wrap_u64,h];omega
theorem val2 {v acc q r:Int}(h:v=acc%18446744073709551616):IntKind.u64.wrap (IntKind.u64.wrap (v+IntKind.u64.wrap q)-r)=(acc+q-r)%18446744073709551616:=by
 rw [val1 h,IntKind.wrap_u64];omega
theorem val3 {v acc q:Int}{k:Nat}(a:k=9)(h:v=acc%18446744073709551616):IntKind.u64.wrap (v+IntKind.u64.wrap q)=(acc+q-P2 (7*(k:Int)+7))%18446744073709551616:=by
 subst a;rw [val1 h,show P2 (7*((9:Nat):Int)+7)=1180591620717411303424 by decide];omega
end Go.Proofs.YtedcmcdbejjgcaaGreat.By
namespace Go.Proofs.YtedcmcdbejjgcaaGreat
open Go.RowKit Go.Sort
end Go.Proofs.YtedcmcdbejjgcaaGreat
