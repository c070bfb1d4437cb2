import Derived.Test.YtipfjdogokanbaaGreatDoorGaa
import Derived.Great.Frames
import Derived.Orders
import Derived.Below
import Derived.Sort.Grow
set_option linter.all false
set_option maxHeartbeats 400000000
set_option maxRecDepth 100000
set_option linter.all false
namespace Go.Proofs.YtipfjdogokanbaaGreatDoor.Rp
open Go.RowKit Go.Sort
structure PT where
 ops:List Oper
 N:Nat
 g:Nat->World->Value->Prop
 R:World->World->Prop
 w:World
 a0:Act
def preB (ops:List Oper)(i j:Nat):Bool:=((ops[i]?).map λo=>o.after.any λe=>Region.binds .any e&&e.on==j).getD false
def preF (ops:List Oper):Nat->Nat->Nat->Bool
|0,i,j=>preB ops i j
|f+1,i,j=>preB ops i j || (List.range i).any λk=>preB ops i k&&preF ops f k j
def Jk (ops:List Oper)(i:Nat):Option Nat:=(ops[i]?).bind (·.dst)
def at_ (a:Act):Option Nat->Value
|some s=>a.eval (.tmp s)
|none=>undef
def res (o:Oper)(v:Value):Value:=if o.dst.isNone then undef else v
structure Iv (T:PT)(l:Array Bool)(a:Act)(W:World):Prop where
 sz:a.tmps.size=T.N
 df:a.defers=T.a0.defers
 ls:l.size=T.ops.length
 cl:∀ i j,l.getD i false=true->preB T.ops i j=true->l.getD j false=true
 kp:T.R T.w W
 va:∀ i,i<T.ops.length->l.getD i false=true->T.g i W (at_ a (Jk T.ops i))
 sm:∀ s,(∀ i,i<T.ops.length->l.getD i false=true->Jk T.ops i≠some s)->a.eval (.tmp s)=T.a0.eval (.tmp s)
structure PT.Ok (T:PT):Prop where
 op:∀ i s,Jk T.ops i=some s->s<T.N
 pr:∀ i j,i<T.ops.length->preB T.ops i j=true->j<i
 sl:∀ i j s,i<T.ops.length->j<T.ops.length->Jk T.ops i=some s->Jk T.ops j=some s->i=j
 st:∀ i W W' v,T.g i W v->T.R W W'->T.g i W' v
 rt:∀ {W W' W''},T.R W W'->T.R W' W''->T.R W W''
structure PT.Fx (T:PT)(i:Nat)(a:Act)(W:World):Prop where
 sz:a.tmps.size=T.N
 kp:T.R T.w W
 va:∀ f j,preF T.ops f i j=true->j<T.ops.length->T.g j W (at_ a (Jk T.ops j))
 sm:∀ s,(∀ j,j<T.ops.length->Jk T.ops j=some s->j=i\/preB T.ops j i=true)->a.eval (.tmp s)=T.a0.eval (.tmp s)
def StepP (P:Program)(T:PT)(i:Nat)(o:Oper):Prop :=
 ∀ (a:Act) (W:World) (K:Act->World->Prop) (Q:Exit->Act->World->Prop),T.Fx i a W->(∀ v W',T.R W W'->T.g i W' (res o v)->K (a.put o.dst v) W')->if Region.wanted o (yielded T.ops.toArray a.tmps) then o.wp P a W K Q else K (a.put o.dst undef) W
def Jr (P:Program)(T:PT):Nat->List Oper->Prop
|_,[]=>True
|i,o::r=>StepP P T i o/\Jr P T (i+1) r
theorem Jr.nil {P:Program}{T:PT}{i:Nat}:Jr P T i []:=trivial
theorem Jr.cons {P:Program}{T:PT}{i:Nat}{o:Oper}{r:List Oper}(h:StepP P T i o)(hr:Jr P T (i+1) r):Jr P T i (o::r):=⟨h,hr⟩
theorem Jr.get {P:Program}{T:PT}:∀ (l:List Oper) (k i:Nat) (o:Oper),Jr P T k l->l[i]?=some o->StepP P T (k+i) o
|[],k,i,o,_,h=>by simp at h
|x::r,k,0,o,⟨h1,_⟩,h=>by simp at h;subst h;exact h1
|x::r,k,i+1,o,⟨_,h2⟩,h=>by
  have:=Jr.get r (k+1) i o h2 (by simpa using h)
  rwa [show k+1+i=k+(i+1) by omega] at this
theorem Gs {l:Array Bool}{i j:Nat}(hi:i<l.size):(l.setIfInBounds i true).getD j false=if j=i then true else l.getD j false:=by
 simp only [Array.getD_eq_getD_getElem?,Array.getElem?_setIfInBounds]
 by_cases h:i=j
 . subst h;simp [hi]
 . have h':¬ j=i:=λe=>h e.symm
   simp [h,h']
theorem count_set:∀ (l:List Bool) (i:Nat),l[i]?=some false->(l.set i true).count false+1=l.count false
|[],i,h=>by simp at h
|b::l,0,h=>by
  simp only [List.getElem?_cons_zero,Option.some.injEq] at h
  subst h
  simp
|b::l,i+1,h=>by
  have:=count_set l i (by simpa using h)
  simp only [List.set_cons_succ,List.count_cons]
  omega
theorem pre_listed {ops:List Oper}{l:Array Bool}{i j:Nat}{o:Oper}(ho:ops[i]?=some o)(h:(o.after.all λe=>!Region.binds .any e || l.getD e.on false)=true)(hp:preB ops i j=true):l.getD j false=true:=by
 simp only [preB,ho,Option.map_some,Option.getD_some,Array.any_eq_true',Bool.and_eq_true,beq_iff_eq] at hp
 obtain ⟨e,he,h1,h2⟩:=hp;rw [Array.all_eq_true'] at h
 have:=h e he
 rw [h1,h2] at this
 simpa using this
theorem preF_listed {T:PT}{l:Array Bool}(hc:∀ i j,l.getD i false=true->preB T.ops i j=true->l.getD j false=true):∀ f i j,(∀ k,preB T.ops i k=true->l.getD k false=true)->preF T.ops f i j=true->l.getD j false=true
|0,i,j,h,hp=>h j hp
|f+1,i,j,h,hp=>by
  simp only [preF,Bool.or_eq_true,List.any_eq_true,Bool.and_eq_true] at hp
  rcases hp with hp|⟨k,_,h1,h2⟩
  . exact h j hp
  . exact preF_listed hc f k j (λm hm=>hc k m (h k h1) hm) h2
theorem Iv.next {T:PT}(hT:T.Ok){l:Array Bool}{a:Act}{W W':World}{i:Nat}{v:Value}{o:Oper}(h:Iv T l a W)(ho:T.ops[i]?=some o)(hl:l.getD i false=false)
    (hp:∀ c,preB T.ops i c=true->l.getD c false=true) (hk:T.R W W') (hg:T.g i W' (res o v)):Iv T (l.setIfInBounds i true) (a.put o.dst v) W':=by
 have hi:i<T.ops.length:=(List.getElem?_eq_some_iff.1 ho).1;have hil:i<l.size:=by rw [h.ls];exact hi
 have hs:Jk T.ops i=o.dst:=by simp [Jk,ho]
 have sz':(a.put o.dst v).tmps.size=a.tmps.size:=by cases o.dst<;>simp [Act.put]
 have df':(a.put o.dst v).defers=a.defers:=by cases o.dst<;>simp [Act.put]
 refine ⟨sz'.trans h.sz,df'.trans h.df,by simpa using h.ls,λk j hk' hpj=>?_,hT.rt h.kp hk,λj hj hlj=>?_,λs hs'=>?_⟩
 . rw [Gs hil] at hk'⊢
   by_cases e:j=i
   . rw [if_pos e]
   . rw [if_neg e]
     by_cases e':k=i
     . subst e';exact hp j hpj
     . rw [if_neg e'] at hk';exact h.cl k j hk' hpj
 . rw [Gs hil] at hlj
   by_cases e:j=i
   . subst e;rw [hs]
     cases hd:o.dst with
    |none =>
      show T.g j W' undef
      simpa [res,hd] using hg
    |some s =>
      have hsN:s<a.tmps.size:=by rw [h.sz];exact hT.op j s (by rw [hs,hd])
      show T.g j W' ((a.put (some s) v).eval (.tmp s))
      rw [Act.eval_put_same a s v hsN]
      simpa [res,hd] using hg
   . rw [if_neg e] at hlj
     have:=hT.st j W W' _ (h.va j hj hlj) hk
     cases hd:Jk T.ops j with
    |none=>rw [hd] at this;exact this
    |some s =>
      rw [hd] at this
      show T.g j W' ((a.put o.dst v).eval (.tmp s))
      cases ho':o.dst with
     |none=>exact this
     |some t =>
       have hne:t≠s:=by
        intro e'
        subst e'
        exact e (hT.sl j i t hj hi hd (by rw [hs,ho']))
       rw [Act.eval_put_ne a _ _ v hne]
       exact this
 . have hne:o.dst≠some s:=by
     have:=hs' i hi (by rw [Gs hil,if_pos rfl])
     rwa [hs] at this
   have hr:=h.sm s (λj hj hlj=>hs' j hj (by rw [Gs hil];split<;>simp_all))
   cases ho':o.dst with
  |none=>exact hr
  |some t =>
    rw [Act.eval_put_ne a _ _ v (λe=>hne (by rw [ho',e]))]
    exact hr
theorem pg_any {P:Program}{T:PT}{Q:Exit->Act->World->Prop}(hT:T.Ok)
    (hst:Jr P T 0 T.ops) (hend:∀ l a W,(∀ i,i<T.ops.length->l.getD i false=true)->Iv T l a W->Q .normal a W) :
    ∀ (fuel:Nat) (l:Array Bool) (a:Act) (W:World),Iv T l a W->l.toList.count false<=fuel->wpAny P .any T.ops.toArray Q fuel l a W:=by
 have hfin:∀ l a W,Iv T l a W->Region.ready .any T.ops.toArray l=[]->Q .normal a W:=by
  intro l a W h hr
  refine hend l a W (λi=>?_) h
  induction i using Nat.strongRecOn with
 |_ i ih =>
   intro hi
   cases hc:l.getD i false with
  |true=>rfl
  |false =>
    exfalso
    have ho:T.ops[i]?=some T.ops[i]:=List.getElem?_eq_getElem hi
    have hmem:i ∈ Region.ready .any T.ops.toArray l:=by
     have hsz:i<l.size:=by rw [h.ls];exact hi
     simp only [Region.ready,List.mem_filter,List.mem_range,List.size_toArray,List.getElem?_toArray,ho,Option.map_some,Option.getD_some,Bool.and_eq_true]
     refine ⟨hi,?_,?_⟩
     . rw [Array.getD_eq_getD_getElem?,Array.getElem?_eq_getElem hsz] at hc⊢
       simpa using hc
     . rw [Array.all_eq_true']
       intro e he
       by_cases hb:Region.binds .any e=true
       . have hpe:preB T.ops i e.on=true:=by
           simp only [preB,ho,Option.map_some,Option.getD_some,Array.any_eq_true',Bool.and_eq_true,beq_iff_eq]
           exact ⟨e,he,hb,rfl⟩
         have hlt:=hT.pr i e.on hi hpe;rw [ih e.on hlt (by omega)]
         simp
       . simp [hb]
    rw [hr] at hmem
    cases hmem
 intro fuel
 induction fuel with
|zero =>
  intro l a W h hc
  have hr:Region.ready .any T.ops.toArray l=[]:=by
   cases hx:Region.ready .any T.ops.toArray l with
  |nil=>rfl
  |cons i r =>
    exfalso
    have hmem:i ∈ Region.ready .any T.ops.toArray l:=by rw [hx];simp
    simp only [Region.ready,List.mem_filter,List.mem_range,List.size_toArray,Bool.and_eq_true] at hmem
    obtain ⟨h1,h2,_⟩:=hmem;rw [<- h.ls] at h1
    have hm:false ∈ l.toList:=by
     rw [Array.getD_eq_getD_getElem?,Array.getElem?_eq_getElem h1] at h2
     have:l[i]=false:=by simpa using h2
     rw [<- this]
     simp
    have:=List.count_pos_iff.2 hm
    omega
  exact ⟨hr,hfin l a W h hr⟩
|succ fuel ihf =>
  intro l a W h hc
  refine ⟨hfin l a W h,λi hi=>?_⟩
  simp only [Region.ready,List.mem_filter,List.mem_range,List.size_toArray,Bool.and_eq_true] at hi
  obtain ⟨h1,h2,h3⟩:=hi;have ho:T.ops[i]?=some T.ops[i]:=List.getElem?_eq_getElem h1;generalize T.ops[i]=o at ho;rw [List.getElem?_toArray,ho,Option.map_some,Option.getD_some] at h3;have hil:i<l.size:=by rw [h.ls];exact h1
  have hget:l[i]?=some false:=by
   rw [Array.getElem?_eq_getElem hil];rw [Array.getD_eq_getD_getElem?,Array.getElem?_eq_getElem hil] at h2
   simpa using h2
  have hl:l.getD i false=false:=by rw [Array.getD_eq_getD_getElem?,hget];rfl
  have hcnt:(l.setIfInBounds i true).toList.count false<=fuel:=by
   have:=count_set l.toList i (by simpa using hget)
   rw [Array.toList_setIfInBounds]
   omega
  have hp:∀ c,preB T.ops i c=true->l.getD c false=true:=λc hc=>pre_listed ho h3 hc
  have hFx:T.Fx i a W:=by
   refine ⟨h.sz,h.kp,λf j hf hj=>h.va j hj (preF_listed h.cl f i j hp hf),λs hs=>h.sm s (λj hj hlj e=>?_)⟩
   rcases hs j hj e with rfl|hq
   . rw [hl] at hlj;cases hlj
   . have:=h.cl j i hlj hq
     rw [hl] at this;cases this
  have hs:=Jr.get T.ops 0 i o hst ho;rw [Nat.zero_add] at hs
  have:=hs a W (wpAny P .any T.ops.toArray Q fuel (l.setIfInBounds i true)) Q hFx (λv W' hk hg=>ihf _ _ _ (h.next hT ho hl hp hk hg) hcnt)
  unfold wpOp
  simp only [List.getElem?_toArray,ho]
  split
  . rename_i hw
    rw [if_pos hw] at this
    exact .inl this
  . rename_i hw
    rw [if_neg hw] at this
    exact this
structure Fin (T:PT)(a:Act)(W:World):Prop where
 sz:a.tmps.size=T.N
 df:a.defers=T.a0.defers
 kp:T.R T.w W
 va:∀ i,i<T.ops.length->T.g i W (at_ a (Jk T.ops i))
 sm:∀ s,(∀ i,i<T.ops.length->Jk T.ops i≠some s)->a.eval (.tmp s)=T.a0.eval (.tmp s)
theorem rep_getD (n i:Nat):(Array.replicate n false).getD i false=false:=by
 rw [Array.getD_eq_getD_getElem?,Array.getElem?_replicate]
 split<;>rfl
theorem pg_region {P:Program}{T:PT}{Q:Exit->Act->World->Prop}{id:Nat}(hT:T.Ok)(hm:P.follows .mixedOrders=true)(hN:T.a0.tmps.size=T.N)(h0:T.R T.w { T.w with drawn:=T.w.drawn+1 })
    (hst:Jr P T 0 T.ops) (hend:∀ a W,Fin T a W->Q .normal a W) :
    (Code.region id T.ops.toArray true).wp P Q T.a0 T.w:=by
 refine wp_region_any hm ?_
 rw [List.size_toArray]
 refine pg_any hT hst (λl a W hl h=>hend a W ⟨h.sz,h.df,h.kp,λi hi=>h.va i hi (hl i hi),λs hs=>h.sm s (λi hi _=>hs i hi)⟩) _ _ _ _ ?_ ?_
 . refine ⟨hN,rfl,by simp,λi j hi _=>?_,h0,λi _ hi=>?_,λs _=>rfl⟩
   . rw [rep_getD] at hi;cases hi
   . rw [rep_getD] at hi;cases hi
 . simp
def okB (ops:List Oper)(N:Nat):Bool :=
 (List.range ops.length).all λi=>(match Jk ops i with|some s=>decide (s<N)&&((List.range ops.length).all λj=>j==i || !(Jk ops j==some s))|none=>true) &&
  ((ops[i]?).map λo=>o.after.all λe=>!Region.binds .any e || decide (e.on<i)).getD true
theorem ok_of {T:PT}(h:okB T.ops T.N=true)(st:∀ i W W' v,T.g i W v->T.R W W'->T.g i W' v)(rt:∀ {W W' W''},T.R W W'->T.R W' W''->T.R W W''):T.Ok:=by
 simp only [okB,List.all_eq_true,List.mem_range,Bool.and_eq_true] at h
 refine ⟨λi s hs=>?_,λi j hi hp=>?_,λi j s hi hj hs hs'=>?_,st,rt⟩
 . have hi:i<T.ops.length:=by
     by_cases hi:i<T.ops.length
     . exact hi
     . rw [Jk,List.getElem?_eq_none (by omega)] at hs;cases hs
   have:=(h i hi).1
   rw [hs] at this
   simp only [Bool.and_eq_true,decide_eq_true_eq] at this
   exact this.1
 . have:=(h i hi).2
   have ho:T.ops[i]?=some T.ops[i]:=List.getElem?_eq_getElem hi;rw [ho,Option.map_some,Option.getD_some] at this
   simp only [preB,ho,Option.map_some,Option.getD_some,Array.any_eq_true',Bool.and_eq_true,beq_iff_eq] at hp
   obtain ⟨e,hm,hb,rfl⟩:=hp;rw [Array.all_eq_true'] at this
   have:=this e hm
   rw [hb] at this
   simpa using this
 . have:=(h i hi).1
   rw [hs] at this
   simp only [Bool.and_eq_true,decide_eq_true_eq,List.all_eq_true,List.mem_range] at this
   have:=this.2 j hj
   rw [hs'] at this
   simpa using (show (j==i)=true by simpa using this) |> (λe=>(beq_iff_eq.1 e).symm)
theorem pg_below {P:Program}{Q:Exit->Act->World->Prop}{id N:Nat}{ops:List Oper}{g:Nat->World->Value->Prop}{w:World}{a0:Act}
    (hm:P.follows .mixedOrders=true) (hok:okB ops N=true) (hN:a0.tmps.size=N) (st:∀ i W W' v,g i W v->Below W.heap.size W W'->g i W' v)
    (hst:Jr P ⟨ops,N,g,λW W'=>Below W.heap.size W W',w,a0⟩ 0 ops) (hend:∀ a W,Fin ⟨ops,N,g,λW W'=>Below W.heap.size W W',w,a0⟩ a W->Q .normal a W) :
    (Code.region id ops.toArray true).wp P Q a0 w :=
 pg_region (T:=⟨ops,N,g,λW W'=>Below W.heap.size W W',w,a0⟩) (ok_of hok st (λh1 h2=>h1.trans (h2.mono h1.size))) hm hN ((Below.refl _ _).drew) hst hend
theorem ev_tmp (a:Act)(s:Nat):a.eval (.tmp s)=a.tmps[s]?.getD undef:=by simp [Act.eval]
section
variable {ops:List Oper} {N:Nat} {g:Nat->World->Value->Prop} {R:World->World->Prop} {w:World} {a0:Act} {i:Nat} {a:Act} {W:World}
theorem QL (f:PT.Fx ⟨ops,N,g,R,w,a0⟩ i a W)(k j s:Nat)(hp:(preF ops k i j&&decide (j<ops.length)&&Jk ops j==some s)=true):g j W (a.tmps[s]?.getD undef):=by
 simp only [Bool.and_eq_true,decide_eq_true_eq,beq_iff_eq] at hp
 have:=f.va k j hp.1.1 hp.1.2
 rw [show Jk (PT.mk ops N g R w a0).ops j=some s from hp.2] at this;rw [<- ev_tmp];exact this
theorem fx_sm (f:PT.Fx ⟨ops,N,g,R,w,a0⟩ i a W)(s:Nat)(h:((List.range ops.length).all λj=>!(Jk ops j==some s) || j==i || preB ops j i)=true):a.tmps[s]?.getD undef=a0.tmps[s]?.getD undef:=by
 rw [<- ev_tmp,<- ev_tmp]
 refine f.sm s (λj hj e=>?_)
 rw [List.all_eq_true] at h
 have:=h j (List.mem_range.2 hj)
 rw [show Jk ops j=some s from e] at this
 simpa using this
theorem J6 {P:Program}{K:Act->World->Prop}{Q:Exit->Act->World->Prop}{o:Oper}(v:Value)(hw:Region.wanted o (yielded ops.toArray a.tmps)=true)(hr:R W W)(hrun:(execOp a.eval o).run P W=.ok (.value v) W)(hg:g i W (res o v))
    (hK:∀ v W',R W W'->g i W' (res o v)->K (a.put o.dst v) W'):if Region.wanted o (yielded ops.toArray a.tmps) then o.wp P a W K Q else K (a.put o.dst undef) W:=by
 rw [if_pos hw];unfold Oper.wp;rw [hrun,Oper.upon_value]
 exact hK v W hr hg
theorem JS {o:Oper}(h:o.guard=none):Region.wanted o (yielded ops.toArray a.tmps)=true:=by simp [Region.wanted,h]
theorem want_bool {o:Oper}{j s:Nat}{b z:Bool}(h:o.guard=some (j,z))(hj:Jk ops j=some s)(hs:s<a.tmps.size)(e:a.tmps[s]?.getD undef=.bool b):Region.wanted o (yielded ops.toArray a.tmps)=(b==z):=by
 rw [Array.getElem?_eq_getElem hs,Option.getD_some] at e;have hj':(ops[j]?).bind (·.dst)=some s:=hj
 simp only [Region.wanted,h,yielded,List.getElem?_toArray,hj',Option.bind_some,Array.getElem?_eq_getElem hs,e]
 cases b<;>cases z<;>rfl
theorem Je {o:Oper}{j s:Nat}{b z y:Bool}(h:o.guard=some (j,z))(hj:Jk ops j=some s)(hs:s<a.tmps.size)(e:a.tmps[s]?.getD undef=.bool b)(hy:(b==z)=y):Region.wanted o (yielded ops.toArray a.tmps)=y:=(want_bool h hj hs e).trans hy
end
def is (x:Value):World->Value->Prop:=λ_ v=>v=x
def Stb (p:World->Value->Prop):Prop:=∀ W W' v,p W v->Below W.heap.size W W'->p W' v
theorem Jb (x:Value):Stb (is x):=λ_ _ _ h _=>h
def StbL:List (World->Value->Prop)->Prop
|[]=>True
|p::ps=>Stb p/\StbL ps
theorem StbL.nil:StbL []:=trivial
theorem StbL.cons {p:World->Value->Prop}{ps:List (World->Value->Prop)}(h:Stb p)(hs:StbL ps):StbL (p::ps):=⟨h,hs⟩
theorem StbL.get:∀ (ps:List (World->Value->Prop)) (i:Nat),StbL ps->Stb (ps.getD i (λ_ _=>True))
|[],i,_=>by simp [Stb]
|p::ps,0,⟨h,_⟩=>by simpa using h
|p::ps,i+1,⟨_,hs⟩=>by simpa using StbL.get ps i hs
theorem pg_list {P:Program}{Q:Exit->Act->World->Prop}{id N:Nat}{ops:List Oper}{gs:List (World->Value->Prop)}{w:World}{a0:Act}
    (hm:P.follows .mixedOrders=true) (hok:okB ops N=true) (hN:a0.tmps.size=N) (hs:StbL gs)
    (hst:Jr P ⟨ops,N,λi=>gs.getD i (λ_ _=>True),λW W'=>Below W.heap.size W W',w,a0⟩ 0 ops) (hend:∀ a W,Fin ⟨ops,N,λi=>gs.getD i (λ_ _=>True),λW W'=>Below W.heap.size W W',w,a0⟩ a W->Q .normal a W) :
    (Code.region id ops.toArray true).wp P Q a0 w :=
 pg_below hm hok hN (λi W W' v h hb=>StbL.get gs i hs W W' v h hb) hst hend
def opt (z:Bool)(p:World->Value->Prop):World->Value->Prop:=λW v=>(z=true->p W v)/\(z=false->v=undef)
theorem Jz (z:Bool){p:World->Value->Prop}(h:Stb p):Stb (opt z p):=λW W' v hp hb=>⟨λe=>h W W' v (hp.1 e) hb,hp.2⟩
section
variable {ops:List Oper} {a:Act} {W:World} {P:Program} {K:Act->World->Prop} {Q:Exit->Act->World->Prop} {o:Oper} {p:World->Value->Prop} {d:Nat}
theorem XG (z:Bool)(v:Value)(hd:o.dst=some d)(hw:Region.wanted o (yielded ops.toArray a.tmps)=z)(hrun:z=true->(execOp a.eval o).run P W=.ok (.value v) W)(hg:z=true->p W v)
    (hK:∀ v W',Below W.heap.size W W'->opt z p W' (res o v)->K (a.put o.dst v) W'):if Region.wanted o (yielded ops.toArray a.tmps) then o.wp P a W K Q else K (a.put o.dst undef) W:=by
 have hr:∀ v,res o v=v:=λv=>by simp [res,hd]
 cases z with
|false=>rw [if_neg (by rw [hw];decide)];exact hK undef W (Below.refl _ _) ⟨λe=>(by cases e),λ_=>hr _⟩
|true =>
  rw [if_pos hw];unfold Oper.wp;rw [hrun rfl,Oper.upon_value]
  exact hK v W (Below.refl _ _) ⟨λ_=>(by rw [hr];exact hg rfl),λe=>(by cases e)⟩
theorem st_optc (z:Bool){fn:FuncId}{args:Array Value}(hd:o.dst=some d)(hw:Region.wanted o (yielded ops.toArray a.tmps)=z)(hrun:z=true->(execOp a.eval o).run P W=.ok (.enter fn args) W)
    (hc:z=true->Calls P fn args W λe w'=>∃ u,e=.returned u/\Below W.heap.size W w'/\p w' u)
    (hK:∀ v W',Below W.heap.size W W'->opt z p W' (res o v)->K (a.put o.dst v) W'):if Region.wanted o (yielded ops.toArray a.tmps) then o.wp P a W K Q else K (a.put o.dst undef) W:=by
 have hr:∀ v,res o v=v:=λv=>by simp [res,hd]
 cases z with
|false=>rw [if_neg (by rw [hw];decide)];exact hK undef W (Below.refl _ _) ⟨λe=>(by cases e),λ_=>hr _⟩
|true =>
  rw [if_pos hw];unfold Oper.wp;rw [hrun rfl,Oper.upon_enter]
  refine (hc rfl).mono ?_
  rintro e w' ⟨u,rfl,h,h'⟩
  exact hK u w' h ⟨λ_=>(by rw [hr];exact h'),λe=>(by cases e)⟩
end
theorem fin_va {ops:List Oper}{N:Nat}{g:Nat->World->Value->Prop}{R:World->World->Prop}{w:World}{a0:Act}{a:Act}{W:World}(f:Fin ⟨ops,N,g,R,w,a0⟩ a W)(j s:Nat)(hp:(decide (j<ops.length)&&Jk ops j==some s)=true):g j W (a.eval (.tmp s)):=by
 simp only [Bool.and_eq_true,decide_eq_true_eq,beq_iff_eq] at hp
 have:=f.va j hp.1
 rwa [show Jk (PT.mk ops N g R w a0).ops j=some s from hp.2] at this
end Go.Proofs.YtipfjdogokanbaaGreatDoor.Rp
