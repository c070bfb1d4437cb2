import Derived.Test.YtedcmcdbejjgcaaGreatChecked
import Derived.WalkKit
import Derived.ProofKit
import Derived.WalkSpells
import Derived.WalkLawsBesides
import Derived.Below
import Derived.Deep.QuietTactic
import Derived.BigQuiet
import Derived.Great.Frames
import Derived.Orders
import Derived.Sort.Grow
import Derived.Laws.BitsAllLaws
import Derived.Laws.OwnMore
import Derived.Maps.AppendAt
import Derived.Deep.Onto
set_option linter.all false
set_option maxHeartbeats 400000000
set_option maxRecDepth 100000
namespace Go.Proofs.YtedcmcdbejjgcaaGreat
open Go.RowKit
theorem Hid.mk' {p:Prop}(h:p):Hid p:=h
theorem _root_.Go.RowKit.Hid.o {p:Prop}(h:Hid p):p:=h
theorem Hm {p:Prop}(h:p):Hid p:=h
theorem mC {α:Type}{a b:α}{l:List α}(h:a ∈ l):a ∈ b::l:=List.mem_cons_of_mem _ h
theorem mS {α:Type}{a:α}{l:List α}:a ∈ a::l:=List.mem_cons_self
theorem mR {α:Type}{a:α}{l k:List α}(h:a ∈ k):a ∈ l++k:=List.mem_append_right _ h
theorem mL {α:Type}{a:α}{l k:List α}(h:a ∈ l):a ∈ l++k:=List.mem_append_left _ h
theorem lR {n:Nat}:n<=n:=Nat.le_refl _
theorem bF {B:Nat}{w:World}:Below B w w:=Below.refl _ _
theorem setRow_new (W:World)(cs X:Array Value)(t:TypeId):(W.alloc (.cells cs t)).setRow W.heap.size X=W.alloc (.cells X t):=by
 unfold World.setRow World.alloc
 congr 1
 apply Array.ext
 . simp
 . intro i c b
   simp only [Array.getElem_modify]
   split
   · rename_i a
     subst a
     simp
   . rename_i a
     simp at b
     rw [Array.getElem_push_lt (by omega),Array.getElem_push_lt (by omega)]
theorem storeNew {P:Program}{W:World}{g:Nat}{cs:Array Value}{t:TypeId}{vs:List Value}(T:List Value)(hv:vs=T)(hg:g=W.heap.size)(hl:T.length=cs.size)(h1:T.all Value.oneCell'=true) :
    (storeCells ⟨g,0,none⟩ vs).run P (W.alloc (.cells cs t))=.ok () (W.alloc (.cells T.toArray t)):=by
 subst hv hg;rw [run_storeCells_from W.heap.size t vs 0 cs _ (by show (W.heap.push _)[W.heap.size]?=_;simp) (by omega) (by simpa using h1)]
 simp only [List.take_zero,List.nil_append]
 rw [setRow_new]
theorem eqI2 {P:Program}{t:TypeId}{b rs:Array TypeId}{a:Bool}(c:P.underlying t=some (.func b rs a))(d:Nat)(w:World):(Op.equalIn (d+1) t .nilFunc .nilFunc).run P w=.ok true w:=by
 simp [Op.equalIn,run_underlying c]
theorem eqF2 {P:Program}{t:TypeId}{b rs:Array TypeId}{a:Bool}(c:P.underlying t=some (.func b rs a))(w:World):(binOp .eql t .nilFunc .nilFunc).run P w=.ok (.bool true) w:=by
 have e:(Op.equal t .nilFunc .nilFunc).run P w=.ok true w:=eqI2 c 9999 w
 simp [binOp,e]
theorem Qw {w:World}{cs:Array Value}{e:TypeId}{g i:Nat}{u:Value}(hg:g=w.heap.size)(a:cs[i]?=some u):(w.alloc (.cells cs e)).cell? ⟨g,i,none⟩=some u:=by
 subst hg
 simp [a]
end Go.Proofs.YtedcmcdbejjgcaaGreat
namespace Go.Proofs.YtedcmcdbejjgcaaGreat.Rp
open Go.RowKit Go.Sort
structure PT where
 ops:List Oper
 N:Nat
 g:Nat->World->Value->Prop
 R:World->World->Prop
 w:World
 a0:Act
def XX (ops:List Oper)(i j:Nat):Bool:=((ops[i]?).map λo=>o.after.any λe=>Region.binds .any e&&e.on==j).getD false
def preF (ops:List Oper):Nat->Nat->Nat->Bool
 |0,i,j=>XX ops i j
 |f+1,i,j=>XX ops i j || (List.range i).any λk=>XX ops i k&&preF ops f k j
def QA (ops:List Oper)(i:Nat):Option Nat:=(ops[i]?).bind (·.dst)
def at_ (a:Act):Option Nat->Value
 |some s=>a.eval (.tmp s)
 |none=>undef
def res (o:Oper)(v:Value):Value:=if o.dst.isNone then undef else v
structure Iv (T:PT)(l:Array Bool)(a:Act)(W:World):Prop where
 sz:a.tmps.size=T.N
 df:a.defers=T.a0.defers
 ls:l.size=T.ops.length
 cl:∀ i j,l.getD i false=true->XX T.ops i j=true->l.getD j false=true
 kp:T.R T.w W
 va:∀ i,i<T.ops.length->l.getD i false=true->T.g i W (at_ a (QA T.ops i))
 sm:∀ s,(∀ i,i<T.ops.length->l.getD i false=true->QA T.ops i≠some s)->a.eval (.tmp s)=T.a0.eval (.tmp s)
structure PT.Ok (T:PT):Prop where
 op:∀ i s,QA T.ops i=some s->s<T.N
 pr:∀ i j,i<T.ops.length->XX T.ops i j=true->j<i
 sl:∀ i j s,i<T.ops.length->j<T.ops.length->QA T.ops i=some s->QA T.ops j=some s->i=j
 st:∀ i W W' v,T.g i W v->T.R W W'->T.g i W' v
 rt:∀ {W W' W''},T.R W W'->T.R W' W''->T.R W W''
structure PT.Fx (T:PT)(i:Nat)(a:Act)(W:World):Prop where
 sz:a.tmps.size=T.N
 kp:T.R T.w W
 va:∀ f j,preF T.ops f i j=true->j<T.ops.length->T.g j W (at_ a (QA T.ops j))
 sm:∀ s,(∀ j,j<T.ops.length->QA T.ops j=some s->j=i\/XX T.ops j i=true)->a.eval (.tmp s)=T.a0.eval (.tmp s)
def StepP (P:Program)(T:PT)(i:Nat)(o:Oper):Prop :=
 ∀ (a:Act) (W:World) (K:Act->World->Prop) (Q:Exit->Act->World->Prop),T.Fx i a W->(∀ v W',T.R W W'->T.g i W' (res o v)->K (a.put o.dst v) W')->if Region.wanted o (yielded T.ops.toArray a.tmps) then o.wp P a W K Q else K (a.put o.dst undef) W
def Jz (P:Program)(T:PT):Nat->List Oper->Prop
 |_,[]=>True
 |i,o::r=>StepP P T i o/\Jz P T (i+1) r
theorem Jz.nil {P:Program}{T:PT}{i:Nat}:Jz P T i []:=trivial
theorem Jz.cons {P:Program}{T:PT}{i:Nat}{o:Oper}{r:List Oper}(h:StepP P T i o)(hr:Jz P T (i+1) r):Jz P T i (o::r):=⟨h,hr⟩
theorem Jz.get {P:Program}{T:PT}:∀ (l:List Oper) (k i:Nat) (o:Oper),Jz P T k l->l[i]?=some o->StepP P T (k+i) o
 |[],k,i,o,_,h=>by simp at h
 |x::r,k,0,o,⟨h1,_⟩,h=>by simp at h;subst h;exact h1
 |x::r,k,i+1,o,⟨_,h2⟩,h=>by
  have:=Jz.get r (k+1) i o h2 (by simpa using h)
  rwa [show k+1+i=k+(i+1) by omega] at this
theorem J4 {l:Array Bool}{i j:Nat}(a:i<l.size):(l.setIfInBounds i true).getD j false=if j=i then true else l.getD j false:=by
 simp only [Array.getD_eq_getD_getElem?,Array.getElem?_setIfInBounds]
 by_cases h:i=j
 . subst h;simp [a]
 . have b:¬ j=i:=λe=>h e.symm
   simp [h,b]
theorem count_set:∀ (l:List Bool) (i:Nat),l[i]?=some false->(l.set i true).count false+1=l.count false
 |[],i,h=>by simp at h
 |b::l,0,h=>by
  simp only [List.getElem?_cons_zero,Option.some.injEq] at h
  subst h
  simp
 |b::l,i+1,h=>by
  have:=count_set l i (by simpa using h)
  simp only [List.set_cons_succ,List.count_cons]
  omega
theorem pre_listed {ops:List Oper}{l:Array Bool}{i j:Nat}{o:Oper}(a:ops[i]?=some o)(h:(o.after.all λe=>!Region.binds .any e || l.getD e.on false)=true)(hp:XX ops i j=true):l.getD j false=true:=by
 simp only [XX,a,Option.map_some,Option.getD_some,Array.any_eq_true',Bool.and_eq_true,beq_iff_eq] at hp
 obtain ⟨e,b,d,c⟩:=hp;rw [Array.all_eq_true'] at h
 have:=h e b
 rw [d,c] at this
 simpa using this
theorem JY {T:PT}{l:Array Bool}(b:∀ i j,l.getD i false=true->XX T.ops i j=true->l.getD j false=true):∀ f i j,(∀ k,XX T.ops i k=true->l.getD k false=true)->preF T.ops f i j=true->l.getD j false=true
 |0,i,j,h,a=>h j a
 |f+1,i,j,h,a=>by
  simp only [preF,Bool.or_eq_true,List.any_eq_true,Bool.and_eq_true] at a
  rcases a with a|⟨k,_,d,c⟩
  . exact h j a
  . exact JY b f k j (λm hm=>b k m (h k d) hm) c
theorem Iv.next {T:PT}(m:T.Ok){l:Array Bool}{a:Act}{W W':World}{i:Nat}{v:Value}{o:Oper}(h:Iv T l a W)(z:T.ops[i]?=some o)(hl:l.getD i false=false)
    (hp:∀ c,XX T.ops i c=true->l.getD c false=true) (A:T.R W W') (hg:T.g i W' (res o v)):Iv T (l.setIfInBounds i true) (a.put o.dst v) W':=by
 have r:i<T.ops.length:=(List.getElem?_eq_some_iff.1 z).1;have b:i<l.size:=by rw [h.ls];exact r
 have f:QA T.ops i=o.dst:=by simp [QA,z]
 have p:(a.put o.dst v).tmps.size=a.tmps.size:=by cases o.dst<;>simp [Act.put]
 have u:(a.put o.dst v).defers=a.defers:=by cases o.dst<;>simp [Act.put]
 refine ⟨p.trans h.sz,u.trans h.df,by simpa using h.ls,λk j hk' hpj=>?_,m.rt h.kp A,λj hj hlj=>?_,λs hs'=>?_⟩
 . rw [J4 b] at hk'⊢
   by_cases e:j=i
   . rw [if_pos e]
   . rw [if_neg e]
     by_cases n:k=i
     . subst n;exact hp j hpj
     . rw [if_neg n] at hk';exact h.cl k j hk' hpj
 . rw [J4 b] at hlj
   by_cases e:j=i
   . subst e;rw [f]
     cases hd:o.dst with
     |none =>
      show T.g j W' undef
      simpa [res,hd] using hg
     |some s =>
      have q:s<a.tmps.size:=by rw [h.sz];exact m.op j s (by rw [f,hd])
      show T.g j W' ((a.put (some s) v).eval (.tmp s))
      rw [Act.eval_put_same a s v q]
      simpa [res,hd] using hg
   . rw [if_neg e] at hlj
     have:=m.st j W W' _ (h.va j hj hlj) A
     cases hd:QA T.ops j with
     |none=>rw [hd] at this;exact this
     |some s =>
      rw [hd] at this
      show T.g j W' ((a.put o.dst v).eval (.tmp s))
      cases ho':o.dst with
      |none=>exact this
      |some t =>
       have d:t≠s:=by
        intro n
        subst n
        exact e (m.sl j i t hj r hd (by rw [f,ho']))
       rw [Act.eval_put_ne a _ _ v d]
       exact this
 . have d:o.dst≠some s:=by
     have:=hs' i r (by rw [J4 b,if_pos rfl])
     rwa [f] at this
   have y:=h.sm s (λj hj hlj=>hs' j hj (by rw [J4 b];split<;>simp_all))
   cases ho':o.dst with
   |none=>exact y
   |some t =>
    rw [Act.eval_put_ne a _ _ v (λe=>d (by rw [ho',e]))]
    exact y
theorem pg_any {P:Program}{T:PT}{Q:Exit->Act->World->Prop}(M:T.Ok)
    (E:Jz P T 0 T.ops) (t:∀ l a W,(∀ i,i<T.ops.length->l.getD i false=true)->Iv T l a W->Q .normal a W) :
    ∀ (b:Nat) (l:Array Bool) (a:Act) (W:World),Iv T l a W->l.toList.count false<=b->wpAny P .any T.ops.toArray Q b l a W:=by
 have m:∀ l a W,Iv T l a W->Region.ready .any T.ops.toArray l=[]->Q .normal a W:=by
  intro l a W h B
  refine t l a W (λi=>?_) h
  induction i using Nat.strongRecOn with
  |_ i ih =>
   intro n
   cases p:l.getD i false with
   |true=>rfl
   |false =>
    exfalso
    have g:T.ops[i]?=some T.ops[i]:=List.getElem?_eq_getElem n
    have d:i ∈ Region.ready .any T.ops.toArray l:=by
     have D:i<l.size:=by rw [h.ls];exact n
     simp only [Region.ready,List.mem_filter,List.mem_range,List.size_toArray,List.getElem?_toArray,g,Option.map_some,Option.getD_some,Bool.and_eq_true]
     refine ⟨n,?_,?_⟩
     . rw [Array.getD_eq_getD_getElem?,Array.getElem?_eq_getElem D] at p⊢
       simpa using p
     . rw [Array.all_eq_true']
       intro e U
       by_cases L:Region.binds .any e=true
       . have F:XX T.ops i e.on=true:=by
           simp only [XX,g,Option.map_some,Option.getD_some,Array.any_eq_true',Bool.and_eq_true,beq_iff_eq]
           exact ⟨e,U,L,rfl⟩
         have G:=M.pr i e.on n F;rw [ih e.on G (by omega)]
         simp
       . simp [L]
    rw [B] at d
    cases d
 intro b
 induction b with
 |zero =>
  intro l a W h p
  have B:Region.ready .any T.ops.toArray l=[]:=by
   cases hx:Region.ready .any T.ops.toArray l with
   |nil=>rfl
   |cons i r =>
    exfalso
    have d:i ∈ Region.ready .any T.ops.toArray l:=by rw [hx];simp
    simp only [Region.ready,List.mem_filter,List.mem_range,List.size_toArray,Bool.and_eq_true] at d
    obtain ⟨z,y,_⟩:=d;rw [<- h.ls] at z
    have S:false ∈ l.toList:=by
     rw [Array.getD_eq_getD_getElem?,Array.getElem?_eq_getElem z] at y
     have:l[i]=false:=by simpa using y
     rw [<- this]
     simp
    have:=List.count_pos_iff.2 S
    omega
  exact ⟨B,m l a W h B⟩
 |succ b ihf =>
  intro l a W h p
  refine ⟨m l a W h,λi n=>?_⟩
  simp only [Region.ready,List.mem_filter,List.mem_range,List.size_toArray,Bool.and_eq_true] at n
  obtain ⟨z,y,O⟩:=n;have g:T.ops[i]?=some T.ops[i]:=List.getElem?_eq_getElem z;generalize T.ops[i]=o at g;rw [List.getElem?_toArray,g,Option.map_some,Option.getD_some] at O;have q:i<l.size:=by rw [h.ls];exact z
  have k:l[i]?=some false:=by
   rw [Array.getElem?_eq_getElem q];rw [Array.getD_eq_getD_getElem?,Array.getElem?_eq_getElem q] at y
   simpa using y
  have H:l.getD i false=false:=by rw [Array.getD_eq_getD_getElem?,k];rfl
  have u:(l.setIfInBounds i true).toList.count false<=b:=by
   have:=count_set l.toList i (by simpa using k)
   rw [Array.toList_setIfInBounds]
   omega
  have J:∀ c,XX T.ops i c=true->l.getD c false=true:=λc p=>pre_listed g O p
  have I:T.Fx i a W:=by
   refine ⟨h.sz,h.kp,λf j hf hj=>h.va j hj (JY h.cl f i j J hf),λs A=>h.sm s (λj hj hlj e=>?_)⟩
   rcases A j hj e with rfl|R
   . rw [H] at hlj;cases hlj
   . have:=h.cl j i hlj R
     rw [H] at this;cases this
  have A:=Jz.get T.ops 0 i o E g;rw [Nat.zero_add] at A
  have:=A a W (wpAny P .any T.ops.toArray Q b (l.setIfInBounds i true)) Q I (λv W' hk hg=>ihf _ _ _ (h.next M g H J hk hg) u)
  unfold wpOp
  simp only [List.getElem?_toArray,g]
  split
  · rename_i C
    rw [if_pos C] at this
    exact .inl this
  . rename_i C
    rw [if_neg C] at this
    exact this
structure Fin (T:PT)(a:Act)(W:World):Prop where
 sz:a.tmps.size=T.N
 df:a.defers=T.a0.defers
 kp:T.R T.w W
 va:∀ i,i<T.ops.length->T.g i W (at_ a (QA T.ops i))
 sm:∀ s,(∀ i,i<T.ops.length->QA T.ops i≠some s)->a.eval (.tmp s)=T.a0.eval (.tmp s)
theorem Xy (n i:Nat):(Array.replicate n false).getD i false=false:=by
 rw [Array.getD_eq_getD_getElem?,Array.getElem?_replicate]
 split<;>rfl
theorem pg_region {P:Program}{T:PT}{Q:Exit->Act->World->Prop}{b:Nat}(d:T.Ok)(c:P.follows .mixedOrders=true)(f:T.a0.tmps.size=T.N)(h0:T.R T.w { T.w with drawn:=T.w.drawn+1 })
    (hst:Jz P T 0 T.ops) (hend:∀ a W,Fin T a W->Q .normal a W) :
    (Code.region b T.ops.toArray true).wp P Q T.a0 T.w:=by
 refine wp_region_any c ?_
 rw [List.size_toArray]
 refine pg_any d hst (λl a W hl h=>hend a W ⟨h.sz,h.df,h.kp,λi hi=>h.va i hi (hl i hi),λs hs=>h.sm s (λi hi _=>hs i hi)⟩) _ _ _ _ ?_ ?_
 . refine ⟨f,rfl,by simp,λi j hi _=>?_,h0,λi _ hi=>?_,λs _=>rfl⟩
   . rw [Xy] at hi;cases hi
   . rw [Xy] at hi;cases hi
 . simp
def okB (ops:List Oper)(N:Nat):Bool :=
 (List.range ops.length).all λi=>(match QA ops i with|some s=>decide (s<N)&&((List.range ops.length).all λj=>j==i || !(QA ops j==some s))|none=>true) &&
  ((ops[i]?).map λo=>o.after.all λe=>!Region.binds .any e || decide (e.on<i)).getD true
theorem ok_of {T:PT}(h:okB T.ops T.N=true)(c:∀ i W W' v,T.g i W v->T.R W W'->T.g i W' v)(d:∀ {W W' W''},T.R W W'->T.R W' W''->T.R W W''):T.Ok:=by
 simp only [okB,List.all_eq_true,List.mem_range,Bool.and_eq_true] at h
 refine ⟨λi s hs=>?_,λi j a hp=>?_,λi j s a hj hs hs'=>?_,c,d⟩
 . have a:i<T.ops.length:=by
     by_cases a:i<T.ops.length
     . exact a
     . rw [QA,List.getElem?_eq_none (by omega)] at hs;cases hs
   have:=(h i a).1
   rw [hs] at this
   simp only [Bool.and_eq_true,decide_eq_true_eq] at this
   exact this.1
 . have:=(h i a).2
   have b:T.ops[i]?=some T.ops[i]:=List.getElem?_eq_getElem a;rw [b,Option.map_some,Option.getD_some] at this
   simp only [XX,b,Option.map_some,Option.getD_some,Array.any_eq_true',Bool.and_eq_true,beq_iff_eq] at hp
   obtain ⟨e,f,k,rfl⟩:=hp;rw [Array.all_eq_true'] at this
   have:=this e f
   rw [k] at this
   simpa using this
 . have:=(h i a).1
   rw [hs] at this
   simp only [Bool.and_eq_true,decide_eq_true_eq,List.all_eq_true,List.mem_range] at this
   have:=this.2 j hj
   rw [hs'] at this
   simpa using (show (j==i)=true by simpa using this) |> (λe=>(beq_iff_eq.1 e).symm)
theorem pg_below {P:Program}{Q:Exit->Act->World->Prop}{j N:Nat}{ops:List Oper}{g:Nat->World->Value->Prop}{w:World}{a0:Act}
    (k:P.follows .mixedOrders=true) (d:okB ops N=true) (l:a0.tmps.size=N) (f:∀ i W W' v,g i W v->Below W.heap.size W W'->g i W' v)
    (c:Jz P ⟨ops,N,g,λW W'=>Below W.heap.size W W',w,a0⟩ 0 ops) (b:∀ a W,Fin ⟨ops,N,g,λW W'=>Below W.heap.size W W',w,a0⟩ a W->Q .normal a W) :
    (Code.region j ops.toArray true).wp P Q a0 w :=
 pg_region (T:=⟨ops,N,g,λW W'=>Below W.heap.size W W',w,a0⟩) (ok_of d f (λh1 h2=>h1.trans (h2.mono h1.size))) k l (bF.drew) c b
theorem QW (a:Act)(s:Nat):a.eval (.tmp s)=a.tmps[s]?.getD undef:=by simp [Act.eval]
section
variable {ops:List Oper} {N:Nat} {g:Nat->World->Value->Prop} {R:World->World->Prop} {w:World} {a0:Act} {i:Nat} {a:Act} {W:World}
theorem Q0 (f:PT.Fx ⟨ops,N,g,R,w,a0⟩ i a W)(k j s:Nat)(hp:(preF ops k i j&&decide (j<ops.length)&&QA ops j==some s)=true):g j W (a.tmps[s]?.getD undef):=by
 simp only [Bool.and_eq_true,decide_eq_true_eq,beq_iff_eq] at hp
 have:=f.va k j hp.1.1 hp.1.2
 rw [show QA (PT.mk ops N g R w a0).ops j=some s from hp.2] at this;rw [<- QW];exact this
theorem Xu (f:PT.Fx ⟨ops,N,g,R,w,a0⟩ i a W)(s:Nat)(h:((List.range ops.length).all λj=>!(QA ops j==some s) || j==i || XX ops j i)=true):a.tmps[s]?.getD undef=a0.tmps[s]?.getD undef:=by
 rw [<- QW,<- QW]
 refine f.sm s (λj hj e=>?_)
 rw [List.all_eq_true] at h
 have:=h j (List.mem_range.2 hj)
 rw [show QA ops j=some s from e] at this
 simpa using this
theorem QD {P:Program}{K:Act->World->Prop}{Q:Exit->Act->World->Prop}{o:Oper}(v:Value)(c:Region.wanted o (yielded ops.toArray a.tmps)=true)(hr:R W W)(b:(execOp a.eval o).run P W=.ok (.value v) W)(hg:g i W (res o v))
    (d:∀ v W',R W W'->g i W' (res o v)->K (a.put o.dst v) W'):if Region.wanted o (yielded ops.toArray a.tmps) then o.wp P a W K Q else K (a.put o.dst undef) W:=by
 rw [if_pos c];unfold Oper.wp;rw [b,Oper.upon_value]
 exact d v W hr hg
theorem st_call {P:Program}{K:Act->World->Prop}{Q:Exit->Act->World->Prop}{o:Oper}{d:FuncId}{args:Array Value}(f:Region.wanted o (yielded ops.toArray a.tmps)=true)(b:(execOp a.eval o).run P W=.ok (.enter d args) W)
    (j:Calls P d args W λe c=>∃ u,e=.returned u/\R W c/\g i c (res o u))
    (k:∀ v W',R W W'->g i W' (res o v)->K (a.put o.dst v) W'):if Region.wanted o (yielded ops.toArray a.tmps) then o.wp P a W K Q else K (a.put o.dst undef) W:=by
 rw [if_pos f];unfold Oper.wp;rw [b,Oper.upon_enter]
 refine j.mono ?_
 rintro e c ⟨u,rfl,h,l⟩
 exact k u c h l
theorem Qe {o:Oper}(h:o.guard=none):Region.wanted o (yielded ops.toArray a.tmps)=true:=by simp [Region.wanted,h]
end
theorem act_ext {a b:Act}(c:a.tmps.size=b.tmps.size)(d:a.defers=b.defers)(f:∀ s,a.eval (.tmp s)=b.eval (.tmp s)):a=b:=by
 obtain ⟨l,n⟩:=a;obtain ⟨k,m⟩:=b
 simp only at c d
 subst d
 congr 1
 apply Array.ext
 . exact c
 . intro i j g
   have:=f i
   simpa [Act.eval,Array.getD,j,g] using this
theorem act_puts:∀ (c:List Nat) (a b:Act),a.tmps.size=b.tmps.size->a.defers=b.defers->(∀ s,s ∉ c->a.eval (.tmp s)=b.eval (.tmp s))->a=c.foldl (λb s=>b.put (some s) (a.eval (.tmp s))) b
 |[],a,b,hs,hd,he=>act_ext hs hd (λs=>he s (by simp))
 |s::c,a,b,hs,hd,he=>by
  rw [List.foldl_cons]
  refine act_puts c a (b.put (some s) (a.eval (.tmp s))) (by rw [Act.size_put];exact hs) (by rw [Act.defers_put'];exact hd) (λt ht=>?_)
  by_cases e:t=s
  . subst e
    by_cases d:t<b.tmps.size
    . rw [Act.eval_put_same _ _ _ d]
    . have g:a.eval (.tmp t)=undef:=by simp [Act.eval,Array.getD,show ¬ t<a.tmps.size by omega]
      have f:(b.put (some t) (a.eval (.tmp t))).eval (.tmp t)=undef:=by simp [Act.eval,Act.put,Array.getD,d]
      rw [f,g]
  . rw [Act.eval_put_ne _ _ _ _ (λe'=>e e'.symm)]
    exact he t (by simp [e,ht])
theorem fin_act {T:PT}{a:Act}{W:World}(f:Fin T a W)(d:List Nat)(c:(T.ops.filterMap (·.dst))=d)(g:T.a0.tmps.size=T.N):a=d.foldl (λb s=>b.put (some s) (a.eval (.tmp s))) T.a0:=by
 subst c
 refine act_puts _ a T.a0 (f.sz.trans g.symm) f.df (λs hs=>f.sm s (λi hi e=>hs ?_))
 rw [List.mem_filterMap]
 refine ⟨T.ops[i],List.getElem_mem hi,?_⟩
 simpa [QA,List.getElem?_eq_getElem hi] using e
def is (x:Value):World->Value->Prop:=λ_ v=>v=x
def Stb (p:World->Value->Prop):Prop:=∀ W W' v,p W v->Below W.heap.size W W'->p W' v
theorem QC (x:Value):Stb (is x):=λ_ _ _ h _=>h
def StbL:List (World->Value->Prop)->Prop
 |[]=>True
 |p::ps=>Stb p/\StbL ps
theorem StbL.nil:StbL []:=trivial
theorem StbL.cons {p:World->Value->Prop}{a:List (World->Value->Prop)}(h:Stb p)(b:StbL a):StbL (p::a):=⟨h,b⟩
theorem StbL.get:∀ (a:List (World->Value->Prop)) (i:Nat),StbL a->Stb (a.getD i (λ_ _=>True))
 |[],i,_=>by simp [Stb]
 |p::a,0,⟨h,_⟩=>by simpa using h
 |p::a,i+1,⟨_,hs⟩=>by simpa using StbL.get a i hs
theorem pg_list {P:Program}{Q:Exit->Act->World->Prop}{f N:Nat}{ops:List Oper}{gs:List (World->Value->Prop)}{w:World}{a0:Act}
    (j:P.follows .mixedOrders=true) (d:okB ops N=true) (k:a0.tmps.size=N) (g:StbL gs)
    (c:Jz P ⟨ops,N,λi=>gs.getD i (λ_ _=>True),λW W'=>Below W.heap.size W W',w,a0⟩ 0 ops) (b:∀ a W,Fin ⟨ops,N,λi=>gs.getD i (λ_ _=>True),λW W'=>Below W.heap.size W W',w,a0⟩ a W->Q .normal a W) :
    (Code.region f ops.toArray true).wp P Q a0 w :=
 pg_below j d k (λi W W' v h hb=>StbL.get gs i g W W' v h hb) c b
section
variable {ops:List Oper} {a:Act} {W:World} {P:Program} {K:Act->World->Prop} {Q:Exit->Act->World->Prop} {o:Oper} {p:World->Value->Prop} {d:Nat}
end
theorem XN {ops:List Oper}{N:Nat}{g:Nat->World->Value->Prop}{R:World->World->Prop}{w:World}{a0:Act}{a:Act}{W:World}(f:Fin ⟨ops,N,g,R,w,a0⟩ a W)(j s:Nat)(hp:(decide (j<ops.length)&&QA ops j==some s)=true):g j W (a.eval (.tmp s)):=by
 simp only [Bool.and_eq_true,decide_eq_true_eq,beq_iff_eq] at hp
 have:=f.va j hp.1
 rwa [show QA (PT.mk ops N g R w a0).ops j=some s from hp.2] at this
def StepQ (P:Program)(T:PT)(Q:Exit->Act->World->Prop)(i:Nat)(o:Oper):Prop :=
 ∀ (a:Act) (W:World) (K:Act->World->Prop),T.Fx i a W->a.defers=T.a0.defers->(∀ v W',T.R W W'->T.g i W' (res o v)->K (a.put o.dst v) W')->if Region.wanted o (yielded T.ops.toArray a.tmps) then o.wp P a W K Q else K (a.put o.dst undef) W
def Jw (P:Program)(T:PT)(Q:Exit->Act->World->Prop):Nat->List Oper->Prop
 |_,[]=>True
 |i,o::r=>StepQ P T Q i o/\Jw P T Q (i+1) r
theorem Jw.nil {P:Program}{T:PT}{Q:Exit->Act->World->Prop}{i:Nat}:Jw P T Q i []:=trivial
theorem Jw.cons {P:Program}{T:PT}{Q:Exit->Act->World->Prop}{i:Nat}{o:Oper}{r:List Oper}(h:StepQ P T Q i o)(hr:Jw P T Q (i+1) r):Jw P T Q i (o::r):=⟨h,hr⟩
theorem Jw.get {P:Program}{T:PT}{Q:Exit->Act->World->Prop}:∀ (l:List Oper) (k i:Nat) (o:Oper),Jw P T Q k l->l[i]?=some o->StepQ P T Q (k+i) o
 |[],k,i,o,_,h=>by simp at h
 |x::r,k,0,o,⟨h1,_⟩,h=>by simp at h;subst h;exact h1
 |x::r,k,i+1,o,⟨_,h2⟩,h=>by
  have:=Jw.get r (k+1) i o h2 (by simpa using h)
  rwa [show k+1+i=k+(i+1) by omega] at this
theorem qg_any {P:Program}{T:PT}{Q:Exit->Act->World->Prop}(M:T.Ok)
    (E:Jw P T Q 0 T.ops) (t:∀ l a W,(∀ i,i<T.ops.length->l.getD i false=true)->Iv T l a W->Q .normal a W) :
    ∀ (b:Nat) (l:Array Bool) (a:Act) (W:World),Iv T l a W->l.toList.count false<=b->wpAny P .any T.ops.toArray Q b l a W:=by
 have m:∀ l a W,Iv T l a W->Region.ready .any T.ops.toArray l=[]->Q .normal a W:=by
  intro l a W h B
  refine t l a W (λi=>?_) h
  induction i using Nat.strongRecOn with
  |_ i ih =>
   intro n
   cases p:l.getD i false with
   |true=>rfl
   |false =>
    exfalso
    have g:T.ops[i]?=some T.ops[i]:=List.getElem?_eq_getElem n
    have d:i ∈ Region.ready .any T.ops.toArray l:=by
     have D:i<l.size:=by rw [h.ls];exact n
     simp only [Region.ready,List.mem_filter,List.mem_range,List.size_toArray,List.getElem?_toArray,g,Option.map_some,Option.getD_some,Bool.and_eq_true]
     refine ⟨n,?_,?_⟩
     . rw [Array.getD_eq_getD_getElem?,Array.getElem?_eq_getElem D] at p⊢
       simpa using p
     . rw [Array.all_eq_true']
       intro e U
       by_cases L:Region.binds .any e=true
       . have F:XX T.ops i e.on=true:=by
           simp only [XX,g,Option.map_some,Option.getD_some,Array.any_eq_true',Bool.and_eq_true,beq_iff_eq]
           exact ⟨e,U,L,rfl⟩
         have G:=M.pr i e.on n F;rw [ih e.on G (by omega)]
         simp
       . simp [L]
    rw [B] at d
    cases d
 intro b
 induction b with
 |zero =>
  intro l a W h p
  have B:Region.ready .any T.ops.toArray l=[]:=by
   cases hx:Region.ready .any T.ops.toArray l with
   |nil=>rfl
   |cons i r =>
    exfalso
    have d:i ∈ Region.ready .any T.ops.toArray l:=by rw [hx];simp
    simp only [Region.ready,List.mem_filter,List.mem_range,List.size_toArray,Bool.and_eq_true] at d
    obtain ⟨z,y,_⟩:=d;rw [<- h.ls] at z
    have S:false ∈ l.toList:=by
     rw [Array.getD_eq_getD_getElem?,Array.getElem?_eq_getElem z] at y
     have:l[i]=false:=by simpa using y
     rw [<- this]
     simp
    have:=List.count_pos_iff.2 S
    omega
  exact ⟨B,m l a W h B⟩
 |succ b ihf =>
  intro l a W h p
  refine ⟨m l a W h,λi n=>?_⟩
  simp only [Region.ready,List.mem_filter,List.mem_range,List.size_toArray,Bool.and_eq_true] at n
  obtain ⟨z,y,O⟩:=n;have g:T.ops[i]?=some T.ops[i]:=List.getElem?_eq_getElem z;generalize T.ops[i]=o at g;rw [List.getElem?_toArray,g,Option.map_some,Option.getD_some] at O;have q:i<l.size:=by rw [h.ls];exact z
  have k:l[i]?=some false:=by
   rw [Array.getElem?_eq_getElem q];rw [Array.getD_eq_getD_getElem?,Array.getElem?_eq_getElem q] at y
   simpa using y
  have H:l.getD i false=false:=by rw [Array.getD_eq_getD_getElem?,k];rfl
  have u:(l.setIfInBounds i true).toList.count false<=b:=by
   have:=count_set l.toList i (by simpa using k)
   rw [Array.toList_setIfInBounds]
   omega
  have J:∀ c,XX T.ops i c=true->l.getD c false=true:=λc p=>pre_listed g O p
  have I:T.Fx i a W:=by
   refine ⟨h.sz,h.kp,λf j hf hj=>h.va j hj (JY h.cl f i j J hf),λs A=>h.sm s (λj hj hlj e=>?_)⟩
   rcases A j hj e with rfl|R
   . rw [H] at hlj;cases hlj
   . have:=h.cl j i hlj R
     rw [H] at this;cases this
  have A:=Jw.get T.ops 0 i o E g;rw [Nat.zero_add] at A
  have:=A a W (wpAny P .any T.ops.toArray Q b (l.setIfInBounds i true)) I h.df (λv W' hk hg=>ihf _ _ _ (h.next M g H J hk hg) u)
  unfold wpOp
  simp only [List.getElem?_toArray,g]
  split
  · rename_i C
    rw [if_pos C] at this
    exact .inl this
  . rename_i C
    rw [if_neg C] at this
    exact this
theorem qg_region {P:Program}{T:PT}{Q:Exit->Act->World->Prop}{b:Nat}(d:T.Ok)(c:P.follows .mixedOrders=true)(f:T.a0.tmps.size=T.N)(h0:T.R T.w { T.w with drawn:=T.w.drawn+1 })
    (hst:Jw P T Q 0 T.ops) (hend:∀ a W,Fin T a W->Q .normal a W) :
    (Code.region b T.ops.toArray true).wp P Q T.a0 T.w:=by
 refine wp_region_any c ?_
 rw [List.size_toArray]
 refine qg_any d hst (λl a W hl h=>hend a W ⟨h.sz,h.df,h.kp,λi hi=>h.va i hi (hl i hi),λs hs=>h.sm s (λi hi _=>hs i hi)⟩) _ _ _ _ ?_ ?_
 . refine ⟨f,rfl,by simp,λi j hi _=>?_,h0,λi _ hi=>?_,λs _=>rfl⟩
   . rw [Xy] at hi;cases hi
   . rw [Xy] at hi;cases hi
 . simp
theorem qg_below {P:Program}{Q:Exit->Act->World->Prop}{j N:Nat}{ops:List Oper}{g:Nat->World->Value->Prop}{w:World}{a0:Act}
    (k:P.follows .mixedOrders=true) (d:okB ops N=true) (l:a0.tmps.size=N) (f:∀ i W W' v,g i W v->Below W.heap.size W W'->g i W' v)
    (c:Jw P ⟨ops,N,g,λW W'=>Below W.heap.size W W',w,a0⟩ Q 0 ops) (b:∀ a W,Fin ⟨ops,N,g,λW W'=>Below W.heap.size W W',w,a0⟩ a W->Q .normal a W) :
    (Code.region j ops.toArray true).wp P Q a0 w :=
 qg_region (T:=⟨ops,N,g,λW W'=>Below W.heap.size W W',w,a0⟩) (ok_of d f (λh1 h2=>h1.trans (h2.mono h1.size))) k l (bF.drew) c b
theorem qg_list {P:Program}{Q:Exit->Act->World->Prop}{f N:Nat}{ops:List Oper}{gs:List (World->Value->Prop)}{w:World}{a0:Act}
    (j:P.follows .mixedOrders=true) (d:okB ops N=true) (k:a0.tmps.size=N) (g:StbL gs)
    (c:Jw P ⟨ops,N,λi=>gs.getD i (λ_ _=>True),λW W'=>Below W.heap.size W W',w,a0⟩ Q 0 ops) (b:∀ a W,Fin ⟨ops,N,λi=>gs.getD i (λ_ _=>True),λW W'=>Below W.heap.size W W',w,a0⟩ a W->Q .normal a W) :
    (Code.region f ops.toArray true).wp P Q a0 w :=
 qg_below j d k (λi W W' v h hb=>StbL.get gs i g W W' v h hb) c b
theorem st_fall {P:Program}{K:Act->World->Prop}{Q:Exit->Act->World->Prop}{ops:List Oper}{a:Act}{W:World}{o:Oper}{d:FuncId}{args:Array Value}(f:Region.wanted o (yielded ops.toArray a.tmps)=true)(b:(execOp a.eval o).run P W=.ok (.enter d args) W)
    (g:Calls P d args W λe c=>∃ x,e=.panicked x/\Q (.panic x) a c):if Region.wanted o (yielded ops.toArray a.tmps) then o.wp P a W K Q else K (a.put o.dst undef) W:=by
 rw [if_pos f];unfold Oper.wp;rw [b,Oper.upon_enter]
 refine g.mono ?_
 rintro e c ⟨x,rfl,h⟩
 exact h
theorem st_valw {P:Program}{K:Act->World->Prop}{Q:Exit->Act->World->Prop}{ops:List Oper}{a:Act}{W:World}{o:Oper}{R:World->World->Prop}{g:World->Value->Prop}(v:Value)(W':World)(c:Region.wanted o (yielded ops.toArray a.tmps)=true)(hr:R W W')(b:(execOp a.eval o).run P W=.ok (.value v) W')(hg:g W' (res o v))
    (d:∀ v W',R W W'->g W' (res o v)->K (a.put o.dst v) W'):if Region.wanted o (yielded ops.toArray a.tmps) then o.wp P a W K Q else K (a.put o.dst undef) W:=by
 rw [if_pos c];unfold Oper.wp;rw [b,Oper.upon_value]
 exact d v W' hr hg
theorem stb_any:Stb (λ_ _=>True):=λ_ _ _ h _=>h
theorem Gk:Stb (λ_ _=>False):=λ_ _ _ h _=>h
end Go.Proofs.YtedcmcdbejjgcaaGreat.Rp
namespace Go.Proofs.YtedcmcdbejjgcaaGreat
open Go.RowKit
abbrev U (xs:List Int):List Value:=xs.map (Value.int .u8)
def GN (x wd:Int):Int:=if 64<=wd then x else IntKind.u64.wrap (x*2 ^ (64-wd).toNat) / 2 ^ (64-wd).toNat
def GF (x wd:Int):Int:=if 64<=wd then x else wrap64 (x*2 ^ (64-wd).toNat) / 2 ^ (64-wd).toNat
theorem cutU_7 (x:Int):GN x 7=x%128:=by
 unfold GN;rw [if_neg (by omega),IntKind.wrap_u64];have e:(2:Int) ^ (64-(7:Int)).toNat=144115188075855872:=by decide
 rw [e];omega
theorem cutS_7 (x:Int):GF x 7=(x+64)%128-64:=by
 unfold GF wrap64;rw [if_neg (by omega)];have e:(2:Int) ^ (64-(7:Int)).toNat=144115188075855872:=by decide
 rw [e];omega
theorem andNot128 (y:Int):bits .andNot .u8 (y%256) 128=y%128:=by
 rw [u8_andNot _ _ (by omega) (by omega) (by omega) (by omega)];have h:∀ n:Nat,n<256->n &&& (255-128)=n%128:=by decide +kernel
 have:=h (y%256).toNat (by omega)
 show (((y%256).toNat &&& (255-128):Nat):Int)=_
 omega
structure Row where
 nm:ByteArray
 f:Int
 a:Int
 b:Int
 g:Int
def Z0:Row:=⟨⟨#[]⟩,0,0,0,0⟩
abbrev rowL (r:Row):List Value:=[.string r.nm,.int .i64 r.f,.int .i64 r.a,.int .i64 r.b,.int .i64 r.g]
abbrev Xv (r:Row):Value:=.agg #[.string r.nm,.int .i64 r.f,.int .i64 r.a,.int .i64 r.b,.int .i64 r.g]
def flat:List Row->List Value
 |[]=>[]
 |r::l=>rowL r++flat l
def R52t:List Row:=[
 ⟨⟨#[117,110,114,101,97,99,104,97,98,108,101]⟩,0,0,0,0⟩,
 ⟨⟨#[110,111,112]⟩,0,0,0,0⟩,
 ⟨⟨#[98,108,111,99,107]⟩,1,0,0,0⟩,
 ⟨⟨#[108,111,111,112]⟩,1,0,0,0⟩,
 ⟨⟨#[105,102]⟩,1,0,0,0⟩,
 ⟨⟨#[101,108,115,101]⟩,0,0,0,0⟩,
 ⟨⟨#[]⟩,0,0,0,0⟩,
 ⟨⟨#[]⟩,0,0,0,0⟩,
 ⟨⟨#[]⟩,0,0,0,0⟩,
 ⟨⟨#[]⟩,0,0,0,0⟩,
 ⟨⟨#[]⟩,0,0,0,0⟩,
 ⟨⟨#[101,110,100]⟩,0,0,0,0⟩,
 ⟨⟨#[98,114]⟩,2,0,0,0⟩,
 ⟨⟨#[98,114,95,105,102]⟩,2,0,0,0⟩,
 ⟨⟨#[98,114,95,116,97,98,108,101]⟩,3,0,0,0⟩,
 ⟨⟨#[114,101,116,117,114,110]⟩,0,0,0,0⟩,
 ⟨⟨#[99,97,108,108]⟩,2,0,0,0⟩,
 ⟨⟨#[99,97,108,108,95,105,110,100,105,114,101,99,116]⟩,4,0,0,0⟩,
 ⟨⟨#[]⟩,0,0,0,0⟩,
 ⟨⟨#[]⟩,0,0,0,0⟩,
 ⟨⟨#[]⟩,0,0,0,0⟩,
 ⟨⟨#[]⟩,0,0,0,0⟩,
 ⟨⟨#[]⟩,0,0,0,0⟩,
 ⟨⟨#[]⟩,0,0,0,0⟩,
 ⟨⟨#[]⟩,0,0,0,0⟩,
 ⟨⟨#[]⟩,0,0,0,0⟩,
 ⟨⟨#[100,114,111,112]⟩,0,0,0,0⟩,
 ⟨⟨#[115,101,108,101,99,116]⟩,0,0,0,0⟩,
 ⟨⟨#[]⟩,0,0,0,0⟩,
 ⟨⟨#[]⟩,0,0,0,0⟩,
 ⟨⟨#[]⟩,0,0,0,0⟩,
 ⟨⟨#[]⟩,0,0,0,0⟩,
 ⟨⟨#[108,111,99,97,108,46,103,101,116]⟩,2,0,0,0⟩,
 ⟨⟨#[108,111,99,97,108,46,115,101,116]⟩,2,0,0,0⟩,
 ⟨⟨#[108,111,99,97,108,46,116,101,101]⟩,2,0,0,0⟩,
 ⟨⟨#[103,108,111,98,97,108,46,103,101,116]⟩,2,0,0,0⟩,
 ⟨⟨#[103,108,111,98,97,108,46,115,101,116]⟩,2,0,0,0⟩,
 ⟨⟨#[]⟩,0,0,0,0⟩,
 ⟨⟨#[]⟩,0,0,0,0⟩,
 ⟨⟨#[]⟩,0,0,0,0⟩]
def R53t:List Row:=[
 ⟨⟨#[105,51,50,46,108,111,97,100]⟩,5,127,0,127⟩,
 ⟨⟨#[105,54,52,46,108,111,97,100]⟩,5,127,0,126⟩,
 ⟨⟨#[102,51,50,46,108,111,97,100]⟩,5,127,0,125⟩,
 ⟨⟨#[102,54,52,46,108,111,97,100]⟩,5,127,0,124⟩,
 ⟨⟨#[105,51,50,46,108,111,97,100,56,95,115]⟩,5,127,0,127⟩,
 ⟨⟨#[105,51,50,46,108,111,97,100,56,95,117]⟩,5,127,0,127⟩,
 ⟨⟨#[105,51,50,46,108,111,97,100,49,54,95,115]⟩,5,127,0,127⟩,
 ⟨⟨#[105,51,50,46,108,111,97,100,49,54,95,117]⟩,5,127,0,127⟩,
 ⟨⟨#[105,54,52,46,108,111,97,100,56,95,115]⟩,5,127,0,126⟩,
 ⟨⟨#[105,54,52,46,108,111,97,100,56,95,117]⟩,5,127,0,126⟩,
 ⟨⟨#[105,54,52,46,108,111,97,100,49,54,95,115]⟩,5,127,0,126⟩,
 ⟨⟨#[105,54,52,46,108,111,97,100,49,54,95,117]⟩,5,127,0,126⟩,
 ⟨⟨#[105,54,52,46,108,111,97,100,51,50,95,115]⟩,5,127,0,126⟩,
 ⟨⟨#[105,54,52,46,108,111,97,100,51,50,95,117]⟩,5,127,0,126⟩,
 ⟨⟨#[105,51,50,46,115,116,111,114,101]⟩,5,127,127,0⟩,
 ⟨⟨#[105,54,52,46,115,116,111,114,101]⟩,5,127,126,0⟩,
 ⟨⟨#[102,51,50,46,115,116,111,114,101]⟩,5,127,125,0⟩,
 ⟨⟨#[102,54,52,46,115,116,111,114,101]⟩,5,127,124,0⟩,
 ⟨⟨#[105,51,50,46,115,116,111,114,101,56]⟩,5,127,127,0⟩,
 ⟨⟨#[105,51,50,46,115,116,111,114,101,49,54]⟩,5,127,127,0⟩,
 ⟨⟨#[105,54,52,46,115,116,111,114,101,56]⟩,5,127,126,0⟩,
 ⟨⟨#[105,54,52,46,115,116,111,114,101,49,54]⟩,5,127,126,0⟩,
 ⟨⟨#[105,54,52,46,115,116,111,114,101,51,50]⟩,5,127,126,0⟩,
 ⟨⟨#[109,101,109,111,114,121,46,115,105,122,101]⟩,6,0,0,127⟩,
 ⟨⟨#[109,101,109,111,114,121,46,103,114,111,119]⟩,6,127,0,127⟩,
 ⟨⟨#[105,51,50,46,99,111,110,115,116]⟩,7,0,0,127⟩,
 ⟨⟨#[105,54,52,46,99,111,110,115,116]⟩,8,0,0,126⟩,
 ⟨⟨#[102,51,50,46,99,111,110,115,116]⟩,9,0,0,125⟩,
 ⟨⟨#[102,54,52,46,99,111,110,115,116]⟩,10,0,0,124⟩]
def R54t:List Row:=[
 ⟨⟨#[105,51,50,46,101,113,122]⟩,0,127,0,127⟩,
 ⟨⟨#[105,51,50,46,101,113]⟩,0,127,127,127⟩,
 ⟨⟨#[105,51,50,46,110,101]⟩,0,127,127,127⟩,
 ⟨⟨#[105,51,50,46,108,116,95,115]⟩,0,127,127,127⟩,
 ⟨⟨#[105,51,50,46,108,116,95,117]⟩,0,127,127,127⟩,
 ⟨⟨#[105,51,50,46,103,116,95,115]⟩,0,127,127,127⟩,
 ⟨⟨#[105,51,50,46,103,116,95,117]⟩,0,127,127,127⟩,
 ⟨⟨#[105,51,50,46,108,101,95,115]⟩,0,127,127,127⟩,
 ⟨⟨#[105,51,50,46,108,101,95,117]⟩,0,127,127,127⟩,
 ⟨⟨#[105,51,50,46,103,101,95,115]⟩,0,127,127,127⟩,
 ⟨⟨#[105,51,50,46,103,101,95,117]⟩,0,127,127,127⟩,
 ⟨⟨#[105,54,52,46,101,113,122]⟩,0,126,0,127⟩,
 ⟨⟨#[105,54,52,46,101,113]⟩,0,126,126,127⟩,
 ⟨⟨#[105,54,52,46,110,101]⟩,0,126,126,127⟩,
 ⟨⟨#[105,54,52,46,108,116,95,115]⟩,0,126,126,127⟩,
 ⟨⟨#[105,54,52,46,108,116,95,117]⟩,0,126,126,127⟩,
 ⟨⟨#[105,54,52,46,103,116,95,115]⟩,0,126,126,127⟩,
 ⟨⟨#[105,54,52,46,103,116,95,117]⟩,0,126,126,127⟩,
 ⟨⟨#[105,54,52,46,108,101,95,115]⟩,0,126,126,127⟩,
 ⟨⟨#[105,54,52,46,108,101,95,117]⟩,0,126,126,127⟩,
 ⟨⟨#[105,54,52,46,103,101,95,115]⟩,0,126,126,127⟩,
 ⟨⟨#[105,54,52,46,103,101,95,117]⟩,0,126,126,127⟩,
 ⟨⟨#[102,51,50,46,101,113]⟩,0,125,125,127⟩,
 ⟨⟨#[102,51,50,46,110,101]⟩,0,125,125,127⟩,
 ⟨⟨#[102,51,50,46,108,116]⟩,0,125,125,127⟩,
 ⟨⟨#[102,51,50,46,103,116]⟩,0,125,125,127⟩,
 ⟨⟨#[102,51,50,46,108,101]⟩,0,125,125,127⟩,
 ⟨⟨#[102,51,50,46,103,101]⟩,0,125,125,127⟩,
 ⟨⟨#[102,54,52,46,101,113]⟩,0,124,124,127⟩,
 ⟨⟨#[102,54,52,46,110,101]⟩,0,124,124,127⟩,
 ⟨⟨#[102,54,52,46,108,116]⟩,0,124,124,127⟩,
 ⟨⟨#[102,54,52,46,103,116]⟩,0,124,124,127⟩,
 ⟨⟨#[102,54,52,46,108,101]⟩,0,124,124,127⟩,
 ⟨⟨#[102,54,52,46,103,101]⟩,0,124,124,127⟩]
def R55t:List Row:=[
 ⟨⟨#[105,51,50,46,99,108,122]⟩,0,127,0,127⟩,
 ⟨⟨#[105,51,50,46,99,116,122]⟩,0,127,0,127⟩,
 ⟨⟨#[105,51,50,46,112,111,112,99,110,116]⟩,0,127,0,127⟩,
 ⟨⟨#[105,51,50,46,97,100,100]⟩,0,127,127,127⟩,
 ⟨⟨#[105,51,50,46,115,117,98]⟩,0,127,127,127⟩,
 ⟨⟨#[105,51,50,46,109,117,108]⟩,0,127,127,127⟩,
 ⟨⟨#[105,51,50,46,100,105,118,95,115]⟩,0,127,127,127⟩,
 ⟨⟨#[105,51,50,46,100,105,118,95,117]⟩,0,127,127,127⟩,
 ⟨⟨#[105,51,50,46,114,101,109,95,115]⟩,0,127,127,127⟩,
 ⟨⟨#[105,51,50,46,114,101,109,95,117]⟩,0,127,127,127⟩,
 ⟨⟨#[105,51,50,46,97,110,100]⟩,0,127,127,127⟩,
 ⟨⟨#[105,51,50,46,111,114]⟩,0,127,127,127⟩,
 ⟨⟨#[105,51,50,46,120,111,114]⟩,0,127,127,127⟩,
 ⟨⟨#[105,51,50,46,115,104,108]⟩,0,127,127,127⟩,
 ⟨⟨#[105,51,50,46,115,104,114,95,115]⟩,0,127,127,127⟩,
 ⟨⟨#[105,51,50,46,115,104,114,95,117]⟩,0,127,127,127⟩,
 ⟨⟨#[105,51,50,46,114,111,116,108]⟩,0,127,127,127⟩,
 ⟨⟨#[105,51,50,46,114,111,116,114]⟩,0,127,127,127⟩,
 ⟨⟨#[105,54,52,46,99,108,122]⟩,0,126,0,126⟩,
 ⟨⟨#[105,54,52,46,99,116,122]⟩,0,126,0,126⟩,
 ⟨⟨#[105,54,52,46,112,111,112,99,110,116]⟩,0,126,0,126⟩,
 ⟨⟨#[105,54,52,46,97,100,100]⟩,0,126,126,126⟩,
 ⟨⟨#[105,54,52,46,115,117,98]⟩,0,126,126,126⟩,
 ⟨⟨#[105,54,52,46,109,117,108]⟩,0,126,126,126⟩,
 ⟨⟨#[105,54,52,46,100,105,118,95,115]⟩,0,126,126,126⟩,
 ⟨⟨#[105,54,52,46,100,105,118,95,117]⟩,0,126,126,126⟩,
 ⟨⟨#[105,54,52,46,114,101,109,95,115]⟩,0,126,126,126⟩,
 ⟨⟨#[105,54,52,46,114,101,109,95,117]⟩,0,126,126,126⟩,
 ⟨⟨#[105,54,52,46,97,110,100]⟩,0,126,126,126⟩,
 ⟨⟨#[105,54,52,46,111,114]⟩,0,126,126,126⟩,
 ⟨⟨#[105,54,52,46,120,111,114]⟩,0,126,126,126⟩,
 ⟨⟨#[105,54,52,46,115,104,108]⟩,0,126,126,126⟩,
 ⟨⟨#[105,54,52,46,115,104,114,95,115]⟩,0,126,126,126⟩,
 ⟨⟨#[105,54,52,46,115,104,114,95,117]⟩,0,126,126,126⟩,
 ⟨⟨#[105,54,52,46,114,111,116,108]⟩,0,126,126,126⟩,
 ⟨⟨#[105,54,52,46,114,111,116,114]⟩,0,126,126,126⟩]
def R56t:List Row:=[
 ⟨⟨#[102,51,50,46,97,98,115]⟩,0,125,0,125⟩,
 ⟨⟨#[102,51,50,46,110,101,103]⟩,0,125,0,125⟩,
 ⟨⟨#[102,51,50,46,99,101,105,108]⟩,0,125,0,125⟩,
 ⟨⟨#[102,51,50,46,102,108,111,111,114]⟩,0,125,0,125⟩,
 ⟨⟨#[102,51,50,46,116,114,117,110,99]⟩,0,125,0,125⟩,
 ⟨⟨#[102,51,50,46,110,101,97,114,101,115,116]⟩,0,125,0,125⟩,
 ⟨⟨#[102,51,50,46,115,113,114,116]⟩,0,125,0,125⟩,
 ⟨⟨#[102,51,50,46,97,100,100]⟩,0,125,125,125⟩,
 ⟨⟨#[102,51,50,46,115,117,98]⟩,0,125,125,125⟩,
 ⟨⟨#[102,51,50,46,109,117,108]⟩,0,125,125,125⟩,
 ⟨⟨#[102,51,50,46,100,105,118]⟩,0,125,125,125⟩,
 ⟨⟨#[102,51,50,46,109,105,110]⟩,0,125,125,125⟩,
 ⟨⟨#[102,51,50,46,109,97,120]⟩,0,125,125,125⟩,
 ⟨⟨#[102,51,50,46,99,111,112,121,115,105,103,110]⟩,0,125,125,125⟩,
 ⟨⟨#[102,54,52,46,97,98,115]⟩,0,124,0,124⟩,
 ⟨⟨#[102,54,52,46,110,101,103]⟩,0,124,0,124⟩,
 ⟨⟨#[102,54,52,46,99,101,105,108]⟩,0,124,0,124⟩,
 ⟨⟨#[102,54,52,46,102,108,111,111,114]⟩,0,124,0,124⟩,
 ⟨⟨#[102,54,52,46,116,114,117,110,99]⟩,0,124,0,124⟩,
 ⟨⟨#[102,54,52,46,110,101,97,114,101,115,116]⟩,0,124,0,124⟩,
 ⟨⟨#[102,54,52,46,115,113,114,116]⟩,0,124,0,124⟩,
 ⟨⟨#[102,54,52,46,97,100,100]⟩,0,124,124,124⟩,
 ⟨⟨#[102,54,52,46,115,117,98]⟩,0,124,124,124⟩,
 ⟨⟨#[102,54,52,46,109,117,108]⟩,0,124,124,124⟩,
 ⟨⟨#[102,54,52,46,100,105,118]⟩,0,124,124,124⟩,
 ⟨⟨#[102,54,52,46,109,105,110]⟩,0,124,124,124⟩,
 ⟨⟨#[102,54,52,46,109,97,120]⟩,0,124,124,124⟩,
 ⟨⟨#[102,54,52,46,99,111,112,121,115,105,103,110]⟩,0,124,124,124⟩]
def R57t:List Row:=[
 ⟨⟨#[105,51,50,46,119,114,97,112,95,105,54,52]⟩,0,126,0,127⟩,
 ⟨⟨#[105,51,50,46,116,114,117,110,99,95,102,51,50,95,115]⟩,0,125,0,127⟩,
 ⟨⟨#[105,51,50,46,116,114,117,110,99,95,102,51,50,95,117]⟩,0,125,0,127⟩,
 ⟨⟨#[105,51,50,46,116,114,117,110,99,95,102,54,52,95,115]⟩,0,124,0,127⟩,
 ⟨⟨#[105,51,50,46,116,114,117,110,99,95,102,54,52,95,117]⟩,0,124,0,127⟩,
 ⟨⟨#[105,54,52,46,101,120,116,101,110,100,95,105,51,50,95,115]⟩,0,127,0,126⟩,
 ⟨⟨#[105,54,52,46,101,120,116,101,110,100,95,105,51,50,95,117]⟩,0,127,0,126⟩,
 ⟨⟨#[105,54,52,46,116,114,117,110,99,95,102,51,50,95,115]⟩,0,125,0,126⟩,
 ⟨⟨#[105,54,52,46,116,114,117,110,99,95,102,51,50,95,117]⟩,0,125,0,126⟩,
 ⟨⟨#[105,54,52,46,116,114,117,110,99,95,102,54,52,95,115]⟩,0,124,0,126⟩,
 ⟨⟨#[105,54,52,46,116,114,117,110,99,95,102,54,52,95,117]⟩,0,124,0,126⟩,
 ⟨⟨#[102,51,50,46,99,111,110,118,101,114,116,95,105,51,50,95,115]⟩,0,127,0,125⟩,
 ⟨⟨#[102,51,50,46,99,111,110,118,101,114,116,95,105,51,50,95,117]⟩,0,127,0,125⟩,
 ⟨⟨#[102,51,50,46,99,111,110,118,101,114,116,95,105,54,52,95,115]⟩,0,126,0,125⟩,
 ⟨⟨#[102,51,50,46,99,111,110,118,101,114,116,95,105,54,52,95,117]⟩,0,126,0,125⟩,
 ⟨⟨#[102,51,50,46,100,101,109,111,116,101,95,102,54,52]⟩,0,124,0,125⟩,
 ⟨⟨#[102,54,52,46,99,111,110,118,101,114,116,95,105,51,50,95,115]⟩,0,127,0,124⟩,
 ⟨⟨#[102,54,52,46,99,111,110,118,101,114,116,95,105,51,50,95,117]⟩,0,127,0,124⟩,
 ⟨⟨#[102,54,52,46,99,111,110,118,101,114,116,95,105,54,52,95,115]⟩,0,126,0,124⟩,
 ⟨⟨#[102,54,52,46,99,111,110,118,101,114,116,95,105,54,52,95,117]⟩,0,126,0,124⟩,
 ⟨⟨#[102,54,52,46,112,114,111,109,111,116,101,95,102,51,50]⟩,0,125,0,124⟩,
 ⟨⟨#[105,51,50,46,114,101,105,110,116,101,114,112,114,101,116,95,102,51,50]⟩,0,125,0,127⟩,
 ⟨⟨#[105,54,52,46,114,101,105,110,116,101,114,112,114,101,116,95,102,54,52]⟩,0,124,0,126⟩,
 ⟨⟨#[102,51,50,46,114,101,105,110,116,101,114,112,114,101,116,95,105,51,50]⟩,0,127,0,125⟩,
 ⟨⟨#[102,54,52,46,114,101,105,110,116,101,114,112,114,101,116,95,105,54,52]⟩,0,126,0,124⟩]
def tbl:List Row:=R52t++(R53t++(R54t++(R55t++(R56t++(R57t)))))
def R52:List Row:=List.replicate 0 Z0++R52t
def R53:List Row:=List.replicate 40 Z0++R53t
def R54:List Row:=List.replicate 69 Z0++R54t
def R55:List Row:=List.replicate 103 Z0++R55t
def R56:List Row:=List.replicate 139 Z0++R56t
def R57:List Row:=List.replicate 167 Z0++R57t
def Qr (op:Int):Row:=if 0<=op/\op<192 then tbl.getD op.toNat Z0 else Z0
theorem flat_at (R:List Row)(p:Nat)(r:Row)(h:R[p]?=some r):((flat R).drop (p*5)).take 5=rowL r:=by
 induction R generalizing p with
 |nil=>simp at h
 |cons x l ih =>
  cases p with
  |zero=>simp at h;subst h;simp [flat]
  |succ p =>
   have a:l[p]?=some r:=by simpa using h
   have e:(p+1)*5=5+p*5:=by omega
   rw [e,<- List.drop_drop]
   show (((rowL x++flat l).drop 5).drop (p*5)).take 5=_
   rw [List.drop_left' (by rfl)]
   exact ih p a
theorem idxT {t n:Nat}(a:Tryz.prog.underlying t=some (.array n 329))(R:List Row){cs:Array Value}(hv:cs=(flat R).toArray)(p:Nat)(r:Row)(hr:R[p]?=some r)(hp:p<n)(w:World) :
    (Instr.index t (.agg cs) (.int .i64 p)).run Tryz.prog w=.ok (Xv r) w:=by
 subst hv;have b:∀ w,(sizeOf 329).run Tryz.prog w=.ok 5 w:=λw=>by kernel_rfl
 have c:∀ w,(isAgg 329).run Tryz.prog w=.ok true w:=λw=>by kernel_rfl
 simp [Instr.index,asIntOf,run_underlying a,part,b,c,hp,flat_at R p r hr]
theorem GO (p:Nat)(r:Row)(h:tbl[p]?=some r):Qr p=r:=by
 have c:p<tbl.length:=by
  rcases Nat.lt_or_ge p tbl.length with a|a
  . exact a
  . rw [List.getElem?_eq_none a] at h;cases h
 have b:p<192:=c
 simp only [Qr,show (0:Int)<=p/\(p:Int)<192 by omega,and_self,if_true,Int.toNat_natCast,List.getD,h,Option.getD_some]
theorem piece (A B C:List Row)(p:Nat)(h1:A.length<=p)(b:p<A.length+B.length):∃ r,(List.replicate A.length Z0++B)[p]?=some r/\(A++(B++C))[p]?=some r:=by
 have a:p-A.length<B.length:=by omega
 refine ⟨B[p-A.length],?_,?_⟩
 . rw [List.getElem?_append_right (by simpa using h1),List.length_replicate,List.getElem?_eq_getElem a]
 . rw [List.getElem?_append_right h1,List.getElem?_append_left a,List.getElem?_eq_getElem a]
theorem R52_at (p:Nat)(h1:0<=p)(a:p<40):R52[p]?=some (Qr p):=by
 obtain ⟨r,b,e2⟩:=piece (([]:List Row)) R52t (R53t++(R54t++(R55t++(R56t++(R57t))))) p h1 a;have e:tbl=(([]:List Row))++(R52t++(R53t++(R54t++(R55t++(R56t++(R57t)))))):=by simp only [tbl,List.append_assoc,List.nil_append,List.append_nil]
 rw [GO p r (by rw [e];exact e2)]
 exact b
theorem R53_at (p:Nat)(h1:40<=p)(a:p<69):R53[p]?=some (Qr p):=by
 obtain ⟨r,b,e2⟩:=piece (R52t) R53t (R54t++(R55t++(R56t++(R57t)))) p h1 a;have e:tbl=(R52t)++(R53t++(R54t++(R55t++(R56t++(R57t))))):=by simp only [tbl,List.append_assoc,List.nil_append,List.append_nil]
 rw [GO p r (by rw [e];exact e2)]
 exact b
theorem R54_at (p:Nat)(h1:69<=p)(a:p<103):R54[p]?=some (Qr p):=by
 obtain ⟨r,b,e2⟩:=piece (R52t++(R53t)) R54t (R55t++(R56t++(R57t))) p h1 a;have e:tbl=(R52t++(R53t))++(R54t++(R55t++(R56t++(R57t)))):=by simp only [tbl,List.append_assoc,List.nil_append,List.append_nil]
 rw [GO p r (by rw [e];exact e2)]
 exact b
theorem R55_at (p:Nat)(h1:103<=p)(a:p<139):R55[p]?=some (Qr p):=by
 obtain ⟨r,b,e2⟩:=piece (R52t++(R53t++(R54t))) R55t (R56t++(R57t)) p h1 a;have e:tbl=(R52t++(R53t++(R54t)))++(R55t++(R56t++(R57t))):=by simp only [tbl,List.append_assoc,List.nil_append,List.append_nil]
 rw [GO p r (by rw [e];exact e2)]
 exact b
theorem R56_at (p:Nat)(h1:139<=p)(a:p<167):R56[p]?=some (Qr p):=by
 obtain ⟨r,b,e2⟩:=piece (R52t++(R53t++(R54t++(R55t)))) R56t (R57t) p h1 a;have e:tbl=(R52t++(R53t++(R54t++(R55t))))++(R56t++(R57t)):=by simp only [tbl,List.append_assoc,List.nil_append,List.append_nil]
 rw [GO p r (by rw [e];exact e2)]
 exact b
theorem R57_at (p:Nat)(h1:167<=p)(a:p<192):R57[p]?=some (Qr p):=by
 obtain ⟨r,b,e2⟩:=piece (R52t++(R53t++(R54t++(R55t++(R56t))))) R57t (([]:List Row)) p h1 a;have e:tbl=(R52t++(R53t++(R54t++(R55t++(R56t)))))++(R57t++(([]:List Row))):=by simp only [tbl,List.append_assoc,List.nil_append,List.append_nil]
 rw [GO p r (by rw [e];exact e2)]
 exact b
theorem l1In_c (x a b:Int)(w:World):Calls Tryz.prog 40 #[.int .i64 x,.int .i64 a,.int .i64 b] w λe w'=>e=.returned (.bool (decide (a<=x/\x<=b)))/\w=w':=by
 by_cases d:a<=x
 . by_cases c:x<=b
   . go_enter Tryz.func40,Tryz.ntmps40
     go_wp2
     go_ret
     exact ⟨by simp [d,c],rfl⟩
   . go_enter Tryz.func40,Tryz.ntmps40
     go_wp2
     go_ret
     exact ⟨by simp [d,c],rfl⟩
 . go_enter Tryz.func40,Tryz.ntmps40
   go_wp2
   go_ret
   have f:(decide (a<=x)&&decide (x<=b))=false:=by simp;omega
   rw [f];exact ⟨rfl,rfl⟩
theorem l1In_t (x c d:Int)(w:World)(h:c<=x/\x<=d):Calls Tryz.prog 40 #[.int .i64 x,.int .i64 c,.int .i64 d] w λe w'=>e=.returned (.bool true)/\w=w' :=
 (l1In_c x c d w).mono λe w' ⟨a,b⟩=>⟨by simpa [h.1,h.2] using a,b⟩
theorem l1In_f (x c d:Int)(w:World)(h:¬ (c<=x/\x<=d)):Calls Tryz.prog 40 #[.int .i64 x,.int .i64 c,.int .i64 d] w λe w'=>e=.returned (.bool false)/\w=w' :=
 (l1In_c x c d w).mono λe w' ⟨a,b⟩=>⟨by rw [a,decide_eq_false h],b⟩
theorem rng (a n:Nat)(f:Nat->Bool)(h:(List.range n).all (λi=>f (a+i))=true)(p:Int)(h1:(a:Int)<=p)(b:p<(a+n:Nat)):f p.toNat=true:=by
 have:=List.all_eq_true.1 h (p.toNat-a) (by simp;omega)
 rw [<- this];congr 1;omega
def QM (r:Row):Int:=if r.nm.size=0 then -1 else r.f
theorem known_t (p:Int)(w:World)(h:(0<=p/\p<=5)\/(11<=p/\p<=17)\/(26<=p/\p<=26)\/(27<=p/\p<=27)\/(32<=p/\p<=36)\/(40<=p/\p<=191)):Calls Tryz.prog 268 #[.int .i64 p] w λe w'=>e=.returned (.bool true)/\w=w':=by
 rcases h with h|h|h|h|h|h
 all_goals
  first|have c : (p == (26 : Int)) = false := by simp; omega
        |have c:(p==(26:Int))=true:=by simp;omega
  first|have b : (p == (27 : Int)) = false := by simp; omega
        |have b:(p==(27:Int))=true:=by simp;omega
  go_enter Tryz.func268,Tryz.ntmps268
  go_wp2_with (first|(go_at_call 40;refine (l1In_f _ _ _ _ (by omega)).mono ?_;rintro e a ⟨rfl,rfl⟩)|(go_at_call 40;refine (l1In_t _ _ _ _ (by omega)).mono ?_;rintro e a ⟨rfl,rfl⟩))
  go_ret
  exact ⟨rfl,rfl⟩
theorem known_f (p:Int)(w:World)(h:(p<=-1)\/(6<=p/\p<=10)\/(18<=p/\p<=25)\/(28<=p/\p<=31)\/(37<=p/\p<=39)\/(192<=p)):Calls Tryz.prog 268 #[.int .i64 p] w λe w'=>e=.returned (.bool false)/\w=w':=by
 rcases h with h|h|h|h|h|h
 all_goals
  first|have c : (p == (26 : Int)) = false := by simp; omega
        |have c:(p==(26:Int))=true:=by simp;omega
  first|have b : (p == (27 : Int)) = false := by simp; omega
        |have b:(p==(27:Int))=true:=by simp;omega
  go_enter Tryz.func268,Tryz.ntmps268
  go_wp2_with (first|(go_at_call 40;refine (l1In_f _ _ _ _ (by omega)).mono ?_;rintro e a ⟨rfl,rfl⟩)|(go_at_call 40;refine (l1In_t _ _ _ _ (by omega)).mono ?_;rintro e a ⟨rfl,rfl⟩))
  go_ret
  exact ⟨rfl,rfl⟩
theorem Gw (x a:Int)(w:World)(_h0:0<=x)(_h1:x<=18446744073709551615)(c:1<=a)(b:a<=1000) :
    Calls Tryz.prog 341 #[.int .u64 x,.int .i64 a] w λe w'=>e=.returned (.int .u64 (GN x a))/\w=w':=by
 by_cases h:64<=a
 . have e:GN x a=x:=by unfold GN;rw [if_pos h]
   rw [e];clear e
   go_enter Tryz.func341,Tryz.ntmps341
   go_wp2
   go_ret
   exact ⟨rfl,rfl⟩
 . have e:GN x a=IntKind.u64.wrap (x*2 ^ (64-a).toNat) / 2 ^ (64-a).toNat:=by unfold GN;rw [if_neg h]
   rw [e];clear e
   go_enter Tryz.func341,Tryz.ntmps341
   go_wp2
   go_ret
   exact ⟨rfl,rfl⟩
theorem Gx (x a:Int)(w:World)(_h0:-9223372036854775808<=x)(_h1:x<=9223372036854775807)(c:1<=a)(b:a<=1000) :
    Calls Tryz.prog 365 #[.int .i64 x,.int .i64 a] w λe w'=>e=.returned (.int .i64 (GF x a))/\w=w':=by
 by_cases h:64<=a
 . have e:GF x a=x:=by unfold GF;rw [if_pos h]
   rw [e];clear e
   go_enter Tryz.func365,Tryz.ntmps365
   go_wp2
   go_ret
   exact ⟨rfl,rfl⟩
 . have e:GF x a=wrap64 (x*2 ^ (64-a).toNat) / 2 ^ (64-a).toNat:=by unfold GF;rw [if_neg h]
   rw [e];clear e
   go_enter Tryz.func365,Tryz.ntmps365
   go_wp2
   go_ret
   exact ⟨rfl,rfl⟩
theorem Tryz.info5:(Tryz.prog.info? 5).map (λi=>(i.zero,i.size,i.bytes))=some (some (.int .u8 0),1,1):=by kernel_rfl
open Go.RowKit Go.Sort
structure Qc where
 e:Nat
 sz:Nat
 n:Nat
 v:Value
 cs:List Value
def Qc.Ok (B:Nat)(W:World)(r:Qc):Prop:=W.ownsRow B r.e r.sz r.v r.n r.cs
def blk (rs:List Qc):List Nat:=rs.filterMap (·.v.ownBlock)
structure Own (B:Nat)(W:World)(rs:List Qc):Prop where
 all:∀ r ∈ rs,r.Ok B W
 nd:(blk rs).Nodup
theorem On (a b:List Qc):blk (a++b)=blk a++blk b:=by simp [blk]
theorem Qn {rs:List Qc}{k:Nat}:k ∈ blk rs ↔ ∃ r ∈ rs,r.v.ownBlock=some k:=by simp [blk]
theorem Own.lt {B W rs}(h:Own B W rs){k:Nat}(b:k ∈ blk rs):B<=k/\k<W.heap.size:=by
 obtain ⟨r,a,e⟩:=Qn.1 b
 exact World.ownsRow.lt (h.all r a) k e
theorem Own.nil (B:Nat)(W:World):Own B W []:=⟨λr hr=>(by cases hr),by simp [blk]⟩
theorem Qc.Ok.blocks {B:Nat}{W W':World}{r:Qc}(h:r.Ok B W)(j:∀ k,r.v.ownBlock=some k->W'.heap[k]?=W.heap[k]?):r.Ok B W':=by
 refine ⟨h.1,?_⟩
 rcases h.2 with h0|⟨g,b,a,c,hB,f,d⟩
 . exact .inl h0
 . exact .inr ⟨g,b,a,c,hB,(j g (by rw [c];rfl)).trans f,d⟩
theorem Own.blocks {B}{W W':World}{rs}(h:Own B W rs)(a:∀ k,k ∈ blk rs->W'.heap[k]?=W.heap[k]?):Own B W' rs :=
 ⟨λr hr=>Qc.Ok.blocks (h.all r hr) (λk hk=>a k (Qn.2 ⟨r,hr,hk⟩)),h.nd⟩
theorem Own.keep {B W W' rs}(h:Own B W rs)(a:Below W.heap.size W W'):Own B W' rs:=h.blocks (λk hk=>a.block k (h.lt hk).2)
theorem Own.grown {B}{W W':World}{rs}{r:Option Nat}(h:Own B W rs)(hg:W.grownBy W' r)(hr:∀ k,r=some k->k ∉ blk rs):Own B W' rs :=
 h.blocks (λk hk=>hg.block k (h.lt hk).2 (λe=>hr k e.symm hk))
theorem Own.mono {B a:Nat}{W rs}(h:Own B W rs)(hB:a<=B):Own a W rs:=⟨λr hr=>World.ownsRow.mono (h.all r hr) hB,h.nd⟩
theorem Own.app {B W a b}(d:Own B W a)(c:Own B W b)(f:∀ k,k ∈ blk a->k ∉ blk b):Own B W (a++b):=by
 refine ⟨λr hr=>?_,?_⟩
 . rcases List.mem_append.1 hr with h|h
   . exact d.all r h
   . exact c.all r h
 . rw [On,List.nodup_append]
   exact ⟨d.nd,c.nd,λx hx y hy e=>f x hx (e ▸ hy)⟩
theorem Own.right {B W}{a b:List Qc}(h:Own B W (a++b)):Own B W b :=
 ⟨λr hr=>h.all r (mR hr),by have:=h.nd;rw [On,List.nodup_append] at this;exact this.2.1⟩
theorem Own.disj {B W}{a b:List Qc}(h:Own B W (a++b)){k:Nat}(c:k ∈ blk a):k ∉ blk b:=λhb=>by
 have:=h.nd
 rw [On,List.nodup_append] at this
 exact this.2.2 k c k hb rfl
theorem Own.perm {B W}{a b:List Qc}(h:Own B W a)(p:a.Perm b):Own B W b :=
 ⟨λr hr=>h.all r (p.mem_iff.2 hr),(p.filterMap _).nodup_iff.1 h.nd⟩
theorem Own.comm {B W}{a b:List Qc}(h:Own B W (a++b)):Own B W (b++a):=h.perm List.perm_append_comm
theorem Own.new {B W W' a b}(f:Own B W a)(c:Own B W' a)(d:Own W.heap.size W' b)(hB:B<=W.heap.size):Own B W' (a++b) :=
 c.app (d.mono hB) (λk hk hk'=>by have:=(f.lt hk).2;have:=(d.lt hk').1;omega)
theorem Own.frame {B}{W W':World}{pre L L' post:List Qc}(h:Own B W (pre++L++post))(n:W.heap.size<=W'.heap.size)(g:∀ k,k<W.heap.size->k ∉ blk L->k ∈ blk (pre++post)->W'.heap[k]?=W.heap[k]?)(m:Own B W' L')(l:∀ k,k ∈ blk L'->k ∈ blk L\/W.heap.size<=k):Own B W' (pre++L'++post):=by
 have d:(pre++L++post).Perm (L++(pre++post)):=by
  rw [List.append_assoc]
  exact (List.perm_append_comm_assoc pre L post)
 have c:(L'++(pre++post)).Perm (pre++L'++post):=by
  rw [List.append_assoc]
  exact (List.perm_append_comm_assoc L' pre post)
 have a:=h.perm d;have f:Own B W' (pre++post):=a.right.blocks (λk hk'=>g k (a.right.lt hk').2 (λb=>a.disj b hk') hk')
 refine (m.app f (λk hkL hkR=>?_)).perm c
 rcases l k hkL with b|j
 . exact a.disj b hkR
 . have:=(a.right.lt hkR).2;omega
theorem Own.one {B:Nat}{W:World}{r:Qc}(h:r.Ok B W):Own B W [r]:=by
 refine ⟨λx hx=>by simp at hx;subst hx;exact h,?_⟩
 cases hv:r.v.ownBlock<;>simp [blk,hv]
theorem Own.head {B W}{r:Qc}{rs:List Qc}(h:Own B W (r::rs)):r.Ok B W:=h.all r (by simp)
theorem Own.tail {B W}{r:Qc}{rs:List Qc}(h:Own B W (r::rs)):Own B W rs:=Own.right (a:=[r]) h
theorem Own.push {B}{W W':World}{r r':Qc}{rs:List Qc}(h:Own B W (r::rs))(hg:W.grownBy W' r.v.ownBlock)(c:r'.Ok B W')(a:r'.v.ownBlock=r.v.ownBlock\/r'.v.ownBlock=some W.heap.size):Own B W' (r'::rs):=by
 refine Own.frame (pre:=[]) (L:=[r]) (L':=[r']) (post:=rs) h hg.size (λk hk hn _=>hg.block k hk (λe=>hn (Qn.2 ⟨r,by simp,e.symm⟩))) (Own.one c) (λk hk=>?_)
 obtain ⟨x,b,e⟩:=Qn.1 hk
 simp at b;subst b
 rcases a with a|a
 . exact .inl (Qn.2 ⟨r,by simp,by rw [<- a];exact e⟩)
 . rw [a] at e;cases e;exact .inr lR
theorem Own.snoc {B}{W W1 W':World}{r r':Qc}{rs new:List Qc}(h:Own B W (r::rs))(h1:Own B W1 (r::rs))(a:Own W.heap.size W1 new)(hB:B<=W.heap.size)(hg:W1.grownBy W' r.v.ownBlock)(c:r'.Ok B W')(b:r'.v.ownBlock=r.v.ownBlock\/r'.v.ownBlock=some W1.heap.size):Own B W' (r'::(rs++new)) :=
 Own.push (r:=r) (rs:=rs++new) (Own.new h h1 a hB) hg c b
end Go.Proofs.YtedcmcdbejjgcaaGreat
