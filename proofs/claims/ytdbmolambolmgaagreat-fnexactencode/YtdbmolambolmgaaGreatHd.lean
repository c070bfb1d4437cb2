import Derived.Test.YtdbmolambolmgaaGreatHc
import Derived.Great.Frames
set_option linter.all false
set_option maxHeartbeats 16000000
set_option maxRecDepth 100000
namespace Go.Proofs.YtdbmolambolmgaaGreat
open Go.RowKit Go.Sort
set_option maxRecDepth 100000
inductive Gh where
 | val (v:Value)
 | row (L:List Int)
structure RT where
 ops:Array Oper
 n:Nat
 m:Nat
 N:Nat
 slot:Nat→Nat
 g:Nat→Gh
 use:Nat→Option Nat
 S:Nat→Prop
 base:Nat
 w:World
 a0:Act
def preB (ops:Array Oper) (i j:Nat):Bool:=((ops[i]?).map fun o=>o.after.any fun e=>Region.binds .any e&&e.on==j).getD false
def RT.dn (T:RT) (l:Array Bool) (i:Nat):Prop:=T.n≤i∨l.getD i false=true
def RT.lv (T:RT) (l:Array Bool) (i:Nat):Prop:=T.dn l i∧∀ c,T.use i=some c→l.getD c false=false
structure Iv (T:RT) (l:Array Bool) (a:Act) (W:World):Prop where
 sz:a.tmps.size=T.N
 df:a.defers=T.a0.defers
 ls:l.size=T.n
 kp:Kept T.S T.w W
 lt:∀ k,T.S k→k<W.heap.size
 bs:T.base≤W.heap.size
 va:∀ i v,i<T.m→T.dn l i→T.g i=.val v→a.eval (.tmp (T.slot i))=v
 ro:∀ i L,i<T.m→T.lv l i→T.g i=.row L→W.ownsRow T.base 5 1 (a.eval (.tmp (T.slot i))) L.length (U L)∧∀ k,(a.eval (.tmp (T.slot i))).ownBlock=some k→¬ T.S k
 sp:∀ i j L L' k,i<T.m→j<T.m→i≠j→T.lv l i→T.lv l j→T.g i=.row L→T.g j=.row L'→(a.eval (.tmp (T.slot i))).ownBlock=some k→(a.eval (.tmp (T.slot j))).ownBlock≠some k
 sm:∀ s,(∀ i,i<T.n→T.slot i≠s)→a.eval (.tmp s)=T.a0.eval (.tmp s)
structure RT.Ok (T:RT):Prop where
 hn:T.ops.size=T.n
 nm:T.n≤T.m
 op:∀ i,i<T.n→∃ o,T.ops[i]?=some o∧o.guard=none∧o.dst=some (T.slot i)∧T.slot i<T.N
 pr:∀ i j,i<T.n→preB T.ops i j=true→j<i
 sl:∀ i j,i<T.n→j<T.m→j≠i→T.slot j=T.slot i→(∃ L,T.g j=.row L)∧∃ c,T.use j=some c∧preB T.ops i c=true
theorem pre_listed {ops:Array Oper} {l:Array Bool} {i j:Nat} {o:Oper} (ho:ops[i]?=some o) (h:(o.after.all fun e=>!Region.binds .any e || l.getD e.on false)=true) (hp:preB ops i j=true):l.getD j false=true:=by
 simp only [preB,ho,Option.map_some,Option.getD_some,Array.any_eq_true',Bool.and_eq_true,beq_iff_eq] at hp
 obtain ⟨e,he,h1,h2⟩:=hp
 rw [Array.all_eq_true'] at h
 have:=h e he
 rw [h1,h2] at this
 simpa using this
theorem set_listed {l:Array Bool} {i j:Nat} (hi:i<l.size):(l.setIfInBounds i true).getD j false=if j=i then true else l.getD j false:=by
 simp only [Array.getD_eq_getD_getElem?,Array.getElem?_setIfInBounds]
 by_cases h:i=j
 · subst h;simp [hi]
 · have h':¬ j=i:=fun e=>h e.symm
   simp [h,h']
theorem count_set:∀ (l:List Bool) (i:Nat),l[i]?=some false→(l.set i true).count false+1=l.count false
 | [],i,h=>by simp at h
 | b::l,0,h=>by
  simp only [List.getElem?_cons_zero,Option.some.injEq] at h
  subst h
  simp
 | b::l,i+1,h=>by
  have:=count_set l i (by simpa using h)
  simp only [List.set_cons_succ,List.count_cons]
  omega
theorem Iv.next {T:RT} (hT:T.Ok) {l:Array Bool} {a:Act} {W W':World} {i:Nat} {v:Value} (h:Iv T l a W) (hi:i<T.n) (hl:l.getD i false=false)
    (hp:∀ c,preB T.ops i c=true→l.getD c false=true) (hk:Kept T.S W W') (hs:W.heap.size≤W'.heap.size)
    (hold:∀ j L,j<T.m→j≠i→T.lv (l.setIfInBounds i true) j→T.lv l j→T.g j=.row L→W'.ownsRow T.base 5 1 (a.eval (.tmp (T.slot j))) L.length (U L))
    (hval:∀ v0,T.g i=.val v0→v=v0)
    (hrow:∀ L,T.g i=.row L→W'.ownsRow T.base 5 1 v L.length (U L)∧∀ k,v.ownBlock=some k→¬ T.S k∧∀ j L',j<T.m→j≠i→T.lv (l.setIfInBounds i true) j→T.lv l j→T.g j=.row L'→(a.eval (.tmp (T.slot j))).ownBlock≠some k) :
    Iv T (l.setIfInBounds i true) (a.put (some (T.slot i)) v) W':=by
 have hil:i<l.size:=by rw [h.ls];exact hi
 obtain ⟨o,ho,hg,hd,hN⟩:=hT.op i hi
 have hsl:T.slot i<a.tmps.size:=by rw [h.sz];exact hN
 have dn':∀ j,j≠i→T.dn (l.setIfInBounds i true) j→T.dn l j:=by
  intro j hj hd
  rcases hd with hd | hd
  · exact .inl hd
  · rw [set_listed hil,if_neg hj] at hd;exact .inr hd
 have lv':∀ j,j≠i→T.lv (l.setIfInBounds i true) j→T.lv l j:=by
  intro j hj ⟨h1,h2⟩
  refine ⟨dn' j hj h1,fun c hc=>?_⟩
  have:=h2 c hc
  rw [set_listed hil] at this
  by_cases e:c=i
  · rw [if_pos e] at this;cases this
  · rw [if_neg e] at this;exact this
 have hsame:∀ j,j<T.m→j≠i→T.slot j=T.slot i→¬ T.lv (l.setIfInBounds i true) j:=by
  intro j hj hne he hlv
  obtain ⟨_,c,hc,hpc⟩:=hT.sl i j hi hj hne he
  have:=(lv' j hne hlv).2 c hc
  rw [hp c hpc] at this
  cases this
 have ev:∀ j,T.slot j≠T.slot i→(a.put (some (T.slot i)) v).eval (.tmp (T.slot j))=a.eval (.tmp (T.slot j)):=fun j hj=>Act.eval_put_ne a _ _ v (fun e=>hj e.symm)
 have evi:(a.put (some (T.slot i)) v).eval (.tmp (T.slot i))=v:=Act.eval_put_same a _ v hsl
 refine ⟨by rw [Act.size_put];exact h.sz,by rw [Act.defers_put'];exact h.df,by simpa using h.ls,h.kp.trans hk,fun k hk'=>Nat.lt_of_lt_of_le (h.lt k hk') hs,Nat.le_trans h.bs hs,?_,?_,?_,?_⟩
 · intro j u hj hd hgj
   by_cases e:j=i
   · subst e;rw [evi];exact hval u hgj
   · have hne:T.slot j≠T.slot i:=by
       intro he
       obtain ⟨⟨L,hL⟩,_⟩:=hT.sl i j hi hj e he
       rw [hL] at hgj;cases hgj
     rw [ev j hne];exact h.va j u hj (dn' j e hd) hgj
 · intro j L hj hlv hgj
   by_cases e:j=i
   · subst e;rw [evi]
     exact ⟨(hrow L hgj).1,fun k hk'=>((hrow L hgj).2 k hk').1⟩
   · have hne:T.slot j≠T.slot i:=fun he=>hsame j hj e he hlv
     rw [ev j hne]
     exact ⟨hold j L hj e hlv (lv' j e hlv) hgj,(h.ro j L hj (lv' j e hlv) hgj).2⟩
 · intro j j' L L' k hj hj' hne hlv hlv' hgj hgj' hk'
   by_cases e:j=i
   · subst e
     have hne2:T.slot j'≠T.slot j:=fun he=>hsame j' hj' (fun e=>hne e.symm) he hlv'
     rw [evi] at hk'
     rw [ev j' hne2]
     exact ((hrow L hgj).2 k hk').2 j' L' hj' (fun e=>hne e.symm) hlv' (lv' j' (fun e=>hne e.symm) hlv') hgj'
   · have hn1:T.slot j≠T.slot i:=fun he=>hsame j hj e he hlv
     rw [ev j hn1] at hk'
     by_cases e':j'=i
     · subst e'
       rw [evi]
       intro hk2
       exact ((hrow L' hgj').2 k hk2).2 j L hj e hlv (lv' j e hlv) hgj hk'
     · have hn2:T.slot j'≠T.slot i:=fun he=>hsame j' hj' e' he hlv'
       rw [ev j' hn2]
       exact h.sp j j' L L' k hj hj' hne (lv' j e hlv) (lv' j' e' hlv') hgj hgj' hk'
 · intro s hs'
   rw [Act.eval_put_ne a _ _ v (hs' i hi)]
   exact h.sm s hs'
structure RT.Fx (T:RT) (i:Nat) (a:Act) (W:World):Prop where
 kp:Kept T.S T.w W
 lt:∀ k,T.S k→k<W.heap.size
 va:∀ j v,j<T.m→(T.n≤j∨preB T.ops i j=true)→T.g j=.val v→a.eval (.tmp (T.slot j))=v
 sm:∀ s,(∀ i,i<T.n→T.slot i≠s)→a.eval (.tmp s)=T.a0.eval (.tmp s)
inductive StepOk (P:Program) (t:TypeId) (T:RT) (i:Nat) (o:Oper):Prop where
 | pure (v:Value) (hg:T.g i=.val v) (h:∀ a W,T.Fx i a W→(execOp a.eval o).run P W=.ok (.value v) W)
 | mk (L:List Int) (hg:T.g i=.row L) (h:∀ a W K Q,T.Fx i a W→(∀ v W',Out W W' v L→K (a.put o.dst v) W')→o.wp P a W K Q)
 | mv (j:Nat) (L:List Int) (hj:j<T.m) (hg:T.g i=.row L) (hgj:T.g j=.row L) (hu:T.use j=some i) (hp:T.n≤j∨preB T.ops i j=true) (h:∀ a W,T.Fx i a W→(execOp a.eval o).run P W=.ok (.value (a.eval (.tmp (T.slot j)))) W)
 | app (j k:Nat) (Lj Lk:List Int) (hj:j<T.m) (hk:k<T.m) (hjk:j≠k) (hg:T.g i=.row (Lj++Lk)) (hgj:T.g j=.row Lj) (hgk:T.g k=.row Lk) (huj:T.use j=some i) (huk:T.use k=some i)
     (hpj:T.n≤j∨preB T.ops i j=true) (hpk:T.n≤k∨preB T.ops i k=true) (hlen:Lj.length+Lk.length≤1000000000000)
     (ho:o.op=.call { callee:=.builtin .append,args:=#[.tmp (T.slot j),.tmp (T.slot k)],argTypes:=#[t,t] })
 | apps (j k:Nat) (Lj Lk:List Int) (a0:Option Addr) (c0:Nat) (hj:j<T.m) (hk:k<T.m) (hg:T.g i=.row (Lj++Lk)) (hgj:T.g j=.row Lj) (hgk:T.g k=.val (.slice a0 Lk.length c0)) (huj:T.use j=some i)
     (hpj:T.n≤j∨preB T.ops i j=true) (hpk:T.n≤k∨preB T.ops i k=true) (hlen:Lj.length+Lk.length≤1000000000000) (hsrc:∀ W,Kept T.S T.w W→SrcC W a0 (U Lk))
     (ho:o.op=.call { callee:=.builtin .append,args:=#[.tmp (T.slot j),.tmp (T.slot k)],argTypes:=#[t,t] })
 | mkr (j:Nat) (Lj L:List Int) (hj:j<T.m) (hg:T.g i=.row L) (hgj:T.g j=.row Lj) (huj:T.use j=some i) (hpj:T.n≤j∨preB T.ops i j=true)
     (h:∀ a W K Q,T.Fx i a W→∀ aj cj,a.eval (.tmp (T.slot j))=.slice aj Lj.length cj→(∀ W',Below W.heap.size W W'→SrcC W' aj (U Lj))→(∀ v W',Out W W' v L→K (a.put o.dst v) W')→o.wp P a W K Q)
theorem kept_below {S:Nat→Prop} {W W':World} (hb:Below W.heap.size W W') (hS:∀ k,S k→k<W.heap.size):Kept S W W':=Kept.of_below hb hS
theorem kept_grown {S:Nat→Prop} {W W':World} {r:Option Nat} (hg:W.grownBy W' r) (hS:∀ k,S k→k<W.heap.size) (hr:∀ k,r=some k→¬ S k):Kept S W W' :=
 ⟨hg.os,hg.tape,hg.output,hg.size,fun k hk=>hg.block k (hS k hk) (fun e=>hr k e.symm hk)⟩
theorem rg_any {P:Program} {t:TypeId} {T:RT} {Q:Exit→Act→World→Prop} (hT:T.Ok) (ht:P.underlying t=some (.slice 5)) (hinf:(P.info? 5).map (fun i=>(i.zero,i.size,i.bytes))=some (some (.int .u8 0),1,1))
    (hst:∀ i o,i<T.n→T.ops[i]?=some o→StepOk P t T i o) (hend:∀ l a W,(∀ i,i<T.n→l.getD i false=true)→Iv T l a W→Q .normal a W) :
    ∀ (fuel:Nat) (l:Array Bool) (a:Act) (W:World),Iv T l a W→l.toList.count false≤fuel→wpAny P .any T.ops Q fuel l a W:=by
 obtain ⟨i0,hi0,hz0,hz1,hz2⟩:=info_parts hinf
 have hfin:∀ l a W,Iv T l a W→Region.ready .any T.ops l=[]→Q .normal a W:=by
  intro l a W h hr
  refine hend l a W (fun i=>?_) h
  induction i using Nat.strongRecOn with
  | _ i ih =>
   intro hi
   cases hc:l.getD i false with
   | true=>rfl
   | false =>
    exfalso
    obtain ⟨o,ho,_⟩:=hT.op i hi
    have hmem:i ∈ Region.ready .any T.ops l:=by
     have hsz:i<l.size:=by rw [h.ls];exact hi
     simp only [Region.ready,List.mem_filter,List.mem_range,hT.hn,ho,Option.map_some,Option.getD_some,Bool.and_eq_true]
     refine ⟨hi,?_,?_⟩
     · rw [Array.getD_eq_getD_getElem?,Array.getElem?_eq_getElem hsz] at hc⊢
       simpa using hc
     · rw [Array.all_eq_true']
       intro e he
       by_cases hb:Region.binds .any e=true
       · have hpe:preB T.ops i e.on=true:=by
           simp only [preB,ho,Option.map_some,Option.getD_some,Array.any_eq_true',Bool.and_eq_true,beq_iff_eq]
           exact ⟨e,he,hb,rfl⟩
         have hlt:=hT.pr i e.on hi hpe
         rw [ih e.on hlt (by omega)]
         simp
       · simp [hb]
    rw [hr] at hmem
    cases hmem
 intro fuel
 induction fuel with
 | zero =>
  intro l a W h hc
  have hr:Region.ready .any T.ops l=[]:=by
   cases hx:Region.ready .any T.ops l with
   | nil=>rfl
   | cons i r =>
    exfalso
    have hmem:i ∈ Region.ready .any T.ops l:=by rw [hx];simp
    simp only [Region.ready,List.mem_filter,List.mem_range,Bool.and_eq_true] at hmem
    obtain ⟨h1,h2,_⟩:=hmem
    rw [hT.hn,← h.ls] at h1
    have hm:false ∈ l.toList:=by
     rw [Array.getD_eq_getD_getElem?,Array.getElem?_eq_getElem h1] at h2
     have:l[i]=false:=by simpa using h2
     rw [← this]
     simp
    have:=List.count_pos_iff.2 hm
    omega
  exact ⟨hr,hfin l a W h hr⟩
 | succ fuel ihf =>
  intro l a W h hc
  refine ⟨hfin l a W h,fun i hi=>?_⟩
  simp only [Region.ready,List.mem_filter,List.mem_range,Bool.and_eq_true] at hi
  obtain ⟨h1,h2,h3⟩:=hi
  rw [hT.hn] at h1
  obtain ⟨o,ho,hgd,hd,hN⟩:=hT.op i h1
  rw [ho,Option.map_some,Option.getD_some] at h3
  have hil:i<l.size:=by rw [h.ls];exact h1
  have hget:l[i]?=some false:=by
   rw [Array.getElem?_eq_getElem hil]
   rw [Array.getD_eq_getD_getElem?,Array.getElem?_eq_getElem hil] at h2
   simpa using h2
  have hl:l.getD i false=false:=by rw [Array.getD_eq_getD_getElem?,hget];rfl
  have hcnt:(l.setIfInBounds i true).toList.count false≤fuel:=by
   have:=count_set l.toList i (by simpa using hget)
   rw [Array.toList_setIfInBounds]
   omega
  have hp:∀ c,preB T.ops i c=true→l.getD c false=true:=fun c hc=>pre_listed ho h3 hc
  have hFx:T.Fx i a W:=⟨h.kp,h.lt,fun j v hj hpj hgj=>h.va j v hj (hpj.imp id (hp j)) hgj,h.sm⟩
  unfold wpOp
  simp only [ho]
  rw [if_pos (by simp [Region.wanted,hgd])]
  refine .inl ?_
  have lvOf:∀ j,T.use j=some i→(T.n≤j∨preB T.ops i j=true)→T.lv l j:=fun j hu hpj=>⟨hpj.imp id (hp j),fun c hc=>by rw [hu] at hc;cases hc;exact hl⟩
  have notLv:∀ j,T.use j=some i→¬ T.lv (l.setIfInBounds i true) j:=fun j hu hlv=>by
   have:=hlv.2 i hu
   rw [set_listed hil,if_pos rfl] at this
   cases this
  rcases hst i o h1 ho with ⟨v,hg,hrun⟩ | ⟨L,hg,hrun⟩ | ⟨j,L,hj,hg,hgj,hu,hpj,hrun⟩ | ⟨j,k,Lj,Lk,hj,hk,hjk,hg,hgj,hgk,huj,huk,hpj,hpk,hlen,hop⟩ | ⟨j,k,Lj,Lk,ak,ck,hj,hk,hg,hgj,hgk,huj,hpj,hpk,hlen,hsrc,hop⟩ | ⟨j,Lj,L,hj,hg,hgj,huj,hpj,hrun⟩
  · unfold Oper.wp
    rw [hrun a W hFx,Oper.upon_value,hd]
    exact ihf _ _ _ (h.next hT h1 hl hp (Kept.refl _ _) (Nat.le_refl _) (fun j L hj _ _ hlv hgj=>(h.ro j L hj hlv hgj).1) (fun v0 h0=>by rw [hg] at h0;cases h0;rfl) (fun L h0=>by rw [hg] at h0;cases h0)) hcnt
  · refine hrun a W _ _ hFx (fun v W' hout=>?_)
    rw [hd]
    have hb:=hout.2
    refine ihf _ _ _ (h.next hT h1 hl hp (kept_below hb h.lt) hb.size (fun j L' hj _ _ hlv hgj=>ownE_keep (h.ro j L' hj hlv hgj).1 hb (Nat.le_refl _)) (fun v0 h0=>by rw [hg] at h0;cases h0) (fun L0 h0=>?_)) hcnt
    rw [hg] at h0
    cases h0
    refine ⟨ownE_down hout.1 h.bs,fun kk hkk=>?_⟩
    have hge:=(hout.1.lt kk hkk).1
    refine ⟨fun hS=>?_,fun j L' hj hne _ hlv hgj hkj=>?_⟩
    · have:=h.lt kk hS;omega
    · have:=((h.ro j L' hj hlv hgj).1.lt kk hkj).2;omega
  · unfold Oper.wp
    rw [hrun a W hFx,Oper.upon_value,hd]
    have hlj:=lvOf j hu hpj
    refine ihf _ _ _ (h.next hT h1 hl hp (Kept.refl _ _) (Nat.le_refl _) (fun j' L' hj' _ _ hlv hgj'=>(h.ro j' L' hj' hlv hgj').1) (fun v0 h0=>by rw [hg] at h0;cases h0) (fun L0 h0=>?_)) hcnt
    rw [hg] at h0
    cases h0
    refine ⟨(h.ro j _ hj hlj hgj).1,fun kk hkk=>⟨(h.ro j _ hj hlj hgj).2 kk hkk,fun j' L' hj' hne hlv' hlv hgj'=>?_⟩⟩
    have hjj:j≠j':=fun e=>by subst e;exact notLv j hu hlv'
    exact h.sp j j' _ L' kk hj hj' hjj hlj hlv hgj hgj' hkk
  · have hlj:=lvOf j huj hpj
    have hlk:=lvOf k huk hpk
    have rj:=h.ro j Lj hj hlj hgj
    have rk:=h.ro k Lk hk hlk hgk
    obtain ⟨ak,ck,ek,sk⟩:=own_srcC rk.1
    have fin:∀ v' W',W'.ownsRow T.base 5 1 v' (Lj.length+Lk.length) (U Lj++U Lk)→W.grownBy W' (a.eval (.tmp (T.slot j))).ownBlock→(v'.ownBlock=(a.eval (.tmp (T.slot j))).ownBlock∨v'.ownBlock=some W.heap.size)→wpAny P .any T.ops Q fuel (l.setIfInBounds i true) (a.put o.dst v') W':=by
     intro v' W' hov hgr hloc
     rw [hd]
     refine ihf _ _ _ (h.next hT h1 hl hp (kept_grown hgr h.lt rj.2) hgr.size (fun j' L' hj' hne hlv' hlv hgj'=>?_) (fun v0 h0=>by rw [hg] at h0;cases h0) (fun L0 h0=>?_)) hcnt
     · have hjj:j≠j':=fun e=>by subst e;exact notLv j huj hlv'
       refine (h.ro j' L' hj' hlv hgj').1.kept hgr ?_
       cases hv:(a.eval (.tmp (T.slot j'))).ownBlock with
       | none=>exact .inl rfl
       | some kk =>
        refine .inr (fun e=>?_)
        exact h.sp j j' Lj L' kk hj hj' hjj hlj hlv hgj hgj' e.symm hv
     · rw [hg] at h0
       cases h0
       refine ⟨by rw [List.length_append,show U (Lj++Lk)=U Lj++U Lk by simp [U]];exact hov,fun kk hkk=>⟨fun hS=>?_,fun j' L' hj' hne hlv' hlv hgj' hkj=>?_⟩⟩
       · rcases hloc with e | e
         · rw [e] at hkk;exact rj.2 kk hkk hS
         · rw [e] at hkk;cases hkk;have:=h.lt _ hS;omega
       · have hjj:j≠j':=fun e=>by subst e;exact notLv j huj hlv'
         rcases hloc with e | e
         · rw [e] at hkk;exact h.sp j j' Lj L' kk hj hj' hjj hlj hlv hgj hgj' hkk hkj
         · rw [e] at hkk;cases hkk;have:=((h.ro j' L' hj' hlv hgj').1.lt _ hkj).2;omega
    rcases sk with ⟨rfl,hnil⟩ | ⟨ad,rfl,hn⟩
    · have hLk:Lk=[]:=by cases Lk with | nil=>rfl | cons x r=>simp [U] at hnil
      subst hLk
      have hrun:=run_append_none_any (P:=P) (w:=W) T.base t o.type 5 i0 1 ht hi0 _ _ _ rj.1 ck
      have:=fin _ W (by simpa [U] using rj.1) (World.grownBy.refl _ _) (.inl rfl)
      unfold Oper.wp
      simp only [List.length_nil] at ek
      simp [execOp,hop,resolve,invoke,builtin,ek,hrun,Result.andThen]
      exact this
    · have:=step_append_src (ops:=T.ops) (Q:=Q) (E:=True) (K:=wpAny P .any T.ops Q fuel (l.setIfInBounds i true)) hgd (.tmp (T.slot j)) (.tmp (T.slot k)) t hop T.base 5 i0 (.int .u8 0) 1 1 ht hi0 hz0 hz1 hz2 rfl (by decide) _ _ _ rfl rj.1 ad _ ck (U Lk) ek (by simp [U]) hn (oneU _) (by unfold maxLen;omega) (by omega) h.bs fin
      rwa [if_pos (by simp [Region.wanted,hgd])] at this
  · have hlj:=lvOf j huj hpj
    have rj:=h.ro j Lj hj hlj hgj
    have ek:=hFx.va k _ hk hpk hgk
    have sk:=hsrc W h.kp
    have fin:∀ v' W',W'.ownsRow T.base 5 1 v' (Lj.length+Lk.length) (U Lj++U Lk)→W.grownBy W' (a.eval (.tmp (T.slot j))).ownBlock→(v'.ownBlock=(a.eval (.tmp (T.slot j))).ownBlock∨v'.ownBlock=some W.heap.size)→wpAny P .any T.ops Q fuel (l.setIfInBounds i true) (a.put o.dst v') W':=by
     intro v' W' hov hgr hloc
     rw [hd]
     refine ihf _ _ _ (h.next hT h1 hl hp (kept_grown hgr h.lt rj.2) hgr.size (fun j' L' hj' hne hlv' hlv hgj'=>?_) (fun v0 h0=>by rw [hg] at h0;cases h0) (fun L0 h0=>?_)) hcnt
     · have hjj:j≠j':=fun e=>by subst e;exact notLv j huj hlv'
       refine (h.ro j' L' hj' hlv hgj').1.kept hgr ?_
       cases hv:(a.eval (.tmp (T.slot j'))).ownBlock with
       | none=>exact .inl rfl
       | some kk =>
        refine .inr (fun e=>?_)
        exact h.sp j j' Lj L' kk hj hj' hjj hlj hlv hgj hgj' e.symm hv
     · rw [hg] at h0
       cases h0
       refine ⟨by rw [List.length_append,show U (Lj++Lk)=U Lj++U Lk by simp [U]];exact hov,fun kk hkk=>⟨fun hS=>?_,fun j' L' hj' hne hlv' hlv hgj' hkj=>?_⟩⟩
       · rcases hloc with e | e
         · rw [e] at hkk;exact rj.2 kk hkk hS
         · rw [e] at hkk;cases hkk;have:=h.lt _ hS;omega
       · have hjj:j≠j':=fun e=>by subst e;exact notLv j huj hlv'
         rcases hloc with e | e
         · rw [e] at hkk;exact h.sp j j' Lj L' kk hj hj' hjj hlj hlv hgj hgj' hkk hkj
         · rw [e] at hkk;cases hkk;have:=((h.ro j' L' hj' hlv hgj').1.lt _ hkj).2;omega
    rcases sk with ⟨rfl,hnil⟩ | ⟨ad,rfl,hn⟩
    · have hLk:Lk=[]:=by cases Lk with | nil=>rfl | cons x r=>simp [U] at hnil
      subst hLk
      have hrun:=run_append_none_any (P:=P) (w:=W) T.base t o.type 5 i0 1 ht hi0 _ _ _ rj.1 ck
      have:=fin _ W (by simpa [U] using rj.1) (World.grownBy.refl _ _) (.inl rfl)
      unfold Oper.wp
      simp only [List.length_nil] at ek
      simp [execOp,hop,resolve,invoke,builtin,ek,hrun,Result.andThen]
      exact this
    · have:=step_append_src (ops:=T.ops) (Q:=Q) (E:=True) (K:=wpAny P .any T.ops Q fuel (l.setIfInBounds i true)) hgd (.tmp (T.slot j)) (.tmp (T.slot k)) t hop T.base 5 i0 (.int .u8 0) 1 1 ht hi0 hz0 hz1 hz2 rfl (by decide) _ _ _ rfl rj.1 ad _ ck (U Lk) ek (by simp [U]) hn (oneU _) (by unfold maxLen;omega) (by omega) h.bs fin
      rwa [if_pos (by simp [Region.wanted,hgd])] at this
  · have hlj:=lvOf j huj hpj
    have rj:=h.ro j Lj hj hlj hgj
    obtain ⟨aj,cj,ej,sj⟩:=own_srcC rj.1
    refine hrun a W _ _ hFx aj cj ej (fun W' hb=>sj.on hb) (fun v W' hout=>?_)
    rw [hd]
    have hb:=hout.2
    refine ihf _ _ _ (h.next hT h1 hl hp (kept_below hb h.lt) hb.size (fun j' L' hj' _ _ hlv hgj'=>ownE_keep (h.ro j' L' hj' hlv hgj').1 hb (Nat.le_refl _)) (fun v0 h0=>by rw [hg] at h0;cases h0) (fun L0 h0=>?_)) hcnt
    rw [hg] at h0
    cases h0
    refine ⟨ownE_down hout.1 h.bs,fun kk hkk=>?_⟩
    have hge:=(hout.1.lt kk hkk).1
    refine ⟨fun hS=>?_,fun j' L' hj' hne _ hlv hgj' hkj=>?_⟩
    · have:=h.lt kk hS;omega
    · have:=((h.ro j' L' hj' hlv hgj').1.lt kk hkj).2;omega
theorem rg_region {P:Program} {t:TypeId} {T:RT} {Q:Exit→Act→World→Prop} {id:Nat} (hT:T.Ok) (hm:P.follows .mixedOrders=true) (ht:P.underlying t=some (.slice 5)) (hinf:(P.info? 5).map (fun i=>(i.zero,i.size,i.bytes))=some (some (.int .u8 0),1,1))
    (hst:∀ i o,i<T.n→T.ops[i]?=some o→StepOk P t T i o) (h0:Iv T (Array.replicate T.n false) T.a0 { T.w with drawn:=T.w.drawn+1 }) (hend:∀ l a W,(∀ i,i<T.n→l.getD i false=true)→Iv T l a W→Q .normal a W) :
    (Code.region id T.ops true).wp P Q T.a0 T.w:=by
 refine wp_region_any hm ?_
 rw [hT.hn]
 refine rg_any hT ht hinf hst hend _ _ _ _ h0 ?_
 simp
open Go.RowKit Go.Sort
def Gh.isRow:Gh→Bool
 | .row _=>true
 | _=>false
def RT.of (ops:List Oper) (N:Nat) (slots:List Nat) (gs:List Gh) (uses:List (Option Nat)) (S:Nat→Prop) (base:Nat) (w:World) (a0:Act):RT where
 ops:=ops.toArray
 n:=ops.length
 m:=slots.length
 N:=N
 slot:=fun i=>slots.getD i 0
 g:=fun i=>gs.getD i (.val undef)
 use:=fun i=>uses.getD i none
 S:=S
 base:=base
 w:=w
 a0:=a0
def okB (ops:List Oper) (N:Nat) (slots:List Nat) (gs:List Gh) (uses:List (Option Nat)):Bool :=
 decide (ops.length≤slots.length)&&(List.range ops.length).all fun i =>
  match ops[i]? with
  | none=>false
  | some o=>o.guard.isNone&&o.dst==some (slots.getD i 0)&&decide (slots.getD i 0<N)&&(o.after.all fun e=>!Region.binds .any e || decide (e.on<i)) &&
   (List.range slots.length).all fun j=>j==i || !(slots.getD j 0==slots.getD i 0) || ((gs.getD j (.val undef)).isRow&&match uses.getD j none with
    | none=>false
    | some c=>preB ops.toArray i c)
theorem ok_of {ops:List Oper} {N:Nat} {slots:List Nat} {gs:List Gh} {uses:List (Option Nat)} {S:Nat→Prop} {base:Nat} {w:World} {a0:Act} (h:okB ops N slots gs uses=true):(RT.of ops N slots gs uses S base w a0).Ok:=by
 simp only [okB,Bool.and_eq_true,decide_eq_true_eq,List.all_eq_true,List.mem_range] at h
 obtain ⟨hnm,hall⟩:=h
 have key : ∀ i, i < ops.length → ∃ o, ops[i]? = some o ∧ o.guard = none ∧ o.dst = some (slots.getD i 0) ∧ slots.getD i 0 < N ∧ (o.after.all fun e => !Region.binds .any e || decide (e.on < i)) = true ∧ ∀ j, j < slots.length → (j == i || !(slots.getD j 0 == slots.getD i 0) || ((gs.getD j (.val undef)).isRow && match uses.getD j none with
       | none=>false
       | some c=>preB ops.toArray i c))=true:=by
  intro i hi
  have:=hall i hi
  cases ho:ops[i]? with
  | none=>rw [ho] at this;simp at this
  | some o =>
   rw [ho] at this
   simp only [Bool.and_eq_true,List.all_eq_true,List.mem_range,decide_eq_true_eq,beq_iff_eq,Option.isNone_iff_eq_none] at this
   obtain ⟨⟨⟨⟨h1,h2⟩,h3⟩,h4⟩,h5⟩:=this
   exact ⟨o,rfl,h1,h2,h3,h4,h5⟩
 refine ⟨rfl,hnm,fun i hi=>?_,fun i j hi hp=>?_,fun i j hi hj hne he=>?_⟩
 · obtain ⟨o,h1,h2,h3,h4,_⟩:=key i hi
   exact ⟨o,by simpa [RT.of] using h1,h2,h3,h4⟩
 · obtain ⟨o,h1,h2,h3,h4,h5,_⟩:=key i hi
   have h1':ops.toArray[i]?=some o:=by simpa using h1
   simp only [preB,RT.of,h1',Option.map_some,Option.getD_some,Array.any_eq_true',Bool.and_eq_true,beq_iff_eq] at hp
   obtain ⟨e,hm,hb,rfl⟩:=hp
   rw [Array.all_eq_true'] at h5
   have:=h5 e hm
   rw [hb] at this
   simpa using this
 · obtain ⟨o,h1,h2,h3,h4,h5,h6⟩:=key i hi
   have:=h6 j hj
   have he':slots.getD j 0=slots.getD i 0:=he
   rw [he'] at this
   simp only [beq_self_eq_true,Bool.not_true,Bool.or_false,Bool.or_eq_true,beq_iff_eq,hne,false_or,Bool.and_eq_true] at this
   obtain ⟨g1,g2⟩:=this
   refine ⟨?_,?_⟩
   · show ∃ L,gs.getD j (.val undef)=.row L
     cases hg:gs.getD j (.val undef) with
     | row L=>exact ⟨L,rfl⟩
     | val v=>rw [hg] at g1;cases g1
   · show ∃ c,uses.getD j none=some c∧preB ops.toArray i c=true
     cases hu:uses.getD j none with
     | none=>rw [hu] at g2;cases g2
     | some c=>rw [hu] at g2;exact ⟨c,rfl,g2⟩
def AllSteps (P:Program) (t:TypeId) (T:RT):Nat→List Oper→Prop
 | _,[]=>True
 | i,o::r=>StepOk P t T i o∧AllSteps P t T (i+1) r
theorem AllSteps.nil {P:Program} {t:TypeId} {T:RT} {i:Nat}:AllSteps P t T i []:=trivial
theorem AllSteps.cons {P:Program} {t:TypeId} {T:RT} {i:Nat} {o:Oper} {r:List Oper} (h:StepOk P t T i o) (hr:AllSteps P t T (i+1) r):AllSteps P t T i (o::r):=⟨h,hr⟩
theorem AllSteps.get {P:Program} {t:TypeId} {T:RT}:∀ (l:List Oper) (k i:Nat) (o:Oper),AllSteps P t T k l→l[i]?=some o→StepOk P t T (k+i) o
 | [],k,i,o,_,h=>by simp at h
 | x::r,k,0,o,⟨h1,_⟩,h=>by simp at h;subst h;exact h1
 | x::r,k,i+1,o,⟨_,h2⟩,h=>by
  have:=AllSteps.get r (k+1) i o h2 (by simpa using h)
  rwa [show k+1+i=k+(i+1) by omega] at this
structure Fin (T:RT) (a:Act) (W:World):Prop where
 sz:a.tmps.size=T.N
 df:a.defers=T.a0.defers
 kp:Kept T.S T.w W
 lt:∀ k,T.S k→k<W.heap.size
 bs:T.base≤W.heap.size
 ro:∀ i L,i<T.m→T.use i=none→T.g i=.row L→W.ownsRow T.base 5 1 (a.eval (.tmp (T.slot i))) L.length (U L)∧∀ k,(a.eval (.tmp (T.slot i))).ownBlock=some k→¬ T.S k
 sm:∀ s,(∀ i,i<T.n→T.slot i≠s)→a.eval (.tmp s)=T.a0.eval (.tmp s)
theorem fin_of {T:RT} {l:Array Bool} {a:Act} {W:World} (hl:∀ i,i<T.n→l.getD i false=true) (h:Iv T l a W):Fin T a W:=by
 refine ⟨h.sz,h.df,h.kp,h.lt,h.bs,fun i L hi hu hg=>h.ro i L hi ⟨?_,fun c hc=>by rw [hu] at hc;cases hc⟩ hg,h.sm⟩
 by_cases e:T.n≤i
 · exact .inl e
 · exact .inr (hl i (by omega))
theorem rep_getD (n i:Nat):(Array.replicate n false).getD i false=false:=by
 rw [Array.getD_eq_getD_getElem?,Array.getElem?_replicate]
 split <;> rfl
theorem rg_none {P:Program} {t:TypeId} {Q:Exit→Act→World→Prop} {id N base:Nat} {ops:List Oper} {slots:List Nat} {gs:List Gh} {uses:List (Option Nat)} {S:Nat→Prop} {w:World} {a0:Act}
    (hm:P.follows .mixedOrders=true) (ht:P.underlying t=some (.slice 5)) (hinf:(P.info? 5).map (fun i=>(i.zero,i.size,i.bytes))=some (some (.int .u8 0),1,1))
    (hok:okB ops N slots gs uses=true) (hlen:slots.length=ops.length) (hN:a0.tmps.size=N) (hS:∀ k,S k→k<w.heap.size) (hb:base≤w.heap.size)
    (hst:AllSteps P t (RT.of ops N slots gs uses S base w a0) 0 ops) (hend:∀ a W,Fin (RT.of ops N slots gs uses S base w a0) a W→Q .normal a W) :
    (Code.region id ops.toArray true).wp P Q a0 w:=by
 refine rg_region (T:=RT.of ops N slots gs uses S base w a0) (ok_of hok) hm ht hinf (fun i o hi ho=>?_) ?_ (fun l a W hl h=>hend a W (fin_of hl h))
 · have:=AllSteps.get ops 0 i o hst (by simpa [RT.of] using ho)
   rwa [Nat.zero_add] at this
 · have nd:∀ i,i<slots.length→¬ (RT.of ops N slots gs uses S base w a0).dn (Array.replicate ops.length false) i:=by
     intro i hi hd
     rcases hd with hd | hd
     · have:ops.length≤i:=hd;omega
     · rw [rep_getD] at hd;cases hd
   exact ⟨hN,rfl,by simp [RT.of],⟨rfl,rfl,rfl,Nat.le_refl _,fun _ _=>rfl⟩,hS,hb,fun i v hi hd _=>absurd hd (nd i hi),fun i L hi hlv _=>absurd hlv.1 (nd i hi),fun i j L L' k hi _ _ hlv _ _ _ _=>absurd hlv.1 (nd i hi),fun _ _=>rfl⟩
theorem rg_one {P:Program} {t:TypeId} {Q:Exit→Act→World→Prop} {id N base:Nat} {ops:List Oper} {slots:List Nat} {gs:List Gh} {uses:List (Option Nat)} {S:Nat→Prop} {w:World} {a0:Act} (s0:Nat) (L0:List Int)
    (hm:P.follows .mixedOrders=true) (ht:P.underlying t=some (.slice 5)) (hinf:(P.info? 5).map (fun i=>(i.zero,i.size,i.bytes))=some (some (.int .u8 0),1,1))
    (hok:okB ops N slots gs uses=true) (hlen:slots.length=ops.length+1) (hs0:slots.getD ops.length 0=s0) (hg0:gs.getD ops.length (.val undef)=.row L0) (hN:a0.tmps.size=N) (hS:∀ k,S k→k<w.heap.size) (hb:base≤w.heap.size)
    (hrow:w.ownsRow base 5 1 (a0.eval (.tmp s0)) L0.length (U L0)) (hrS:∀ k,(a0.eval (.tmp s0)).ownBlock=some k→¬ S k)
    (hst:AllSteps P t (RT.of ops N slots gs uses S base w a0) 0 ops) (hend:∀ a W,Fin (RT.of ops N slots gs uses S base w a0) a W→Q .normal a W) :
    (Code.region id ops.toArray true).wp P Q a0 w:=by
 refine rg_region (T:=RT.of ops N slots gs uses S base w a0) (ok_of hok) hm ht hinf (fun i o hi ho=>?_) ?_ (fun l a W hl h=>hend a W (fin_of hl h))
 · have:=AllSteps.get ops 0 i o hst (by simpa [RT.of] using ho)
   rwa [Nat.zero_add] at this
 · have nd:∀ i,i<slots.length→(RT.of ops N slots gs uses S base w a0).dn (Array.replicate ops.length false) i→i=ops.length:=by
     intro i hi hd
     rcases hd with hd | hd
     · have:ops.length≤i:=hd;omega
     · rw [rep_getD] at hd;cases hd
   refine ⟨hN,rfl,by simp [RT.of],⟨rfl,rfl,rfl,Nat.le_refl _,fun _ _=>rfl⟩,hS,hb,fun i v hi hd hg=>?_,fun i L hi hlv hg=>?_,fun i j L L' k hi hj hne hlv hlv' _ _ _=>?_,fun _ _=>rfl⟩
   · obtain rfl:=nd i hi hd
     have hg':gs.getD ops.length (.val undef)=.val v:=hg
     rw [hg0] at hg';cases hg'
   · obtain rfl:=nd i hi hlv.1
     have hg':gs.getD ops.length (.val undef)=.row L:=hg
     rw [hg0] at hg';cases hg'
     show _∧∀ k,(a0.eval (.tmp (slots.getD ops.length 0))).ownBlock=some k→¬ S k
     rw [hs0]
     refine ⟨?_,hrS⟩
     show World.ownsRow _ base 5 1 (a0.eval (.tmp (slots.getD ops.length 0))) _ _
     rw [hs0]
     exact hrow
   · exact absurd ((nd i hi hlv.1).trans (nd j hj hlv'.1).symm) hne
theorem fx_sm {ops:List Oper} {N:Nat} {slots:List Nat} {gs:List Gh} {uses:List (Option Nat)} {S:Nat→Prop} {base:Nat} {w:World} {a0:Act} {i:Nat} {a:Act} {W:World} (f:(RT.of ops N slots gs uses S base w a0).Fx i a W) (s:Nat) (h:((List.range ops.length).all fun j=>!(slots.getD j 0==s))=true):a.eval (.tmp s)=a0.eval (.tmp s):=by
 refine f.sm s (fun j hj e=>?_)
 rw [List.all_eq_true] at h
 have:=h j (List.mem_range.2 hj)
 have e':slots.getD j 0=s:=e
 rw [e'] at this
 simp at this
theorem fin_sm {ops:List Oper} {N:Nat} {slots:List Nat} {gs:List Gh} {uses:List (Option Nat)} {S:Nat→Prop} {base:Nat} {w:World} {a0:Act} {a:Act} {W:World} (f:Fin (RT.of ops N slots gs uses S base w a0) a W) (s:Nat) (h:((List.range ops.length).all fun j=>!(slots.getD j 0==s))=true):a.eval (.tmp s)=a0.eval (.tmp s):=by
 refine f.sm s (fun j hj e=>?_)
 rw [List.all_eq_true] at h
 have:=h j (List.mem_range.2 hj)
 have e':slots.getD j 0=s:=e
 rw [e'] at this
 simp at this
theorem fx_va {ops:List Oper} {N:Nat} {slots:List Nat} {gs:List Gh} {uses:List (Option Nat)} {S:Nat→Prop} {base:Nat} {w:World} {a0:Act} {i:Nat} {a:Act} {W:World} (f:(RT.of ops N slots gs uses S base w a0).Fx i a W) (j s:Nat) (v:Value) (hs:slots.getD j 0=s) (hj:decide (j<slots.length)=true) (hp:preB ops.toArray i j=true) (hg:gs.getD j (.val undef)=.val v):a.eval (.tmp s)=v:=by
 subst hs
 exact f.va j v (of_decide_eq_true hj) (.inr hp) hg
theorem ev_tmp (a:Act) (s:Nat):a.eval (.tmp s)=a.tmps[s]?.getD undef:=by simp [Act.eval]
theorem fx_sm' {ops:List Oper} {N:Nat} {slots:List Nat} {gs:List Gh} {uses:List (Option Nat)} {S:Nat→Prop} {base:Nat} {w:World} {a0:Act} {i:Nat} {a:Act} {W:World} (f:(RT.of ops N slots gs uses S base w a0).Fx i a W) (s:Nat) (v:Value) (h:((List.range ops.length).all fun j=>!(slots.getD j 0==s))=true) (hv:a0.eval (.tmp s)=v):a.tmps[s]?.getD undef=v:=by
 rw [← ev_tmp,fx_sm f s h,hv]
theorem fx_va' {ops:List Oper} {N:Nat} {slots:List Nat} {gs:List Gh} {uses:List (Option Nat)} {S:Nat→Prop} {base:Nat} {w:World} {a0:Act} {i:Nat} {a:Act} {W:World} (f:(RT.of ops N slots gs uses S base w a0).Fx i a W) (j s:Nat) (v:Value) (hs:slots.getD j 0=s) (hj:decide (j<slots.length)=true) (hp:preB ops.toArray i j=true) (hg:gs.getD j (.val undef)=.val v):a.tmps[s]?.getD undef=v:=by
 rw [← ev_tmp];exact fx_va f j s v hs hj hp hg
theorem mk_call {P:Program} {o:Oper} {a:Act} {W:World} {K:Act→World→Prop} {Q:Exit→Act→World→Prop} {L:List Int} {fn:FuncId} {args:Array Value} (hrun:(execOp a.eval o).run P W=.ok (.enter fn args) W)
    (hc:Calls P fn args W fun e w'=>∃ u,e=.returned u∧Out W w' u L) (hK:∀ v W',Out W W' v L→K (a.put o.dst v) W'):o.wp P a W K Q:=by
 unfold Oper.wp
 rw [hrun,Oper.upon_enter]
 refine hc.mono ?_
 rintro e w' ⟨u,rfl,h⟩
 exact hK u w' h
theorem mk_lit {P:Program} {o:Oper} {a:Act} {W:World} {K:Act→World→Prop} {Q:Exit→Act→World→Prop} {x:Int} (hrun:(execOp a.eval o).run P W=.ok (.value (.slice (some ⟨W.heap.size,0,none⟩) 1 1)) (W.alloc (.cells #[.int .u8 x] 5)))
    (hK:∀ v W',Out W W' v [x]→K (a.put o.dst v) W'):o.wp P a W K Q:=by
 unfold Oper.wp
 rw [hrun,Oper.upon_value]
 exact hK _ _ ⟨World.ownsRow_lit (size:=1) (e:=5) W #[.int .u8 x] 1 (Nat.le_refl _) (by decide) rfl,(Below.refl _ _).alloc (Nat.le_refl _) _⟩
end Go.Proofs.YtdbmolambolmgaaGreat
