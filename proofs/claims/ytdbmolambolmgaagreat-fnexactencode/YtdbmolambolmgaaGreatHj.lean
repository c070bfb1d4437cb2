import Derived.Test.YtdbmolambolmgaaGreatHm
import Derived.Test.YtdbmolambolmgaaGreatHh
import Derived.Test.YtdbmolambolmgaaGreatHb
import Derived.Test.YtdbmolambolmgaaGreatHi
set_option linter.all false
set_option maxHeartbeats 16000000
set_option maxRecDepth 100000
namespace Go.Proofs.YtdbmolambolmgaaGreat
open Go.RowKit Go.Sort
theorem szs_nn (x:Mod) (n:Nat):0≤(szs x).getD n 0:=by
 by_cases h:n<(szs x).length
 · have hm:(szs x)[n] ∈ szs x:=List.getElem_mem h
   have hall:∀ z ∈ szs x,0≤z:=by
    intro z hz
    simp only [szs,List.mem_cons,List.not_mem_nil,or_false] at hz
    rcases hz with rfl | rfl | rfl | rfl | rfl | rfl | rfl | rfl | rfl | rfl | rfl | rfl <;> first | omega | (split <;> omega)
   have:=hall _ hm
   simpa [List.getD,List.getElem?_eq_getElem h] using this
 · simp [List.getD,List.getElem?_eq_none (Nat.le_of_not_lt h)]
theorem one_cus (x:Mod) (k:Nat) (n:Int) (h0:0≤n) (hk0:k=0→n=0) (hk1:0<k→n=(x.customs.getD (k-1) Cus.z).aft) :
    ((((x.customs.getD k Cus.z).aft==0 || writ x (x.customs.getD k Cus.z).aft)&&(decide (n≤(x.customs.getD k Cus.z).aft)&&nameB (x.customs.getD k Cus.z).nm))=true) ↔ cuB x k=true:=by
 unfold cuB writ
 generalize (x.customs.getD k Cus.z).aft=a at *
 generalize nameB (x.customs.getD k Cus.z).nm=nm
 generalize (x.customs.getD (k-1) Cus.z).aft=p at *
 have hs:=szs_nn x a.toNat
 generalize hz:(szs x).getD a.toNat 0=z at *
 simp only [Bool.and_eq_true,Bool.or_eq_true,beq_iff_eq,decide_eq_true_eq,Bool.not_eq_true',Bool.and_eq_false_iff,decide_eq_false_iff_not,beq_eq_false_iff_ne]
 constructor
 · rintro ⟨ha,hn,hm⟩
   refine ⟨?_,hm,?_,?_⟩
   · rcases ha with h | ⟨h,_⟩ <;> omega
   · rcases ha with h | ⟨_,h⟩
     · left;omega
     · right;omega
   · by_cases hk:0<k
     · right;have:=hk1 hk;omega
     · left;exact hk
 · rintro ⟨ha,hm,h1,h2⟩
   refine ⟨?_,?_,hm⟩
   · by_cases h:a=0
     · exact .inl h
     · right
       rcases h1 with h1 | h1
       · omega
       · exact ⟨by omega,by omega⟩
   · rcases h2 with h2 | h2
     · have:=hk0 (by omega);omega
     · by_cases hk:0<k
       · have:=hk1 hk;omega
       · have:=hk0 (by omega);omega
theorem cus_all (x:Mod):∀ (d k:Nat) (n:Int),x.customs.length-k=d→0≤n→(k=0→n=0)→(0<k→n=(x.customs.getD (k-1) Cus.z).aft) →
    (cusM x (x.customs.drop k) n=true ↔ ∀ j,k≤j→j<x.customs.length→cuB x j=true)
 | 0,k,n,hd,h0,hk0,hk1=>by
  have e:x.customs.drop k=[]:=List.drop_of_length_le (by omega)
  rw [e]
  simp only [cusM,true_iff]
  intro j h1 h2;omega
 | d+1,k,n,hd,h0,hk0,hk1=>by
  have hlt:k<x.customs.length:=by omega
  rw [cus_at x x.customs k n hlt]
  have e:=one_cus x k n h0 hk0 hk1
  constructor
  · intro h
    simp only [Bool.and_eq_true] at h e
    obtain ⟨h1,h2,h3,h4⟩:=h
    have hk:=e.1 ⟨h1,h2,h3⟩
    have hn:n≤(x.customs.getD k Cus.z).aft:=of_decide_eq_true h2
    have ih:=(cus_all x d (k+1) (x.customs.getD k Cus.z).aft (by omega) (by omega) (by omega) (by intro _;simp)).1 h4
    intro j hj1 hj2
    rcases (by omega:j=k∨k+1≤j) with rfl | h
    · exact hk
    · exact ih j h hj2
  · intro h
    have hk:=e.2 (h k (Nat.le_refl _) hlt)
    simp only [Bool.and_eq_true] at hk⊢
    obtain ⟨h1,h2,h3⟩:=hk
    have hn:n≤(x.customs.getD k Cus.z).aft:=of_decide_eq_true h2
    have ih:=(cus_all x d (k+1) (x.customs.getD k Cus.z).aft (by omega) (by omega) (by omega) (by intro _;simp)).2 (fun j hj1 hj2=>h j (by omega) hj2)
    exact ⟨h1,h2,h3,ih⟩
theorem cusA_eq (x:Mod):cusA x=cusM x x.customs 0:=by
 have h:=cus_all x _ 0 0 rfl (by omega) (fun _=>rfl) (fun h=>by omega)
 rw [List.drop_zero] at h
 rw [Bool.eq_iff_iff,h,cusA,List.all_eq_true]
 constructor
 · intro hh j _ hj;exact hh j (by simpa using hj)
 · intro hh j hj;exact hh j (Nat.zero_le _) (by simpa using hj)
theorem swf_eq (x:Mod):swfB x=wfB x:=by
 unfold swfB hdB gpB wfB stB
 rw [cusA_eq,List.all_append]
 ac_rfl
open Go.RowKit Go.Sort
def entE (x:Mod) (n:Nat) (i:Nat):List Int :=
 match n with
 | 1=>ftE (x.types.getD i FType.z)
 | 2=>impE (x.imps.getD i Imp.z)
 | 3=>lebU 9 (x.funcs.getD i 0)
 | 4=>tabE (x.tabs.getD i Limits.z)
 | 5=>limE (x.mems.getD i Limits.z)
 | 6=>globE (x.globs.getD i Glob.z)
 | 7=>expE (x.exps.getD i Exp.z)
 | 8=>lebU 9 x.start
 | 9=>eleE (x.elems.getD i Ele.z)
 | 10=>codE (x.codes.getD i Cod.z)
 | _=>datE (x.datas.getD i Dat.z)
def szM (x:Mod) (n:Nat):Nat :=
 match n with
 | 1=>x.types.length
 | 2=>x.imps.length
 | 3=>x.funcs.length
 | 4=>x.tabs.length
 | 5=>x.mems.length
 | 6=>x.globs.length
 | 7=>x.exps.length
 | 8=>if x.hasS then 1 else 0
 | 9=>x.elems.length
 | 10=>x.codes.length
 | 11=>x.datas.length
 | _=>0
theorem szM_eq (x:Mod) (n:Nat) (h:n≤11):(szs x).getD n 0=(szM x n:Int):=by
 match n,h with
 | 0,_=>rfl
 | 1,_=>rfl
 | 2,_=>rfl
 | 3,_=>rfl
 | 4,_=>rfl
 | 5,_=>rfl
 | 6,_=>rfl
 | 7,_=>rfl
 | 8,_=>simp only [szs,szM];cases x.hasS <;> rfl
 | 9,_=>rfl
 | 10,_=>rfl
 | 11,_=>rfl
theorem writ_sz (x:Mod) (n:Nat) (h:n≤11):writ x n=decide (0<szM x n):=by
 have e:(szs x).getD ((n:Int).toNat) 0=(szM x n:Int):=by rw [Int.toNat_natCast];exact szM_eq x n h
 have h1:(0:Int)≤n∧(n:Int)<12:=by omega
 simp only [writ]
 rw [e]
 simp only [h1,and_self,decide_true,Bool.true_and]
 by_cases hz:0<szM x n
 · have:(0:Int)<(szM x n:Int):=by omega
   simp [hz,this]
 · have:¬ (0:Int)<(szM x n:Int):=by omega
   simp [hz,this]
def pfx (x:Mod) (n k:Nat):List Int:=(if n=8 then [] else lebU 9 (szM x n))++((List.range k).map (entE x n)).flatten
theorem pfx_step (x:Mod) (n k:Nat):pfx x n (k+1)=pfx x n k++entE x n k:=by
 simp [pfx,List.range_succ,List.append_assoc]
theorem pfx_le (x:Mod) (n k:Nat):∀ j,(pfx x n k).length≤(pfx x n (k+j)).length
 | 0=>Nat.le_refl _
 | j+1=>by rw [← Nat.add_assoc,pfx_step,List.length_append];have:=pfx_le x n k j;omega
theorem range_flat {α:Type} (f:α→List Int) (z:α) (l:List α):((List.range l.length).map fun i=>f (l.getD i z)).flatten=catE f l:=by
 have:((List.range l.length).map fun i=>f (l.getD i z))=l.map f:=by
  apply List.ext_getElem?
  intro i
  by_cases h:i<l.length
  · simp [h,List.getD]
  · simp [h]
 rw [this,catE]
theorem pfx_full (x:Mod) (n:Nat) (h1:1≤n) (h2:n≤11) (hs:0<szM x n):pfx x n (szM x n)=cntE x n:=by
 match n,h1,h2 with
 | 1,_,_=>simp only [pfx,cntE];exact congrArg _ (range_flat ftE FType.z x.types)
 | 2,_,_=>simp only [pfx,cntE];exact congrArg _ (range_flat impE Imp.z x.imps)
 | 3,_,_ =>
  simp only [pfx,cntE]
  refine congrArg _ ((range_flat (lebU 9) 0 x.funcs).trans ?_)
  simp [catE,nums,List.flatMap_def]
 | 4,_,_=>simp only [pfx,cntE];exact congrArg _ (range_flat tabE Limits.z x.tabs)
 | 5,_,_=>simp only [pfx,cntE];exact congrArg _ (range_flat limE Limits.z x.mems)
 | 6,_,_=>simp only [pfx,cntE];exact congrArg _ (range_flat globE Glob.z x.globs)
 | 7,_,_=>simp only [pfx,cntE];exact congrArg _ (range_flat expE Exp.z x.exps)
 | 8,_,_ =>
  have e:szM x 8=1:=by simp only [szM] at hs⊢;cases hh:x.hasS <;> simp_all
  rw [e]
  simp [pfx,cntE,entE]
 | 9,_,_=>simp only [pfx,cntE];exact congrArg _ (range_flat eleE Ele.z x.elems)
 | 10,_,_=>simp only [pfx,cntE];exact congrArg _ (range_flat codE Cod.z x.codes)
 | 11,_,_=>simp only [pfx,cntE];exact congrArg _ (range_flat datE Dat.z x.datas)
theorem cus_ge (x:Mod):∀ (l:List Cus) (n:Int),cusM x l n=true→∀ c ∈ l,n≤c.aft
 | [],_,_,c,hc=>by cases hc
 | d::l,n,h,c,hc=>by
  simp only [cusM,Bool.and_eq_true,decide_eq_true_eq] at h
  obtain ⟨_,h1,_,h2⟩:=h
  rcases List.mem_cons.1 hc with rfl | hc
  · exact h1
  · have:=cus_ge x l d.aft h2 c hc;omega
theorem cus_part (x:Mod) (s:Int):∀ (l:List Cus) (n:Int),cusM x l n=true→l=l.filter (fun c=>decide (c.aft<s))++(aftL s l++l.filter (fun c=>decide (s<c.aft)))
 | [],_,_=>rfl
 | d::l,n,h=>by
  simp only [cusM,Bool.and_eq_true,decide_eq_true_eq] at h
  obtain ⟨_,h1,_,h2⟩:=h
  have ih:=cus_part x s l d.aft h2
  have ge:=cus_ge x l d.aft h2
  rcases Int.lt_trichotomy d.aft s with hlt | heq | hgt
  · have a1:aftL s (d::l)=aftL s l:=by simp [aftL,List.filter_cons,show ¬ d.aft=s by omega]
    have a2:(d::l).filter (fun c=>decide (c.aft<s))=d::l.filter (fun c=>decide (c.aft<s)):=by simp [List.filter_cons,hlt]
    have a3:(d::l).filter (fun c=>decide (s<c.aft))=l.filter (fun c=>decide (s<c.aft)):=by simp [List.filter_cons,show ¬ s<d.aft by omega]
    rw [a1,a2,a3,List.cons_append,← ih]
  · have e1:l.filter (fun c=>decide (c.aft<s))=[]:=List.filter_eq_nil_iff.2 (fun c hc=>by have:=ge c hc;simp;omega)
    have a1:aftL s (d::l)=d::aftL s l:=by simp [aftL,List.filter_cons,heq]
    have a2:(d::l).filter (fun c=>decide (c.aft<s))=l.filter (fun c=>decide (c.aft<s)):=by simp [List.filter_cons,show ¬ d.aft<s by omega]
    have a3:(d::l).filter (fun c=>decide (s<c.aft))=l.filter (fun c=>decide (s<c.aft)):=by simp [List.filter_cons,show ¬ s<d.aft by omega]
    rw [a1,a2,a3,e1,List.nil_append,List.cons_append]
    rw [e1,List.nil_append] at ih
    rw [← ih]
  · have e1:l.filter (fun c=>decide (c.aft<s))=[]:=List.filter_eq_nil_iff.2 (fun c hc=>by have:=ge c hc;simp;omega)
    have e2:aftL s l=[]:=List.filter_eq_nil_iff.2 (fun c hc=>by have:=ge c hc;simp;omega)
    have a1:aftL s (d::l)=aftL s l:=by simp [aftL,List.filter_cons,show ¬ d.aft=s by omega]
    have a2:(d::l).filter (fun c=>decide (c.aft<s))=l.filter (fun c=>decide (c.aft<s)):=by simp [List.filter_cons,show ¬ d.aft<s by omega]
    have a3:(d::l).filter (fun c=>decide (s<c.aft))=d::l.filter (fun c=>decide (s<c.aft)):=by simp [List.filter_cons,hgt]
    rw [a1,a2,a3,e1,e2,List.nil_append,List.nil_append]
    rw [e1,e2,List.nil_append,List.nil_append] at ih
    rw [← ih]
def cuN (l:List Cus) (s:Nat):Nat:=(l.filter (fun c=>decide (c.aft<(s:Int)))).length
theorem cuN_zero {x:Mod} {l:List Cus} (h:cusM x l 0=true):cuN l 0=0:=by
 unfold cuN
 rw [List.filter_eq_nil_iff.2 (fun c hc=>by have:=cus_ge x l 0 h c hc;simp;omega)]
 rfl
theorem cuN_step {x:Mod} {l:List Cus} (h:cusM x l 0=true) (s:Nat):cuN l (s+1)=cuN l s+(aftL s l).length:=by
 have e:l.filter (fun c=>decide (c.aft<((s+1:Nat):Int)))=l.filter (fun c=>decide (c.aft<(s:Int)))++aftL s l:=by
  have p:=cus_part x s l 0 h
  conv=>lhs;rw [p]
  rw [List.filter_append,List.filter_append]
  have f1:(l.filter (fun c=>decide (c.aft<(s:Int)))).filter (fun c=>decide (c.aft<((s+1:Nat):Int)))=l.filter (fun c=>decide (c.aft<(s:Int))) :=
   List.filter_eq_self.2 (fun c hc=>by have:=(List.mem_filter.1 hc).2;simp at this⊢;omega)
  have f2:(aftL s l).filter (fun c=>decide (c.aft<((s+1:Nat):Int)))=aftL s l :=
   List.filter_eq_self.2 (fun c hc=>by have:=(List.mem_filter.1 hc).2;simp at this⊢;omega)
  have f3:(l.filter (fun c=>decide ((s:Int)<c.aft))).filter (fun c=>decide (c.aft<((s+1:Nat):Int)))=[] :=
   List.filter_eq_nil_iff.2 (fun c hc=>by have:=(List.mem_filter.1 hc).2;simp at this⊢;omega)
  rw [f1,f2,f3,List.append_nil]
 unfold cuN
 rw [e,List.length_append]
theorem cu_at {x:Mod} {l:List Cus} (h:cusM x l 0=true) (s j:Nat) (hj:j<(aftL s l).length):cuN l s+j<l.length∧l.getD (cuN l s+j) Cus.z=(aftL s l).getD j Cus.z∧(l.getD (cuN l s+j) Cus.z).aft=s:=by
 have p:=cus_part x s l 0 h
 have hl:cuN l s+j<l.length:=by
  have:=congrArg List.length p
  simp only [List.length_append] at this
  unfold cuN
  omega
 have e:l.getD (cuN l s+j) Cus.z=(aftL s l).getD j Cus.z:=by
  have e0:=congrArg (fun q=>q[cuN l s+j]?) p
  simp only [List.getD_eq_getElem?_getD]
  rw [show l[cuN l s+j]?=_ from e0]
  rw [List.getElem?_append_right (by unfold cuN;omega),show cuN l s+j-(l.filter (fun c=>decide (c.aft<(s:Int)))).length=j by unfold cuN;omega,List.getElem?_append_left hj]
 refine ⟨hl,e,?_⟩
 rw [e]
 have hm:(aftL s l).getD j Cus.z ∈ aftL s l:=by
  simp only [List.getD_eq_getElem?_getD,List.getElem?_eq_getElem hj,Option.getD_some]
  exact List.getElem_mem hj
 simpa using (List.mem_filter.1 hm).2
theorem cu_end {x:Mod} {l:List Cus} (h:cusM x l 0=true) (s:Nat) (hl:cuN l s+(aftL s l).length<l.length):(l.getD (cuN l s+(aftL s l).length) Cus.z).aft≠s:=by
 have p:=cus_part x s l 0 h
 have hlen:=congrArg List.length p
 simp only [List.length_append] at hlen
 have hr:0<(l.filter (fun c=>decide ((s:Int)<c.aft))).length:=by unfold cuN at hl;omega
 have e:l.getD (cuN l s+(aftL s l).length) Cus.z=(l.filter (fun c=>decide ((s:Int)<c.aft))).getD 0 Cus.z:=by
  have e0:=congrArg (fun q=>q[cuN l s+(aftL s l).length]?) p
  simp only [List.getD_eq_getElem?_getD]
  rw [show l[cuN l s+(aftL s l).length]?=_ from e0]
  rw [List.getElem?_append_right (by unfold cuN;omega),List.getElem?_append_right (by unfold cuN;omega)]
  rw [show cuN l s+(aftL s l).length-(l.filter (fun c=>decide (c.aft<(s:Int)))).length-(aftL s l).length=0 by unfold cuN;omega]
 rw [e]
 have hm:(l.filter (fun c=>decide ((s:Int)<c.aft))).getD 0 Cus.z ∈ l.filter (fun c=>decide ((s:Int)<c.aft)):=by
  simp only [List.getD_eq_getElem?_getD,List.getElem?_eq_getElem hr,Option.getD_some]
  exact List.getElem_mem hr
 have:=of_decide_eq_true (List.mem_filter.1 hm).2
 omega
theorem wf_cus {x:Mod} (h:wfB x=true):cusM x x.customs 0=true:=by
 simp only [wfB,Bool.and_eq_true] at h
 exact h.2.2.2.2.2.2.2.2.2.2.2.2
open Go.RowKit Go.Sort
theorem s5ent_c (x:Mod) (a1:Option Addr) (c1:Nat) (a2:Option Addr) (c2:Nat) (a3:Option Addr) (c3:Nat) (a4:Option Addr) (c4:Nat) (a5:Option Addr) (c5:Nat) (a6:Option Addr) (c6:Nat) (a7:Option Addr) (c7:Nat) (a8:Option Addr) (c8:Nat) (a9:Option Addr) (c9:Nat) (a10:Option Addr) (c10:Nat) (a11:Option Addr) (c11:Nat) (w0 w:World) (hb0:Below w0.heap.size w0 w) (hI:Mod.Is 0 w0 x a1 a2 a3 a4 a5 a6 a7 a8 a9 a10 a11) (hG:x.Gd) (hLB:Mod.LB 1048576 x) (hB:x.Byt) (n i:Nat) (h1:1≤n) (h2:n≤11) (hi:i<szM x n) (hl:(entE x n i).length≤400000000000) :
    Calls Tryz.prog 78 #[.agg #[.slice a1 x.types.length c1,.slice a2 x.imps.length c2,.slice a3 x.funcs.length c3,.slice a4 x.tabs.length c4,.slice a5 x.mems.length c5,.slice a6 x.globs.length c6,.slice a7 x.exps.length c7,.bool x.hasS,.int .i64 x.start,.slice a8 x.elems.length c8,.slice a9 x.codes.length c9,.slice a10 x.datas.length c10,.slice a11 x.customs.length c11],.int .i64 n,.int .i64 i] w fun e w'=>∃ u,e=.returned u∧Out w w' u (entE x n i):=by
 match n,h1,h2 with
 | 1,_,_=>exact s5ent1 x a1 c1 a2 c2 a3 c3 a4 c4 a5 c5 a6 c6 a7 c7 a8 c8 a9 c9 a10 c10 a11 c11 w0 w hb0 hI hG hLB i hi hl
 | 2,_,_=>exact s5ent2 x a1 c1 a2 c2 a3 c3 a4 c4 a5 c5 a6 c6 a7 c7 a8 c8 a9 c9 a10 c10 a11 c11 w0 w hb0 hI hG hLB i hi hl
 | 3,_,_=>exact s5ent3 x a1 c1 a2 c2 a3 c3 a4 c4 a5 c5 a6 c6 a7 c7 a8 c8 a9 c9 a10 c10 a11 c11 w0 w hb0 hI hG hLB i hi hl
 | 4,_,_=>exact s5ent4 x a1 c1 a2 c2 a3 c3 a4 c4 a5 c5 a6 c6 a7 c7 a8 c8 a9 c9 a10 c10 a11 c11 w0 w hb0 hI hG hLB i hi hl
 | 5,_,_=>exact s5ent5 x a1 c1 a2 c2 a3 c3 a4 c4 a5 c5 a6 c6 a7 c7 a8 c8 a9 c9 a10 c10 a11 c11 w0 w hb0 hI hG hLB i hi hl
 | 6,_,_=>exact s5ent6 x a1 c1 a2 c2 a3 c3 a4 c4 a5 c5 a6 c6 a7 c7 a8 c8 a9 c9 a10 c10 a11 c11 w0 w hb0 hI hG hLB i hi hl
 | 7,_,_=>exact s5ent7 x a1 c1 a2 c2 a3 c3 a4 c4 a5 c5 a6 c6 a7 c7 a8 c8 a9 c9 a10 c10 a11 c11 w0 w hb0 hI hG hLB i hi hl
 | 8,_,_=>exact s5ent8 x a1 c1 a2 c2 a3 c3 a4 c4 a5 c5 a6 c6 a7 c7 a8 c8 a9 c9 a10 c10 a11 c11 w0 w hb0 hI hG hLB i hl
 | 9,_,_=>exact s5ent9 x a1 c1 a2 c2 a3 c3 a4 c4 a5 c5 a6 c6 a7 c7 a8 c8 a9 c9 a10 c10 a11 c11 w0 w hb0 hI hG hLB i hi hl
 | 10,_,_=>exact s5ent10 x a1 c1 a2 c2 a3 c3 a4 c4 a5 c5 a6 c6 a7 c7 a8 c8 a9 c9 a10 c10 a11 c11 w0 w hb0 hI hG hLB i hi hl
 | 11,_,_=>exact s5ent11 x a1 c1 a2 c2 a3 c3 a4 c4 a5 c5 a6 c6 a7 c7 a8 c8 a9 c9 a10 c10 a11 c11 w0 w hb0 hI hG hLB i hi hl hB
open Go.RowKit Go.Sort
theorem U_app (a b:List Int):U (a++b)=U a++U b:=by simp [U]
theorem src_of {W:World} {a:Option Addr} {bs:List Int} (h:HI .u8 0 W a bs):SrcC W a (U bs):=by
 rcases h with rfl | ⟨b,o,rfl,_,hc⟩
 · cases a with
   | none=>exact .inl ⟨rfl,rfl⟩
   | some ad=>exact .inr ⟨ad,rfl,fun j u hj=>by simp [U] at hj⟩
 · refine .inr ⟨_,rfl,fun j u hj=>?_⟩
   have hjl:j<bs.length:=by
    rcases Nat.lt_or_ge j bs.length with h | h
    · exact h
    · rw [List.getElem?_eq_none (by simpa [U] using h)] at hj;cases hj
   have hp:(⟨b,o,none⟩:Addr).add j=⟨b,o+j,none⟩:=by unfold Addr.add;split <;> simp_all
   rw [hp,hc j hjl]
   simp [U,List.getElem?_eq_getElem hjl] at hj
   subst hj
   simp [List.getD,List.getElem?_eq_getElem hjl]
theorem act_ext {a b:Act} (hs:a.tmps.size=b.tmps.size) (hd:a.defers=b.defers) (he:∀ s,a.eval (.tmp s)=b.eval (.tmp s)):a=b:=by
 obtain ⟨at_,ad⟩:=a
 obtain ⟨bt,bd⟩:=b
 have hd':ad=bd:=hd
 subst hd'
 congr 1
 apply Array.ext
 · exact hs
 · intro i h1 h2
   have:=he i
   simpa [Act.eval,Array.getD,h1,h2] using this
theorem act_puts:∀ (ws:List Nat) (a b:Act),a.tmps.size=b.tmps.size→a.defers=b.defers→(∀ s,s ∉ ws→a.eval (.tmp s)=b.eval (.tmp s))→a=ws.foldl (fun b s=>b.put (some s) (a.eval (.tmp s))) b
 | [],a,b,hs,hd,he=>act_ext hs hd (fun s=>he s (by simp))
 | s::ws,a,b,hs,hd,he=>by
  rw [List.foldl_cons]
  refine act_puts ws a (b.put (some s) (a.eval (.tmp s))) (by rw [Act.size_put];exact hs) (by rw [Act.defers_put'];exact hd) (fun t ht=>?_)
  by_cases e:t=s
  · subst e
    by_cases hb:t<b.tmps.size
    · rw [Act.eval_put_same _ _ _ hb]
    · have h1:a.eval (.tmp t)=undef:=by simp [Act.eval,Array.getD,show ¬ t<a.tmps.size by omega]
      have h2:(b.put (some t) (a.eval (.tmp t))).eval (.tmp t)=undef:=by simp [Act.eval,Act.put,Array.getD,hb]
      rw [h2,h1]
  · rw [Act.eval_put_ne _ _ _ _ (fun e'=>e e'.symm)]
    exact he t (by simp [e,ht])
theorem fin_act {ops:List Oper} {N:Nat} {slots:List Nat} {gs:List Gh} {uses:List (Option Nat)} {S:Nat→Prop} {base:Nat} {w:World} {a0:Act} {a:Act} {W:World} (f:Fin (RT.of ops N slots gs uses S base w a0) a W) (ws:List Nat) (hws:slots.take ops.length=ws) (hN:a0.tmps.size=N) (hl:ops.length≤slots.length):a=ws.foldl (fun b s=>b.put (some s) (a.eval (.tmp s))) a0:=by
 subst hws
 refine act_puts _ a a0 (f.sz.trans hN.symm) f.df (fun s hs=>f.sm s (fun i hi e=>hs ?_))
 have hi':i<ops.length:=hi
 have e':slots.getD i 0=s:=e
 rw [← e',List.getD_eq_getElem?_getD,List.getElem?_eq_getElem (by omega),Option.getD_some]
 exact List.mem_take_iff_getElem.2 ⟨i,by omega,rfl⟩
def SzAt (x:Mod) (V:World) (g:Nat):Prop:=g<V.heap.size∧∀ n,n≤11→V.cell? ⟨g,n,none⟩=some (.int .i64 (szM x n:Int))
theorem szAt_of {x:Mod} {V:World} {g:Nat} {s:Int} (hs:(if x.hasS then 1 else 0:Int)=s) (h:Bk V g [.int .i64 0,.int .i64 x.types.length,.int .i64 x.imps.length,.int .i64 x.funcs.length,.int .i64 x.tabs.length,.int .i64 x.mems.length,.int .i64 x.globs.length,.int .i64 x.exps.length,.int .i64 s,.int .i64 x.elems.length,.int .i64 x.codes.length,.int .i64 x.datas.length]):SzAt x V g:=by
 refine ⟨h.1,fun n hn=>?_⟩
 have hs8:((szM x 8:Nat):Int)=s:=by rw [← hs];simp only [szM];cases x.hasS <;> rfl
 match n,hn with
 | 8,_=>rw [hs8];exact h.2.1 8 _ rfl
 | 0,_=>exact h.2.1 0 _ rfl
 | 1,_=>exact h.2.1 1 _ rfl
 | 2,_=>exact h.2.1 2 _ rfl
 | 3,_=>exact h.2.1 3 _ rfl
 | 4,_=>exact h.2.1 4 _ rfl
 | 5,_=>exact h.2.1 5 _ rfl
 | 6,_=>exact h.2.1 6 _ rfl
 | 7,_=>exact h.2.1 7 _ rfl
 | 9,_=>exact h.2.1 9 _ rfl
 | 10,_=>exact h.2.1 10 _ rfl
 | 11,_=>exact h.2.1 11 _ rfl
structure Sx (x:Mod) (w V:World) (g:Nat) (cl:List Value):Prop where
 bx:Bk V w.heap.size cl
 sz:SzAt x V g
 lo:Below w.heap.size w V
 lg:w.heap.size<g
theorem Sx.low {x:Mod} {w V V':World} {g R:Nat} {cl:List Value} (h:Sx x w V g cl) (hb:Below R V V') (hg:g<R):Sx x w V' g cl :=
 ⟨h.bx.below hb (Nat.lt_trans h.lg hg),⟨Nat.lt_of_lt_of_le h.sz.1 hb.size,fun n hn=>(hb.cell (p:=⟨g,n,none⟩) hg).trans (h.sz.2 n hn)⟩,h.lo.trans (hb.mono (Nat.le_of_lt (Nat.lt_trans h.lg hg))),h.lg⟩
theorem Sx.keep {x:Mod} {w V V':World} {g:Nat} {cl:List Value} (h:Sx x w V g cl) (hb:Below V.heap.size V V'):Sx x w V' g cl:=h.low hb h.sz.1
theorem Sx.kept {x:Mod} {w V V':World} {g:Nat} {cl:List Value} (h:Sx x w V g cl) (hk:Kept (fun k=>k<w.heap.size+1∨k=g) V V'):Sx x w V' g cl :=
 ⟨h.bx.kept hk (.inl (Nat.lt_succ_self _)),⟨Nat.lt_of_lt_of_le h.sz.1 hk.size,fun n hn=>(hk.cell (.inr rfl)).trans (h.sz.2 n hn)⟩,h.lo.trans (hk.weak (fun k (hk':k<w.heap.size)=>Or.inl (Nat.lt_succ_of_lt hk'))).below,h.lg⟩
theorem Sx.own {x:Mod} {w V V':World} {g n:Nat} {cl:List Value} {v:Value} {xs:List Value} (h:Sx x w V g cl) (ho:V.ownsRow (w.heap.size+1) 5 1 v n xs) (hne:∀ k,v.ownBlock=some k→k≠g) (hg:V.grownBy V' v.ownBlock):Sx x w V' g cl :=
 h.kept ⟨hg.os,hg.tape,hg.output,hg.size,fun k hk=>hg.block k (hk.elim (fun hk=>by have:=h.bx.1;omega) (fun hk=>hk ▸ h.sz.1)) (fun e=>hk.elim (fun hk=>by have:=(ho.lt k e.symm).1;omega) (fun hk=>hne k e.symm hk))⟩
def Rw (w V:World) (g:Nat) (v:Value) (L:List Int):Prop:=V.ownsRow (w.heap.size+1) 5 1 v L.length (U L)∧∀ k,v.ownBlock=some k→k≠g
theorem Rw.keep {w V V':World} {g:Nat} {v:Value} {L:List Int} (h:Rw w V g v L) (hb:Below V.heap.size V V'):Rw w V' g v L:=⟨ownE_keep h.1 hb (Nat.le_refl _),h.2⟩
def SecOk (x:Mod) (n:Nat) (Z:List Int):Prop:=(Z=(if writ x n then secE x n else [])∨(65536<Z.length∧65536<(if writ x n then secE x n else []).length))∧Z.length≤(if writ x n then secE x n else []).length+20
theorem sec_end {x:Mod} {n:Nat} {Z:List Int} (h:SecOk x n Z) (hn:n≤11):(prE x n++Z++catE cusE (aftL n x.customs)=prE x (n+1))∨(65536<(prE x n++Z++catE cusE (aftL n x.customs)).length∧65536<(prE x 12).length):=by
 rcases h.1 with e | ⟨h1,h2⟩
 · left
   rw [e,prE,partE,List.append_assoc]
 · right
   refine ⟨by simp only [List.length_append];omega,?_⟩
   have:=prE_12 x (n+1) (by omega)
   rw [prE,partE] at this
   simp only [List.length_append] at this
   omega
theorem pfx_bound {x:Mod} {n k:Nat} (h1:1≤n) (h2:n≤11) (hs:0<szM x n) (hk:k≤szM x n):(pfx x n k).length≤(cntE x n).length∧(cntE x n).length≤(prE x 12).length:=by
 have e:=pfx_le x n k (szM x n-k)
 rw [show k+(szM x n-k)=szM x n by omega,pfx_full x n h1 h2 hs] at e
 refine ⟨e,?_⟩
 have hw:writ x n=true:=by rw [writ_sz x n h2];simpa using hs
 have:=prE_12 x (n+1) (by omega)
 rw [prE,partE,if_pos hw,secE,szE] at this
 simp only [List.length_append] at this
 omega
theorem sec_ok {x:Mod} {n k:Nat} (h1:1≤n) (h2:n≤11) (hs:0<szM x n) (hk:k≤szM x n) (hx:k=szM x n∨65536<(pfx x n k).length):SecOk x n ([(n:Int)%256]++szE (pfx x n k)):=by
 have hw:writ x n=true:=by rw [writ_sz x n h2];simpa using hs
 have hb:=(pfx_bound h1 h2 hs hk).1
 have l1:=(lebU_len 9 (pfx x n k).length).2
 have l2:=(lebU_len 9 (cntE x n).length).2
 unfold SecOk
 rw [if_pos hw,secE]
 refine ⟨?_,by simp only [szE,List.length_append,List.length_cons,List.length_nil];omega⟩
 rcases hx with e | e
 · subst e;left;rw [pfx_full x n h1 h2 hs]
 · right;simp only [szE,List.length_append,List.length_cons,List.length_nil];omega
theorem sec_none {x:Mod} {n:Nat} (h2:n≤11) (hs:¬ 0<szM x n):SecOk x n []:=by
 have hw:writ x n=false:=by rw [writ_sz x n h2];simpa using hs
 unfold SecOk
 rw [hw]
 simp
theorem szM_le {x:Mod} (h:x.Gd) {n:Nat}:szM x n≤1048576:=by
 unfold szM
 split
 · exact h.types.1
 · exact h.imps.1
 · exact h.funcs.1
 · exact h.tabs.1
 · exact h.mems.1
 · exact h.globs.1
 · exact h.exps.1
 · split <;> omega
 · exact h.elems.1
 · exact h.codes.1
 · exact h.datas.1
 · omega
theorem enc_short {x:Mod} (hw:wfB x=true) (h:65536<(prE x 12).length):encX x=[]:=by simp [encX,hw,h]
theorem enc_whole {x:Mod} (hw:wfB x=true) (h:(prE x 12).length≤65536):encX x=prE x 12:=by simp [encX,hw,show ¬ 65536<(prE x 12).length by omega]
theorem senc_c (x:Mod) (a1:Option Addr) (c1:Nat) (a2:Option Addr) (c2:Nat) (a3:Option Addr) (c3:Nat) (a4:Option Addr) (c4:Nat) (a5:Option Addr) (c5:Nat) (a6:Option Addr) (c6:Nat) (a7:Option Addr) (c7:Nat) (a8:Option Addr) (c8:Nat) (a9:Option Addr) (c9:Nat) (a10:Option Addr) (c10:Nat) (a11:Option Addr) (c11:Nat) (w:World) (hI:Mod.Is 0 w x a1 a2 a3 a4 a5 a6 a7 a8 a9 a10 a11) (hl:Mod.LB 1048576 x) (hp:x.Pos) (hG:wfB x=true→x.Gd) (hB:x.Byt) (hLn:x.Ln) (ht:(prE x 12).length≤400000000000) :
    Calls Tryz.prog 11 #[.agg #[.slice a1 x.types.length c1,.slice a2 x.imps.length c2,.slice a3 x.funcs.length c3,.slice a4 x.tabs.length c4,.slice a5 x.mems.length c5,.slice a6 x.globs.length c6,.slice a7 x.exps.length c7,.bool x.hasS,.int .i64 x.start,.slice a8 x.elems.length c8,.slice a9 x.codes.length c9,.slice a10 x.datas.length c10,.slice a11 x.customs.length c11]] w fun e w'=>∃ v,e=.returned v∧Out w w' v (encX x):=by
 obtain ⟨W,hWd⟩:∃ W,W=w.alloc (.cells #[.slice a1 x.types.length c1,.slice a2 x.imps.length c2,.slice a3 x.funcs.length c3,.slice a4 x.tabs.length c4,.slice a5 x.mems.length c5,.slice a6 x.globs.length c6,.slice a7 x.exps.length c7,.bool x.hasS,.int .i64 x.start,.slice a8 x.elems.length c8,.slice a9 x.codes.length c9,.slice a10 x.datas.length c10,.slice a11 x.customs.length c11] 46):=⟨_,rfl⟩
 have hBk:Bk W w.heap.size [.slice a1 x.types.length c1,.slice a2 x.imps.length c2,.slice a3 x.funcs.length c3,.slice a4 x.tabs.length c4,.slice a5 x.mems.length c5,.slice a6 x.globs.length c6,.slice a7 x.exps.length c7,.bool x.hasS,.int .i64 x.start,.slice a8 x.elems.length c8,.slice a9 x.codes.length c9,.slice a10 x.datas.length c10,.slice a11 x.customs.length c11]:=by rw [hWd];exact Bk.new
 have hWs:W.heap.size=w.heap.size+1:=by rw [hWd];simp
 have bW:Below w.heap.size w W:=by rw [hWd];exact (Below.refl _ _).alloc (Nat.le_refl _) _
 have KW:=Hm (swf_c x a1 c1 a2 c2 a3 c3 a4 c4 a5 c5 a6 c6 a7 c7 a8 c8 a9 c9 a10 c10 a11 c11 W (Mod.Is.up hI (up_below bW)) hl hp)
 rw [swf_eq] at KW
 have KZ:=Hm (fun V=>ssz_c x a1 c1 a2 c2 a3 c3 a4 c4 a5 c5 a6 c6 a7 c7 a8 c8 a9 c9 a10 c10 a11 c11 V hLn _ rfl)
 have HI:=Hm hI
 have HLB:=Hm hl
 have HBy:=Hm hB
 have HG:=Hm hG
 have HT:=Hm ht
 have T0:=Hm (And.intro hBk (And.intro hWs bW))
 have HW:=Hm hWd
 have q0:=hBk.2.1 0 _ rfl
 have q1:=hBk.2.1 1 _ rfl
 have q2:=hBk.2.1 2 _ rfl
 have q3:=hBk.2.1 3 _ rfl
 have q4:=hBk.2.1 4 _ rfl
 have q5:=hBk.2.1 5 _ rfl
 have q6:=hBk.2.1 6 _ rfl
 have q7:=hBk.2.1 7 _ rfl
 have q8:=hBk.2.1 8 _ rfl
 have q9:=hBk.2.1 9 _ rfl
 have q10:=hBk.2.1 10 _ rfl
 have q11:=hBk.2.1 11 _ rfl
 have q12:=hBk.2.1 12 _ rfl
 clear hI hl hp hG hB hLn ht hBk hWs bW hWd
 cases hwf:wfB x
 · rw [hwf] at KW
   have HE:Hid (encX x=[]):=by show _=_;simp [encX,hwf]
   clear hwf
   go_enter Tryz.func11,Tryz.ntmps11
   go_upto_region 1 with fail
   rw [← HW.out]
   clear HW
   go_wp2_with fail
   refine KW.out.mono ?_
   rintro e w1 ⟨rfl,hb⟩
   have B1:Hid (Below w.heap.size w w1):=T0.out.2.2.trans (hb.mono (by have:=T0.out.2.1;omega))
   clear hb KW T0 q0 q1 q2 q3 q4 q5 q6 q7 q8 q9 q10 q11 q12
   go_wp2
   go_ret
   refine ⟨_,rfl,?_,B1.out.alloc B1.out.size _⟩
   rw [HE.out]
   exact World.ownsRow_lit w1 #[] 0 B1.out.size (Nat.zero_le _) rfl
 · rw [hwf] at KW
   have HWF:=Hm hwf
   have HGd:=Hm (HG.out hwf)
   clear hwf HG
   go_enter Tryz.func11,Tryz.ntmps11
   go_upto_region 1 with fail
   rw [← HW.out]
   clear HW
   go_wp2_with fail
   refine KW.out.mono ?_
   rintro e w1 ⟨rfl,hb⟩
   obtain ⟨w2,hw2⟩:∃ w2,w2=w1.alloc (.cells #[.int .u8 0,.int .u8 97,.int .u8 115,.int .u8 109,.int .u8 1,.int .u8 0,.int .u8 0,.int .u8 0] 5):=⟨_,rfl⟩
   have b2:Below w1.heap.size w1 w2:=by rw [hw2];exact (Below.refl _ _).alloc (Nat.le_refl _) _
   have T1:Hid (Bk w2 w.heap.size [.slice a1 x.types.length c1,.slice a2 x.imps.length c2,.slice a3 x.funcs.length c3,.slice a4 x.tabs.length c4,.slice a5 x.mems.length c5,.slice a6 x.globs.length c6,.slice a7 x.exps.length c7,.bool x.hasS,.int .i64 x.start,.slice a8 x.elems.length c8,.slice a9 x.codes.length c9,.slice a10 x.datas.length c10,.slice a11 x.customs.length c11]∧Below w.heap.size w w2∧w2.ownsRow (w.heap.size+1) 5 1 (.slice (some ⟨w1.heap.size,0,none⟩) 8 8) headE.length (U headE)∧w.heap.size+1≤w1.heap.size∧w2.heap.size=w1.heap.size+1):=by
    obtain ⟨t1,t2,t3⟩:=T0.out
    have hz:w.heap.size+1≤w1.heap.size:=by have:=hb.size;omega
    refine ⟨(t1.keep hb).keep b2,(t3.trans (hb.mono (by omega))).trans (b2.mono (by omega)),?_,hz,by rw [hw2];simp⟩
    rw [hw2]
    exact World.ownsRow_lit (size:=1) (e:=5) w1 #[.int .u8 0,.int .u8 97,.int .u8 115,.int .u8 109,.int .u8 1,.int .u8 0,.int .u8 0,.int .u8 0] 8 hz (by decide) rfl
   have HW2:=Hm hw2
   have hq:=T1.out.1
   have q0:=hq.2.1 0 _ rfl
   have q1:=hq.2.1 1 _ rfl
   have q2:=hq.2.1 2 _ rfl
   have q3:=hq.2.1 3 _ rfl
   have q4:=hq.2.1 4 _ rfl
   have q5:=hq.2.1 5 _ rfl
   have q6:=hq.2.1 6 _ rfl
   have q7:=hq.2.1 7 _ rfl
   have q8:=hq.2.1 8 _ rfl
   have q9:=hq.2.1 9 _ rfl
   have q10:=hq.2.1 10 _ rfl
   have q11:=hq.2.1 11 _ rfl
   have q12:=hq.2.1 12 _ rfl
   have KZ2:=Hm (KZ.out w2)
   clear hb b2 hw2 hq KW T0 KZ
   go_upto_region 4 with fail
   rw [← HW2.out]
   clear HW2
   go_wp2_with fail
   refine KZ2.out.mono ?_
   rintro e w3 ⟨g,rfl,hg0,hbk,hb3⟩
   have T3:Hid (Sx x w w3 g [.slice a1 x.types.length c1,.slice a2 x.imps.length c2,.slice a3 x.funcs.length c3,.slice a4 x.tabs.length c4,.slice a5 x.mems.length c5,.slice a6 x.globs.length c6,.slice a7 x.exps.length c7,.bool x.hasS,.int .i64 x.start,.slice a8 x.elems.length c8,.slice a9 x.codes.length c9,.slice a10 x.datas.length c10,.slice a11 x.customs.length c11]∧Rw w w3 g (.slice (some ⟨w1.heap.size,0,none⟩) 8 8) headE):=by
    obtain ⟨t1,t2,t3,t4,t5⟩:=T1.out
    refine ⟨⟨t1.keep hb3,szAt_of rfl hbk,t2.trans (hb3.mono t2.size),by omega⟩,ownE_keep t3 hb3 (Nat.le_refl _),fun k hk=>?_⟩
    have hk':w1.heap.size=k:=by simpa [Value.ownBlock] using hk
    omega
   clear hg0 hbk hb3 T1 KZ2 q0 q1 q2 q3 q4 q5 q6 q7 q8 q9 q10 q11 q12
   go_wp2_with fail
   go_loopw [3,5,6] (fun v p s wr=>∃ n:Nat,n≤12∧s=.int .i64 n∧p=.int .i64 (cuN x.customs n:Int)∧Rw w wr g v (prE x n)∧Sx x w wr g [.slice a1 x.types.length c1,.slice a2 x.imps.length c2,.slice a3 x.funcs.length c3,.slice a4 x.tabs.length c4,.slice a5 x.mems.length c5,.slice a6 x.globs.length c6,.slice a7 x.exps.length c7,.bool x.hasS,.int .i64 x.start,.slice a8 x.elems.length c8,.slice a9 x.codes.length c9,.slice a10 x.datas.length c10,.slice a11 x.customs.length c11]∧(prE x n).length≤65536) (fun _ _ i _=>12-(intOf i).toNat)
   case atStart =>
    refine ⟨0,Nat.zero_le _,rfl,by rw [cuN_zero (wf_cus HWF.out)];rfl,T3.out.2,T3.out.1,by simp [prE,headE]⟩
   case round =>
    obtain ⟨n,hn,rfl,rfl,hrw,hsx,hle⟩:=hrel
    clear T3
    obtain ⟨Wo,hWo⟩:∃ Wo,Wo=wr:=⟨wr,rfl⟩
    subst hWo
    by_cases hlt:n≤11
    · have hni:(n:Int)≤11:=by omega
      have hqs:Wo.cell? ⟨g,n,none⟩=some (.int .i64 (szM x n:Int)):=hsx.sz.2 n hlt
      have HRW:=Hm hrw
      have HSX:=Hm hsx
      have HLE:=Hm hle
      clear hrw hsx hle
      go_upto_if 24 with fail
      go_cut [3,7,8] from 16 to 95 (fun s s7 s8 V=>∃ Z,SecOk x n Z∧Rw w V g s (prE x n++Z)∧Sx x w V g [.slice a1 x.types.length c1,.slice a2 x.imps.length c2,.slice a3 x.funcs.length c3,.slice a4 x.tabs.length c4,.slice a5 x.mems.length c5,.slice a6 x.globs.length c6,.slice a7 x.exps.length c7,.bool x.hasS,.int .i64 x.start,.slice a8 x.elems.length c8,.slice a9 x.codes.length c9,.slice a10 x.datas.length c10,.slice a11 x.customs.length c11])
      case first =>
       by_cases hz:0<szM x n
       · have hzb:decide (0<szM x n)=true:=by simpa using hz
         rw [hzb]
         clear hzb
         have HZ:=Hm hz
         have h1 : 1 ≤ n := by rcases Nat.eq_zero_or_pos n with e | e; · subst e; simp [szM] at hz
                               · exact e
         have hsm:szM x n≤1048576:=szM_le HGd.out
         have hwz:IntKind.u64.wrap (szM x n:Int)=(szM x n:Int):=by rw [IntKind.wrap_u64];omega
         have gR:g<Wo.heap.size:=HSX.out.sz.1
         clear hz
         go_upto_if 27 with fail
         go_cut [7] from 26 to 33 (fun s V=>V.ownsRow Wo.heap.size 5 1 s (pfx x n 0).length (U (pfx x n 0))∧Below Wo.heap.size Wo V)
         case first =>
          by_cases h8:n=8
          · have h8b:((n:Int) != 8)=false:=by rw [h8];rfl
            have HP:Hid (pfx x n 0=[]):=by show _=_;simp [pfx,h8]
            rw [h8b]
            clear h8 h8b
            go_wp2
            go_meet
            rw [HP.out]
            exact ⟨World.ownsRow_lit Wo #[] 0 (Nat.le_refl _) (Nat.zero_le _) rfl,(Below.refl _ _).alloc (Nat.le_refl _) _⟩
          · have h8b:((n:Int) != 8)=true:=by simp;omega
            have HP:Hid (pfx x n 0=lebU 9 (szM x n)):=by show _=_;simp [pfx,h8]
            rw [h8b]
            clear h8 h8b
            have hqs':(Wo.alloc (.cells #[] 5)).cell? ⟨g,n,none⟩=some (.int .i64 (szM x n:Int)):=(((Below.refl _ Wo).alloc (Nat.le_refl _) (.cells #[] 5)).cell (p:=⟨g,n,none⟩) gR).trans hqs
            have KP:=Hm (specPutU_any (szM x n:Int) (Wo.alloc (.cells #[] 5)) (by omega) (by omega))
            go_wp2_with fail
            refine KP.out.mono ?_
            rintro e V ⟨v7,rfl,ho7,hb7⟩
            have HO7:=Hm (And.intro (ownE_down ho7 (show Wo.heap.size≤(Wo.alloc (.cells #[] 5)).heap.size by simp)) (((Below.refl Wo.heap.size Wo).alloc (Nat.le_refl _) (.cells #[] 5)).trans (hb7.mono (by simp))))
            clear ho7 hb7 KP hqs'
            go_wp2
            go_meet
            rw [HP.out]
            exact HO7.out
         case rest =>
          obtain ⟨ho0,hb0⟩:=hcut
          have T4:=Hm (And.intro ho0 hb0)
          clear ho0 hb0
          obtain ⟨i0,hi0,hz0,hz1,hz2⟩:=info_parts Tryz.info5
          go_wp2_with fail
          go_loopw [7,8] (fun v i V=>∃ k:Nat,k≤szM x n∧i=.int .i64 k∧V.ownsRow Wo.heap.size 5 1 v (pfx x n k).length (U (pfx x n k))∧Below Wo.heap.size Wo V) (fun _ i _=>szM x n-(intOf i).toNat)
          case atStart=>exact ⟨0,Nat.zero_le _,rfl,T4.out.1,T4.out.2⟩
          case round =>
           obtain ⟨k,hk,rfl,ho,hb⟩:=hrel
           clear T4 hqs
           have hsx2:Sx x w wr g [.slice a1 x.types.length c1,.slice a2 x.imps.length c2,.slice a3 x.funcs.length c3,.slice a4 x.tabs.length c4,.slice a5 x.mems.length c5,.slice a6 x.globs.length c6,.slice a7 x.exps.length c7,.bool x.hasS,.int .i64 x.start,.slice a8 x.elems.length c8,.slice a9 x.codes.length c9,.slice a10 x.datas.length c10,.slice a11 x.customs.length c11]:=HSX.out.low hb gR
           have hqs:wr.cell? ⟨g,n,none⟩=some (.int .i64 (szM x n:Int)):=hsx2.sz.2 n hlt
           have HRW2:Hid (Rw w wr g u3 (prE x n)):=⟨ownE_keep HRW.out.1 hb (Nat.le_refl _),HRW.out.2⟩
           have HSX2:=Hm hsx2
           have hbx:=hsx2.bx
           have q0:=hbx.2.1 0 _ rfl
           have q1:=hbx.2.1 1 _ rfl
           have q2:=hbx.2.1 2 _ rfl
           have q3:=hbx.2.1 3 _ rfl
           have q4:=hbx.2.1 4 _ rfl
           have q5:=hbx.2.1 5 _ rfl
           have q6:=hbx.2.1 6 _ rfl
           have q7:=hbx.2.1 7 _ rfl
           have q8:=hbx.2.1 8 _ rfl
           have q9:=hbx.2.1 9 _ rfl
           have q10:=hbx.2.1 10 _ rfl
           have q11:=hbx.2.1 11 _ rfl
           have q12:=hbx.2.1 12 _ rfl
           have HO:=Hm ho
           have HBk:=Hm hb
           obtain ⟨b7,d7,e7,hs7⟩:=own_srcC ho
           subst e7
           have HS7:=Hm hs7
           clear ho hb hsx2 hbx hs7
           by_cases hlt2:k<szM x n
           · by_cases hlen:(pfx x n k).length≤65536
             · have hbd:=pfx_bound (k:=k+1) h1 hlt HZ.out hlt2
               have hT:=HT.out
               have HPS:=Hm (pfx_step x n k)
               rw [HPS.out,List.length_append] at hbd
               have KE:=Hm (s5ent_c x a1 c1 a2 c2 a3 c3 a4 c4 a5 c5 a6 c6 a7 c7 a8 c8 a9 c9 a10 c10 a11 c11 w wr HSX2.out.lo HI.out HGd.out HLB.out HBy.out n k h1 hlt hlt2 (by omega))
               have t1:(k:Int)<(szM x n:Int):=by omega
               have t2:((pfx x n k).length:Int)≤65536:=by omega
               have hWr:Wo.heap.size≤wr.heap.size:=HBk.out.size
               have hk1:k+1≤szM x n:=hlt2
               have hlE:(pfx x n k).length+(entE x n k).length≤400000000000:=by omega
               clear hbd hT hlt2 hlen
               generalize entE x n k=E at *
               generalize pfx x n k=P at *
               go_wp2_with fail
               refine KE.out.mono ?_
               rintro e V9 ⟨v9,rfl,ho9,hb9'⟩
               obtain ⟨a9,c9',rfl,hs9⟩:=own_srcC ho9
               have S9:=Hm hs9
               have R9:=Hm (ownE_keep HO.out hb9' (Nat.le_refl _))
               have B9:=Hm (HBk.out.trans (hb9'.mono HBk.out.size))
               have hz9:=B9.out.size
               clear ho9 hb9' hs9 KE q0 q1 q2 q3 q4 q5 q6 q7 q8 q9 q10 q11 q12
               go_wp2_with (at_builtin;refine wpList_append_any rfl _ _ 50 rfl Wo.heap.size 5 i0 (.int .u8 0) 1 1 Tryz.underlying50 hi0 hz0 hz1 hz2 rfl (by decide) _ P.length (U P) rfl R9.out a9 E.length c9' (U E) rfl (by simp) S9.out (oneU _) (by unfold maxLen;omega) (by omega) hz9 ?_;intro v8 w8 own8 gr8 hloc8;have O8:=Hm (And.intro own8 (below_own B9.out hz9 R9.out gr8));clear own8 gr8 hloc8)
               go_roundw
               case rel =>
                refine ⟨k+1,hk1,by go_num,?_,O8.out.2⟩
                rw [HPS.out,List.length_append,show U (P++E)=U P++U E by simp [U]]
                exact O8.out.1
               case measure=>simp [intOf];omega
             · have KS:=Hm (s5sec_c (n:Int) (pfx x n k) b7 d7 wr (fun w' hb'=>HS7.out.on hb') (by have:=(pfx_bound (k:=k) h1 hlt HZ.out hk);have:=HT.out;omega))
               have hb9:=(pfx_bound (k:=k) h1 hlt HZ.out hk)
               have hT:=HT.out
               have HS9:Hid (SecOk x n ([(n:Int)%256]++szE (pfx x n k))):=sec_ok h1 hlt HZ.out hk (.inr (by omega))
               have hl9:([(n:Int)%256]++szE (pfx x n k)).length≤400000000020:=by have:=HS9.out.2;have:=(lebU_len 9 (pfx x n k).length).2;simp only [szE,List.length_append,List.length_cons,List.length_nil];omega
               have hle9:=HLE.out
               generalize [(n:Int)%256]++szE (pfx x n k)=Z at *
               generalize pfx x n k=P at *
               generalize hprE:prE x n=X at *
               have t1:(k:Int)<(szM x n:Int):=by omega
               have t2:¬ (P.length:Int)≤65536:=by omega
               clear hlt2 hlen
               go_wp2_with fail
               refine KS.out.mono ?_
               rintro e V9 ⟨v9,rfl,ho9,hb9'⟩
               obtain ⟨a9,c9,rfl,hs9⟩:=own_srcC ho9
               have S9:=Hm hs9
               have R9:=Hm (HRW2.out.keep hb9')
               have X9:=Hm (HSX2.out.keep hb9')
               have hz9:w.heap.size+1≤V9.heap.size:=X9.out.bx.1
               clear ho9 hb9' hs9 KS
               go_wp2_with (at_builtin;refine wpList_append_any rfl _ _ 50 rfl (w.heap.size+1) 5 i0 (.int .u8 0) 1 1 Tryz.underlying50 hi0 hz0 hz1 hz2 rfl (by decide) _ X.length (U X) rfl R9.out.1 a9 Z.length c9 (U Z) rfl (by simp) S9.out (oneU _) (by unfold maxLen;omega) (by omega) hz9 ?_;intro v8 w8 own8 gr8 hloc8;have O8:=Hm (And.intro own8 (And.intro (X9.out.own R9.out.1 R9.out.2 gr8) hloc8));clear own8 gr8 hloc8)
               go_meet
               refine ⟨Z,HS9.out,⟨?_,fun kk hkk=>?_⟩,O8.out.2.1⟩
               · rw [List.length_append,U_app]
                 exact O8.out.1
               · rcases O8.out.2.2 with e | e
                 · rw [e] at hkk;exact R9.out.2 kk hkk
                 · rw [e] at hkk;cases hkk;have:=X9.out.sz.1;omega
           · have KS:=Hm (s5sec_c (n:Int) (pfx x n k) b7 d7 wr (fun w' hb'=>HS7.out.on hb') (by have:=(pfx_bound (k:=k) h1 hlt HZ.out hk);have:=HT.out;omega))
             have hb9:=(pfx_bound (k:=k) h1 hlt HZ.out hk)
             have hT:=HT.out
             have HS9:Hid (SecOk x n ([(n:Int)%256]++szE (pfx x n k))):=sec_ok h1 hlt HZ.out hk (.inl (by omega))
             have hl9:([(n:Int)%256]++szE (pfx x n k)).length≤400000000020:=by have:=HS9.out.2;have:=(lebU_len 9 (pfx x n k).length).2;simp only [szE,List.length_append,List.length_cons,List.length_nil];omega
             have hle9:=HLE.out
             generalize [(n:Int)%256]++szE (pfx x n k)=Z at *
             generalize pfx x n k=P at *
             generalize hprE:prE x n=X at *
             have t1:¬ (k:Int)<(szM x n:Int):=by omega
             clear hlt2
             go_wp2_with fail
             refine KS.out.mono ?_
             rintro e V9 ⟨v9,rfl,ho9,hb9'⟩
             obtain ⟨a9,c9,rfl,hs9⟩:=own_srcC ho9
             have S9:=Hm hs9
             have R9:=Hm (HRW2.out.keep hb9')
             have X9:=Hm (HSX2.out.keep hb9')
             have hz9:w.heap.size+1≤V9.heap.size:=X9.out.bx.1
             clear ho9 hb9' hs9 KS
             go_wp2_with (at_builtin;refine wpList_append_any rfl _ _ 50 rfl (w.heap.size+1) 5 i0 (.int .u8 0) 1 1 Tryz.underlying50 hi0 hz0 hz1 hz2 rfl (by decide) _ X.length (U X) rfl R9.out.1 a9 Z.length c9 (U Z) rfl (by simp) S9.out (oneU _) (by unfold maxLen;omega) (by omega) hz9 ?_;intro v8 w8 own8 gr8 hloc8;have O8:=Hm (And.intro own8 (And.intro (X9.out.own R9.out.1 R9.out.2 gr8) hloc8));clear own8 gr8 hloc8)
             go_meet
             refine ⟨Z,HS9.out,⟨?_,fun kk hkk=>?_⟩,O8.out.2.1⟩
             · rw [List.length_append,U_app]
               exact O8.out.1
             · rcases O8.out.2.2 with e | e
               · rw [e] at hkk;exact R9.out.2 kk hkk
               · rw [e] at hkk;cases hkk;have:=X9.out.sz.1;omega
       · have hzb:decide (0<szM x n)=false:=by simpa using hz
         have HZ:=Hm (sec_none hlt hz)
         rw [hzb]
         clear hz hzb hqs
         go_wp2
         go_meet
         exact ⟨[],HZ.out,by rw [List.append_nil];exact HRW.out,HSX.out⟩
      case rest =>
       obtain ⟨Z,hZ,hrw2,hsx3⟩:=hcut
       have HZk:=Hm hZ
       have HCU:=Hm (wf_cus HWF.out)
       have T5:=Hm (And.intro hrw2 hsx3)
       clear hZ hrw2 hsx3 HRW HSX hqs
       go_wp2_with fail
       go_loopw [3,5] (fun v p V=>∃ j:Nat,j≤(aftL n x.customs).length∧p=.int .i64 ((cuN x.customs n+j:Nat):Int)∧Rw w V g v (prE x n++Z++catE cusE ((aftL n x.customs).take j))∧Sx x w V g [.slice a1 x.types.length c1,.slice a2 x.imps.length c2,.slice a3 x.funcs.length c3,.slice a4 x.tabs.length c4,.slice a5 x.mems.length c5,.slice a6 x.globs.length c6,.slice a7 x.exps.length c7,.bool x.hasS,.int .i64 x.start,.slice a8 x.elems.length c8,.slice a9 x.codes.length c9,.slice a10 x.datas.length c10,.slice a11 x.customs.length c11]) (fun _ p _=>cuN x.customs n+(aftL n x.customs).length-(intOf p).toNat)
       case atStart=>exact ⟨0,Nat.zero_le _,rfl,by simpa [catE] using T5.out.1,T5.out.2⟩
       case round =>
        obtain ⟨j,hj,rfl,hrw,hsx⟩:=hrel
        clear T5
        have hbx:=hsx.bx
        have q12:=hbx.2.1 12 _ rfl
        have HSX:=Hm hsx
        have HRW:=Hm hrw
        clear hbx hsx
        by_cases hjl:j<(aftL n x.customs).length
        · have hAx:=cu_at HCU.out n j hjl
          obtain ⟨hq,hqe,hqa⟩:=hAx
          have hall:(prE x n).length+(if writ x n then secE x n else []).length+(catE cusE (aftL n x.customs)).length≤400000000000:=by
           have:=prE_12 x (n+1) (by omega)
           rw [prE,partE] at this
           simp only [List.length_append] at this
           have:=HT.out;omega
          have hcl:=catE_le cusE (aftL n x.customs) (j+1)
          have HCS:=Hm (catE_step cusE Cus.z (aftL n x.customs) j hjl)
          rw [HCS.out,List.length_append,← hqe] at hcl
          have hZl:=HZk.out.2
          have hnz:=HLB.out.2.2.2.2.2.2.2.2.2.2.2 (cuN x.customs n+j) hq
          rcases HI.out.2.2.2.2.2.2.2.2.2.2 with hx | ⟨b,off,ea,_,hc⟩
          · rw [hx] at hq;simp at hq
          obtain ⟨ba,bc,⟨d0,d1,d2⟩,hi1⟩:=hc (cuN x.customs n+j) hq
          have lb:b<w.heap.size:=World.block_lt_of_cell? w _ d0
          have hlo:=HSX.out.lo
          have d0:=(hlo.cell (p:=⟨b,off+(cuN x.customs n+j)*3,none⟩) lb).trans d0
          have d1:=(hlo.cell (p:=⟨b,off+(cuN x.customs n+j)*3+1,none⟩) lb).trans d1
          have d2:=(hlo.cell (p:=⟨b,off+(cuN x.customs n+j)*3+2,none⟩) lb).trans d2
          rw [hqa] at d0
          rw [← hqe] at HCS
          have HAD:Hid ((cuN x.customs n+(j+1):Nat)=(cuN x.customs n+j)+1):=by show _=_;omega
          have hjm:j+1≤(aftL n x.customs).length:=hjl
          have HMS:Hid (cuN x.customs n+(aftL n x.customs).length-(cuN x.customs n+j+1)<cuN x.customs n+(aftL n x.customs).length-(cuN x.customs n+j)):=by show _<_;omega
          subst ea
          clear hqe hqa hc
          generalize x.customs.getD (cuN x.customs n+j) Cus.z=y at *
          have HQ0:Hid (∃ q,q=cuN x.customs n+j):=⟨_,rfl⟩
          generalize cuN x.customs n+j=q at *
          have hqi:(q:Int)<(x.customs.length:Int):=by omega
          have hc20:x.customs.length≤1048576:=HLB.out.2.2.2.2.2.2.2.2.2.2.1
          have hpl:(prE x n++Z++catE cusE ((aftL n x.customs).take j)).length+(cusE y).length≤500000000000:=by simp only [List.length_append] at hcl⊢;omega
          have hyl:(nmE y.nm++y.bs).length≤400000000000:=by have h2:=hnz.2;have h3:=nm_le y.nm hnz.1;rw [List.length_append];omega
          have hyl2:(nmE y.nm).length+y.bs.length≤400000000000:=by rw [List.length_append] at hyl;exact hyl
          have HRE:Hid ([(0:Int)%256]++szE (nmE y.nm++y.bs)=cusE y):=by show _=_;rw [cusE,cusI]
          have hpl2:(prE x n++Z++catE cusE ((aftL n x.customs).take j)).length+([(0:Int)%256]++szE (nmE y.nm++y.bs)).length≤500000000000:=by rw [HRE.out];exact hpl
          have HPR:Hid (prE x n++Z++catE cusE ((aftL n x.customs).take j)++cusE y=prE x n++Z++catE cusE ((aftL n x.customs).take (j+1))):=by show _=_;rw [HCS.out];simp [List.append_assoc]
          generalize prE x n++Z++catE cusE ((aftL n x.customs).take j)=pre at *
          have hn1:y.nm.size≤1048576:=hnz.1
          have hbS:b<w.heap.size+1:=by omega
          have HRS:Hid (∀ k,(k<w.heap.size+1∨k=g)→k<wr.heap.size):=fun k hk=>hk.elim (fun hk=>by have:=HSX.out.bx.1;omega) (fun hk=>hk ▸ HSX.out.sz.1)
          have HRB:Hid (w.heap.size+1≤wr.heap.size):=HSX.out.bx.1
          have HRO:=Hm HRW.out.1
          have HRK:Hid (∀ k,u3.ownBlock=some k→¬ (k<w.heap.size+1∨k=g)):=fun k hk hh=>hh.elim (fun hh=>by have:=(HRW.out.1.lt k hk).1;omega) (fun hh=>HRW.out.2 k hk hh)
          have HI1:=Hm hi1
          have HLO:=Hm hlo
          clear hi1 hlo hcl hall hZl hnz lb hq hjl hrw HRW
          go_upto_region 19 with fail
          refine rg_one (t:=50) (N:=97) (base:=(w.heap.size+1)) (slots:=[73,74,75,76,77,78,79,80,81,82,83,84,85,86,87,88,89,3,3]) (gs:=[.row (pre),.val (.pointer (some ⟨w.heap.size,12,none⟩)),.val (.slice (some ⟨b,off,none⟩) x.customs.length c11),.val (.int .i64 (q:Int)),.val (.pointer (some ⟨b,off+q*3,none⟩)),.val (.pointer (some ⟨b,off+q*3+1,none⟩)),.val (.string y.nm),.row (nmE y.nm),.val (.pointer (some ⟨w.heap.size,12,none⟩)),.val (.slice (some ⟨b,off,none⟩) x.customs.length c11),.val (.int .i64 (q:Int)),.val (.pointer (some ⟨b,off+q*3,none⟩)),.val (.pointer (some ⟨b,off+q*3+2,none⟩)),.val (.slice ba y.bs.length bc),.row ((nmE y.nm++y.bs)),.row (([(0:Int)%256]++szE (nmE y.nm++y.bs))),.row ((pre++([(0:Int)%256]++szE (nmE y.nm++y.bs)))),.row ((pre++([(0:Int)%256]++szE (nmE y.nm++y.bs)))),.row (pre)]) (uses:=[some 16,none,none,none,none,none,none,some 14,none,none,none,none,none,none,some 15,some 16,some 17,none,some 0]) (S:=(fun k=>k<w.heap.size+1∨k=g)) 3 (pre) (by kernel_rfl) Tryz.underlying50 Tryz.info5 (by kernel_rfl) rfl rfl rfl rfl HRS.out HRB.out HRO.out HRK.out ?_ ?_
          · refine AllSteps.cons ?_ ?_
            · refine .mv 18 (pre) (show 18<19 by decide) rfl rfl rfl (.inl (Nat.le_refl _)) (fun a W_ f=>?_)
              clear f
              go_simp
              try rfl
            refine AllSteps.cons ?_ ?_
            · refine .pure (.pointer (some ⟨w.heap.size,12,none⟩)) rfl (fun a W_ f=>?_)
              have e1:=fx_sm' f 1 _ (by kernel_rfl) rfl
              clear f
              go_simp
              try rfl
            refine AllSteps.cons ?_ ?_
            · refine .pure (.slice (some ⟨b,off,none⟩) x.customs.length c11) rfl (fun a W_ f=>?_)
              have e74:=fx_va' f 1 74 _ rfl (by kernel_rfl) (by kernel_rfl) rfl
              have hc:=(f.kp.cell (Or.inl (Nat.lt_succ_self _))).trans q12
              clear f
              go_simp
              try rfl
            refine AllSteps.cons ?_ ?_
            · refine .pure (.int .i64 (q:Int)) rfl (fun a W_ f=>?_)
              have e5:=fx_sm' f 5 _ (by kernel_rfl) rfl
              clear f
              go_simp
              try rfl
            refine AllSteps.cons ?_ ?_
            · refine .pure (.pointer (some ⟨b,off+q*3,none⟩)) rfl (fun a W_ f=>?_)
              have e75:=fx_va' f 2 75 _ rfl (by kernel_rfl) (by kernel_rfl) rfl
              have e76:=fx_va' f 3 76 _ rfl (by kernel_rfl) (by kernel_rfl) rfl
              clear f
              go_simp
              try rfl
            refine AllSteps.cons ?_ ?_
            · refine .pure (.pointer (some ⟨b,off+q*3+1,none⟩)) rfl (fun a W_ f=>?_)
              have e77:=fx_va' f 4 77 _ rfl (by kernel_rfl) (by kernel_rfl) rfl
              clear f
              go_simp
              try rfl
            refine AllSteps.cons ?_ ?_
            · refine .pure (.string y.nm) rfl (fun a W_ f=>?_)
              have e78:=fx_va' f 5 78 _ rfl (by kernel_rfl) (by kernel_rfl) rfl
              have hc:=(f.kp.cell (Or.inl hbS)).trans d1
              clear f
              go_simp
              try rfl
            refine AllSteps.cons ?_ ?_
            · refine .mk (nmE y.nm) rfl (fun a W_ K Q f hK=>?_)
              have e79:=fx_va' f 6 79 _ rfl (by kernel_rfl) (by kernel_rfl) rfl
              refine mk_call (by clear hK f;go_simp;try rfl) (s5name_c y.nm W_ hn1) hK
            refine AllSteps.cons ?_ ?_
            · refine .pure (.pointer (some ⟨w.heap.size,12,none⟩)) rfl (fun a W_ f=>?_)
              have e1:=fx_sm' f 1 _ (by kernel_rfl) rfl
              clear f
              go_simp
              try rfl
            refine AllSteps.cons ?_ ?_
            · refine .pure (.slice (some ⟨b,off,none⟩) x.customs.length c11) rfl (fun a W_ f=>?_)
              have e81:=fx_va' f 8 81 _ rfl (by kernel_rfl) (by kernel_rfl) rfl
              have hc:=(f.kp.cell (Or.inl (Nat.lt_succ_self _))).trans q12
              clear f
              go_simp
              try rfl
            refine AllSteps.cons ?_ ?_
            · refine .pure (.int .i64 (q:Int)) rfl (fun a W_ f=>?_)
              have e5:=fx_sm' f 5 _ (by kernel_rfl) rfl
              clear f
              go_simp
              try rfl
            refine AllSteps.cons ?_ ?_
            · refine .pure (.pointer (some ⟨b,off+q*3,none⟩)) rfl (fun a W_ f=>?_)
              have e82:=fx_va' f 9 82 _ rfl (by kernel_rfl) (by kernel_rfl) rfl
              have e83:=fx_va' f 10 83 _ rfl (by kernel_rfl) (by kernel_rfl) rfl
              clear f
              go_simp
              try rfl
            refine AllSteps.cons ?_ ?_
            · refine .pure (.pointer (some ⟨b,off+q*3+2,none⟩)) rfl (fun a W_ f=>?_)
              have e84:=fx_va' f 11 84 _ rfl (by kernel_rfl) (by kernel_rfl) rfl
              clear f
              go_simp
              try rfl
            refine AllSteps.cons ?_ ?_
            · refine .pure (.slice ba y.bs.length bc) rfl (fun a W_ f=>?_)
              have e85:=fx_va' f 12 85 _ rfl (by kernel_rfl) (by kernel_rfl) rfl
              have hc:=(f.kp.cell (Or.inl hbS)).trans d2
              clear f
              go_simp
              try rfl
            refine AllSteps.cons ?_ ?_
            · exact .apps 7 13 (nmE y.nm) (y.bs) (ba) (bc) (show 7<19 by decide) (show 13<19 by decide) rfl rfl rfl rfl (.inr (by kernel_rfl)) (.inr (by kernel_rfl)) (by omega) (fun V hk=>src_of (HI1.out.up (up_below (HLO.out.trans (hk.weak (fun k (h:k<w.heap.size)=>Or.inl (Nat.lt_succ_of_lt h))).below)))) rfl
            refine AllSteps.cons ?_ ?_
            · refine .mkr 14 ((nmE y.nm++y.bs)) (([(0:Int)%256]++szE (nmE y.nm++y.bs))) (show 14<19 by decide) rfl rfl rfl (.inr (by kernel_rfl)) (fun a W_ K Q f aj cj ej hsj hK=>?_)
              have e87:a.tmps[87]?.getD undef=.slice aj ((nmE y.nm++y.bs)).length cj:=(ev_tmp a 87).symm.trans ej
              refine mk_call (by clear hK f hsj ej;go_simp;try rfl) (s5sec_c 0 (nmE y.nm++y.bs) aj cj W_ hsj hyl) hK
            refine AllSteps.cons ?_ ?_
            · exact .app 0 15 (pre) (([(0:Int)%256]++szE (nmE y.nm++y.bs))) (show 0<19 by decide) (show 15<19 by decide) (by decide) rfl rfl rfl rfl rfl (.inr (by kernel_rfl)) (.inr (by kernel_rfl)) (by omega) rfl
            refine AllSteps.cons ?_ ?_
            · refine .mv 16 ((pre++([(0:Int)%256]++szE (nmE y.nm++y.bs)))) (show 16<19 by decide) rfl rfl rfl (.inr (by kernel_rfl)) (fun a W_ f=>?_)
              clear f
              go_simp
              try rfl
            exact AllSteps.nil
          · intro a V F
            have FR:V.ownsRow (w.heap.size+1) 5 1 (a.eval (.tmp 3)) ((pre++([(0:Int)%256]++szE (nmE y.nm++y.bs)))).length (U ((pre++([(0:Int)%256]++szE (nmE y.nm++y.bs)))))∧∀ k,(a.eval (.tmp 3)).ownBlock=some k→¬ (k<w.heap.size+1∨k=g):=F.ro 17 _ (show 17<19 by decide) rfl rfl
            have FS:=HSX.out.kept F.kp
            have ea:=fin_act F [73,74,75,76,77,78,79,80,81,82,83,84,85,86,87,88,89,3] (by kernel_rfl) rfl (show 18≤19 by decide)
            obtain ⟨y73,e73⟩:∃ y,a.eval (.tmp 73)=y:=⟨_,rfl⟩
            obtain ⟨y74,e74⟩:∃ y,a.eval (.tmp 74)=y:=⟨_,rfl⟩
            obtain ⟨y75,e75⟩:∃ y,a.eval (.tmp 75)=y:=⟨_,rfl⟩
            obtain ⟨y76,e76⟩:∃ y,a.eval (.tmp 76)=y:=⟨_,rfl⟩
            obtain ⟨y77,e77⟩:∃ y,a.eval (.tmp 77)=y:=⟨_,rfl⟩
            obtain ⟨y78,e78⟩:∃ y,a.eval (.tmp 78)=y:=⟨_,rfl⟩
            obtain ⟨y79,e79⟩:∃ y,a.eval (.tmp 79)=y:=⟨_,rfl⟩
            obtain ⟨y80,e80⟩:∃ y,a.eval (.tmp 80)=y:=⟨_,rfl⟩
            obtain ⟨y81,e81⟩:∃ y,a.eval (.tmp 81)=y:=⟨_,rfl⟩
            obtain ⟨y82,e82⟩:∃ y,a.eval (.tmp 82)=y:=⟨_,rfl⟩
            obtain ⟨y83,e83⟩:∃ y,a.eval (.tmp 83)=y:=⟨_,rfl⟩
            obtain ⟨y84,e84⟩:∃ y,a.eval (.tmp 84)=y:=⟨_,rfl⟩
            obtain ⟨y85,e85⟩:∃ y,a.eval (.tmp 85)=y:=⟨_,rfl⟩
            obtain ⟨y86,e86⟩:∃ y,a.eval (.tmp 86)=y:=⟨_,rfl⟩
            obtain ⟨y87,e87⟩:∃ y,a.eval (.tmp 87)=y:=⟨_,rfl⟩
            obtain ⟨y88,e88⟩:∃ y,a.eval (.tmp 88)=y:=⟨_,rfl⟩
            obtain ⟨y89,e89⟩:∃ y,a.eval (.tmp 89)=y:=⟨_,rfl⟩
            obtain ⟨y3,e3⟩:∃ y,a.eval (.tmp 3)=y:=⟨_,rfl⟩
            rw [e3,HRE.out,HPR.out] at FR
            simp only [List.foldl_cons,List.foldl_nil,e73,e74,e75,e76,e77,e78,e79,e80,e81,e82,e83,e84,e85,e86,e87,e88,e89,e3] at ea
            have FX:=Hm (And.intro FR FS)
            clear FR FS F e73 e74 e75 e76 e77 e78 e79 e80 e81 e82 e83 e84 e85 e86 e87 e88 e89 e3
            subst ea
            clear HRO HRK HRS HRB q12 d0 d1 d2 HI1 HLO
            go_wp2
            go_roundw
            case rel =>
             refine ⟨j+1,hjm,by rw [HAD.out];go_num,⟨FX.out.1.1,fun k hk e=>FX.out.1.2 k hk (.inr e)⟩,FX.out.2⟩
            case measure=>have:=HMS.out;simp [intOf];omega
        · have e:j=(aftL n x.customs).length:=by omega
          subst e
          rw [List.take_length] at hrw
          have hend:=sec_end HZk.out hlt
          have HCN:=Hm (cuN_step HCU.out n)
          have HEE:=Hm (cu_end HCU.out n)
          have HSH:=Hm (enc_short HWF.out)
          clear hj hjl HRW
          generalize prE x n++Z++catE cusE (aftL n x.customs)=Y at *
          have HND:=Hm hend
          have HRW:=Hm hrw
          obtain ⟨b3,d3,e3,hs3⟩:=own_srcC hrw.1
          subst e3
          clear hs3 hrw hend
          generalize cuN x.customs n+(aftL n x.customs).length=q at *
          by_cases hq:q<x.customs.length
          · have haf:=HEE.out hq
            rcases HI.out.2.2.2.2.2.2.2.2.2.2 with hx | ⟨b,off,ea,_,hc⟩
            · rw [hx] at hq;simp at hq
            obtain ⟨ba,bc,⟨d0,d1,d2⟩,hi1⟩:=hc q hq
            have lb:b<w.heap.size:=World.block_lt_of_cell? w _ d0
            have d0:=(HSX.out.lo.cell (p:=⟨b,off+q*3,none⟩) lb).trans d0
            subst ea
            clear d1 d2 hi1 hc
            generalize (x.customs.getD q Cus.z).aft=ya at *
            have haf2:(ya==(n:Int))=false:=by simpa using haf
            have hqi:(q:Int)<(x.customs.length:Int):=by omega
            clear haf hq
            by_cases hY:65536<Y.length
            · have hYi:(65536:Int)<(Y.length:Int):=by omega
              have HEN:Hid (encX x=[]):=by
               rcases HND.out with e | e
               · refine HSH.out ?_
                 have:=prE_12 x (n+1) (by omega)
                 rw [← e] at this
                 omega
               · exact HSH.out e.2
              clear hY
              go_wp2
              go_ret
              refine ⟨_,rfl,?_,HSX.out.lo.alloc HSX.out.lo.size _⟩
              rw [HEN.out]
              exact World.ownsRow_lit wr #[] 0 HSX.out.lo.size (Nat.zero_le _) rfl
            · have hYi:¬ (65536:Int)<(Y.length:Int):=by omega
              have HYE:Hid (Y=prE x (n+1)):=by
               rcases HND.out with e | e
               · exact e
               · exact absurd e.1 hY
              have HYL:Hid (Y.length≤65536):=by show _≤_;omega
              have hn1:n+1≤12:=by omega
              clear hY
              go_wp2
              go_roundw
              case rel =>
               refine ⟨n+1,hn1,by go_num,by rw [HCN.out],?_,HSX.out,?_⟩
               · rw [← HYE.out];exact HRW.out
               · rw [← HYE.out];exact HYL.out
              case measure=>simp [intOf];omega
          · have hqi:¬ (q:Int)<(x.customs.length:Int):=by omega
            clear hq
            by_cases hY:65536<Y.length
            · have hYi:(65536:Int)<(Y.length:Int):=by omega
              have HEN:Hid (encX x=[]):=by
               rcases HND.out with e | e
               · refine HSH.out ?_
                 have:=prE_12 x (n+1) (by omega)
                 rw [← e] at this
                 omega
               · exact HSH.out e.2
              clear hY
              go_wp2
              go_ret
              refine ⟨_,rfl,?_,HSX.out.lo.alloc HSX.out.lo.size _⟩
              rw [HEN.out]
              exact World.ownsRow_lit wr #[] 0 HSX.out.lo.size (Nat.zero_le _) rfl
            · have hYi:¬ (65536:Int)<(Y.length:Int):=by omega
              have HYE:Hid (Y=prE x (n+1)):=by
               rcases HND.out with e | e
               · exact e
               · exact absurd e.1 hY
              have HYL:Hid (Y.length≤65536):=by show _≤_;omega
              have hn1:n+1≤12:=by omega
              clear hY
              go_wp2
              go_roundw
              case rel =>
               refine ⟨n+1,hn1,by go_num,by rw [HCN.out],?_,HSX.out,?_⟩
               · rw [← HYE.out];exact HRW.out
               · rw [← HYE.out];exact HYL.out
              case measure=>simp [intOf];omega
    · have e:n=12:=by omega
      subst e
      have HE:Hid (encX x=prE x 12):=enc_whole HWF.out hle
      have HO:=Hm (And.intro hrw hsx)
      clear hrw hsx hle
      go_wp2
      go_ret
      refine ⟨_,rfl,?_,HO.out.2.lo⟩
      rw [HE.out]
      exact ownE_down HO.out.1.1 (by omega)
end Go.Proofs.YtdbmolambolmgaaGreat
