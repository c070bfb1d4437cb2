import Derived.Test.YtipfjdogokanbaaGreatDoorGaa
import Derived.Test.YtipfjdogokanbaaGreatDoorGbf
import Derived.Test.YtipfjdogokanbaaGreatDoorGaf
import Derived.Defers
import Derived.Recover
import Derived.Laws.Pointers
import Derived.Laws.EntriesVeiled
import Derived.Deep.WholeRow
import Derived.Laws.Tables
set_option linter.all false
set_option maxHeartbeats 400000000
set_option maxRecDepth 100000
set_option linter.all false
namespace Go.Proofs.YtipfjdogokanbaaGreatDoor.Ed
open Go.RowKit Go.Sort
theorem rins_c (q:Nat)(ba:Option Addr)(bc:Nat)(bs:List Int)(p:Nat)(op:Int)(w:World)(hf:0<=Qd (Qb op))(h:Rd w q ba bc bs p)(hA:Qt bs)(hl:bs.length<=1099511627776) :
    Calls Tryz.prog 25 #[.pointer (some ⟨q,0,none⟩),.int .i64 op] w (RiP (Q4 (Qd (Qb op)) op bs p) w q ba bc bs):=by
 rcases QA op with e|e|e|e|e|e|e|e|e|e|e|e
 . omega
 . rw [e];exact rins_0 q ba bc bs p op w e h hA hl
 . rw [e];exact rins_1 q ba bc bs p op w e h hA hl
 . rw [e];exact rins_2 q ba bc bs p op w e h hA hl
 . rw [e];exact rins_3 q ba bc bs p op w e h hA hl
 . rw [e];exact rins_4 q ba bc bs p op w e h hA hl
 . rw [e];exact rins_5 q ba bc bs p op w e h hA hl
 . rw [e];exact rins_6 q ba bc bs p op w e h hA hl
 . rw [e];exact rins_7 q ba bc bs p op w e h hA hl
 . rw [e];exact rins_8 q ba bc bs p op w e h hA hl
 . rw [e];exact rins_9 q ba bc bs p op w e h hA hl
 . rw [e];exact rins_10 q ba bc bs p op w e h hA hl
def opM (bs:List Int)(p:Nat):Rs Int:=(Qy bs p).bind λx p1=>if Qd (Qb x)<0 then .bad 10 p1 else .ok x p1
theorem opc_c (q:Nat)(ba:Option Addr)(bc:Nat)(bs:List Int)(p:Nat)(w:World)(h:Rd w q ba bc bs p)(hA:Qt bs)(hl:bs.length<=1099511627776) :
    Calls Tryz.prog 26 #[.pointer (some ⟨q,0,none⟩)] w (RdP (opM bs p) (λv=>.int .i64 v) w q ba bc bs):=by
 have K:=Hm (take_c q ba bc bs p w h hl);have hbd:=λv p1=>XF (p:=p) (p1:=p1) (v:=v) hA;unfold opM;generalize Qy bs p=M at *
 cases M with
 |bad er at_ =>
  clear hbd h
  go_enter Tryz.func26,Tryz.ntmps26
  go_wp2_with fail
  refine (K.o).mono ?_
  rintro e w1 ⟨hg,rfl⟩
  exact ⟨rfl,hg,rfl⟩
 |ok v p1 =>
  obtain ⟨v0,v1⟩:=hbd v p1 rfl;have KB:=Hm (Qu v)
  show Calls _ _ _ _ (RdP (if Qd (Qb v)<0 then .bad 10 p1 else .ok v p1) _ _ _ _ _ _)
  generalize Qd (Qb v)=f at *;clear hbd h
  by_cases hf:f<0
  . rw [if_pos hf]
    go_enter Tryz.func26,Tryz.ntmps26
    go_wp2_with fail
    refine (K.o).mono ?_
    rintro e w1 ⟨hg,rfl,hr⟩;have HG:=Hm hg;have HR:=Hm hr;clear hg hr K
    go_wp2_with fail
    refine (KB.o _).mono ?_
    rintro e w2 ⟨rfl,hb2⟩;have KF:=Hm (fail_c q 10 p1 w2 (HR.o.keep hb2).c1);have HG2:=Hm (Qa HG.o (Qo (r:=some q) hb2));clear hb2
    go_wp2_with fail
    refine (KF.o).mono ?_
    rintro e w3 ⟨rfl,rfl⟩
    exact ⟨rfl,HG2.o,rfl⟩
  . rw [if_neg hf]
    go_enter Tryz.func26,Tryz.ntmps26
    go_wp2_with fail
    refine (K.o).mono ?_
    rintro e w1 ⟨hg,rfl,hr⟩;have HG:=Hm hg;have HR:=Hm hr;clear hg hr K
    go_wp2_with fail
    refine (KB.o _).mono ?_
    rintro e w2 ⟨rfl,hb2⟩;have HG2:=Hm (Qa HG.o (Qo (r:=some q) hb2));have HR2:=Hm (HR.o.keep hb2);clear hb2
    go_wp2_with fail
    go_ret
    exact ⟨HG2.o,rfl,HR2.o⟩
def Jl (bs:List Int)(p:Nat):Rs In:=(opM bs p).bind λop p1=>Q4 (Qd (Qb op)) op bs p1
theorem opM_form {bs:List Int}{p p1:Nat}{v:Int}(h:opM bs p=.ok v p1):0<=Qd (Qb v):=by
 unfold opM at h;generalize Qy bs p=M at h
 cases M with
 |bad er at_=>cases h
 |ok x p2 =>
  simp only [Rs.bind] at h
  split at h
  . cases h
  . cases h;omega
def CloP (M:Rs In)(w:World)(q X:Nat)(ba:Option Addr)(bc:Nat)(bs:List Int)(e:Ending)(w':World):Prop :=
 (w.heap.size<=w'.heap.size/\w'.os=w.os/\w'.tape=w.tape/\w'.output=w.output/\∀ k,k<w.heap.size->k≠q->k≠X->w'.heap[k]?=w.heap[k]?)/\(match M with
  |.bad er at_=>e=.panicked [flt er at_]
  | .ok x p'=>∃ la lc,e=.returned (.tuple #[])/\C5 w' X 0 (.int .i64 x.op) (.int .i64 x.a) (.int .i64 x.b) (.int .u64 x.v) (.slice la x.l.length lc)/\w'.ownsRow w.heap.size 2 1 (.slice la x.l.length lc) x.l.length (I x.l)/\Rd w' q ba bc bs p'/\x.l.length<=bs.length)
theorem clo_c (q X:Nat)(ba:Option Addr)(bc:Nat)(bs:List Int)(p:Nat)(w:World)(h:Rd w q ba bc bs p)(hA:Qt bs)(hl:bs.length<=1099511627776)(hXq:X≠q)(hXb:∀ a,ba=some a->bs≠[]->a.block≠X)(hC:C5 w X 0 (.int .i64 0) (.int .i64 0) (.int .i64 0) (.int .u64 0) (.slice none 0 0)) :
    Calls Tryz.prog 24 #[.pointer (some ⟨q,0,none⟩),.pointer (some ⟨X,0,none⟩)] w (CloP (Jl bs p) w q X ba bc bs):=by
 have K:=Hm (opc_c q ba bc bs p w h hA hl);have HA:=Hm hA;have HC:=Hm hC;have hlt:X<w.heap.size:=hC.lt;have hfo:=λv p1=>opM_form (bs:=bs) (p:=p) (p1:=p1) (v:=v);unfold Jl;generalize opM bs p=M at *
 cases M with
 |bad er at_ =>
  clear hfo h hA hC
  go_enter Tryz.func24,Tryz.ntmps24
  go_wp2_with fail
  refine (K.o).mono ?_
  rintro e w1 ⟨hg,rfl⟩
  exact ⟨rfl,⟨hg.size,hg.os,hg.tape,hg.output,λk hk h1 _=>hg.block k hk (by simpa using h1)⟩,rfl⟩
 |ok op p1 =>
  have hf:=hfo op p1 rfl;have K2:=Hm (λV (hV:Rd V q ba bc bs p1)=>rins_c q ba bc bs p1 op V hf hV HA.o hl)
  show Calls _ _ _ _ (CloP (Q4 (Qd (Qb op)) op bs p1) _ _ _ _ _ _)
  generalize Q4 (Qd (Qb op)) op bs p1=M2 at *;clear hfo h hA hC hf
  cases M2 with
  |bad er at_ =>
   go_enter Tryz.func24,Tryz.ntmps24
   go_wp2_with fail
   refine (K.o).mono ?_
   rintro e w1 ⟨hg,rfl,hr⟩;have HG:=Hm hg;have HR:=Hm hr;clear hg hr K
   go_wp2_with fail
   refine (K2.o _ HR.o).mono ?_
   rintro e w2 ⟨hg2,rfl⟩;have hg:=Qa HG.o hg2
   exact ⟨rfl,⟨hg.size,hg.os,hg.tape,hg.output,λk hk h1 _=>hg.block k hk (by simpa using h1)⟩,rfl⟩
  |ok x p2 =>
   go_enter Tryz.func24,Tryz.ntmps24
   go_wp2_with fail
   refine (K.o).mono ?_
   rintro e w1 ⟨hg,rfl,hr⟩;have HG:=Hm hg;have HR:=Hm hr;clear hg hr K
   go_wp2_with fail
   refine (K2.o _ HR.o).mono ?_
   rintro e w2 ⟨hg2,la,lc,rfl,ho,hr2,hll⟩;have HG2:=Hm (Qa HG.o hg2);have hs1:=HG.o.size;have HO:=Hm (Q8 ho hs1);have HR2:=Hm hr2;have hc2:=Qe HC.o HG2.o hXq;have HC2:=Hm hc2;obtain ⟨⟨d0,d1,d2,d3,d4⟩,df⟩:=hc2;have df0:=df 0;have df1:=df 1;have df2:=df 2;have df3:=df 3;have df4:=df 4;have HN:Hid ((Value.slice la x.l.length lc).ownBlock≠some X):=λe=>by have:=(ho.lt _ e).1;omega
   clear hg2 ho hr2 K2 HG df
   go_wp2_with fail
   go_end0
   refine ⟨⟨?_,HG2.o.os,HG2.o.tape,HG2.o.output,λk hk h1 h2=>?_⟩,la,lc,rfl,?_,?_,?_,hll⟩
   . have:=HG2.o.size
     simpa [World.setCell] using this
   . rw [Below.heap_setCell _ _ _ _ h2,Below.heap_setCell _ _ _ _ h2,Below.heap_setCell _ _ _ _ h2,Below.heap_setCell _ _ _ _ h2,Below.heap_setCell _ _ _ _ h2]
     exact HG2.o.block k hk (by simpa using h1)
   . exact ⟨⟨Qc (Qc (Qc (Qc (Qh d0) (by decide)) (by decide)) (by decide)) (by decide),Qc (Qc (Qc (Qh (Qc d1 (by decide))) (by decide)) (by decide)) (by decide),Qc (Qc (Qh (Qc (Qc d2 (by decide)) (by decide))) (by decide)) (by decide),Qc (Qh (Qc (Qc (Qc d3 (by decide)) (by decide)) (by decide))) (by decide),Qh (Qc (Qc (Qc (Qc d4 (by decide)) (by decide)) (by decide)) (by decide))⟩,λi=>by simp only [World.frozen?_setCell];exact HC2.o.2 i⟩
   . exact Qs (Qs (Qs (Qs (Qs HO.o HN.o) HN.o) HN.o) HN.o) HN.o
   . have L:∀ {W:World} (o:Nat) (v:Value),Rd W q ba bc bs p2->Rd (W.setCell ⟨X,o,none⟩ v) q ba bc bs p2:=fun {W} o v hW=>hW.grown (QW W X o v) (by simpa using λe=>hXq e.symm) (λa ha hx=>by simpa using hXb a ha hx)
     exact L _ _ (L _ _ (L _ _ (L _ _ (L _ _ HR2.o))))
end Go.Proofs.YtipfjdogokanbaaGreatDoor.Ed
namespace Go.Proofs.YtipfjdogokanbaaGreatDoor.Ed
open Go.RowKit Go.Sort
abbrev fltR (er at_:Int):PanicEntry:={ v:=.iface 67 (.agg #[.int .i64 er,.int .i64 at_,.nilIface]),recovered:=true }
theorem catch_p (F:Nat)(er at_:Int)(a b c:Value)(w:World)(c0:w.cell? ⟨F,0,none⟩=some a)(c1:w.cell? ⟨F,1,none⟩=some b)(c2:w.cell? ⟨F,2,none⟩=some c)(f0:w.frozen? ⟨F,0,none⟩=false)(f1:w.frozen? ⟨F,1,none⟩=false)(f2:w.frozen? ⟨F,2,none⟩=false) :
    CallsD Tryz.prog 68 #[.pointer (some ⟨F,0,none⟩)] (.panicking [flt er at_]) w λe u' w' =>
     e=.returned (.tuple #[])/\u'=.panicking [fltR er at_]/\w'=((w.setCell ⟨F,0,none⟩ (.int .i64 er)).setCell ⟨F,1,none⟩ (.int .i64 at_)).setCell ⟨F,2,none⟩ .nilIface:=by
 have hta:∀ w:World,(Instr.typeAssert (.iface 67 (.agg #[.int .i64 er,.int .i64 at_,.nilIface])) 20 67 false).run Tryz.prog w=.ok (.agg #[.int .i64 er,.int .i64 at_,.nilIface]) w:=λw=>by kernel_rfl
 refine callsD_of_wpS Tryz.func68 rfl λc₀ cs hu=>?_
 apply wpS_seq
 apply wpS_region
 simp [wpOpsS,go_sem,recoverD,hu,Tryz.ntmps68,Exit.thenS]
 apply wpS_seq
 apply wpS_region
 simp [wpOpsS,go_sem,Exit.thenS,Array.replicate]
 refine wpS_cond (t:=true) (by simp [Act.eval,Array.replicate]) ?_
 simp only [if_true]
 apply wpS_region
 simp [wpOpsS,go_sem,hta,c0,c1,c2,f0,f1,f2,bodyPostS,results,Tryz.results68,Array.replicate]
theorem catch_i (F:Nat)(w:World) :
    CallsD Tryz.prog 68 #[.pointer (some ⟨F,0,none⟩)] .returning w λe u' w'=>e=.returned (.tuple #[])/\u'=.returning/\w'=w:=by
 refine callsD_of_wpS Tryz.func68 rfl λc₀ cs hu=>?_
 apply wpS_seq
 apply wpS_region
 simp [wpOpsS,go_sem,recoverD,hu,Tryz.ntmps68,Exit.thenS]
 apply wpS_seq
 apply wpS_region
 simp [wpOpsS,go_sem,Exit.thenS,Array.replicate]
 refine wpS_cond (t:=false) (by simp [Act.eval,Array.replicate]) ?_
 simp only [Bool.false_eq_true,if_false]
 refine wpS_of_wp (wp_skip ?_)
 cases c₀
 simp_all [bodyPostS,results,Tryz.results68]
def CatP (M:Rs In)(w:World)(q X:Nat)(ba:Option Addr)(bc:Nat)(bs:List Int)(e:Ending)(w':World):Prop :=
 (w.heap.size<=w'.heap.size/\w'.os=w.os/\w'.tape=w.tape/\w'.output=w.output/\∀ k,k<w.heap.size->k≠q->k≠X->w'.heap[k]?=w.heap[k]?)/\(match M with
  |.bad er at_=>e=.returned (.agg #[.int .i64 er,.int .i64 at_,.nilIface])
  | .ok x p'=>∃ la lc,e=.returned (.agg #[.int .i64 0,.int .i64 0,.nilIface])/\C5 w' X 0 (.int .i64 x.op) (.int .i64 x.a) (.int .i64 x.b) (.int .u64 x.v) (.slice la x.l.length lc)/\w'.ownsRow w.heap.size 2 1 (.slice la x.l.length lc) x.l.length (I x.l)/\(Value.slice la x.l.length lc).ownBlock≠some w.heap.size/\Rd w' q ba bc bs p'/\x.l.length<=bs.length)
theorem cat_c (q X:Nat)(ba:Option Addr)(bc:Nat)(bs:List Int)(p:Nat)(w:World)(h:Rd w q ba bc bs p)(hA:Qt bs)(hl:bs.length<=1099511627776)(hXq:X≠q)(hXb:∀ a,ba=some a->bs≠[]->a.block≠X)(hC:C5 w X 0 (.int .i64 0) (.int .i64 0) (.int .i64 0) (.int .u64 0) (.slice none 0 0)) :
    Calls Tryz.prog 23 #[.func (.func 24) #[] #[.pointer (some ⟨q,0,none⟩),.pointer (some ⟨X,0,none⟩)]] w (CatP (Jl bs p) w q X ba bc bs):=by
 have b0:Below w.heap.size w (w.alloc (.cells #[.int .i64 0,.int .i64 0,.nilIface] 67)):=(Below.refl _ _).alloc (Nat.le_refl _) _;have K:=Hm (clo_c q X ba bc bs p (w.alloc (.cells #[.int .i64 0,.int .i64 0,.nilIface] 67)) (h.keep b0) hA hl hXq hXb hC.past);have hq:=h.lt;have hX:=hC.lt;have HBL:=Hm (λa (ha:ba=some a) (hx:bs≠[])=>By.Has.lt (a:=a) (by rw [<- ha];exact h.has) hx);clear h hA hC b0;generalize Jl bs p=M at *
 cases M with
 |bad er at_ =>
  go_enter_defers Tryz.func23,Tryz.ntmps23
  go_wp2_with fail
  refine (K.o).mono ?_
  rintro e w1 ⟨⟨hs,ho,ht,hu,hk⟩,rfl⟩;have hF:w1.heap[w.heap.size]?=some (.cells #[.int .i64 0,.int .i64 0,.nilIface] 67):=(hk w.heap.size (by simp) (by omega) (by omega)).trans (J1 w _);have hsz:w.heap.size<w1.heap.size:=by simp at hs;omega
  have c0:w1.cell? ⟨w.heap.size,0,none⟩=some (.int .i64 0):=by simp [World.cell?,hF]
  have c1:w1.cell? ⟨w.heap.size,1,none⟩=some (.int .i64 0):=by simp [World.cell?,hF]
  have f0:w1.frozen? ⟨w.heap.size,0,none⟩=false:=by simp [World.frozen?,hF]
  have f1:w1.frozen? ⟨w.heap.size,1,none⟩=false:=by simp [World.frozen?,hF]
  have c2:w1.cell? ⟨w.heap.size,2,none⟩=some .nilIface:=by simp [World.cell?,hF]
  have f2:w1.frozen? ⟨w.heap.size,2,none⟩=false:=by simp [World.frozen?,hF]
  refine leaves_cons (f:=68) (args:=#[.pointer (some ⟨w.heap.size,0,none⟩)]) (by simp) (by simp [go_sem]) ?_
  refine (catch_p w.heap.size er at_ _ _ _ w1 c0 c1 c2 f0 f1 f2).mono ?_
  rintro e u' w'' ⟨rfl,rfl,rfl⟩
  simp [Leaves,settle,results,Tryz.results23,go_sem,c0,c1,c2]
  refine ⟨⟨?_,ho,ht,hu,λk hk1 hk2 hk3=>?_⟩,rfl⟩
  . simp [World.setCell];omega
  . rw [Below.heap_setCell _ _ _ _ (by show k≠w.heap.size;omega),Below.heap_setCell _ _ _ _ (by show k≠w.heap.size;omega),Below.heap_setCell _ _ _ _ (by show k≠w.heap.size;omega),hk k (by simp;omega) hk2 hk3]
    exact QC w _ k hk1
 |ok x p1 =>
  go_enter_defers Tryz.func23,Tryz.ntmps23
  go_wp2_with fail
  refine (K.o).mono ?_
  rintro e w1 ⟨⟨hs,ho,ht,hu,hk⟩,la,lc,rfl,hc,hown,hr,hll⟩;have hF:w1.heap[w.heap.size]?=some (.cells #[.int .i64 0,.int .i64 0,.nilIface] 67):=(hk w.heap.size (by simp) (by omega) (by omega)).trans (J1 w _);have hsz:w.heap.size<w1.heap.size:=by simp at hs;omega
  have c0:w1.cell? ⟨w.heap.size,0,none⟩=some (.int .i64 0):=by simp [World.cell?,hF]
  have c1:w1.cell? ⟨w.heap.size,1,none⟩=some (.int .i64 0):=by simp [World.cell?,hF]
  have f0:w1.frozen? ⟨w.heap.size,0,none⟩=false:=by simp [World.frozen?,hF]
  have f1:w1.frozen? ⟨w.heap.size,1,none⟩=false:=by simp [World.frozen?,hF]
  have c2:w1.cell? ⟨w.heap.size,2,none⟩=some .nilIface:=by simp [World.cell?,hF]
  have f2:w1.frozen? ⟨w.heap.size,2,none⟩=false:=by simp [World.frozen?,hF]
  have HK:=Hm (And.intro hs (And.intro ho (And.intro ht (And.intro hu hk))));have HC:=Hm hc;have HO:=Hm hown;have HR:=Hm hr;clear hs ho ht hu hk hc hown hr K hF
  go_wp2_with fail
  refine leaves_cons (f:=68) (args:=#[.pointer (some ⟨w.heap.size,0,none⟩)]) (by simp) (by simp [go_sem]) ?_
  refine (catch_i w.heap.size _).mono ?_
  rintro e u' w'' ⟨rfl,rfl,rfl⟩
  simp [Leaves,settle,results,Tryz.results23,go_sem,c0,c1,c2]
  obtain ⟨hs,ho,ht,hu,hk⟩:=HK.o;have hN:(Value.slice la x.l.length lc).ownBlock≠some w.heap.size:=λe=>by have:=(HO.o.lt _ e).1;simp at this;omega
  refine ⟨⟨?_,ho,ht,hu,λk hk1 hk2 hk3=>?_⟩,la,lc,rfl,?_,?_,hN,?_,hll⟩
  . simp [World.setCell];omega
  . rw [Below.heap_setCell _ _ _ _ (by show k≠w.heap.size;omega),Below.heap_setCell _ _ _ _ (by show k≠w.heap.size;omega),Below.heap_setCell _ _ _ _ (by show k≠w.heap.size;omega),hk k (by simp;omega) hk2 hk3]
    exact QC w _ k hk1
  . exact Ja (Ja (Ja HC.o (by omega)) (by omega)) (by omega)
  . exact Qs (Qs (Qs (Q8 HO.o (by simp)) hN) hN) hN
  . have L:∀ {V:World} (o:Nat) (v:Value),Rd V q ba bc bs p1->Rd (V.setCell ⟨w.heap.size,o,none⟩ v) q ba bc bs p1:=fun {V} o v hV=>hV.grown (QW V w.heap.size o v) (by simp;omega) (λa ha hx=>by have:=HBL.o a ha hx;simp;omega)
    exact L _ _ (L _ _ (L _ _ HR.o))
end Go.Proofs.YtipfjdogokanbaaGreatDoor.Ed
namespace Go.Proofs.YtipfjdogokanbaaGreatDoor.Ed
open Go.RowKit Go.Sort
def Rs.nz {α:Type}(r:Rs α):Prop:=∀ er a,r=.bad er a->er≠0
theorem Jf {α β:Type}{r:Rs α}{k:α->Nat->Rs β}(h:r.nz)(hk:∀ v p,(k v p).nz):(r.bind k).nz:=by
 cases r with
 |bad er a=>intro er' a' e;simp only [Rs.bind] at e;cases e;exact h _ _ rfl
 |ok v p=>exact hk v p
theorem XJ {α:Type}(v:α)(p:Nat):(Rs.ok v p).nz:=λer a e=>by cases e
theorem nz_take (bs:List Int)(p:Nat):(Qy bs p).nz:=by
 intro er a e
 unfold Qy at e
 split at e
 . cases e;decide
 . cases e
theorem JL (s:Bool)(B:Int)(bs:List Int)(p:Nat):(Qp s B bs p).nz:=by
 intro er a e
 unfold Qp at e
 split at e
 . cases e;decide
 . split at e
   . cases e
   . cases e;decide
theorem nz_fix (bs:List Int)(p n:Nat):(JN bs p n).nz:=by
 intro er a e
 unfold JN at e
 split at e
 . cases e
 . cases e;decide
theorem nz_if {α:Type}{c:Prop}[Decidable c]{x y:Rs α}(h1:x.nz)(h2:y.nz):(if c then x else y).nz:=by split<;>assumption
theorem nz_bad {α:Type}(er a:Int)(h:er≠0):(Rs.bad er a:Rs α).nz:=λ_ _ e=>by cases e;exact h
theorem nz_only (bs:List Int)(p:Nat):(onlyM bs p).nz:=Jf (nz_take _ _) λv p1=>nz_if (XJ _ _) (nz_bad _ _ (by decide))
theorem nz_mark (bs:List Int)(p:Nat):(JA bs p).nz:=Jf (nz_take _ _) λv p1=>nz_if (XJ _ _) (nz_bad _ _ (by decide))
theorem nz_rep (bs:List Int):∀ (n:Nat) (acc:List Int) (p:Nat),(JK bs n acc p).nz:=by
 intro n
 induction n with
 |zero=>intro acc p;exact XJ _ _
 |succ n ih=>intro acc p;exact Jf (JL _ _ _ _) λv p1=>ih _ _
theorem nz_vec (bs:List Int)(p:Nat):(vecM bs p).nz:=Jf (JL _ _ _ _) λv p1=>nz_rep _ _ _ _
theorem nz_dec (f op:Int)(bs:List Int)(p:Nat):(Q4 f op bs p).nz:=by
 unfold Q4
 repeat' refine nz_if ?_ ?_
 . exact Jf (nz_only _ _) λ_ _=>XJ _ _
 . exact Jf (JL _ _ _ _) λ_ _=>XJ _ _
 . exact Jf (nz_vec _ _) λ_ _=>Jf (JL _ _ _ _) λ_ _=>XJ _ _
 . exact Jf (JL _ _ _ _) λ_ _=>Jf (nz_mark _ _) λ_ _=>XJ _ _
 . exact Jf (JL _ _ _ _) λ_ _=>Jf (JL _ _ _ _) λ_ _=>XJ _ _
 . exact Jf (nz_mark _ _) λ_ _=>XJ _ _
 . exact Jf (JL _ _ _ _) λ_ _=>XJ _ _
 . exact Jf (JL _ _ _ _) λ_ _=>XJ _ _
 . exact Jf (nz_fix _ _ _) λ_ _=>XJ _ _
 . exact Jf (nz_fix _ _ _) λ_ _=>XJ _ _
 . exact XJ _ _
theorem nz_op (bs:List Int)(p:Nat):(opM bs p).nz:=Jf (nz_take _ _) λv p1=>nz_if (nz_bad _ _ (by decide)) (XJ _ _)
theorem nz_ins (bs:List Int)(p:Nat):(Jl bs p).nz:=Jf (nz_op _ _) λ_ _=>nz_dec _ _ _ _
structure DR where
 err:Int
 nxt:Int
 x:In
def Jx (bs:List Int)(at_:Int):DR :=
 if 0<=at_/\at_<=bs.length then (match Jl bs at_.toNat with
  |.bad er a=>⟨er,a,I0⟩
  | .ok x p=>⟨0,p,x⟩) else ⟨2,bs.length,I0⟩
abbrev drV (d:DR)(la:Option Addr)(lc:Nat):Value:=.agg #[.int .i64 d.err,.int .i64 d.nxt,.int .i64 d.x.op,.int .i64 d.x.a,.int .i64 d.x.b,.int .u64 d.x.v,.slice la d.x.l.length lc]
def DrP (d:DR)(w:World)(e:Ending)(w':World):Prop:=∃ la lc,e=.returned (drV d la lc)/\w'.ownsRow w.heap.size 2 1 (.slice la d.x.l.length lc) d.x.l.length (I d.x.l)/\Below w.heap.size w w'
theorem idec_out (ba:Option Addr)(bc:Nat)(bs:List Int)(at_:Int)(w:World)(hl:bs.length<=1099511627776)(h:¬ (0<=at_/\at_<=bs.length)) :
    Calls Tryz.prog 8 #[.slice ba bs.length bc,.int .i64 at_] w (DrP ⟨2,bs.length,I0⟩ w):=by
 by_cases h1:at_<0
 . have hd:decide (at_<0)=true:=decide_eq_true h1
   go_enter Tryz.func8,Tryz.ntmps8
   go_wp2
   exact bodyPost_ret (v:=drV ⟨2,bs.length,I0⟩ none 0) (by simp [results,Tryz.results8,go_sem,I0]) rfl ⟨none,0,rfl,World.ownsRow_nil _ _ _ _,(Below.refl _ _).alloc (Nat.le_refl _) _⟩
 . have h2:(bs.length:Int)<at_:=by omega
   have hd:decide (at_<0)=false:=decide_eq_false h1
   go_enter Tryz.func8,Tryz.ntmps8
   go_wp2
   exact bodyPost_ret (v:=drV ⟨2,bs.length,I0⟩ none 0) (by simp [results,Tryz.results8,go_sem,I0]) rfl ⟨none,0,rfl,World.ownsRow_nil _ _ _ _,(Below.refl _ _).alloc (Nat.le_refl _) _⟩
end Go.Proofs.YtipfjdogokanbaaGreatDoor.Ed
set_option linter.all false
namespace Go.Proofs.YtipfjdogokanbaaGreatDoor.Ed
open Go.RowKit Go.Sort
theorem X4 {P:Program}{W:World}{ops:Array Oper}{rest:List Oper}{o:Oper}{a:Act}{Q:Exit->Act->World->Prop}(hgd:o.guard=none)(p v:Operand)(ty:TypeId)(ho:o.op=.store ty p v)(hd:o.dst=none)(cs T:Array Value)(hp:a.eval p=.pointer (some ⟨W.heap.size,0,none⟩))(hv:a.eval v=.agg T)(hi:(P.info? ty).map (·.size)=some T.size)(hl:cs.size=T.size)(h1:T.all (·.oneCell')=true)(h:wpList P ops Q rest a (W.alloc (.cells T ty))):wpList P ops Q (o::rest) a (W.alloc (.cells cs ty)):=by
 refine wpList_plain hgd λK hK=>?_
 unfold Oper.wp;have e:=run_storeAt_new (P:=P) W ty cs T hi hl h1
 simp [execOp,ho,hp,hv,e,Oper.upon,Result.andThen,hd]
 exact hK _ _ h
theorem Tryz.sizeRD:(Tryz.prog.info? 63).map (·.size)=some 20:=by kernel_rfl
theorem bRD (v0:Option Addr)(n c:Nat)(p:Int)(w:World):(Instr.build 63 #[(0,.slice v0 n c),(1,.int .i64 p),(2,.int .i64 9223372036854775807)]).run Tryz.prog w=.ok (.agg #[.slice v0 n c,.int .i64 p,.int .i64 9223372036854775807,.slice none 0 0,.slice none 0 0,.slice none 0 0,.slice none 0 0,.slice none 0 0,.slice none 0 0,.slice none 0 0,.bool false,.int .i64 0,.slice none 0 0,.slice none 0 0,.slice none 0 0,.slice none 0 0,.int .i64 0,.int .i64 0,.nilFunc,.slice none 0 0]) w:=run_build w _ _ _ (by kernel_rfl)
theorem bIR (er a:Int)(w:World):(Instr.build 30 #[(0,.int .i64 er),(1,.int .i64 a)]).run Tryz.prog w=.ok (.agg #[.int .i64 er,.int .i64 a,.int .i64 0,.int .i64 0,.int .i64 0,.int .u64 0,.slice none 0 0]) w:=run_build w _ _ _ (by kernel_rfl)
theorem bIO (p o1 o2 o3 o4:Int)(v0:Option Addr)(n c:Nat)(w:World):(Instr.build 30 #[(1,.int .i64 p),(2,.agg #[.int .i64 o1,.int .i64 o2,.int .i64 o3,.int .u64 o4,.slice v0 n c])]).run Tryz.prog w=.ok (.agg #[.int .i64 0,.int .i64 p,.int .i64 o1,.int .i64 o2,.int .i64 o3,.int .u64 o4,.slice v0 n c]) w:=run_build w _ _ _ (by kernel_rfl)
attribute [-go_sem] Instr.build
attribute [local go_sem] bRD bIR bIO
theorem JO (w:World)(o1 o3:Obj)(cs:Array Value)(t:TypeId)(i:Nat)(u:Value)(hu:cs[i]?=some u):(((w.alloc o1).alloc (.cells cs t)).alloc o3).cell? ⟨w.heap.size+1,i,none⟩=some u:=by
 rw [World.cell?_alloc_past _ _ _ (by simp)];exact Qi (by simp) hu
theorem mid_frozen (w:World)(o1 o3:Obj)(cs:Array Value)(t:TypeId)(i:Nat):(((w.alloc o1).alloc (.cells cs t)).alloc o3).frozen? ⟨w.heap.size+1,i,none⟩=false:=by
 rw [World.frozen?_alloc_old _ _ _ (by simp)]
 have:=World.frozen?_alloc_new (w.alloc o1) cs t i
 simpa using this
theorem top_c5 (w:World)(o1 o2:Obj)(a b c d e:Value)(t:TypeId):C5 (((w.alloc o1).alloc o2).alloc (.cells #[a,b,c,d,e] t)) (w.heap.size+2) 0 a b c d e:=by
 have:=C5.new (w:=(w.alloc o1).alloc o2) (a:=a) (b:=b) (c:=c) (d:=d) (e:=e) (t:=t)
 simpa using this
theorem Qf {P:Program}{fn:Func}{Rr:Ending->World->Prop}{ex:Exit}{a:Act}{w0:World}(R:World->Prop)(hR:R w0)(h:∀ W,R W->bodyPost P fn Rr ex a W):bodyPost P fn Rr ex a w0:=h w0 hR
def Seven (w:World)(g:Nat)(a b c d e f h:Value):Prop:=w.cell? ⟨g,0,none⟩=some a/\w.cell? ⟨g,1,none⟩=some b/\w.cell? ⟨g,2,none⟩=some c/\w.cell? ⟨g,3,none⟩=some d/\w.cell? ⟨g,4,none⟩=some e/\w.cell? ⟨g,5,none⟩=some f/\w.cell? ⟨g,6,none⟩=some h
theorem Xy {w:World}{g:Nat}{a b c d e f h a' b' c' d' e' f' h':Value}(h0:w.cell? ⟨g,0,none⟩=some a')(h1:w.cell? ⟨g,1,none⟩=some b')(h2:w.cell? ⟨g,2,none⟩=some c')(h3:w.cell? ⟨g,3,none⟩=some d')(h4:w.cell? ⟨g,4,none⟩=some e')(h5:w.cell? ⟨g,5,none⟩=some f')(h6:w.cell? ⟨g,6,none⟩=some h') :
    Seven (((((((w.setCell ⟨g,0,none⟩ a).setCell ⟨g,1,none⟩ b).setCell ⟨g,2,none⟩ c).setCell ⟨g,3,none⟩ d).setCell ⟨g,4,none⟩ e).setCell ⟨g,5,none⟩ f).setCell ⟨g,6,none⟩ h) g a b c d e f h:=by
 have o:∀ {W:World} {i j:Nat} {u v:Value},W.cell? ⟨g,j,none⟩=some u->i≠j->(W.setCell ⟨g,i,none⟩ v).cell? ⟨g,j,none⟩=some u:=λh hn=>Qc h hn
 refine ⟨?_,?_,?_,?_,?_,?_,?_⟩
 . exact o (o (o (o (o (o (Qh h0) (by decide)) (by decide)) (by decide)) (by decide)) (by decide)) (by decide)
 . exact o (o (o (o (o (Qh (o h1 (by decide))) (by decide)) (by decide)) (by decide)) (by decide)) (by decide)
 . exact o (o (o (o (Qh (o (o h2 (by decide)) (by decide))) (by decide)) (by decide)) (by decide)) (by decide)
 . exact o (o (o (Qh (o (o (o h3 (by decide)) (by decide)) (by decide))) (by decide)) (by decide)) (by decide)
 . exact o (o (Qh (o (o (o (o h4 (by decide)) (by decide)) (by decide)) (by decide))) (by decide)) (by decide)
 . exact o (Qh (o (o (o (o (o h5 (by decide)) (by decide)) (by decide)) (by decide)) (by decide))) (by decide)
 . exact Qh (o (o (o (o (o (o h6 (by decide)) (by decide)) (by decide)) (by decide)) (by decide)) (by decide))
theorem bel7 {w0 w:World}{g:Nat}{a b c d e f h:Value}(hb:Below g w0 w):Below g w0 (((((((w.setCell ⟨g,0,none⟩ a).setCell ⟨g,1,none⟩ b).setCell ⟨g,2,none⟩ c).setCell ⟨g,3,none⟩ d).setCell ⟨g,4,none⟩ e).setCell ⟨g,5,none⟩ f).setCell ⟨g,6,none⟩ h) :=
 ((((((hb.setCell (Nat.le_refl _) _).setCell (Nat.le_refl _) _).setCell (Nat.le_refl _) _).setCell (Nat.le_refl _) _).setCell (Nat.le_refl _) _).setCell (Nat.le_refl _) _).setCell (Nat.le_refl _) _
theorem own7 {w:World}{g B t n:Nat}{v:Value}{zs:List Value}{a b c d e f h:Value}(ho:w.ownsRow B t 1 v n zs)(hn:v.ownBlock≠some g):(((((((w.setCell ⟨g,0,none⟩ a).setCell ⟨g,1,none⟩ b).setCell ⟨g,2,none⟩ c).setCell ⟨g,3,none⟩ d).setCell ⟨g,4,none⟩ e).setCell ⟨g,5,none⟩ f).setCell ⟨g,6,none⟩ h).ownsRow B t 1 v n zs :=
 Qs (Qs (Qs (Qs (Qs (Qs (Qs ho hn) hn) hn) hn) hn) hn) hn
def CatQ (M:Rs In)(w:World)(q X:Nat)(ba:Option Addr)(bc:Nat)(bs:List Int)(e:Ending)(w':World):Prop :=
 (w.heap.size<=w'.heap.size/\w'.os=w.os/\w'.tape=w.tape/\w'.output=w.output/\∀ k,k<w.heap.size->k≠q->k≠X->w'.heap[k]?=w.heap[k]?)/\∃ er a,e=.returned (.agg #[.int .i64 er,.int .i64 a,.nilIface])/\((er≠0/\M=.bad er a)\/(er=0/\∃ x p' la lc,M=.ok x p'/\C5 w' X 0 (.int .i64 x.op) (.int .i64 x.a) (.int .i64 x.b) (.int .u64 x.v) (.slice la x.l.length lc)/\w'.ownsRow w.heap.size 2 1 (.slice la x.l.length lc) x.l.length (I x.l)/\Rd w' q ba bc bs p'))
theorem cat_q {M:Rs In}{w:World}{q X:Nat}{ba:Option Addr}{bc:Nat}{bs:List Int}{e:Ending}{w':World}(hnz:M.nz)(h:CatP M w q X ba bc bs e w'):CatQ M w q X ba bc bs e w':=by
 obtain ⟨h1,h2⟩:=h
 refine ⟨h1,?_⟩
 cases M with
 |bad er a=>exact ⟨er,a,h2,.inl ⟨hnz er a rfl,rfl⟩⟩
 |ok x p =>
  obtain ⟨la,lc,e1,e2,e3,_,e5,_⟩:=h2
  exact ⟨0,0,e1,.inr ⟨rfl,x,p,la,lc,rfl,e2,e3,e5⟩⟩
def drOf (M:Rs In):DR:=match M with
 |.bad er a=>⟨er,a,I0⟩
 |.ok x p=>⟨0,p,x⟩
theorem idec_bad (er a:Int)(ba:Option Addr)(bc:Nat)(bs:List Int)(P:Nat)(w:World)(hA:Qt bs)(hl:bs.length<=1099511627776)(hP:P<=bs.length)(hcap:bs.length<=bc)(hH:By.Has w ba bs)(hba:∀ a,ba=some a->a.block<w.heap.size)(hM:Jl bs P=.bad er a) :
    Calls Tryz.prog 8 #[.slice ba bs.length bc,.int .i64 P] w (DrP (drOf (Jl bs P)) w):=by
 obtain ⟨W,hW⟩:∃ W,W=((w.alloc (.cells #[.int .i64 0,.int .i64 0,.int .i64 0,.int .i64 0,.int .i64 0,.int .u64 0,.slice none 0 0] 30)).alloc (.cells #[.slice ba bs.length bc,.int .i64 P,.int .i64 9223372036854775807,.slice none 0 0,.slice none 0 0,.slice none 0 0,.slice none 0 0,.slice none 0 0,.slice none 0 0,.slice none 0 0,.bool false,.int .i64 0,.slice none 0 0,.slice none 0 0,.slice none 0 0,.slice none 0 0,.int .i64 0,.int .i64 0,.nilFunc,.slice none 0 0] 63)).alloc (.cells #[.int .i64 0,.int .i64 0,.int .i64 0,.int .u64 0,.slice none 0 0] 26):=⟨_,rfl⟩;have hb:Below w.heap.size w W:=by rw [hW];exact (((Below.refl _ _).alloc (Nat.le_refl _) _).alloc (by simp) _).alloc (by simp;omega) _
 have hws:W.heap.size=w.heap.size+3:=by rw [hW];simp
 have hR:Rd W (w.heap.size+1) ba bc bs P:=by
  refine ⟨by rw [hW];exact JO _ _ _ _ _ 0 _ rfl,by rw [hW];exact JO _ _ _ _ _ 1 _ rfl,by rw [hW];exact JO _ _ _ _ _ 2 _ rfl,λi=>by rw [hW];exact mid_frozen _ _ _ _ _ i,hH.keep hb,λa ha=>by have:=hba a ha;omega,hP,hcap,by rw [hW];exact JO _ _ _ _ _ 18 _ rfl,by rw [hW];exact JO _ _ _ _ _ 19 _ rfl⟩
 have hC:C5 W (w.heap.size+2) 0 (.int .i64 0) (.int .i64 0) (.int .i64 0) (.int .u64 0) (.slice none 0 0):=by rw [hW];exact top_c5 _ _ _ _ _ _ _ _ _
 have hZ:W.heap[w.heap.size]?=some (.cells #[.int .i64 0,.int .i64 0,.int .i64 0,.int .i64 0,.int .i64 0,.int .u64 0,.slice none 0 0] 30):=by
  rw [hW,QC _ _ _ (by simp;omega),QC _ _ _ (by simp)];exact J1 w _
 have K:=Hm ((cat_c (w.heap.size+1) (w.heap.size+2) ba bc bs P W hR hA hl (by omega) (λa ha hx=>by have:=hba a ha;omega) hC).mono λe w' h=>cat_q (nz_ins bs P) h);have hp1:¬ (P:Int)<0:=by omega
 have hp2:¬ (bs.length:Int)<(P:Int):=by omega
 have HW:=Hm hW;have HB:=Hm hb;have HZ:=Hm hZ;have HWS:=Hm hws;clear hR hC hW hb hH hA hZ hws hba hcap hP;have hne:er≠0:=nz_ins bs P er a hM;have HMM:=Hm hM;generalize Jl bs P=M at *
 go_enter Tryz.func8,Tryz.ntmps8
 go_upto_region 4 with (refine X4 rfl _ _ 63 rfl rfl _ #[.slice ba bs.length bc,.int .i64 P,.int .i64 9223372036854775807,.slice none 0 0,.slice none 0 0,.slice none 0 0,.slice none 0 0,.slice none 0 0,.slice none 0 0,.slice none 0 0,.bool false,.int .i64 0,.slice none 0 0,.slice none 0 0,.slice none 0 0,.slice none 0 0,.int .i64 0,.int .i64 0,.nilFunc,.slice none 0 0] (by simp [Act.eval]) (by simp [Act.eval]) Tryz.sizeRD rfl (by simp [Value.oneCell']) ?_)
 go_wp2_with fail
 rw [<- HW.o]
 refine (K.o).mono ?_
 subst hM;rintro e w1 ⟨⟨hs,ho,ht,hu,hk⟩,er',a',rfl,hM'⟩
 obtain ⟨rfl,rfl⟩:er'=er/\a'=a:=by
  rcases hM' with ⟨_,h⟩|⟨_,x,p,la,lc,h,_⟩
  . cases h;exact ⟨rfl,rfl⟩
  . cases h
 clear hM';have hws:=HWS.o;have hF:=(hk w.heap.size (by omega) (by omega) (by omega)).trans HZ.o;have r0:∀ i u,#[Value.int .i64 0,.int .i64 0,.int .i64 0,.int .i64 0,.int .i64 0,.int .u64 0,.slice none 0 0][i]?=some u->w1.cell? ⟨w.heap.size,i,none⟩=some u:=λi u hu=>by simp only [World.cell?,hF];exact hu
 have rf:∀ i,w1.frozen? ⟨w.heap.size,i,none⟩=false:=λi=>by simp [World.frozen?,hF]
 have hlt:w.heap.size+3<=w1.heap.size:=by omega
 have hlt2:w.heap.size<w1.heap.size:=by omega
 have HB1:Hid (Below w.heap.size w w1):=HB.o.trans ⟨ho,ht,hu,hs,λk hk1=>hk k (by omega) (by omega) (by omega)⟩;have HR0:=Hm r0;have HRF:=Hm rf;clear hs ho ht hu hk hF r0 rf K HW HZ HB hws
 go_upto_region 6 with fail
 refine Qj (λU=>(U.cell? ⟨w1.heap.size,0,none⟩=some (.int .i64 er')/\U.cell? ⟨w1.heap.size,1,none⟩=some (.int .i64 a'))/\Below w1.heap.size w1 U) ⟨⟨Qi rfl rfl,Qi rfl rfl⟩,(Below.refl _ _).alloc (Nat.le_refl _) _⟩ ?_
 rintro U ⟨⟨u0,u1⟩,hU⟩;have q:∀ i u,#[Value.int .i64 0,.int .i64 0,.int .i64 0,.int .i64 0,.int .i64 0,.int .u64 0,.slice none 0 0][i]?=some u->U.cell? ⟨w.heap.size,i,none⟩=some u:=λi u hu=>(hU.cell (p:=⟨w.heap.size,i,none⟩) hlt2).trans (HR0.o i u hu);have q0:=q 0 _ rfl;have q1:=q 1 _ rfl;have q2:=q 2 _ rfl;have q3:=q 3 _ rfl;have q4:=q 4 _ rfl;have q5:=q 5 _ rfl;have q6:=q 6 _ rfl;have sf:∀ i,U.frozen? ⟨w.heap.size,i,none⟩=false:=λi=>(hU.frozen (p:=⟨w.heap.size,i,none⟩) hlt2).trans (HRF.o i);have s0:=sf 0;have s1:=sf 1;have s2:=sf 2;have s3:=sf 3;have s4:=sf 4;have s5:=sf 5;have s6:=sf 6;have HBU:=Hm (HB1.o.trans (hU.mono (by omega)));have hne2:(er' != 0)=true:=by simpa using hne
 have HM:Hid (drOf (.bad er' a')=⟨er',a',I0⟩):=rfl;clear hne HWS sf q HR0 HRF hU
 go_wp2_with fail
 refine Qf (λV=>Seven V w.heap.size (.int .i64 er') (.int .i64 a') (.int .i64 0) (.int .i64 0) (.int .i64 0) (.int .u64 0) (.slice none 0 0)/\Below w.heap.size w V) ⟨Xy q0 q1 q2 q3 q4 q5 q6,bel7 HBU.o⟩ ?_
 rintro V ⟨⟨t0,t1,t2,t3,t4,t5,t6⟩,hV⟩;have HV:=Hm hV;clear hV q0 q1 q2 q3 q4 q5 q6 s0 s1 s2 s3 s4 s5 s6 u0 u1
 exact bodyPost_ret (v:=drV ⟨er',a',I0⟩ none 0) (by simp [results,Tryz.results8,go_sem,I0,t0,t1,t2,t3,t4,t5,t6]) rfl (by
  rw [HM.o]
  exact ⟨none,0,rfl,World.ownsRow_nil _ _ _ _,HV.o⟩)
theorem idec_ok (x:In)(p:Nat)(ba:Option Addr)(bc:Nat)(bs:List Int)(P:Nat)(w:World)(hA:Qt bs)(hl:bs.length<=1099511627776)(hP:P<=bs.length)(hcap:bs.length<=bc)(hH:By.Has w ba bs)(hba:∀ a,ba=some a->a.block<w.heap.size)(hM:Jl bs P=.ok x p) :
    Calls Tryz.prog 8 #[.slice ba bs.length bc,.int .i64 P] w (DrP (drOf (Jl bs P)) w):=by
 obtain ⟨W,hW⟩:∃ W,W=((w.alloc (.cells #[.int .i64 0,.int .i64 0,.int .i64 0,.int .i64 0,.int .i64 0,.int .u64 0,.slice none 0 0] 30)).alloc (.cells #[.slice ba bs.length bc,.int .i64 P,.int .i64 9223372036854775807,.slice none 0 0,.slice none 0 0,.slice none 0 0,.slice none 0 0,.slice none 0 0,.slice none 0 0,.slice none 0 0,.bool false,.int .i64 0,.slice none 0 0,.slice none 0 0,.slice none 0 0,.slice none 0 0,.int .i64 0,.int .i64 0,.nilFunc,.slice none 0 0] 63)).alloc (.cells #[.int .i64 0,.int .i64 0,.int .i64 0,.int .u64 0,.slice none 0 0] 26):=⟨_,rfl⟩;have hb:Below w.heap.size w W:=by rw [hW];exact (((Below.refl _ _).alloc (Nat.le_refl _) _).alloc (by simp) _).alloc (by simp;omega) _
 have hws:W.heap.size=w.heap.size+3:=by rw [hW];simp
 have hR:Rd W (w.heap.size+1) ba bc bs P:=by
  refine ⟨by rw [hW];exact JO _ _ _ _ _ 0 _ rfl,by rw [hW];exact JO _ _ _ _ _ 1 _ rfl,by rw [hW];exact JO _ _ _ _ _ 2 _ rfl,λi=>by rw [hW];exact mid_frozen _ _ _ _ _ i,hH.keep hb,λa ha=>by have:=hba a ha;omega,hP,hcap,by rw [hW];exact JO _ _ _ _ _ 18 _ rfl,by rw [hW];exact JO _ _ _ _ _ 19 _ rfl⟩
 have hC:C5 W (w.heap.size+2) 0 (.int .i64 0) (.int .i64 0) (.int .i64 0) (.int .u64 0) (.slice none 0 0):=by rw [hW];exact top_c5 _ _ _ _ _ _ _ _ _
 have hZ:W.heap[w.heap.size]?=some (.cells #[.int .i64 0,.int .i64 0,.int .i64 0,.int .i64 0,.int .i64 0,.int .u64 0,.slice none 0 0] 30):=by
  rw [hW,QC _ _ _ (by simp;omega),QC _ _ _ (by simp)];exact J1 w _
 have K:=Hm ((cat_c (w.heap.size+1) (w.heap.size+2) ba bc bs P W hR hA hl (by omega) (λa ha hx=>by have:=hba a ha;omega) hC).mono λe w' h=>cat_q (nz_ins bs P) h);have hp1:¬ (P:Int)<0:=by omega
 have hp2:¬ (bs.length:Int)<(P:Int):=by omega
 have HW:=Hm hW;have HB:=Hm hb;have HZ:=Hm hZ;have HWS:=Hm hws;clear hR hC hW hb hH hA hZ hws hba hcap hP;generalize Jl bs P=M at *
 go_enter Tryz.func8,Tryz.ntmps8
 go_upto_region 4 with (refine X4 rfl _ _ 63 rfl rfl _ #[.slice ba bs.length bc,.int .i64 P,.int .i64 9223372036854775807,.slice none 0 0,.slice none 0 0,.slice none 0 0,.slice none 0 0,.slice none 0 0,.slice none 0 0,.slice none 0 0,.bool false,.int .i64 0,.slice none 0 0,.slice none 0 0,.slice none 0 0,.slice none 0 0,.int .i64 0,.int .i64 0,.nilFunc,.slice none 0 0] (by simp [Act.eval]) (by simp [Act.eval]) Tryz.sizeRD rfl (by simp [Value.oneCell']) ?_)
 go_wp2_with fail
 rw [<- HW.o]
 refine (K.o).mono ?_
 subst hM;rintro e w1 ⟨⟨hs,ho,ht,hu,hk⟩,er,a,rfl,hM'⟩
 obtain ⟨rfl,la,lc,hc,hown,hr⟩:er=0/\∃ la lc,C5 w1 (w.heap.size+2) 0 (.int .i64 x.op) (.int .i64 x.a) (.int .i64 x.b) (.int .u64 x.v) (.slice la x.l.length lc)/\w1.ownsRow W.heap.size 2 1 (.slice la x.l.length lc) x.l.length (I x.l)/\Rd w1 (w.heap.size+1) ba bc bs p:=by
  rcases hM' with ⟨_,h⟩|⟨h0,x',p',la,lc,h,hc,hown,hr⟩
  . cases h
  . cases h;exact ⟨h0,la,lc,hc,hown,hr⟩
 clear hM';have hws:=HWS.o;have hF:=(hk w.heap.size (by omega) (by omega) (by omega)).trans HZ.o;have r0:∀ i u,#[Value.int .i64 0,.int .i64 0,.int .i64 0,.int .i64 0,.int .i64 0,.int .u64 0,.slice none 0 0][i]?=some u->w1.cell? ⟨w.heap.size,i,none⟩=some u:=λi u hu=>by simp only [World.cell?,hF];exact hu
 have rf:∀ i,w1.frozen? ⟨w.heap.size,i,none⟩=false:=λi=>by simp [World.frozen?,hF]
 have hlt:w.heap.size+3<=w1.heap.size:=by omega
 have hlt2:w.heap.size<w1.heap.size:=by omega
 have HB1:Hid (Below w.heap.size w w1):=HB.o.trans ⟨ho,ht,hu,hs,λk hk1=>hk k (by omega) (by omega) (by omega)⟩;have HR0:=Hm r0;have HRF:=Hm rf;clear hs ho ht hu hk hF r0 rf K HW HZ HB hws
 go_upto_region 6 with fail
 refine Qj (λU=>(U.cell? ⟨w1.heap.size,0,none⟩=some (.int .i64 0)/\U.cell? ⟨w1.heap.size,1,none⟩=some (.int .i64 a))/\Below w1.heap.size w1 U) ⟨⟨Qi rfl rfl,Qi rfl rfl⟩,(Below.refl _ _).alloc (Nat.le_refl _) _⟩ ?_
 rintro U ⟨⟨u0,u1⟩,hU⟩;have q:∀ i u,#[Value.int .i64 0,.int .i64 0,.int .i64 0,.int .i64 0,.int .i64 0,.int .u64 0,.slice none 0 0][i]?=some u->U.cell? ⟨w.heap.size,i,none⟩=some u:=λi u hu=>(hU.cell (p:=⟨w.heap.size,i,none⟩) hlt2).trans (HR0.o i u hu);have q0:=q 0 _ rfl;have q1:=q 1 _ rfl;have q2:=q 2 _ rfl;have q3:=q 3 _ rfl;have q4:=q 4 _ rfl;have q5:=q 5 _ rfl;have q6:=q 6 _ rfl;have sf:∀ i,U.frozen? ⟨w.heap.size,i,none⟩=false:=λi=>(hU.frozen (p:=⟨w.heap.size,i,none⟩) hlt2).trans (HRF.o i);have s0:=sf 0;have s1:=sf 1;have s2:=sf 2;have s3:=sf 3;have s4:=sf 4;have s5:=sf 5;have s6:=sf 6;have HBU:=Hm (HB1.o.trans (hU.mono (by omega)));have HM:Hid (drOf (.ok x p)=⟨0,p,x⟩):=rfl;have c1:U.cell? ⟨w.heap.size+1,1,none⟩=some (.int .i64 p):=(hr.keep hU).c1;obtain ⟨⟨d0,d1,d2,d3,d4⟩,df⟩:=hc.keep hU;have hws:=HWS.o;have HO:=Hm (Qx (Q8 hown (show w.heap.size<=W.heap.size by omega)) hU (Nat.le_refl _));have HN:Hid ((Value.slice la x.l.length lc).ownBlock≠some w.heap.size):=λe=>by have:=(hown.lt _ e).1;omega
 clear hr df hown HWS hws sf q HR0 HRF hU hc
 go_wp2_with fail
 refine Qf (λV=>Seven V w.heap.size (.int .i64 0) (.int .i64 p) (.int .i64 x.op) (.int .i64 x.a) (.int .i64 x.b) (.int .u64 x.v) (.slice la x.l.length lc)/\Below w.heap.size w V/\V.ownsRow w.heap.size 2 1 (.slice la x.l.length lc) x.l.length (I x.l)) ⟨Xy q0 q1 q2 q3 q4 q5 q6,bel7 HBU.o,own7 HO.o HN.o⟩ ?_
 rintro V ⟨⟨t0,t1,t2,t3,t4,t5,t6⟩,hV,hOV⟩;have HV:=Hm hV;have HOV:=Hm hOV;clear hV hOV q0 q1 q2 q3 q4 q5 q6 s0 s1 s2 s3 s4 s5 s6 u0 u1 d0 d1 d2 d3 d4 c1
 exact bodyPost_ret (v:=drV ⟨0,p,x⟩ la lc) (by simp [results,Tryz.results8,go_sem,t0,t1,t2,t3,t4,t5,t6]) rfl (by
  rw [HM.o]
  exact ⟨la,lc,rfl,HOV.o,HV.o⟩)
theorem idec_in (ba:Option Addr)(bc:Nat)(bs:List Int)(P:Nat)(w:World)(hA:Qt bs)(hl:bs.length<=1099511627776)(hP:P<=bs.length)(hcap:bs.length<=bc)(hH:By.Has w ba bs)(hba:∀ a,ba=some a->a.block<w.heap.size) :
    Calls Tryz.prog 8 #[.slice ba bs.length bc,.int .i64 P] w (DrP (drOf (Jl bs P)) w):=by
 cases hM:Jl bs P with
 |bad er a=>have:=idec_bad er a ba bc bs P w hA hl hP hcap hH hba hM;rwa [hM] at this
 |ok x p=>have:=idec_ok x p ba bc bs P w hA hl hP hcap hH hba hM;rwa [hM] at this
theorem idec_c (ba:Option Addr)(bc:Nat)(bs:List Int)(at_:Int)(w:World)(hA:Qt bs)(hl:bs.length<=1099511627776)(hcap:bs.length<=bc)(hH:By.Has w ba bs)(hba:∀ a,ba=some a->a.block<w.heap.size) :
    Calls Tryz.prog 8 #[.slice ba bs.length bc,.int .i64 at_] w (DrP (Jx bs at_) w):=by
 unfold Jx
 by_cases h:0<=at_/\at_<=bs.length
 . rw [if_pos h];obtain ⟨P,rfl⟩:=Int.eq_ofNat_of_zero_le h.1;rw [Int.toNat_natCast]
   show Calls _ _ _ _ (DrP (drOf (Jl bs P)) w)
   exact idec_in ba bc bs P w hA hl (by omega) hcap hH hba
 . rw [if_neg h]
   exact idec_out ba bc bs at_ w hl h
end Go.Proofs.YtipfjdogokanbaaGreatDoor.Ed
