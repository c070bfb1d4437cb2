import Derived.Test.YtdbmolambolmgaaGreatGg
import Derived.Maps.AppendAt
set_option linter.all false
set_option maxHeartbeats 16000000
set_option maxRecDepth 100000
namespace Go.Proofs.YtdbmolambolmgaaGreat
open Go.RowKit Go.Sort
set_option maxRecDepth 100000
def stepM (n:List Bool) (op:Int):Option (List Bool) :=
 if n.isEmpty then none
 else if op=2∨op=3 then some (n++[false])
 else if op=4 then some (n++[true])
 else if op=5 then (if n.getLast?=some true then some (n.dropLast++[false]) else none)
 else if op=11 then some n.dropLast
 else some n
abbrev Bs (n:List Bool):List Value:=n.map Value.bool
theorem Tryz.info4:(Tryz.prog.info? 4).map (fun i=>(i.zero,i.size,i.bytes))=some (some (.bool false),1,1):=by kernel_rfl
theorem oneV (b:Bool):∀ u ∈ [Value.bool b],u.oneCell'=true:=by
 intro u hu;simp at hu;subst hu;rfl
theorem ownE_slice {w:World} {B e:Nat} {v:Value} {n:Nat} {zs:List Value} (h:w.ownsRow B e 1 v n zs):∃ a c,v=.slice a n c:=by
 rcases h.2 with ⟨e,h0⟩ | ⟨g,cap,cur,hv,_⟩
 · rw [h0];exact ⟨_,_,e⟩
 · exact ⟨_,_,hv⟩
theorem ownE_split {w:World} {B e:Nat} {v:Value} {n:Nat} {L:List Value} (h:w.ownsRow B e 1 v n L) (hn:1≤n):∃ g cap,v=.slice (some ⟨g,0,none⟩) n cap∧B≤g∧g<w.heap.size∧n≤cap:=by
 rcases h.2 with ⟨_,h0⟩ | ⟨g,cap,cur,hv,hB,hg,hc,_⟩
 · omega
 · exact ⟨g,cap,hv,hB,(Array.getElem?_eq_some_iff.1 hg).1,hc⟩
theorem ownE_take {w:World} {B e g cap n:Nat} {zs:List Value} (h:w.ownsRow B e 1 (.slice (some ⟨g,0,none⟩) (n+1) cap) (n+1) zs):w.ownsRow B e 1 (.slice (some ⟨g,0,none⟩) n cap) n (zs.take n):=by
 rcases h.2 with ⟨h',_⟩ | ⟨g',cap',cur,h',hb,hg,hnc,hcm,hcs,htake⟩
 · simp at h'
 · simp only [Value.slice.injEq,Option.some.injEq,Addr.mk.injEq,and_true,true_and] at h'
   obtain ⟨rfl,rfl⟩:=h'
   have hl:=h.1
   refine ⟨by simp;omega,.inr ⟨g,cap,cur,rfl,hb,hg,by omega,hcm,hcs,?_⟩⟩
   rw [← htake,List.take_take]
   congr 1
   omega
theorem ownE_set {w:World} {B e:Nat} {v u:Value} {n b o:Nat} {zs:List Value} (h:w.ownsRow B e 1 v n zs) (hb:v.ownBlock≠some b):(w.setCell ⟨b,o,none⟩ u).ownsRow B e 1 v n zs:=by
 refine ⟨h.1,?_⟩
 rcases h.2 with h0 | ⟨g',cap',cur,hv,hB,hh,r⟩
 · exact .inl h0
 · subst hv
   exact .inr ⟨g',cap',cur,rfl,hB,(Below.heap_setCell _ _ _ _ (fun e=>hb (by simp [Value.ownBlock,e]))).trans hh,r⟩
theorem closed_c (a:Option Addr) (n c:Nat) (w:World):Calls Tryz.prog 179 #[.slice a n c] w fun e w'=>e=.returned (.bool (decide (n=0)))∧w=w':=by
 by_cases h:n=0
 · subst h
   go_enter Tryz.func179,Tryz.ntmps179
   go_wp2
   go_ret
   exact ⟨rfl,rfl⟩
 · have h1:((n:Int)==0)=false:=by simp;omega
   go_enter Tryz.func179,Tryz.ntmps179
   go_wp2
   go_ret
   exact ⟨by simp [h],rfl⟩
structure Ne (B g:Nat) (v:Value) (n:List Bool) (w:World):Prop where
 cell:w.cell? ⟨g,0,none⟩=some v
 froz:w.frozen? ⟨g,0,none⟩=false
 own:w.ownsRow B 4 1 v n.length (Bs n)
 ne:v.ownBlock≠some g
 ge:B≤g
 lt:g<w.heap.size
theorem step_nil (B g:Nat) (v:Value) (op:Int) (w:World) (h:Ne B g v [] w):Calls Tryz.prog 178 #[.pointer (some ⟨g,0,none⟩),.int .i64 op] w fun e w'=>e=.returned (.bool false)∧Below B w w':=by
 obtain ⟨a,c,rfl⟩:=ownE_slice h.own
 have c0:=h.cell
 clear h
 have H:=Hm (closed_c a 0 c)
 go_enter Tryz.func178,Tryz.ntmps178
 go_wp2_with (refine (H.out _).mono ?_;rintro e w1 ⟨rfl,rfl⟩)
 go_ret
 exact ⟨rfl,Below.refl _ _⟩
theorem Ne.pushed {B g:Nat} {v v':Value} {n:List Bool} {z:Bool} {w w1:World} {o:Obj} (h:Ne B g v n w) (ho:w1.ownsRow B 4 1 v' (n.length+1) (Bs n++[.bool z])) (hg:(w.alloc o).grownBy w1 v.ownBlock) (hl:v'.ownBlock=v.ownBlock∨v'.ownBlock=some (w.alloc o).heap.size) :
    Ne B g v' (n++[z]) (w1.setCell ⟨g,0,none⟩ v')∧Below B w (w1.setCell ⟨g,0,none⟩ v')∧w1.cell? ⟨g,0,none⟩=some v∧w1.frozen? ⟨g,0,none⟩=false:=by
 have lt:=h.lt
 have hs:=hg.size
 simp only [World.size_alloc] at hs
 have hb:w1.heap[g]?=w.heap[g]?:=by
  rw [hg.block g (by simp;omega) (fun e=>h.ne e.symm)];exact heap_old w o g lt
 have c0:w1.cell? ⟨g,0,none⟩=some v:=(World.cell?_of_block hb).trans h.cell
 have f0:w1.frozen? ⟨g,0,none⟩=false:=(World.frozen?_of_block hb).trans h.froz
 have hne:v'.ownBlock≠some g:=by
  rcases hl with e | e
  · rw [e];exact h.ne
  · rw [e];intro e';injection e' with e';simp at e';omega
 refine ⟨⟨set_same c0,by rw [World.frozen?_setCell];exact f0,?_,hne,h.ge,by simp;omega⟩,?_,c0,f0⟩
 · have:w1.ownsRow B 4 1 v' (n++[z]).length (Bs (n++[z])):=by simpa using ho
   exact ownE_set this hne
 · refine Below.setCell ?_ h.ge _
   refine (Below.alloc (Below.refl B w) (by have:=h.ge;omega) o).grown hg (by have:=h.ge;simp;omega) (fun j hj=>(h.own.lt j hj).1)
theorem step_push (B g:Nat) (v:Value) (n:List Bool) (op:Int) (w:World) (h:Ne B g v n w) (hn:n≠[]) (hl:n.length≤4194304) (hop:op=2∨op=3∨op=4):Calls Tryz.prog 178 #[.pointer (some ⟨g,0,none⟩),.int .i64 op] w fun e w'=>∃ v',e=.returned (.bool true)∧Ne B g v' (n++[op==4]) w'∧Below B w w':=by
 obtain ⟨i0,hi,hz0,hz1,hz2⟩:=info_parts Tryz.info4
 have hpos:0<n.length:=List.length_pos_iff.2 hn
 obtain ⟨a,c,rfl⟩:=ownE_slice h.own
 have c0:=h.cell
 have own:=h.own
 have lt:=h.lt
 have ge:=h.ge
 have HN:=Hm h
 have H:=Hm (closed_c a n.length c)
 have hd:decide (n.length=0)=false:=by simp;omega
 rw [hd] at H
 clear h hd
 have hw:IntKind.i64.wrap ((n.length:Int)-1)=(n.length:Int)-1:=by rw [IntKind.wrap_i64];omega
 rcases hop with rfl | rfl | rfl
 · go_enter Tryz.func178,Tryz.ntmps178
   go_wp2_with (first | (refine (H.out _).mono ?_;rintro e w1 ⟨rfl,rfl⟩) | (at_builtin;refine wpList_append_own_at _ rfl _ _ 248 rfl B 4 i0 (.bool false) 1 1 Tryz.underlying248 hi hz0 hz1 hz2 rfl (by decide) _ _ _ rfl (own.alloc _) ⟨w.heap.size,0,none⟩ 1 1 [.bool false] rfl rfl (cell_one_new _ _ _) (oneV _) (by unfold maxLen;omega) (by omega) (by simp;omega) ?_;intro v' w2 hown' hgrow hnn hloc;have HO2:=Hm (HN.out.pushed hown' hgrow hloc);have d0:=HO2.out.2.2.1;have df:=HO2.out.2.2.2;obtain ⟨va,vc,rfl⟩:=ownE_slice hown';clear hown' hgrow hnn hloc own c0 HN))
   go_ret
   exact ⟨_,rfl,HO2.out.1,HO2.out.2.1⟩
 · go_enter Tryz.func178,Tryz.ntmps178
   go_wp2_with (first | (refine (H.out _).mono ?_;rintro e w1 ⟨rfl,rfl⟩) | (at_builtin;refine wpList_append_own_at _ rfl _ _ 248 rfl B 4 i0 (.bool false) 1 1 Tryz.underlying248 hi hz0 hz1 hz2 rfl (by decide) _ _ _ rfl (own.alloc _) ⟨w.heap.size,0,none⟩ 1 1 [.bool false] rfl rfl (cell_one_new _ _ _) (oneV _) (by unfold maxLen;omega) (by omega) (by simp;omega) ?_;intro v' w2 hown' hgrow hnn hloc;have HO2:=Hm (HN.out.pushed hown' hgrow hloc);have d0:=HO2.out.2.2.1;have df:=HO2.out.2.2.2;obtain ⟨va,vc,rfl⟩:=ownE_slice hown';clear hown' hgrow hnn hloc own c0 HN))
   go_ret
   exact ⟨_,rfl,HO2.out.1,HO2.out.2.1⟩
 · go_enter Tryz.func178,Tryz.ntmps178
   go_wp2_with (first | (refine (H.out _).mono ?_;rintro e w1 ⟨rfl,rfl⟩) | (at_builtin;refine wpList_append_own_at _ rfl _ _ 248 rfl B 4 i0 (.bool false) 1 1 Tryz.underlying248 hi hz0 hz1 hz2 rfl (by decide) _ _ _ rfl (own.alloc _) ⟨w.heap.size,0,none⟩ 1 1 [.bool true] rfl rfl (cell_one_new _ _ _) (oneV _) (by unfold maxLen;omega) (by omega) (by simp;omega) ?_;intro v' w2 hown' hgrow hnn hloc;have HO2:=Hm (HN.out.pushed hown' hgrow hloc);have d0:=HO2.out.2.2.1;have df:=HO2.out.2.2.2;obtain ⟨va,vc,rfl⟩:=ownE_slice hown';clear hown' hgrow hnn hloc own c0 HN))
   go_ret
   exact ⟨_,rfl,HO2.out.1,HO2.out.2.1⟩
theorem ne_facts {B g:Nat} {v:Value} {m:List Bool} {z:Bool} {w:World} (h:Ne B g v (m++[z]) w):∃ r cap,v=.slice (some ⟨r,0,none⟩) (m.length+1) cap∧B≤r∧r<w.heap.size∧m.length+1≤cap∧r≠g∧w.cell? ⟨r,m.length,none⟩=some (.bool z)∧w.frozen? ⟨r,m.length,none⟩=false∧w.cell? ⟨g,0,none⟩=some (.slice (some ⟨r,0,none⟩) (m.length+1) cap)∧w.frozen? ⟨g,0,none⟩=false ∧
    w.ownsRow B 4 1 (.slice (some ⟨r,0,none⟩) (m.length+1) cap) (m.length+1) (Bs (m++[z])):=by
 have own:=h.own
 rw [show (m++[z]).length=m.length+1 by simp] at own
 obtain ⟨r,cap,rfl,h1,h2,h3⟩:=ownE_split own (by omega)
 refine ⟨r,cap,rfl,h1,h2,h3,fun e=>h.ne (by simp [Value.ownBlock,e]),?_,own.frozenAt _,h.cell,h.froz,own⟩
 rw [own.cellAt m.length (by omega)]
 simp
theorem Ne.set {B g:Nat} {v:Value} {m:List Bool} {z:Bool} {w:World} {r cap:Nat} (h:Ne B g v (m++[z]) w) (hv:v=.slice (some ⟨r,0,none⟩) (m.length+1) cap) (hrg:r≠g) (hr:B≤r) (z':Bool):Ne B g v (m++[z']) (w.setCell ⟨r,m.length,none⟩ (.bool z'))∧Below B w (w.setCell ⟨r,m.length,none⟩ (.bool z')):=by
 subst hv
 have own:=h.own
 rw [show (m++[z]).length=m.length+1 by simp] at own
 obtain ⟨s1,_⟩:=own.stored m.length (.bool z')
 refine ⟨⟨?_,by rw [World.frozen?_setCell];exact h.froz,?_,h.ne,h.ge,by simpa using h.lt⟩,(Below.refl _ _).setCell hr _⟩
 · rw [World.cell?_setCell_other _ _ _ _ (fun e=>hrg (congrArg Addr.block e))];exact h.cell
 · have e:(Bs (m++[z])).set m.length (.bool z')=Bs (m++[z']):=by
     simp only [Bs,List.map_append,List.map_cons,List.map_nil]
     rw [List.set_append_right _ _ (by simp)];simp
   rw [e] at s1
   rw [show (m++[z']).length=m.length+1 by simp]
   exact s1
theorem Ne.drop {B g:Nat} {v:Value} {m:List Bool} {z:Bool} {w:World} {r cap:Nat} (h:Ne B g v (m++[z]) w) (hv:v=.slice (some ⟨r,0,none⟩) (m.length+1) cap) (hrg:r≠g) (hr:B≤r):Ne B g (.slice (some ⟨r,0,none⟩) m.length cap) m (w.setCell ⟨g,0,none⟩ (.slice (some ⟨r,0,none⟩) m.length cap))∧Below B w (w.setCell ⟨g,0,none⟩ (.slice (some ⟨r,0,none⟩) m.length cap)):=by
 subst hv
 have own:=h.own
 rw [show (m++[z]).length=m.length+1 by simp] at own
 have o2:=ownE_take own
 have e:(Bs (m++[z])).take m.length=Bs m:=by simp [Bs]
 rw [e] at o2
 have hne:(Value.slice (some ⟨r,0,none⟩) m.length cap).ownBlock≠some g:=fun e=>hrg (by simpa [Value.ownBlock] using e)
 exact ⟨⟨set_same h.cell,by rw [World.frozen?_setCell];exact h.froz,ownE_set o2 hne,hne,h.ge,by simpa using h.lt⟩,(Below.refl _ _).setCell h.ge _⟩
theorem step_else (B g:Nat) (v:Value) (m:List Bool) (z:Bool) (w:World) (h:Ne B g v (m++[z]) w) (hl:m.length≤4194304):Calls Tryz.prog 178 #[.pointer (some ⟨g,0,none⟩),.int .i64 5] w fun e w'=>e=.returned (.bool z)∧(z=true→Ne B g v (m++[false]) w')∧Below B w w':=by
 obtain ⟨r,cap,hv,h1,h2,h3,h4,h5,h6,h7,h8,own⟩:=ne_facts h
 have HN:=Hm (h.set hv h4 h1 false)
 have H:=Hm (closed_c (some ⟨r,0,none⟩) (m.length+1) cap)
 have hd:decide (m.length+1=0)=false:=by simp
 rw [hd] at H
 clear h hd own
 have hw:IntKind.i64.wrap (((m.length+1:Nat):Int)-1)=m.length:=by rw [IntKind.wrap_i64];omega
 have q1:(m.length:Int)<((m.length+1:Nat):Int):=by omega
 cases z
 · go_enter Tryz.func178,Tryz.ntmps178
   go_wp2_with (refine (H.out _).mono ?_;rintro e w1 ⟨rfl,rfl⟩)
   go_ret
   exact ⟨rfl,fun h=>(by cases h),Below.refl _ _⟩
 · go_enter Tryz.func178,Tryz.ntmps178
   go_wp2_with (refine (H.out _).mono ?_;rintro e w1 ⟨rfl,rfl⟩)
   go_ret
   exact ⟨rfl,fun _=>HN.out.1,HN.out.2⟩
theorem step_end (B g:Nat) (v:Value) (m:List Bool) (z:Bool) (w:World) (h:Ne B g v (m++[z]) w) (hl:m.length≤4194304):Calls Tryz.prog 178 #[.pointer (some ⟨g,0,none⟩),.int .i64 11] w fun e w'=>∃ v',e=.returned (.bool true)∧Ne B g v' m w'∧Below B w w':=by
 obtain ⟨r,cap,hv,h1,h2,h3,h4,h5,h6,h7,h8,own⟩:=ne_facts h
 have HN:=Hm (h.drop hv h4 h1)
 have H:=Hm (closed_c (some ⟨r,0,none⟩) (m.length+1) cap)
 have hd:decide (m.length+1=0)=false:=by simp
 rw [hd] at H
 clear h hd own
 have hw:IntKind.i64.wrap (((m.length+1:Nat):Int)-1)=m.length:=by rw [IntKind.wrap_i64];omega
 have q1:m.length≤cap:=by omega
 have q2:(m.length:Int)≤(cap:Int):=by omega
 go_enter Tryz.func178,Tryz.ntmps178
 go_wp2_with (refine (H.out _).mono ?_;rintro e w1 ⟨rfl,rfl⟩)
 go_ret
 exact ⟨_,rfl,HN.out.1,HN.out.2⟩
theorem step_same (B g:Nat) (v:Value) (n:List Bool) (op:Int) (w:World) (h:Ne B g v n w) (hn:n≠[]) (hl:n.length≤4194304) (o1:op≠2) (o2:op≠3) (o3:op≠4) (o4:op≠5) (o5:op≠11):Calls Tryz.prog 178 #[.pointer (some ⟨g,0,none⟩),.int .i64 op] w fun e w'=>e=.returned (.bool true)∧w=w':=by
 have hpos:0<n.length:=List.length_pos_iff.2 hn
 obtain ⟨a,c,rfl⟩:=ownE_slice h.own
 have c0:=h.cell
 have H:=Hm (closed_c a n.length c)
 have hd:decide (n.length=0)=false:=by simp;omega
 rw [hd] at H
 clear h hd
 have hw:IntKind.i64.wrap ((n.length:Int)-1)=(n.length:Int)-1:=by rw [IntKind.wrap_i64];omega
 have p1:(op==2)=false:=by simpa using o1
 have p2:(op==3)=false:=by simpa using o2
 have p3:(op==4)=false:=by simpa using o3
 have p4:(op==5)=false:=by simpa using o4
 have p5:(op==11)=false:=by simpa using o5
 go_enter Tryz.func178,Tryz.ntmps178
 go_wp2_with (refine (H.out _).mono ?_;rintro e w1 ⟨rfl,rfl⟩)
 go_ret
 exact ⟨rfl,rfl⟩
theorem step_c (B g:Nat) (v:Value) (n:List Bool) (op:Int) (w:World) (h:Ne B g v n w) (hl:n.length≤4194304):Calls Tryz.prog 178 #[.pointer (some ⟨g,0,none⟩),.int .i64 op] w fun e w'=>∃ v',e=.returned (.bool (stepM n op).isSome)∧(∀ n',stepM n op=some n'→Ne B g v' n' w')∧Below B w w':=by
 by_cases hn:n=[]
 · subst hn
   exact (step_nil B g v op w h).mono fun e w' ⟨a,b⟩=>⟨v,a,fun n' e=>by simp [stepM] at e,b⟩
 · have hne:n.isEmpty=false:=by simpa using hn
   by_cases h1:op=2∨op=3
   · have e:stepM n op=some (n++[false]):=by simp [stepM,hn,h1]
     rw [e]
     have e4:(op==4)=false:=by rcases h1 with rfl | rfl <;> rfl
     refine (step_push B g v n op w h hn hl (by omega)).mono fun e w' ⟨v',a,b,c⟩=>⟨v',a,fun n' e=>?_,c⟩
     rw [e4] at b;cases e;exact b
   · by_cases h2:op=4
     · subst h2
       have e:stepM n 4=some (n++[true]):=by simp [stepM,hn]
       rw [e]
       exact (step_push B g v n 4 w h hn hl (by omega)).mono fun e w' ⟨v',a,b,c⟩=>⟨v',a,fun n' e=>by cases e;exact b,c⟩
     · obtain ⟨m,z,rfl⟩:∃ m z,n=m++[z]:=⟨n.dropLast,n.getLast hn,(List.dropLast_concat_getLast hn).symm⟩
       have hl':m.length≤4194304:=by simp at hl;omega
       by_cases h3:op=5
       · subst h3
         have e:stepM (m++[z]) 5=if z then some (m++[false]) else none:=by cases z <;> simp [stepM]
         rw [e]
         refine (step_else B g v m z w h hl').mono fun e w' ⟨a,b,c⟩=>⟨v,?_,fun n' e=>?_,c⟩
         · rw [a];cases z <;> rfl
         · cases z
           · cases e
           · cases e;exact b rfl
       · by_cases h4:op=11
         · subst h4
           have e:stepM (m++[z]) 11=some m:=by simp [stepM]
           rw [e]
           exact (step_end B g v m z w h hl').mono fun e w' ⟨v',a,b,c⟩=>⟨v',a,fun n' e=>by cases e;exact b,c⟩
         · have e:stepM (m++[z]) op=some (m++[z]):=by simp only [stepM,h1,h2,h3,h4,if_false];simp
           rw [e]
           refine (step_same B g v (m++[z]) op w h hn hl (by omega) (by omega) h2 h3 h4).mono fun e w' ⟨a,b⟩=>⟨v,a,fun n' e=>?_,?_⟩
           · subst b;cases e;exact h
           · subst b;exact Below.refl _ _
open Go.RowKit Go.Sort
theorem igood_0 (op a b v:Int) (l:List Int) (la:Option Addr) (lc:Nat) (w:World) (hf:formR (rowOf op)=0) (hv:0≤v):Calls Tryz.prog 177 #[inV ⟨op,a,b,v,l⟩ la lc] w fun e w'=>e=.returned (.bool (goodF (0) ⟨op,a,b,v,l⟩))∧Below w.heap.size w w':=by
 have hlz:=len0 l
 have HF:=Hm (iform_c op)
 rw [hf] at HF
 clear hf
 go_enter Tryz.func177,Tryz.ntmps177
 go_wp2_with fail
 go_region
 go_wp2_with fail
 refine (HF.out _).mono ?_
 rintro e w1 ⟨rfl,hb⟩
 obtain ⟨⟨⟨c0,c1,c2,c3,c4⟩,cf⟩,⟨⟨d0,d1,d2,d3,d4⟩,df⟩,bel⟩:=boxes hb
 clear hb HF
 go_wp2
 all_goals
  go_ret
  refine ⟨?_,by repeat (first | exact bel | refine bset ?_)⟩
  first | (simp_all [goodF,u32B_zero];done) | (simp_all [goodF,u32B_zero];intros;omega)
theorem igood_6 (op a b v:Int) (l:List Int) (la:Option Addr) (lc:Nat) (w:World) (hf:formR (rowOf op)=6) (hv:0≤v):Calls Tryz.prog 177 #[inV ⟨op,a,b,v,l⟩ la lc] w fun e w'=>e=.returned (.bool (goodF (6) ⟨op,a,b,v,l⟩))∧Below w.heap.size w w':=by
 have hlz:=len0 l
 have HF:=Hm (iform_c op)
 rw [hf] at HF
 clear hf
 go_enter Tryz.func177,Tryz.ntmps177
 go_wp2_with fail
 go_region
 go_wp2_with fail
 refine (HF.out _).mono ?_
 rintro e w1 ⟨rfl,hb⟩
 obtain ⟨⟨⟨c0,c1,c2,c3,c4⟩,cf⟩,⟨⟨d0,d1,d2,d3,d4⟩,df⟩,bel⟩:=boxes hb
 clear hb HF
 go_wp2
 all_goals
  go_ret
  refine ⟨?_,by repeat (first | exact bel | refine bset ?_)⟩
  first | (simp_all [goodF,u32B_zero];done) | (simp_all [goodF,u32B_zero];intros;omega)
theorem igood_8 (op a b v:Int) (l:List Int) (la:Option Addr) (lc:Nat) (w:World) (hf:formR (rowOf op)=8) (hv:0≤v):Calls Tryz.prog 177 #[inV ⟨op,a,b,v,l⟩ la lc] w fun e w'=>e=.returned (.bool (goodF (8) ⟨op,a,b,v,l⟩))∧Below w.heap.size w w':=by
 have hlz:=len0 l
 have HF:=Hm (iform_c op)
 rw [hf] at HF
 clear hf
 go_enter Tryz.func177,Tryz.ntmps177
 go_wp2_with fail
 go_region
 go_wp2_with fail
 refine (HF.out _).mono ?_
 rintro e w1 ⟨rfl,hb⟩
 obtain ⟨⟨⟨c0,c1,c2,c3,c4⟩,cf⟩,⟨⟨d0,d1,d2,d3,d4⟩,df⟩,bel⟩:=boxes hb
 clear hb HF
 go_wp2
 all_goals
  go_ret
  refine ⟨?_,by repeat (first | exact bel | refine bset ?_)⟩
  first | (simp_all [goodF,u32B_zero];done) | (simp_all [goodF,u32B_zero];intros;omega)
theorem igood_10 (op a b v:Int) (l:List Int) (la:Option Addr) (lc:Nat) (w:World) (hf:formR (rowOf op)=10) (hv:0≤v):Calls Tryz.prog 177 #[inV ⟨op,a,b,v,l⟩ la lc] w fun e w'=>e=.returned (.bool (goodF (10) ⟨op,a,b,v,l⟩))∧Below w.heap.size w w':=by
 have hlz:=len0 l
 have HF:=Hm (iform_c op)
 rw [hf] at HF
 clear hf
 go_enter Tryz.func177,Tryz.ntmps177
 go_wp2_with fail
 go_region
 go_wp2_with fail
 refine (HF.out _).mono ?_
 rintro e w1 ⟨rfl,hb⟩
 obtain ⟨⟨⟨c0,c1,c2,c3,c4⟩,cf⟩,⟨⟨d0,d1,d2,d3,d4⟩,df⟩,bel⟩:=boxes hb
 clear hb HF
 go_wp2
 all_goals
  go_ret
  refine ⟨?_,by repeat (first | exact bel | refine bset ?_)⟩
  first | (simp_all [goodF,u32B_zero];done) | (simp_all [goodF,u32B_zero];intros;omega)
open Go.RowKit Go.Sort
theorem igood_1 (op a b v:Int) (l:List Int) (la:Option Addr) (lc:Nat) (w:World) (hf:formR (rowOf op)=1) (hv:0≤v):Calls Tryz.prog 177 #[inV ⟨op,a,b,v,l⟩ la lc] w fun e w'=>e=.returned (.bool (goodF (1) ⟨op,a,b,v,l⟩))∧Below w.heap.size w w':=by
 have hlz:=len0 l
 have HF:=Hm (iform_c op)
 rw [hf] at HF
 clear hf
 go_enter Tryz.func177,Tryz.ntmps177
 go_wp2_with fail
 go_region
 go_wp2_with fail
 refine (HF.out _).mono ?_
 rintro e w1 ⟨rfl,hb⟩
 obtain ⟨⟨⟨c0,c1,c2,c3,c4⟩,cf⟩,⟨⟨d0,d1,d2,d3,d4⟩,df⟩,bel⟩:=boxes hb
 clear hb HF
 go_wp2_with (go_at_call 219;refine (ibt_c _ _).mono ?_;rintro e w2 ⟨rfl,rfl⟩)
 all_goals
  go_ret
  refine ⟨?_,by repeat (first | exact bel | refine bset ?_)⟩
  first | (simp_all [goodF,u32B_zero];done) | (simp_all [goodF,u32B_zero];intros;omega)
theorem igood_2 (op a b v:Int) (l:List Int) (la:Option Addr) (lc:Nat) (w:World) (hf:formR (rowOf op)=2) (hv:0≤v):Calls Tryz.prog 177 #[inV ⟨op,a,b,v,l⟩ la lc] w fun e w'=>e=.returned (.bool (goodF (2) ⟨op,a,b,v,l⟩))∧Below w.heap.size w w':=by
 have hlz:=len0 l
 have HF:=Hm (iform_c op)
 rw [hf] at HF
 clear hf
 go_enter Tryz.func177,Tryz.ntmps177
 go_wp2_with fail
 go_region
 go_wp2_with fail
 refine (HF.out _).mono ?_
 rintro e w1 ⟨rfl,hb⟩
 obtain ⟨⟨⟨c0,c1,c2,c3,c4⟩,cf⟩,⟨⟨d0,d1,d2,d3,d4⟩,df⟩,bel⟩:=boxes hb
 clear hb HF
 go_wp2_with (go_at_call 52;refine (iu32_c _ _).mono ?_;rintro e w2 ⟨rfl,rfl⟩)
 all_goals
  go_ret
  refine ⟨?_,by repeat (first | exact bel | refine bset ?_)⟩
  first | (simp_all [goodF,u32B_zero];done) | (simp_all [goodF,u32B_zero];intros;omega)
theorem igood_4 (op a b v:Int) (l:List Int) (la:Option Addr) (lc:Nat) (w:World) (hf:formR (rowOf op)=4) (hv:0≤v):Calls Tryz.prog 177 #[inV ⟨op,a,b,v,l⟩ la lc] w fun e w'=>e=.returned (.bool (goodF (4) ⟨op,a,b,v,l⟩))∧Below w.heap.size w w':=by
 have hlz:=len0 l
 have HF:=Hm (iform_c op)
 rw [hf] at HF
 clear hf
 go_enter Tryz.func177,Tryz.ntmps177
 go_wp2_with fail
 go_region
 go_wp2_with fail
 refine (HF.out _).mono ?_
 rintro e w1 ⟨rfl,hb⟩
 obtain ⟨⟨⟨c0,c1,c2,c3,c4⟩,cf⟩,⟨⟨d0,d1,d2,d3,d4⟩,df⟩,bel⟩:=boxes hb
 clear hb HF
 go_wp2_with (go_at_call 52;refine (iu32_c _ _).mono ?_;rintro e w2 ⟨rfl,rfl⟩)
 all_goals
  go_ret
  refine ⟨?_,by repeat (first | exact bel | refine bset ?_)⟩
  first | (simp_all [goodF,u32B_zero];done) | (simp_all [goodF,u32B_zero];intros;omega)
theorem igood_m1 (op a b v:Int) (l:List Int) (la:Option Addr) (lc:Nat) (w:World) (hf:formR (rowOf op)=-1) (hv:0≤v):Calls Tryz.prog 177 #[inV ⟨op,a,b,v,l⟩ la lc] w fun e w'=>e=.returned (.bool (goodF (-1) ⟨op,a,b,v,l⟩))∧Below w.heap.size w w':=by
 have hlz:=len0 l
 have HF:=Hm (iform_c op)
 rw [hf] at HF
 clear hf
 go_enter Tryz.func177,Tryz.ntmps177
 go_wp2_with fail
 go_region
 go_wp2_with fail
 refine (HF.out _).mono ?_
 rintro e w1 ⟨rfl,hb⟩
 obtain ⟨⟨⟨c0,c1,c2,c3,c4⟩,cf⟩,⟨⟨d0,d1,d2,d3,d4⟩,df⟩,bel⟩:=boxes hb
 clear hb HF
 go_wp2
 all_goals
  go_ret
  refine ⟨?_,by repeat (first | exact bel | refine bset ?_)⟩
  first | (simp_all [goodF,u32B_zero];done) | (simp_all [goodF,u32B_zero];intros;omega)
open Go.RowKit Go.Sort
theorem igood_5 (op a b v:Int) (l:List Int) (la:Option Addr) (lc:Nat) (w:World) (hf:formR (rowOf op)=5) (hv:0≤v):Calls Tryz.prog 177 #[inV ⟨op,a,b,v,l⟩ la lc] w fun e w'=>e=.returned (.bool (goodF (5) ⟨op,a,b,v,l⟩))∧Below w.heap.size w w':=by
 have hlz:=len0 l
 have HF:=Hm (iform_c op)
 rw [hf] at HF
 clear hf
 go_enter Tryz.func177,Tryz.ntmps177
 go_wp2_with fail
 go_region
 go_wp2_with fail
 refine (HF.out _).mono ?_
 rintro e w1 ⟨rfl,hb⟩
 obtain ⟨⟨⟨c0,c1,c2,c3,c4⟩,cf⟩,⟨⟨d0,d1,d2,d3,d4⟩,df⟩,bel⟩:=boxes hb
 clear hb HF
 go_wp2_with (go_at_call 52;refine (iu32_c _ _).mono ?_;rintro e w2 ⟨rfl,rfl⟩)
 all_goals
  go_ret
  refine ⟨?_,by repeat (first | exact bel | refine bset ?_)⟩
  first | (simp_all [goodF,u32B_zero];done) | (simp_all [goodF,u32B_zero];intros;omega)
theorem igood_7 (op a b v:Int) (l:List Int) (la:Option Addr) (lc:Nat) (w:World) (hf:formR (rowOf op)=7) (hv:0≤v):Calls Tryz.prog 177 #[inV ⟨op,a,b,v,l⟩ la lc] w fun e w'=>e=.returned (.bool (goodF (7) ⟨op,a,b,v,l⟩))∧Below w.heap.size w w':=by
 have hlz:=len0 l
 have HF:=Hm (iform_c op)
 rw [hf] at HF
 clear hf
 go_enter Tryz.func177,Tryz.ntmps177
 go_wp2_with fail
 go_region
 go_wp2_with fail
 refine (HF.out _).mono ?_
 rintro e w1 ⟨rfl,hb⟩
 obtain ⟨⟨⟨c0,c1,c2,c3,c4⟩,cf⟩,⟨⟨d0,d1,d2,d3,d4⟩,df⟩,bel⟩:=boxes hb
 clear hb HF
 go_wp2
 all_goals
  go_ret
  refine ⟨?_,by repeat (first | exact bel | refine bset ?_)⟩
  first | (simp_all [goodF,u32B_zero];done) | (simp_all [goodF,u32B_zero];intros;omega)
theorem igood_9 (op a b v:Int) (l:List Int) (la:Option Addr) (lc:Nat) (w:World) (hf:formR (rowOf op)=9) (hv:0≤v):Calls Tryz.prog 177 #[inV ⟨op,a,b,v,l⟩ la lc] w fun e w'=>e=.returned (.bool (goodF (9) ⟨op,a,b,v,l⟩))∧Below w.heap.size w w':=by
 have hlz:=len0 l
 have HF:=Hm (iform_c op)
 rw [hf] at HF
 clear hf
 go_enter Tryz.func177,Tryz.ntmps177
 go_wp2_with fail
 go_region
 go_wp2_with fail
 refine (HF.out _).mono ?_
 rintro e w1 ⟨rfl,hb⟩
 obtain ⟨⟨⟨c0,c1,c2,c3,c4⟩,cf⟩,⟨⟨d0,d1,d2,d3,d4⟩,df⟩,bel⟩:=boxes hb
 clear hb HF
 go_wp2
 all_goals
  go_ret
  refine ⟨?_,by repeat (first | exact bel | refine bset ?_)⟩
  first | (simp_all [goodF,u32B_zero];done) | (simp_all [goodF,u32B_zero];intros;omega)
open Go.RowKit Go.Sort
theorem igood_3 (op a b v:Int) (l:List Int) (la:Option Addr) (lc:Nat) (w:World) (hf:formR (rowOf op)=3) (hv:0≤v) (hln:l.length≤1099511627776) (hH:Has w la l):Calls Tryz.prog 177 #[inV ⟨op,a,b,v,l⟩ la lc] w fun e w'=>e=.returned (.bool (goodF (3) ⟨op,a,b,v,l⟩))∧Below w.heap.size w w':=by
 have hlz:=len0 l
 have HF:=Hm (iform_c op)
 rw [hf] at HF
 clear hf
 go_enter Tryz.func177,Tryz.ntmps177
 go_wp2_with fail
 go_region
 go_wp2_with fail
 refine (HF.out _).mono ?_
 rintro e w1 ⟨rfl,hb⟩
 obtain ⟨⟨⟨c0,c1,c2,c3,c4⟩,cf⟩,⟨⟨d0,d1,d2,d3,d4⟩,df⟩,bel⟩:=boxes hb
 clear hb HF
 have HL:=Hm (allAre_c la lc l w1 hln (hH.keep bel))
 generalize hal:l.all u32B=al at HL
 have HAL:=Hm hal
 clear hH hal
 go_wp2_with (first | (go_at_call 52;refine (iu32_c _ _).mono ?_;rintro e w2 ⟨rfl,rfl⟩) | (go_at_call 51;refine (HL.out).mono ?_;rintro e w2 ⟨rfl,rfl⟩))
 all_goals
  go_ret
  refine ⟨?_,by repeat (first | exact bel | refine bset ?_)⟩
  simp [goodF,HAL.out]
  try simp_all
open Go.RowKit Go.Sort
def gd (x:In):Bool:=goodF (formR (rowOf x.op)) x
theorem form_range (op:Int):formR (rowOf op)=-1∨formR (rowOf op)=0∨formR (rowOf op)=1∨formR (rowOf op)=2∨formR (rowOf op)=3∨formR (rowOf op)=4∨formR (rowOf op)=5∨formR (rowOf op)=6∨formR (rowOf op)=7∨formR (rowOf op)=8∨formR (rowOf op)=9∨formR (rowOf op)=10:=by
 by_cases h:0≤op∧op<192
 · have e:=of_decide_eq_true (rng 0 192 (fun i=>decide (-1≤formR (tbl.getD i Z0)∧formR (tbl.getD i Z0)≤10)) (by decide +kernel) op (by omega) (by omega))
   have er:rowOf op=tbl.getD op.toNat Z0:=by simp only [rowOf,h,and_self,if_true]
   rw [← er] at e
   omega
 · have er:rowOf op=Z0:=by simp only [rowOf,h,if_false]
   rw [er];left;decide
theorem isIns_c (x:In) (la:Option Addr) (lc:Nat) (w:World) (hv:0≤x.v) (hln:x.l.length≤1099511627776) (hH:Has w la x.l):Calls Tryz.prog 177 #[inV x la lc] w fun e w'=>e=.returned (.bool (gd x))∧Below w.heap.size w w':=by
 obtain ⟨op,a,b,v,l⟩:=x
 rcases form_range op with h | h | h | h | h | h | h | h | h | h | h | h
 · have:=igood_m1 op a b v l la lc w h hv;simp only [gd,h];exact this
 · have:=igood_0 op a b v l la lc w h hv;simp only [gd,h];exact this
 · have:=igood_1 op a b v l la lc w h hv;simp only [gd,h];exact this
 · have:=igood_2 op a b v l la lc w h hv;simp only [gd,h];exact this
 · have:=igood_3 op a b v l la lc w h hv hln hH;simp only [gd,h];exact this
 · have:=igood_4 op a b v l la lc w h hv;simp only [gd,h];exact this
 · have:=igood_5 op a b v l la lc w h hv;simp only [gd,h];exact this
 · have:=igood_6 op a b v l la lc w h hv;simp only [gd,h];exact this
 · have:=igood_7 op a b v l la lc w h hv;simp only [gd,h];exact this
 · have:=igood_8 op a b v l la lc w h hv;simp only [gd,h];exact this
 · have:=igood_9 op a b v l la lc w h hv;simp only [gd,h];exact this
 · have:=igood_10 op a b v l la lc w h hv;simp only [gd,h];exact this
def goM:List Bool→List In→Bool
 | n,[]=>n.isEmpty
 | n,x::xs=>if gd x then (match stepM n x.op with | none=>false | some n'=>goM n' xs) else false
def closedM (xs:List In):Bool:=goM [false] xs
theorem stepM_len {n n':List Bool} {op:Int} (h:stepM n op=some n'):n'.length≤n.length+1:=by
 unfold stepM at h
 split at h
 · cases h
 · split at h
   · cases h;simp
   · split at h
     · cases h;simp
     · split at h
       · split at h
         · cases h;simp
         · cases h
       · split at h
         · cases h;simp;omega
         · cases h;omega
theorem drop_cons (xs:List In) (k:Nat) (h:k<xs.length):xs.drop k=xs.getD k I0::xs.drop (k+1):=by
 rw [List.drop_eq_getElem_cons h];simp [List.getD,List.getElem?_eq_getElem h]
theorem Ne.keep {B g:Nat} {v:Value} {n:List Bool} {w w1:World} (h:Ne B g v n w) (hb:Below w.heap.size w w1):Ne B g v n w1:=by
 refine ⟨(hb.cell (p:=⟨g,0,none⟩) h.lt).trans h.cell,(hb.frozen (p:=⟨g,0,none⟩) h.lt).trans h.froz,?_,h.ne,h.ge,Nat.lt_of_lt_of_le h.lt hb.size⟩
 refine ⟨h.own.1,?_⟩
 rcases h.own.2 with h0 | ⟨g',cap,cur,hv,hB,hh,r⟩
 · exact .inl h0
 · exact .inr ⟨g',cap,cur,hv,hB,(hb.block g' (Array.getElem?_eq_some_iff.1 hh).1).trans hh,r⟩
theorem nestNew_c (w:World):Calls Tryz.prog 176 #[] w fun e w'=>e=.returned (.slice (some ⟨w.heap.size,0,none⟩) 1 1)∧w'=w.alloc (.cells #[.bool false] 4):=by
 go_enter Tryz.func176,Tryz.ntmps176
 go_wp2
 go_ret
 exact ⟨rfl,rfl⟩
theorem ne_start (w:World):Ne w.heap.size (w.heap.size+1) (.slice (some ⟨w.heap.size,0,none⟩) 1 1) [false] ((w.alloc (.cells #[.bool false] 4)).alloc (.cells #[.slice (some ⟨w.heap.size,0,none⟩) 1 1] 248)):=by
 have e:(w.alloc (.cells #[.bool false] 4)).heap.size=w.heap.size+1:=by simp
 refine ⟨cell_new e.symm rfl,by rw [← e];exact World.frozen?_alloc_new _ _ _ _,?_,by simp [Value.ownBlock],by omega,by simp⟩
 exact (World.ownsRow_lit (base:=w.heap.size) (e:=4) (size:=1) w #[.bool false] 1 (Nat.le_refl _) (by unfold maxLen;omega) rfl).alloc _
theorem iclosed_c (a:Option Addr) (c:Nat) (xs:List In) (w:World) (hn:xs.length≤1048576) (hl:∀ i,i<xs.length→(xs.getD i I0).l.length≤1048576) (hv:∀ i,0≤(xs.getD i I0).v) (hL:Lst w a xs) :
    Calls Tryz.prog 127 #[.slice a xs.length c] w fun e w'=>e=.returned (.bool (closedM xs))∧Below w.heap.size w w':=by
 have HL:=Hm hL
 have Hl:=Hm hl
 have Hv:=Hm hv
 clear hL hl hv
 have HS:=Hm (ne_start w)
 have H0:=Hm (nestNew_c w)
 go_enter Tryz.func127,Tryz.ntmps127
 go_wp2_with fail
 refine H0.out.mono ?_
 rintro e w1 ⟨rfl,rfl⟩
 go_wp2_with fail
 go_loopw [9] (fun i wr=>∃ (k:Nat) (n:List Bool) (v:Value),k≤xs.length∧i=.int .i64 k∧Ne w.heap.size (w.heap.size+1) v n wr∧Below w.heap.size w wr∧closedM xs=goM n (xs.drop k)∧n.length≤k+1) (fun i _=>xs.length-(intOf i).toNat)
 case atStart=>exact ⟨0,[false],_,Nat.zero_le _,rfl,HS.out,((Below.refl _ _).alloc (Nat.le_refl _) _).alloc (by simp) _,rfl,by simp⟩
 case round =>
  obtain ⟨k,n,v,hk,rfl,ne,hb,hm,hnl⟩:=hrel
  clear HS H0
  by_cases hlt:k<xs.length
  · have hki:(k:Int)<(xs.length:Int):=by omega
    rcases HL.out.keep hb with hx | ⟨b,o,ea,hc⟩
    · subst hx;simp at hlt
    obtain ⟨la,lc,c0,c1,c2,c3,c4,c5⟩:=hc k hlt
    subst ea
    rw [drop_cons xs k hlt] at hm
    have hxl:=Hl.out k hlt
    have hxv:=Hv.out k
    obtain ⟨x,hx⟩:∃ x,x=xs.getD k I0:=⟨_,rfl⟩
    rw [← hx] at c0 c1 c2 c3 c4 c5 hm hxl hxv
    have ba:Below wr.heap.size wr (wr.alloc (.cells #[.int .i64 x.op,.int .i64 x.a,.int .i64 x.b,.int .u64 x.v,.slice la x.l.length lc] 188)):=(Below.refl _ _).alloc (Nat.le_refl _) _
    have HI:=Hm (isIns_c x la lc _ hxv (by omega) (c5.keep ba))
    have hsz:=ne.lt
    have NE:=Hm ne
    have HB:=Hm hb
    have HM:=Hm hm
    have HBA:=Hm ba
    clear hx hc c5 ne hb hm ba HL Hl Hv
    generalize hg:gd x=gx at *
    cases gx
    · go_wp2_with fail
      refine HI.out.mono ?_
      rintro e w2 ⟨rfl,hb2⟩
      have hb3:Below w.heap.size w w2:=HB.out.trans ((HBA.out.trans (hb2.mono (by simp))).mono HB.out.size)
      clear hb2
      go_wp2
      go_ret
      exact ⟨by rw [HM.out];simp [goM,hg],hb3⟩
    · go_wp2_with fail
      refine HI.out.mono ?_
      rintro e w2 ⟨rfl,hb2⟩
      have hb3:Below wr.heap.size wr w2:=HBA.out.trans (hb2.mono (by simp))
      have hb4:Below w.heap.size w w2:=HB.out.trans (hb3.mono HB.out.size)
      have d0:w2.cell? ⟨wr.heap.size,0,none⟩=some (.int .i64 x.op):=by
       rw [hb2.cell (p:=⟨wr.heap.size,0,none⟩) (by simp)];exact cell_new rfl rfl
      have NS:=Hm (step_c _ _ v n x.op w2 (NE.out.keep hb3) (by omega))
      have HB4:=Hm hb4
      clear hb2 hb3 hb4 HI NE
      cases hst:stepM n x.op with
      | none =>
       rw [hst] at NS
       go_wp2_with fail
       refine NS.out.mono ?_
       rintro e w3 ⟨v',rfl,hne,hb5⟩
       have hb6:=HB4.out.trans (hb5.mono (Nat.le_refl _))
       clear hne hb5
       go_wp2
       go_ret
       exact ⟨by rw [HM.out];simp [goM,hg,hst],hb6⟩
      | some n' =>
       rw [hst] at NS
       have hnl':=stepM_len hst
       go_wp2_with fail
       refine NS.out.mono ?_
       rintro e w3 ⟨v',rfl,hne,hb5⟩
       have hb6:=Hm (HB4.out.trans (hb5.mono (Nat.le_refl _)))
       have ne2:=Hm (hne n' rfl)
       have HM2:Hid (closedM xs=goM n' (xs.drop (k+1))):=by
        show closedM xs=_
        rw [HM.out];simp [goM,hg,hst]
       clear hne hb5 hst
       go_wp2
       go_roundw
       case rel=>exact ⟨k+1,n',v',by omega,by go_num,ne2.out,hb6.out,HM2.out,by omega⟩
       case measure=>simp [intOf];omega
  · have e:k=xs.length:=by omega
    subst e
    obtain ⟨va,vc,rfl⟩:=ownE_slice ne.own
    have c0:=ne.cell
    have HC:=Hm (closed_c va n.length vc)
    have HM:Hid (closedM xs=decide (n.length=0)):=by
     show closedM xs=_
     rw [hm,List.drop_of_length_le (Nat.le_refl _)]
     cases n <;> simp [goM]
    clear hm ne HL Hl Hv
    generalize decide (n.length=0)=dd at HC HM
    go_wp2_with fail
    refine (HC.out _).mono ?_
    rintro e w2 ⟨rfl,rfl⟩
    go_wp2
    go_ret
    exact ⟨by rw [HM.out];rfl,hb⟩
end Go.Proofs.YtdbmolambolmgaaGreat
