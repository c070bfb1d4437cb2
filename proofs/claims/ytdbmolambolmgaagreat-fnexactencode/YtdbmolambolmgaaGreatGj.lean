import Derived.Test.YtdbmolambolmgaaGreatGh
import Derived.Deep.Cut
set_option linter.all false
set_option maxHeartbeats 16000000
set_option maxRecDepth 100000
namespace Go.Proofs.YtdbmolambolmgaaGreat
open Go.RowKit Go.Sort
set_option maxRecDepth 100000
structure NX (w:World) (B:Nat) (kv:Value) (dn bd:Bool) (ks:List Int) (W:World):Prop where
 b0:W.cell? ⟨w.heap.size,0,none⟩=some kv
 b1:W.cell? ⟨w.heap.size,1,none⟩=some (.bool dn)
 b2:W.cell? ⟨w.heap.size,2,none⟩=some (.bool bd)
 bf:∀ i,W.frozen? ⟨w.heap.size,i,none⟩=false
 r0:W.cell? ⟨w.heap.size+1,0,none⟩=some (.slice none 0 0)
 r1:W.cell? ⟨w.heap.size+1,1,none⟩=some (.bool false)
 r2:W.cell? ⟨w.heap.size+1,2,none⟩=some (.bool false)
 rf:∀ i,W.frozen? ⟨w.heap.size+1,i,none⟩=false
 own:W.ownsRow B 2 1 kv ks.length (I ks)
 n0:kv.ownBlock≠some w.heap.size
 n1:kv.ownBlock≠some (w.heap.size+1)
 bel:Below B w W
 lt:w.heap.size+1<W.heap.size
theorem NX.start {w:World} {B:Nat} {kv:Value} {dn bd:Bool} {ks:List Int} (h:w.ownsRow B 2 1 kv ks.length (I ks)) (hB:B≤w.heap.size) :
    NX w B kv dn bd ks ((w.alloc (.cells #[kv,.bool dn,.bool bd] 185)).alloc (.cells #[.slice none 0 0,.bool false,.bool false] 185)):=by
 have e1:(w.alloc (.cells #[kv,.bool dn,.bool bd] 185)).heap.size=w.heap.size+1:=by simp
 have hlt:=own_lt h
 refine ⟨?_,?_,?_,fun i=>?_,cell_new e1.symm rfl,cell_new e1.symm rfl,cell_new e1.symm rfl,fun i=>?_,(h.alloc _).alloc _,fun e=>?_,fun e=>?_,?_,by simp⟩
 · rw [World.cell?_alloc_past _ _ _ (by simp)];exact cell_new rfl rfl
 · rw [World.cell?_alloc_past _ _ _ (by simp)];exact cell_new rfl rfl
 · rw [World.cell?_alloc_past _ _ _ (by simp)];exact cell_new rfl rfl
 · rw [World.frozen?_alloc_old _ _ _ (by simp)];exact World.frozen?_alloc_new _ _ _ _
 · rw [← e1];exact World.frozen?_alloc_new _ _ _ _
 · have:=hlt _ e;omega
 · have:=hlt _ e;omega
 · exact ((Below.refl _ _).alloc hB _).alloc (by simp;omega) _
theorem NX.pushed {w W w1:World} {B:Nat} {kv kv':Value} {dn bd:Bool} {ks:List Int} {z:Int} {o:Obj} (h:NX w B kv dn bd ks W) (hB:B≤w.heap.size) (ho:w1.ownsRow B 2 1 kv' (ks.length+1) (I ks++[.int .i64 z])) (hg:(W.alloc o).grownBy w1 kv.ownBlock) (hl:kv'.ownBlock=kv.ownBlock∨kv'.ownBlock=some (W.alloc o).heap.size) :
    NX w B kv' dn bd (ks++[z]) (w1.setCell ⟨w.heap.size,0,none⟩ kv')∧(w1.cell? ⟨w.heap.size,0,none⟩=some kv∧w1.cell? ⟨w.heap.size,1,none⟩=some (.bool dn)∧w1.cell? ⟨w.heap.size,2,none⟩=some (.bool bd)∧∀ i,w1.frozen? ⟨w.heap.size,i,none⟩=false)∧w1.cell? ⟨w.heap.size+1,0,none⟩=some (.slice none 0 0)∧w1.cell? ⟨w.heap.size+1,1,none⟩=some (.bool false)∧w1.cell? ⟨w.heap.size+1,2,none⟩=some (.bool false)∧∀ i,w1.frozen? ⟨w.heap.size+1,i,none⟩=false:=by
 have lt:=h.lt
 have hs:=hg.size
 simp only [World.size_alloc] at hs
 have k0:w1.heap[w.heap.size]?=W.heap[w.heap.size]?:=by
  rw [hg.block _ (by simp;omega) (fun e=>h.n0 e.symm)];exact heap_old W o _ (by omega)
 have k1:w1.heap[w.heap.size+1]?=W.heap[w.heap.size+1]?:=by
  rw [hg.block _ (by simp;omega) (fun e=>h.n1 e.symm)];exact heap_old W o _ lt
 have c0:w1.cell? ⟨w.heap.size,0,none⟩=some kv:=(World.cell?_of_block k0).trans h.b0
 have n0:kv'.ownBlock≠some w.heap.size:=by
  rcases hl with e | e
  · rw [e];exact h.n0
  · rw [e];intro e';injection e' with e';simp at e';omega
 have n1:kv'.ownBlock≠some (w.heap.size+1):=by
  rcases hl with e | e
  · rw [e];exact h.n1
  · rw [e];intro e';injection e' with e';simp at e';omega
 have hne:∀ i,(⟨w.heap.size,0,none⟩:Addr)≠⟨w.heap.size+1,i,none⟩:=fun i e=>by have:=congrArg Addr.block e;simp at this
 refine ⟨⟨set_same c0,set_off ((World.cell?_of_block k0).trans h.b1) (by omega),set_off ((World.cell?_of_block k0).trans h.b2) (by omega),fun i=>?_,?_,?_,?_,fun i=>?_,?_,n0,n1,?_,by simp;omega⟩,⟨c0,(World.cell?_of_block k0).trans h.b1,(World.cell?_of_block k0).trans h.b2,fun i=>(World.frozen?_of_block k0).trans (h.bf i)⟩,(World.cell?_of_block k1).trans h.r0,(World.cell?_of_block k1).trans h.r1,(World.cell?_of_block k1).trans h.r2,fun i=>(World.frozen?_of_block k1).trans (h.rf i)⟩
 · rw [World.frozen?_setCell];exact (World.frozen?_of_block k0).trans (h.bf i)
 · rw [World.cell?_setCell_other _ _ _ _ (hne 0)];exact (World.cell?_of_block k1).trans h.r0
 · rw [World.cell?_setCell_other _ _ _ _ (hne 1)];exact (World.cell?_of_block k1).trans h.r1
 · rw [World.cell?_setCell_other _ _ _ _ (hne 2)];exact (World.cell?_of_block k1).trans h.r2
 · rw [World.frozen?_setCell];exact (World.frozen?_of_block k1).trans (h.rf i)
 · have:w1.ownsRow B 2 1 kv' (ks++[z]).length (I (ks++[z])):=by simpa using ho
   exact ownE_set this n0
 · refine Below.setCell ?_ hB _
   exact (h.bel.alloc (by omega) o).grown hg (by simp;omega) (fun j hj=>(h.own.lt j hj).1)
theorem NX.set {w W:World} {B r cap:Nat} {dn bd:Bool} {m:List Int} {z:Int} (h:NX w B (.slice (some ⟨r,0,none⟩) (m.length+1) cap) dn bd (m++[z]) W) (hr:B≤r) (z':Int) :
    NX w B (.slice (some ⟨r,0,none⟩) (m.length+1) cap) dn bd (m++[z']) (W.setCell ⟨r,m.length,none⟩ (.int .i64 z')):=by
 have own:=h.own
 rw [show (m++[z]).length=m.length+1 by simp] at own
 obtain ⟨s1,_⟩:=own.stored m.length (.int .i64 z')
 have e:(I (m++[z])).set m.length (.int .i64 z')=I (m++[z']):=by
  simp only [I,List.map_append,List.map_cons,List.map_nil]
  rw [List.set_append_right _ _ (by simp)];simp
 rw [e] at s1
 have h0:r≠w.heap.size:=fun e=>h.n0 (by simp [Value.ownBlock,e])
 have h1:r≠w.heap.size+1:=fun e=>h.n1 (by simp [Value.ownBlock,e])
 have q0:∀ i,(⟨r,m.length,none⟩:Addr)≠⟨w.heap.size,i,none⟩:=fun i e=>h0 (congrArg Addr.block e)
 have q1:∀ i,(⟨r,m.length,none⟩:Addr)≠⟨w.heap.size+1,i,none⟩:=fun i e=>h1 (congrArg Addr.block e)
 refine ⟨?_,?_,?_,fun i=>by rw [World.frozen?_setCell];exact h.bf i,?_,?_,?_,fun i=>by rw [World.frozen?_setCell];exact h.rf i,by rw [show (m++[z']).length=m.length+1 by simp];exact s1,h.n0,h.n1,h.bel.setCell hr _,by simpa using h.lt⟩
 · rw [World.cell?_setCell_other _ _ _ _ (q0 0)];exact h.b0
 · rw [World.cell?_setCell_other _ _ _ _ (q0 1)];exact h.b1
 · rw [World.cell?_setCell_other _ _ _ _ (q0 2)];exact h.b2
 · rw [World.cell?_setCell_other _ _ _ _ (q1 0)];exact h.r0
 · rw [World.cell?_setCell_other _ _ _ _ (q1 1)];exact h.r1
 · rw [World.cell?_setCell_other _ _ _ _ (q1 2)];exact h.r2
theorem NX.drop {w W:World} {B r cap:Nat} {dn bd:Bool} {m:List Int} {z:Int} (h:NX w B (.slice (some ⟨r,0,none⟩) (m.length+1) cap) dn bd (m++[z]) W) (hB:B≤w.heap.size) :
    NX w B (.slice (some ⟨r,0,none⟩) m.length cap) dn bd m (W.setCell ⟨w.heap.size,0,none⟩ (.slice (some ⟨r,0,none⟩) m.length cap)):=by
 have own:=h.own
 rw [show (m++[z]).length=m.length+1 by simp] at own
 have o2:=ownE_take own
 have e:(I (m++[z])).take m.length=I m:=by simp [I]
 rw [e] at o2
 have h0:(Value.slice (some ⟨r,0,none⟩) m.length cap).ownBlock≠some w.heap.size:=fun e=>h.n0 (by simpa [Value.ownBlock] using e)
 have h1:(Value.slice (some ⟨r,0,none⟩) m.length cap).ownBlock≠some (w.heap.size+1):=fun e=>h.n1 (by simpa [Value.ownBlock] using e)
 have hne:∀ i,(⟨w.heap.size,0,none⟩:Addr)≠⟨w.heap.size+1,i,none⟩:=fun i e=>by have:=congrArg Addr.block e;simp at this
 refine ⟨set_same h.b0,set_off h.b1 (by omega),set_off h.b2 (by omega),fun i=>by rw [World.frozen?_setCell];exact h.bf i,?_,?_,?_,fun i=>by rw [World.frozen?_setCell];exact h.rf i,ownE_set o2 h0,h0,h1,h.bel.setCell hB _,by simpa using h.lt⟩
 · rw [World.cell?_setCell_other _ _ _ _ (hne 0)];exact h.r0
 · rw [World.cell?_setCell_other _ _ _ _ (hne 1)];exact h.r1
 · rw [World.cell?_setCell_other _ _ _ _ (hne 2)];exact h.r2
theorem NX.fin {w W:World} {B:Nat} {kv x y z:Value} {dn bd:Bool} {ks:List Int} (h:NX w B kv dn bd ks W) (hB:B≤w.heap.size) :
    (((W.setCell ⟨w.heap.size+1,0,none⟩ x).setCell ⟨w.heap.size+1,1,none⟩ y).setCell ⟨w.heap.size+1,2,none⟩ z).ownsRow B 2 1 kv ks.length (I ks)∧Below B w (((W.setCell ⟨w.heap.size+1,0,none⟩ x).setCell ⟨w.heap.size+1,1,none⟩ y).setCell ⟨w.heap.size+1,2,none⟩ z) :=
 ⟨ownE_set (ownE_set (ownE_set h.own h.n1) h.n1) h.n1,((h.bel.setCell (by show B≤w.heap.size+1;omega) _).setCell (by show B≤w.heap.size+1;omega) _).setCell (by show B≤w.heap.size+1;omega) _⟩
theorem NX.flag {w W:World} {B:Nat} {kv:Value} {dn bd:Bool} {ks:List Int} (h:NX w B kv dn bd ks W) (hB:B≤w.heap.size) (z:Bool):NX w B kv z bd ks (W.setCell ⟨w.heap.size,1,none⟩ (.bool z))∧NX w B kv dn z ks (W.setCell ⟨w.heap.size,2,none⟩ (.bool z)):=by
 have hne:∀ j i,(⟨w.heap.size,j,none⟩:Addr)≠⟨w.heap.size+1,i,none⟩:=fun j i e=>by have:=congrArg Addr.block e;simp at this
 constructor
 · refine ⟨set_off h.b0 (by omega),set_same h.b1,set_off h.b2 (by omega),fun i=>by rw [World.frozen?_setCell];exact h.bf i,?_,?_,?_,fun i=>by rw [World.frozen?_setCell];exact h.rf i,ownE_set h.own h.n0,h.n0,h.n1,h.bel.setCell hB _,by simpa using h.lt⟩
   · rw [World.cell?_setCell_other _ _ _ _ (hne 1 0)];exact h.r0
   · rw [World.cell?_setCell_other _ _ _ _ (hne 1 1)];exact h.r1
   · rw [World.cell?_setCell_other _ _ _ _ (hne 1 2)];exact h.r2
 · refine ⟨set_off h.b0 (by omega),set_off h.b1 (by omega),set_same h.b2,fun i=>by rw [World.frozen?_setCell];exact h.bf i,?_,?_,?_,fun i=>by rw [World.frozen?_setCell];exact h.rf i,ownE_set h.own h.n0,h.n0,h.n1,h.bel.setCell hB _,by simpa using h.lt⟩
   · rw [World.cell?_setCell_other _ _ _ _ (hne 2 0)];exact h.r0
   · rw [World.cell?_setCell_other _ _ _ _ (hne 2 1)];exact h.r1
   · rw [World.cell?_setCell_other _ _ _ _ (hne 2 2)];exact h.r2
open Go.RowKit Go.Sort
theorem wp_gen {P:Program} {c:Code} {Q:Exit→Act→World→Prop} {a:Act} {w:World} (R:World→Prop) (h:R w) (k:∀ w',R w'→Code.wp P c Q a w'):Code.wp P c Q a w:=k w h
theorem oneJ (b:Int):∀ u ∈ [Value.int .i64 b],u.oneCell'=true:=by
 intro u hu;simp at hu;subst hu;rfl
abbrev opV (kv:Value) (dn bd:Bool):Value:=.agg #[kv,.bool dn,.bool bd]
theorem next_done (B:Nat) (kv:Value) (ks:List Int) (op:Int) (w:World) (hB:B≤w.heap.size) (h:w.ownsRow B 2 1 kv ks.length (I ks)):Calls Tryz.prog 113 #[opV kv true false,.int .i64 op] w fun e w'=>∃ va vn vc,e=.returned (opV (.slice va vn vc) true true)∧Below B w w':=by
 obtain ⟨a,c,rfl⟩:=ownE_slice h
 have HS:=Hm (NX.start (dn:=true) (bd:=false) h hB)
 clear h
 go_enter Tryz.func113,Tryz.ntmps113
 go_upto_region 1 with fail
 refine wp_gen (fun W=>NX w B (.slice a ks.length c) true false ks W) HS.out ?_
 rintro W nx
 clear HS
 have b0:=nx.b0
 have b1:=nx.b1
 have b2:=nx.b2
 have bf:=nx.bf
 have r0:=nx.r0
 have r1:=nx.r1
 have r2:=nx.r2
 have rf:=nx.rf
 have lt:=nx.lt
 have own:=nx.own
 have NH:=Hm nx
 clear nx
 go_wp2
 exact bodyPost_ret (v:=opV (.slice a ks.length c) true true) (by simp [results,Tryz.results113,go_sem,r0,r1,r2]) rfl ⟨_,_,_,rfl,((NH.out.flag hB true).2.fin hB).2⟩
theorem next_2 (B:Nat) (kv:Value) (ks:List Int) (w:World) (hB:B≤w.heap.size) (hl:ks.length≤4194304) (h:w.ownsRow B 2 1 kv ks.length (I ks)):Calls Tryz.prog 113 #[opV kv false false,.int .i64 2] w fun e w'=>∃ kv',e=.returned (opV kv' false false)∧w'.ownsRow B 2 1 kv' (ks++[0]).length (I (ks++[0]))∧Below B w w':=by
 obtain ⟨i0,hi,hz0,hz1,hz2⟩:=info_parts Tryz.info2
 obtain ⟨a,c,rfl⟩:=ownE_slice h
 have HS:=Hm (NX.start (dn:=false) (bd:=false) h hB)
 clear h
 go_enter Tryz.func113,Tryz.ntmps113
 go_upto_region 1 with fail
 refine wp_gen (fun W=>NX w B (.slice a ks.length c) false false ks W) HS.out ?_
 rintro W nx
 clear HS
 have b0:=nx.b0
 have b1:=nx.b1
 have b2:=nx.b2
 have bf:=nx.bf
 have r0:=nx.r0
 have r1:=nx.r1
 have r2:=nx.r2
 have rf:=nx.rf
 have lt:=nx.lt
 have own:=nx.own
 have NH:=Hm nx
 clear nx
 have q1:w.heap.size≠w.heap.size+1:=by omega
 go_wp2_with (at_builtin;refine wpList_append_own_at _ rfl _ _ 24 rfl B 2 i0 (.int .i64 0) 1 8 Tryz.underlying24 hi hz0 hz1 hz2 rfl (by decide) _ _ _ rfl (own.alloc _) ⟨W.heap.size,0,none⟩ 1 1 [.int .i64 0] rfl rfl (cell_one_new _ _ _) (oneJ _) (by unfold maxLen;omega) (by omega) (by simp;omega) ?_;intro v' w2 hown' hgrow hnn hloc;have HO2:=Hm (NH.out.pushed hB hown' hgrow hloc);obtain ⟨⟨p0,p1,p2,pf⟩,s0,s1,s2,sf⟩:=HO2.out.2;obtain ⟨va,vc,rfl⟩:=ownE_slice hown';clear hown' hgrow hnn hloc own b0 b1 b2 r0 r1 r2 bf rf NH)
 exact bodyPost_ret (v:=opV (.slice va (ks.length+1) vc) false false) (by simp [results,Tryz.results113,go_sem,s0,s1,s2,q1]) rfl ⟨_,rfl,HO2.out.1.fin hB⟩
theorem next_3 (B:Nat) (kv:Value) (ks:List Int) (w:World) (hB:B≤w.heap.size) (hl:ks.length≤4194304) (h:w.ownsRow B 2 1 kv ks.length (I ks)):Calls Tryz.prog 113 #[opV kv false false,.int .i64 3] w fun e w'=>∃ kv',e=.returned (opV kv' false false)∧w'.ownsRow B 2 1 kv' (ks++[0]).length (I (ks++[0]))∧Below B w w':=by
 obtain ⟨i0,hi,hz0,hz1,hz2⟩:=info_parts Tryz.info2
 obtain ⟨a,c,rfl⟩:=ownE_slice h
 have HS:=Hm (NX.start (dn:=false) (bd:=false) h hB)
 clear h
 go_enter Tryz.func113,Tryz.ntmps113
 go_upto_region 1 with fail
 refine wp_gen (fun W=>NX w B (.slice a ks.length c) false false ks W) HS.out ?_
 rintro W nx
 clear HS
 have b0:=nx.b0
 have b1:=nx.b1
 have b2:=nx.b2
 have bf:=nx.bf
 have r0:=nx.r0
 have r1:=nx.r1
 have r2:=nx.r2
 have rf:=nx.rf
 have lt:=nx.lt
 have own:=nx.own
 have NH:=Hm nx
 clear nx
 have q1:w.heap.size≠w.heap.size+1:=by omega
 go_wp2_with (at_builtin;refine wpList_append_own_at _ rfl _ _ 24 rfl B 2 i0 (.int .i64 0) 1 8 Tryz.underlying24 hi hz0 hz1 hz2 rfl (by decide) _ _ _ rfl (own.alloc _) ⟨W.heap.size,0,none⟩ 1 1 [.int .i64 0] rfl rfl (cell_one_new _ _ _) (oneJ _) (by unfold maxLen;omega) (by omega) (by simp;omega) ?_;intro v' w2 hown' hgrow hnn hloc;have HO2:=Hm (NH.out.pushed hB hown' hgrow hloc);obtain ⟨⟨p0,p1,p2,pf⟩,s0,s1,s2,sf⟩:=HO2.out.2;obtain ⟨va,vc,rfl⟩:=ownE_slice hown';clear hown' hgrow hnn hloc own b0 b1 b2 r0 r1 r2 bf rf NH)
 exact bodyPost_ret (v:=opV (.slice va (ks.length+1) vc) false false) (by simp [results,Tryz.results113,go_sem,s0,s1,s2,q1]) rfl ⟨_,rfl,HO2.out.1.fin hB⟩
theorem next_4 (B:Nat) (kv:Value) (ks:List Int) (w:World) (hB:B≤w.heap.size) (hl:ks.length≤4194304) (h:w.ownsRow B 2 1 kv ks.length (I ks)):Calls Tryz.prog 113 #[opV kv false false,.int .i64 4] w fun e w'=>∃ kv',e=.returned (opV kv' false false)∧w'.ownsRow B 2 1 kv' (ks++[1]).length (I (ks++[1]))∧Below B w w':=by
 obtain ⟨i0,hi,hz0,hz1,hz2⟩:=info_parts Tryz.info2
 obtain ⟨a,c,rfl⟩:=ownE_slice h
 have HS:=Hm (NX.start (dn:=false) (bd:=false) h hB)
 clear h
 go_enter Tryz.func113,Tryz.ntmps113
 go_upto_region 1 with fail
 refine wp_gen (fun W=>NX w B (.slice a ks.length c) false false ks W) HS.out ?_
 rintro W nx
 clear HS
 have b0:=nx.b0
 have b1:=nx.b1
 have b2:=nx.b2
 have bf:=nx.bf
 have r0:=nx.r0
 have r1:=nx.r1
 have r2:=nx.r2
 have rf:=nx.rf
 have lt:=nx.lt
 have own:=nx.own
 have NH:=Hm nx
 clear nx
 have q1:w.heap.size≠w.heap.size+1:=by omega
 go_wp2_with (at_builtin;refine wpList_append_own_at _ rfl _ _ 24 rfl B 2 i0 (.int .i64 0) 1 8 Tryz.underlying24 hi hz0 hz1 hz2 rfl (by decide) _ _ _ rfl (own.alloc _) ⟨W.heap.size,0,none⟩ 1 1 [.int .i64 1] rfl rfl (cell_one_new _ _ _) (oneJ _) (by unfold maxLen;omega) (by omega) (by simp;omega) ?_;intro v' w2 hown' hgrow hnn hloc;have HO2:=Hm (NH.out.pushed hB hown' hgrow hloc);obtain ⟨⟨p0,p1,p2,pf⟩,s0,s1,s2,sf⟩:=HO2.out.2;obtain ⟨va,vc,rfl⟩:=ownE_slice hown';clear hown' hgrow hnn hloc own b0 b1 b2 r0 r1 r2 bf rf NH)
 exact bodyPost_ret (v:=opV (.slice va (ks.length+1) vc) false false) (by simp [results,Tryz.results113,go_sem,s0,s1,s2,q1]) rfl ⟨_,rfl,HO2.out.1.fin hB⟩
theorem next_5n (B:Nat) (kv:Value) (w:World) (hB:B≤w.heap.size) (h:w.ownsRow B 2 1 kv ([]:List Int).length (I [])):Calls Tryz.prog 113 #[opV kv false false,.int .i64 5] w fun e w'=>∃ va vn vc,e=.returned (opV (.slice va vn vc) false true)∧Below B w w':=by
 obtain ⟨a,c,rfl⟩:=ownE_slice h
 have HS:=Hm (NX.start (dn:=false) (bd:=false) h hB)
 clear h
 go_enter Tryz.func113,Tryz.ntmps113
 go_upto_region 1 with fail
 refine wp_gen (fun W=>NX w B (.slice a ([]:List Int).length c) false false [] W) HS.out ?_
 rintro W nx
 clear HS
 have b0:=nx.b0
 have b1:=nx.b1
 have b2:=nx.b2
 have bf:=nx.bf
 have r0:=nx.r0
 have r1:=nx.r1
 have r2:=nx.r2
 have rf:=nx.rf
 have lt:=nx.lt
 have own:=nx.own
 have NH:=Hm nx
 clear nx
 have q1:w.heap.size≠w.heap.size+1:=by omega
 go_wp2
 exact bodyPost_ret (v:=opV (.slice a 0 c) false true) (by simp [results,Tryz.results113,go_sem,r0,r1,r2,q1]) rfl ⟨_,_,_,rfl,((NH.out.flag hB true).2.fin hB).2⟩
theorem next_11n (B:Nat) (kv:Value) (w:World) (hB:B≤w.heap.size) (h:w.ownsRow B 2 1 kv ([]:List Int).length (I [])):Calls Tryz.prog 113 #[opV kv false false,.int .i64 11] w fun e w'=>∃ kv',e=.returned (opV kv' true false)∧w'.ownsRow B 2 1 kv' ([]:List Int).length (I [])∧Below B w w':=by
 obtain ⟨a,c,rfl⟩:=ownE_slice h
 have HS:=Hm (NX.start (dn:=false) (bd:=false) h hB)
 clear h
 go_enter Tryz.func113,Tryz.ntmps113
 go_upto_region 1 with fail
 refine wp_gen (fun W=>NX w B (.slice a ([]:List Int).length c) false false [] W) HS.out ?_
 rintro W nx
 clear HS
 have b0:=nx.b0
 have b1:=nx.b1
 have b2:=nx.b2
 have bf:=nx.bf
 have r0:=nx.r0
 have r1:=nx.r1
 have r2:=nx.r2
 have rf:=nx.rf
 have lt:=nx.lt
 have own:=nx.own
 have NH:=Hm nx
 clear nx
 have q1:w.heap.size≠w.heap.size+1:=by omega
 go_wp2
 exact bodyPost_ret (v:=opV (.slice a 0 c) true false) (by simp [results,Tryz.results113,go_sem,r0,r1,r2,q1]) rfl ⟨_,rfl,((NH.out.flag hB true).1.fin hB)⟩
theorem next_5z (B:Nat) (kv:Value) (m:List Int) (z:Int) (w:World) (hB:B≤w.heap.size) (hl:m.length≤4194304) (hz:z=0) (h:w.ownsRow B 2 1 kv (m++[z]).length (I (m++[z]))):Calls Tryz.prog 113 #[opV kv false false,.int .i64 5] w fun e w'=>∃ va vn vc,e=.returned (opV (.slice va vn vc) false true)∧Below B w w':=by
 rw [show (m++[z]).length=m.length+1 by simp] at h
 obtain ⟨r,cap,rfl,hr,hr2,hcap⟩:=ownE_split h (by omega)
 have h':w.ownsRow B 2 1 (.slice (some ⟨r,0,none⟩) (m.length+1) cap) (m++[z]).length (I (m++[z])):=by rw [show (m++[z]).length=m.length+1 by simp];exact h
 have HS:=Hm (NX.start (dn:=false) (bd:=false) h' hB)
 clear h h'
 go_enter Tryz.func113,Tryz.ntmps113
 go_upto_region 1 with fail
 refine wp_gen (fun W=>NX w B (.slice (some ⟨r,0,none⟩) (m.length+1) cap) false false (m++[z]) W) HS.out ?_
 rintro W nx
 clear HS
 have b0:=nx.b0
 have b1:=nx.b1
 have b2:=nx.b2
 have bf:=nx.bf
 have r0:=nx.r0
 have r1:=nx.r1
 have r2:=nx.r2
 have rf:=nx.rf
 have lt:=nx.lt
 have own:=nx.own
 have NH:=Hm nx
 clear nx
 have own2:=own
 rw [show (m++[z]).length=m.length+1 by simp] at own2
 have cz:W.cell? ⟨r,m.length,none⟩=some (.int .i64 z):=by
  rw [own2.cellAt m.length (by omega)];simp
 have fz:=own2.frozenAt m.length
 clear own2
 have hw:IntKind.i64.wrap (((m.length+1:Nat):Int)-1)=m.length:=by rw [IntKind.wrap_i64];omega
 have p1:((((m.length+1:Nat):Int))==0)=false:=by simp;omega
 have p2:(m.length:Int)<((m.length+1:Nat):Int):=by omega
 have p3:(m.length:Int)≤(cap:Int):=by omega
 have q1:w.heap.size≠w.heap.size+1:=by omega
 have q2:r≠w.heap.size:=fun e=>NH.out.n0 (by simp [Value.ownBlock,e])
 have q3:r≠w.heap.size+1:=fun e=>NH.out.n1 (by simp [Value.ownBlock,e])
 clear own
 subst hz
 go_wp2
 exact bodyPost_ret (v:=opV (.slice (some ⟨r,0,none⟩) (m.length+1) cap) false true) (by simp [results,Tryz.results113,go_sem,r0,r1,r2,q1]) rfl ⟨_,_,_,rfl,((NH.out.flag hB true).2.fin hB).2⟩
theorem next_5 (B:Nat) (kv:Value) (m:List Int) (z:Int) (w:World) (hB:B≤w.heap.size) (hl:m.length≤4194304) (hz:z≠0) (h:w.ownsRow B 2 1 kv (m++[z]).length (I (m++[z]))):Calls Tryz.prog 113 #[opV kv false false,.int .i64 5] w fun e w'=>∃ kv',e=.returned (opV kv' false false)∧w'.ownsRow B 2 1 kv' (m++[0]).length (I (m++[0]))∧Below B w w':=by
 rw [show (m++[z]).length=m.length+1 by simp] at h
 obtain ⟨r,cap,rfl,hr,hr2,hcap⟩:=ownE_split h (by omega)
 have h':w.ownsRow B 2 1 (.slice (some ⟨r,0,none⟩) (m.length+1) cap) (m++[z]).length (I (m++[z])):=by rw [show (m++[z]).length=m.length+1 by simp];exact h
 have HS:=Hm (NX.start (dn:=false) (bd:=false) h' hB)
 clear h h'
 go_enter Tryz.func113,Tryz.ntmps113
 go_upto_region 1 with fail
 refine wp_gen (fun W=>NX w B (.slice (some ⟨r,0,none⟩) (m.length+1) cap) false false (m++[z]) W) HS.out ?_
 rintro W nx
 clear HS
 have b0:=nx.b0
 have b1:=nx.b1
 have b2:=nx.b2
 have bf:=nx.bf
 have r0:=nx.r0
 have r1:=nx.r1
 have r2:=nx.r2
 have rf:=nx.rf
 have lt:=nx.lt
 have own:=nx.own
 have NH:=Hm nx
 clear nx
 have own2:=own
 rw [show (m++[z]).length=m.length+1 by simp] at own2
 have cz:W.cell? ⟨r,m.length,none⟩=some (.int .i64 z):=by
  rw [own2.cellAt m.length (by omega)];simp
 have fz:=own2.frozenAt m.length
 clear own2
 have hw:IntKind.i64.wrap (((m.length+1:Nat):Int)-1)=m.length:=by rw [IntKind.wrap_i64];omega
 have p1:((((m.length+1:Nat):Int))==0)=false:=by simp;omega
 have p2:(m.length:Int)<((m.length+1:Nat):Int):=by omega
 have p3:(m.length:Int)≤(cap:Int):=by omega
 have q1:w.heap.size≠w.heap.size+1:=by omega
 have q2:r≠w.heap.size:=fun e=>NH.out.n0 (by simp [Value.ownBlock,e])
 have q3:r≠w.heap.size+1:=fun e=>NH.out.n1 (by simp [Value.ownBlock,e])
 clear own
 have hz1:(z==0)=false:=by simpa using hz
 go_wp2
 exact bodyPost_ret (v:=opV (.slice (some ⟨r,0,none⟩) (m.length+1) cap) false false) (by simp [results,Tryz.results113,go_sem,r0,r1,r2,q1,q2,q3]) rfl ⟨_,rfl,(NH.out.set hr 0).fin hB⟩
theorem next_11 (B:Nat) (kv:Value) (m:List Int) (z:Int) (w:World) (hB:B≤w.heap.size) (hl:m.length≤4194304) (h:w.ownsRow B 2 1 kv (m++[z]).length (I (m++[z]))):Calls Tryz.prog 113 #[opV kv false false,.int .i64 11] w fun e w'=>∃ kv',e=.returned (opV kv' false false)∧w'.ownsRow B 2 1 kv' m.length (I m)∧Below B w w':=by
 rw [show (m++[z]).length=m.length+1 by simp] at h
 obtain ⟨r,cap,rfl,hr,hr2,hcap⟩:=ownE_split h (by omega)
 have h':w.ownsRow B 2 1 (.slice (some ⟨r,0,none⟩) (m.length+1) cap) (m++[z]).length (I (m++[z])):=by rw [show (m++[z]).length=m.length+1 by simp];exact h
 have HS:=Hm (NX.start (dn:=false) (bd:=false) h' hB)
 clear h h'
 go_enter Tryz.func113,Tryz.ntmps113
 go_upto_region 1 with fail
 refine wp_gen (fun W=>NX w B (.slice (some ⟨r,0,none⟩) (m.length+1) cap) false false (m++[z]) W) HS.out ?_
 rintro W nx
 clear HS
 have b0:=nx.b0
 have b1:=nx.b1
 have b2:=nx.b2
 have bf:=nx.bf
 have r0:=nx.r0
 have r1:=nx.r1
 have r2:=nx.r2
 have rf:=nx.rf
 have lt:=nx.lt
 have own:=nx.own
 have NH:=Hm nx
 clear nx
 have own2:=own
 rw [show (m++[z]).length=m.length+1 by simp] at own2
 have cz:W.cell? ⟨r,m.length,none⟩=some (.int .i64 z):=by
  rw [own2.cellAt m.length (by omega)];simp
 have fz:=own2.frozenAt m.length
 clear own2
 have hw:IntKind.i64.wrap (((m.length+1:Nat):Int)-1)=m.length:=by rw [IntKind.wrap_i64];omega
 have p1:((((m.length+1:Nat):Int))==0)=false:=by simp;omega
 have p2:(m.length:Int)<((m.length+1:Nat):Int):=by omega
 have p3:(m.length:Int)≤(cap:Int):=by omega
 have q1:w.heap.size≠w.heap.size+1:=by omega
 have q2:r≠w.heap.size:=fun e=>NH.out.n0 (by simp [Value.ownBlock,e])
 have q3:r≠w.heap.size+1:=fun e=>NH.out.n1 (by simp [Value.ownBlock,e])
 clear own
 go_wp2
 exact bodyPost_ret (v:=opV (.slice (some ⟨r,0,none⟩) m.length cap) false false) (by simp [results,Tryz.results113,go_sem,r0,r1,r2,q1,q2,q3]) rfl ⟨_,rfl,(NH.out.drop hB).fin hB⟩
theorem next_same (B:Nat) (kv:Value) (ks:List Int) (op:Int) (w:World) (hB:B≤w.heap.size) (o1:op≠2) (o2:op≠3) (o3:op≠4) (o4:op≠5) (o5:op≠11) (h:w.ownsRow B 2 1 kv ks.length (I ks)):Calls Tryz.prog 113 #[opV kv false false,.int .i64 op] w fun e w'=>∃ kv',e=.returned (opV kv' false false)∧w'.ownsRow B 2 1 kv' ks.length (I ks)∧Below B w w':=by
 obtain ⟨a,c,rfl⟩:=ownE_slice h
 have HS:=Hm (NX.start (dn:=false) (bd:=false) h hB)
 clear h
 go_enter Tryz.func113,Tryz.ntmps113
 go_upto_region 1 with fail
 refine wp_gen (fun W=>NX w B (.slice a ks.length c) false false ks W) HS.out ?_
 rintro W nx
 clear HS
 have b0:=nx.b0
 have b1:=nx.b1
 have b2:=nx.b2
 have bf:=nx.bf
 have r0:=nx.r0
 have r1:=nx.r1
 have r2:=nx.r2
 have rf:=nx.rf
 have lt:=nx.lt
 have own:=nx.own
 have NH:=Hm nx
 clear nx
 have q1:w.heap.size≠w.heap.size+1:=by omega
 have p1:(op==2)=false:=by simpa using o1
 have p2:(op==3)=false:=by simpa using o2
 have p3:(op==4)=false:=by simpa using o3
 have p4:(op==5)=false:=by simpa using o4
 have p5:(op==11)=false:=by simpa using o5
 go_wp2
 exact bodyPost_ret (v:=opV (.slice a ks.length c) false false) (by simp [results,Tryz.results113,go_sem,r0,r1,r2,q1]) rfl ⟨_,rfl,NH.out.fin hB⟩
end Go.Proofs.YtdbmolambolmgaaGreat
