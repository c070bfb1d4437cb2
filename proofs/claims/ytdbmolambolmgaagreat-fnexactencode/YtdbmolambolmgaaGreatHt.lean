import Derived.Test.YtdbmolambolmgaaGreatHs
set_option linter.all false
set_option maxHeartbeats 16000000
set_option maxRecDepth 100000
namespace Go.Proofs.YtdbmolambolmgaaGreat.NF
open Go.RowKit Go.Sort
set_option maxRecDepth 100000
theorem Tryz.infoIn:(Tryz.prog.info? 188).map (fun i=>(i.zero,i.size,i.bytes))=some (some (.agg #[.int .i64 0,.int .i64 0,.int .i64 0,.int .u64 0,.slice none 0 0]),5,56):=by kernel_rfl
theorem makeIn (n:Nat) (hn:n≤1048576) (w:World):(Instr.makeSlice 68 (.int .i64 (n:Int)) (.int .i64 (n:Int))).run Tryz.prog w=.ok (.slice (some ⟨w.heap.size,0,none⟩) n n) (w.alloc (.cells (madeCells #[.int .i64 0,.int .i64 0,.int .i64 0,.int .u64 0,.slice none 0 0] (n*5)) 188)):=by
 obtain ⟨i,hi,hzz⟩:=Option.map_eq_some_iff.1 Tryz.infoIn
 simp only [Prod.mk.injEq] at hzz
 obtain ⟨hz,hs,hb⟩:=hzz
 have:=run_make (P:=Tryz.prog) w 68 188 i _ Tryz.underlying68 hi hz .i64 .i64 n n (by omega) (by omega) (by rw [hb];omega) (by omega)
 rw [hs] at this
 simpa [Value.cells] using this
structure CpIn (w:World) (g n k:Nat) (xs:List In) (W:World):Prop where
 blk:∃ cur,W.heap[g]?=some (.cells cur 188 (0,0))∧cur.size=n*5
 done:∀ i,i<k→∃ a1 c1,(W.cell? ⟨g,i*5,none⟩=some (.int .i64 (xs.getD i I0).op)∧W.cell? ⟨g,i*5+1,none⟩=some (.int .i64 (xs.getD i I0).a)∧W.cell? ⟨g,i*5+2,none⟩=some (.int .i64 (xs.getD i I0).b)∧W.cell? ⟨g,i*5+3,none⟩=some (.int .u64 (xs.getD i I0).v)∧W.cell? ⟨g,i*5+4,none⟩=some (.slice a1 (xs.getD i I0).l.length c1))∧In.Is (g+1) W (xs.getD i I0) a1
 bel:Below w.heap.size w W
 ge:w.heap.size≤g
theorem CpIn.cells {w W:World} {g n k:Nat} {xs:List In} (h:CpIn w g n k xs W):g<W.heap.size∧(∀ j,j<n*5→∃ u,W.cell? ⟨g,j,none⟩=some u)∧∀ j,W.frozen? ⟨g,j,none⟩=false:=by
 obtain ⟨cur,e,hc⟩:=h.blk
 have hl:g<W.heap.size:=by
  rcases Nat.lt_or_ge g W.heap.size with h' | h'
  · exact h'
  · rw [Array.getElem?_eq_none h'] at e;cases e
 refine ⟨hl,fun j hj=>?_,fun j=>?_⟩
 · simp only [World.cell?,e]
   exact ⟨cur[j]'(by omega),by simp [show j<cur.size by omega]⟩
 · simp only [World.frozen?,e];simp
theorem CpIn.keep {w W W1:World} {g n k:Nat} {xs:List In} (h:CpIn w g n k xs W) (hb:Below W.heap.size W W1):CpIn w g n k xs W1:=by
 obtain ⟨cur,e,hc⟩:=h.blk
 have hl:=h.cells.1
 refine ⟨⟨cur,(hb.block g hl).trans e,hc⟩,fun i hi=>?_,h.bel.trans (hb.mono h.bel.size),h.ge⟩
 obtain ⟨a1,c1,⟨q0,q1,q2,q3,q4⟩,hi2⟩:=h.done i hi
 exact ⟨a1,c1,⟨(hb.cell (p:=⟨g,i*5,none⟩) hl).trans q0,(hb.cell (p:=⟨g,i*5+1,none⟩) hl).trans q1,(hb.cell (p:=⟨g,i*5+2,none⟩) hl).trans q2,(hb.cell (p:=⟨g,i*5+3,none⟩) hl).trans q3,(hb.cell (p:=⟨g,i*5+4,none⟩) hl).trans q4⟩,hi2.up (up_below hb)⟩
theorem blk_In {w:World} {g o n:Nat} {v:Value} (h:∃ cur,w.heap[g]?=some (.cells cur 188 (0,0))∧cur.size=n):∃ cur,(w.setCell ⟨g,o,none⟩ v).heap[g]?=some (.cells cur 188 (0,0))∧cur.size=n:=by
 obtain ⟨cur,e,hc⟩:=h
 refine ⟨cur.setIfInBounds o v,?_,by simpa using hc⟩
 simp only [World.setCell,Array.getElem?_modify,if_true,e,Option.map_some]
 rfl
theorem CpIn.step {w W:World} {g n k:Nat} {xs:List In} {b1:Nat} (H:CpIn w g n k xs W) (hk:k<n) (x:In) (hx:x=xs.getD k I0) (ho:In.Is (g+1) W x (some ⟨b1,0,none⟩)) :
    CpIn w g n (k+1) xs (((((W.setCell ⟨g,k*5,none⟩ (.int .i64 x.op)).setCell ⟨g,k*5+1,none⟩ (.int .i64 x.a)).setCell ⟨g,k*5+2,none⟩ (.int .i64 x.b)).setCell ⟨g,k*5+3,none⟩ (.int .u64 x.v)).setCell ⟨g,k*5+4,none⟩ (.slice (some ⟨b1,0,none⟩) x.l.length x.l.length)):=by
 obtain ⟨hl,hc,hf⟩:=H.cells
 obtain ⟨u0,e0⟩:=hc (k*5) (by omega)
 obtain ⟨u1,e1⟩:=hc (k*5+1) (by omega)
 obtain ⟨u2,e2⟩:=hc (k*5+2) (by omega)
 obtain ⟨u3,e3⟩:=hc (k*5+3) (by omega)
 obtain ⟨u4,e4⟩:=hc (k*5+4) (by omega)
 refine ⟨blk_In (blk_In (blk_In (blk_In (blk_In (H.blk))))),fun i hi=>?_,(((((H.bel.setCell H.ge _).setCell H.ge _).setCell H.ge _).setCell H.ge _).setCell H.ge _),H.ge⟩
 by_cases hik:i=k
 · subst hik
   rw [← hx]
   exact ⟨_,_,⟨set_off (set_off (set_off (set_off (set_same (e0)) (by omega)) (by omega)) (by omega)) (by omega),set_off (set_off (set_off (set_same (set_off (e1) (by omega))) (by omega)) (by omega)) (by omega),set_off (set_off (set_same (set_off (set_off (e2) (by omega)) (by omega))) (by omega)) (by omega),set_off (set_same (set_off (set_off (set_off (e3) (by omega)) (by omega)) (by omega))) (by omega),set_same (set_off (set_off (set_off (set_off (e4) (by omega)) (by omega)) (by omega)) (by omega))⟩,(((((ho.up (up_set (Nat.lt_succ_self g))).up (up_set (Nat.lt_succ_self g))).up (up_set (Nat.lt_succ_self g))).up (up_set (Nat.lt_succ_self g))).up (up_set (Nat.lt_succ_self g)))⟩
 · obtain ⟨a1,c1,⟨q0,q1,q2,q3,q4⟩,hi2⟩:=H.done i (by omega)
   exact ⟨a1,c1,⟨set_off (set_off (set_off (set_off (set_off (q0) (by omega)) (by omega)) (by omega)) (by omega)) (by omega),set_off (set_off (set_off (set_off (set_off (q1) (by omega)) (by omega)) (by omega)) (by omega)) (by omega),set_off (set_off (set_off (set_off (set_off (q2) (by omega)) (by omega)) (by omega)) (by omega)) (by omega),set_off (set_off (set_off (set_off (set_off (q3) (by omega)) (by omega)) (by omega)) (by omega)) (by omega),set_off (set_off (set_off (set_off (set_off (q4) (by omega)) (by omega)) (by omega)) (by omega)) (by omega)⟩,(((((hi2.up (up_set (Nat.lt_succ_self g))).up (up_set (Nat.lt_succ_self g))).up (up_set (Nat.lt_succ_self g))).up (up_set (Nat.lt_succ_self g))).up (up_set (Nat.lt_succ_self g)))⟩
theorem CpIn.ls {w W:World} {g:Nat} {xs:List In} (h:CpIn w g xs.length xs.length xs W):In.Ls g W (some ⟨g,0,none⟩) xs:=by
 refine .inr ⟨g,0,rfl,Nat.le_refl _,fun i hi=>?_⟩
 obtain ⟨a1,c1,qs,hi2⟩:=h.done i hi
 rw [Nat.zero_add]
 exact ⟨a1,c1,qs,hi2.mono (Nat.le_succ g)⟩
theorem rtIns_c (a:Option Addr) (c:Nat) (xs:List In) (w:World) (hl:xs.length≤1048576∧∀ i,i<xs.length→In.LB 1048576 (xs.getD i I0)) (hL:In.Ls 0 w a xs) :
    Calls Tryz.prog 172 #[.slice a xs.length c] w fun e w'=>e=.returned (.slice (some ⟨w.heap.size,0,none⟩) xs.length xs.length)∧In.Ls w.heap.size w' (some ⟨w.heap.size,0,none⟩) xs∧Below w.heap.size w w':=by
 obtain ⟨hn,hll⟩:=hl
 have hmk:=makeIn xs.length hn
 have HL:=Hm hL
 have Hl:=Hm hll
 clear hL hll
 have hst:CpIn w w.heap.size xs.length 0 xs (w.alloc (.cells (madeCells #[.int .i64 0,.int .i64 0,.int .i64 0,.int .u64 0,.slice none 0 0] (xs.length*5)) 188)) :=
  ⟨⟨_,heap_new _ _,by simp [madeCells]⟩,fun i hi=>by omega,(Below.refl _ _).alloc (Nat.le_refl _) _,Nat.le_refl _⟩
 have HS:=Hm hst
 clear hst
 go_enter Tryz.func172,Tryz.ntmps172
 go_wp2
 go_loopw [4] (fun i wr=>∃ k:Nat,k≤xs.length∧i=.int .i64 k∧CpIn w w.heap.size xs.length k xs wr) (fun i _=>xs.length-(intOf i).toNat)
 case atStart=>exact ⟨0,Nat.zero_le _,rfl,HS.out⟩
 case round =>
  obtain ⟨k,hk,rfl,hcp⟩:=hrel
  clear HS hmk
  by_cases hlt:k<xs.length
  · have hki:(k:Int)<(xs.length:Int):=by omega
    rcases HL.out.up (up_below hcp.bel) with hx | ⟨b,o,ea,_,hc⟩
    · subst hx;simp at hlt
    have hxk:=hc k hlt
    have hxl:=Hl.out k hlt
    subst ea
    obtain ⟨x,hx⟩:∃ x,x=xs.getD k I0:=⟨_,rfl⟩
    rw [← hx] at hxk hxl
    obtain ⟨a1,c1,⟨q0,q1,q2,q3,q4⟩,hi⟩:=hxk
    have HT:=Hm (rtIn_c x a1 c1 wr hi hxl)
    have HX:=Hm hx
    have HP:=Hm hcp
    clear hx hc hcp hi HL
    go_wp2_with fail
    refine HT.out.mono ?_
    rintro e w1 ⟨b1,rfl,ho,hb⟩
    have hcp1:=HP.out.keep hb
    obtain ⟨hl1,hc1,hf1⟩:=hcp1.cells
    obtain ⟨u0,e0⟩:=hc1 (k*5) (by omega)
    obtain ⟨u1,e1⟩:=hc1 (k*5+1) (by omega)
    obtain ⟨u2,e2⟩:=hc1 (k*5+2) (by omega)
    obtain ⟨u3,e3⟩:=hc1 (k*5+3) (by omega)
    obtain ⟨u4,e4⟩:=hc1 (k*5+4) (by omega)
    have HP1:=Hm (hcp1.step hlt x HX.out (ho.mono (by have:=HP.out.cells.1;omega)))
    clear ho hb hcp1 hc1 HT HP q0 q1 q2 q3 q4
    go_wp2
    go_roundw
    case rel=>exact ⟨k+1,by omega,by go_num,HP1.out⟩
    case measure=>simp [intOf];omega
  · have e:k=xs.length:=by omega
    subst e
    go_wp2
    go_ret
    exact ⟨rfl,hcp.ls,hcp.bel⟩
theorem Tryz.infoLimits:(Tryz.prog.info? 99).map (fun i=>(i.zero,i.size,i.bytes))=some (some (.agg #[.int .i64 0,.int .i64 0,.bool false]),3,24):=by kernel_rfl
theorem makeLimits (n:Nat) (hn:n≤1048576) (w:World):(Instr.makeSlice 38 (.int .i64 (n:Int)) (.int .i64 (n:Int))).run Tryz.prog w=.ok (.slice (some ⟨w.heap.size,0,none⟩) n n) (w.alloc (.cells (madeCells #[.int .i64 0,.int .i64 0,.bool false] (n*3)) 99)):=by
 obtain ⟨i,hi,hzz⟩:=Option.map_eq_some_iff.1 Tryz.infoLimits
 simp only [Prod.mk.injEq] at hzz
 obtain ⟨hz,hs,hb⟩:=hzz
 have:=run_make (P:=Tryz.prog) w 38 99 i _ Tryz.underlying38 hi hz .i64 .i64 n n (by omega) (by omega) (by rw [hb];omega) (by omega)
 rw [hs] at this
 simpa [Value.cells] using this
structure CpLimits (w:World) (g n k:Nat) (xs:List Limits) (W:World):Prop where
 blk:∃ cur,W.heap[g]?=some (.cells cur 99 (0,0))∧cur.size=n*3
 done:∀ i,i<k→(W.cell? ⟨g,i*3,none⟩=some (.int .i64 (xs.getD i Limits.z).min)∧W.cell? ⟨g,i*3+1,none⟩=some (.int .i64 (xs.getD i Limits.z).max)∧W.cell? ⟨g,i*3+2,none⟩=some (.bool (xs.getD i Limits.z).has))∧Limits.Is (g+1) W (xs.getD i Limits.z)
 bel:Below w.heap.size w W
 ge:w.heap.size≤g
theorem CpLimits.cells {w W:World} {g n k:Nat} {xs:List Limits} (h:CpLimits w g n k xs W):g<W.heap.size∧(∀ j,j<n*3→∃ u,W.cell? ⟨g,j,none⟩=some u)∧∀ j,W.frozen? ⟨g,j,none⟩=false:=by
 obtain ⟨cur,e,hc⟩:=h.blk
 have hl:g<W.heap.size:=by
  rcases Nat.lt_or_ge g W.heap.size with h' | h'
  · exact h'
  · rw [Array.getElem?_eq_none h'] at e;cases e
 refine ⟨hl,fun j hj=>?_,fun j=>?_⟩
 · simp only [World.cell?,e]
   exact ⟨cur[j]'(by omega),by simp [show j<cur.size by omega]⟩
 · simp only [World.frozen?,e];simp
theorem CpLimits.keep {w W W1:World} {g n k:Nat} {xs:List Limits} (h:CpLimits w g n k xs W) (hb:Below W.heap.size W W1):CpLimits w g n k xs W1:=by
 obtain ⟨cur,e,hc⟩:=h.blk
 have hl:=h.cells.1
 refine ⟨⟨cur,(hb.block g hl).trans e,hc⟩,fun i hi=>?_,h.bel.trans (hb.mono h.bel.size),h.ge⟩
 obtain ⟨⟨q0,q1,q2⟩,hi2⟩:=h.done i hi
 exact ⟨⟨(hb.cell (p:=⟨g,i*3,none⟩) hl).trans q0,(hb.cell (p:=⟨g,i*3+1,none⟩) hl).trans q1,(hb.cell (p:=⟨g,i*3+2,none⟩) hl).trans q2⟩,hi2.up (up_below hb)⟩
theorem blk_Limits {w:World} {g o n:Nat} {v:Value} (h:∃ cur,w.heap[g]?=some (.cells cur 99 (0,0))∧cur.size=n):∃ cur,(w.setCell ⟨g,o,none⟩ v).heap[g]?=some (.cells cur 99 (0,0))∧cur.size=n:=by
 obtain ⟨cur,e,hc⟩:=h
 refine ⟨cur.setIfInBounds o v,?_,by simpa using hc⟩
 simp only [World.setCell,Array.getElem?_modify,if_true,e,Option.map_some]
 rfl
theorem CpLimits.step {w W:World} {g n k:Nat} {xs:List Limits} (H:CpLimits w g n k xs W) (hk:k<n) (x:Limits) (hx:x=xs.getD k Limits.z) (ho:Limits.Is (g+1) W x) :
    CpLimits w g n (k+1) xs (((W.setCell ⟨g,k*3,none⟩ (.int .i64 x.min)).setCell ⟨g,k*3+1,none⟩ (.int .i64 x.max)).setCell ⟨g,k*3+2,none⟩ (.bool x.has)):=by
 obtain ⟨hl,hc,hf⟩:=H.cells
 obtain ⟨u0,e0⟩:=hc (k*3) (by omega)
 obtain ⟨u1,e1⟩:=hc (k*3+1) (by omega)
 obtain ⟨u2,e2⟩:=hc (k*3+2) (by omega)
 refine ⟨blk_Limits (blk_Limits (blk_Limits (H.blk))),fun i hi=>?_,(((H.bel.setCell H.ge _).setCell H.ge _).setCell H.ge _),H.ge⟩
 by_cases hik:i=k
 · subst hik
   rw [← hx]
   exact ⟨⟨set_off (set_off (set_same (e0)) (by omega)) (by omega),set_off (set_same (set_off (e1) (by omega))) (by omega),set_same (set_off (set_off (e2) (by omega)) (by omega))⟩,(((ho.up (up_set (Nat.lt_succ_self g))).up (up_set (Nat.lt_succ_self g))).up (up_set (Nat.lt_succ_self g)))⟩
 · obtain ⟨⟨q0,q1,q2⟩,hi2⟩:=H.done i (by omega)
   exact ⟨⟨set_off (set_off (set_off (q0) (by omega)) (by omega)) (by omega),set_off (set_off (set_off (q1) (by omega)) (by omega)) (by omega),set_off (set_off (set_off (q2) (by omega)) (by omega)) (by omega)⟩,(((hi2.up (up_set (Nat.lt_succ_self g))).up (up_set (Nat.lt_succ_self g))).up (up_set (Nat.lt_succ_self g)))⟩
theorem CpLimits.ls {w W:World} {g:Nat} {xs:List Limits} (h:CpLimits w g xs.length xs.length xs W):Limits.Ls g W (some ⟨g,0,none⟩) xs:=by
 refine .inr ⟨g,0,rfl,Nat.le_refl _,fun i hi=>?_⟩
 obtain ⟨qs,hi2⟩:=h.done i hi
 rw [Nat.zero_add]
 exact ⟨qs,hi2.mono (Nat.le_succ g)⟩
theorem rtLimitss_c (a:Option Addr) (c:Nat) (xs:List Limits) (w:World) (hl:xs.length≤1048576∧∀ i,i<xs.length→Limits.LB 1048576 (xs.getD i Limits.z)) (hL:Limits.Ls 0 w a xs) :
    Calls Tryz.prog 40 #[.slice a xs.length c] w fun e w'=>e=.returned (.slice (some ⟨w.heap.size,0,none⟩) xs.length xs.length)∧Limits.Ls w.heap.size w' (some ⟨w.heap.size,0,none⟩) xs∧Below w.heap.size w w':=by
 obtain ⟨hn,hll⟩:=hl
 have hmk:=makeLimits xs.length hn
 have HL:=Hm hL
 have Hl:=Hm hll
 clear hL hll
 have hst:CpLimits w w.heap.size xs.length 0 xs (w.alloc (.cells (madeCells #[.int .i64 0,.int .i64 0,.bool false] (xs.length*3)) 99)) :=
  ⟨⟨_,heap_new _ _,by simp [madeCells]⟩,fun i hi=>by omega,(Below.refl _ _).alloc (Nat.le_refl _) _,Nat.le_refl _⟩
 have HS:=Hm hst
 clear hst
 go_enter Tryz.func40,Tryz.ntmps40
 go_wp2
 go_loopw [4] (fun i wr=>∃ k:Nat,k≤xs.length∧i=.int .i64 k∧CpLimits w w.heap.size xs.length k xs wr) (fun i _=>xs.length-(intOf i).toNat)
 case atStart=>exact ⟨0,Nat.zero_le _,rfl,HS.out⟩
 case round =>
  obtain ⟨k,hk,rfl,hcp⟩:=hrel
  clear HS hmk
  by_cases hlt:k<xs.length
  · have hki:(k:Int)<(xs.length:Int):=by omega
    rcases HL.out.up (up_below hcp.bel) with hx | ⟨b,o,ea,_,hc⟩
    · subst hx;simp at hlt
    have hxk:=hc k hlt
    have hxl:=Hl.out k hlt
    subst ea
    obtain ⟨x,hx⟩:∃ x,x=xs.getD k Limits.z:=⟨_,rfl⟩
    rw [← hx] at hxk hxl
    obtain ⟨⟨q0,q1,q2⟩,hi⟩:=hxk
    have HT:=Hm (rtLimits_c x wr hi hxl)
    have HX:=Hm hx
    have HP:=Hm hcp
    clear hx hc hcp hi HL
    go_wp2_with fail
    refine HT.out.mono ?_
    rintro e w1 ⟨rfl,ho,hb⟩
    have hcp1:=HP.out.keep hb
    obtain ⟨hl1,hc1,hf1⟩:=hcp1.cells
    obtain ⟨u0,e0⟩:=hc1 (k*3) (by omega)
    obtain ⟨u1,e1⟩:=hc1 (k*3+1) (by omega)
    obtain ⟨u2,e2⟩:=hc1 (k*3+2) (by omega)
    have HP1:=Hm (hcp1.step hlt x HX.out (ho.mono (by have:=HP.out.cells.1;omega)))
    clear ho hb hcp1 hc1 HT HP q0 q1 q2
    go_wp2
    go_roundw
    case rel=>exact ⟨k+1,by omega,by go_num,HP1.out⟩
    case measure=>simp [intOf];omega
  · have e:k=xs.length:=by omega
    subst e
    go_wp2
    go_ret
    exact ⟨rfl,hcp.ls,hcp.bel⟩
theorem Tryz.infoGrp:(Tryz.prog.info? 191).map (fun i=>(i.zero,i.size,i.bytes))=some (some (.agg #[.int .i64 0,.int .i64 0]),2,16):=by kernel_rfl
theorem makeGrp (n:Nat) (hn:n≤1048576) (w:World):(Instr.makeSlice 72 (.int .i64 (n:Int)) (.int .i64 (n:Int))).run Tryz.prog w=.ok (.slice (some ⟨w.heap.size,0,none⟩) n n) (w.alloc (.cells (madeCells #[.int .i64 0,.int .i64 0] (n*2)) 191)):=by
 obtain ⟨i,hi,hzz⟩:=Option.map_eq_some_iff.1 Tryz.infoGrp
 simp only [Prod.mk.injEq] at hzz
 obtain ⟨hz,hs,hb⟩:=hzz
 have:=run_make (P:=Tryz.prog) w 72 191 i _ Tryz.underlying72 hi hz .i64 .i64 n n (by omega) (by omega) (by rw [hb];omega) (by omega)
 rw [hs] at this
 simpa [Value.cells] using this
structure CpGrp (w:World) (g n k:Nat) (xs:List Grp) (W:World):Prop where
 blk:∃ cur,W.heap[g]?=some (.cells cur 191 (0,0))∧cur.size=n*2
 done:∀ i,i<k→(W.cell? ⟨g,i*2,none⟩=some (.int .i64 (xs.getD i Grp.z).n)∧W.cell? ⟨g,i*2+1,none⟩=some (.int .i64 (xs.getD i Grp.z).ty))∧Grp.Is (g+1) W (xs.getD i Grp.z)
 bel:Below w.heap.size w W
 ge:w.heap.size≤g
theorem CpGrp.cells {w W:World} {g n k:Nat} {xs:List Grp} (h:CpGrp w g n k xs W):g<W.heap.size∧(∀ j,j<n*2→∃ u,W.cell? ⟨g,j,none⟩=some u)∧∀ j,W.frozen? ⟨g,j,none⟩=false:=by
 obtain ⟨cur,e,hc⟩:=h.blk
 have hl:g<W.heap.size:=by
  rcases Nat.lt_or_ge g W.heap.size with h' | h'
  · exact h'
  · rw [Array.getElem?_eq_none h'] at e;cases e
 refine ⟨hl,fun j hj=>?_,fun j=>?_⟩
 · simp only [World.cell?,e]
   exact ⟨cur[j]'(by omega),by simp [show j<cur.size by omega]⟩
 · simp only [World.frozen?,e];simp
theorem CpGrp.keep {w W W1:World} {g n k:Nat} {xs:List Grp} (h:CpGrp w g n k xs W) (hb:Below W.heap.size W W1):CpGrp w g n k xs W1:=by
 obtain ⟨cur,e,hc⟩:=h.blk
 have hl:=h.cells.1
 refine ⟨⟨cur,(hb.block g hl).trans e,hc⟩,fun i hi=>?_,h.bel.trans (hb.mono h.bel.size),h.ge⟩
 obtain ⟨⟨q0,q1⟩,hi2⟩:=h.done i hi
 exact ⟨⟨(hb.cell (p:=⟨g,i*2,none⟩) hl).trans q0,(hb.cell (p:=⟨g,i*2+1,none⟩) hl).trans q1⟩,hi2.up (up_below hb)⟩
theorem blk_Grp {w:World} {g o n:Nat} {v:Value} (h:∃ cur,w.heap[g]?=some (.cells cur 191 (0,0))∧cur.size=n):∃ cur,(w.setCell ⟨g,o,none⟩ v).heap[g]?=some (.cells cur 191 (0,0))∧cur.size=n:=by
 obtain ⟨cur,e,hc⟩:=h
 refine ⟨cur.setIfInBounds o v,?_,by simpa using hc⟩
 simp only [World.setCell,Array.getElem?_modify,if_true,e,Option.map_some]
 rfl
theorem CpGrp.step {w W:World} {g n k:Nat} {xs:List Grp} (H:CpGrp w g n k xs W) (hk:k<n) (x:Grp) (hx:x=xs.getD k Grp.z) (ho:Grp.Is (g+1) W x) :
    CpGrp w g n (k+1) xs ((W.setCell ⟨g,k*2,none⟩ (.int .i64 x.n)).setCell ⟨g,k*2+1,none⟩ (.int .i64 x.ty)):=by
 obtain ⟨hl,hc,hf⟩:=H.cells
 obtain ⟨u0,e0⟩:=hc (k*2) (by omega)
 obtain ⟨u1,e1⟩:=hc (k*2+1) (by omega)
 refine ⟨blk_Grp (blk_Grp (H.blk)),fun i hi=>?_,((H.bel.setCell H.ge _).setCell H.ge _),H.ge⟩
 by_cases hik:i=k
 · subst hik
   rw [← hx]
   exact ⟨⟨set_off (set_same (e0)) (by omega),set_same (set_off (e1) (by omega))⟩,((ho.up (up_set (Nat.lt_succ_self g))).up (up_set (Nat.lt_succ_self g)))⟩
 · obtain ⟨⟨q0,q1⟩,hi2⟩:=H.done i (by omega)
   exact ⟨⟨set_off (set_off (q0) (by omega)) (by omega),set_off (set_off (q1) (by omega)) (by omega)⟩,((hi2.up (up_set (Nat.lt_succ_self g))).up (up_set (Nat.lt_succ_self g)))⟩
theorem CpGrp.ls {w W:World} {g:Nat} {xs:List Grp} (h:CpGrp w g xs.length xs.length xs W):Grp.Ls g W (some ⟨g,0,none⟩) xs:=by
 refine .inr ⟨g,0,rfl,Nat.le_refl _,fun i hi=>?_⟩
 obtain ⟨qs,hi2⟩:=h.done i hi
 rw [Nat.zero_add]
 exact ⟨qs,hi2.mono (Nat.le_succ g)⟩
theorem rtGrps_c (a:Option Addr) (c:Nat) (xs:List Grp) (w:World) (hl:xs.length≤1048576∧∀ i,i<xs.length→Grp.LB 1048576 (xs.getD i Grp.z)) (hL:Grp.Ls 0 w a xs) :
    Calls Tryz.prog 173 #[.slice a xs.length c] w fun e w'=>e=.returned (.slice (some ⟨w.heap.size,0,none⟩) xs.length xs.length)∧Grp.Ls w.heap.size w' (some ⟨w.heap.size,0,none⟩) xs∧Below w.heap.size w w':=by
 obtain ⟨hn,hll⟩:=hl
 have hmk:=makeGrp xs.length hn
 have HL:=Hm hL
 have Hl:=Hm hll
 clear hL hll
 have hst:CpGrp w w.heap.size xs.length 0 xs (w.alloc (.cells (madeCells #[.int .i64 0,.int .i64 0] (xs.length*2)) 191)) :=
  ⟨⟨_,heap_new _ _,by simp [madeCells]⟩,fun i hi=>by omega,(Below.refl _ _).alloc (Nat.le_refl _) _,Nat.le_refl _⟩
 have HS:=Hm hst
 clear hst
 go_enter Tryz.func173,Tryz.ntmps173
 go_wp2
 go_loopw [4] (fun i wr=>∃ k:Nat,k≤xs.length∧i=.int .i64 k∧CpGrp w w.heap.size xs.length k xs wr) (fun i _=>xs.length-(intOf i).toNat)
 case atStart=>exact ⟨0,Nat.zero_le _,rfl,HS.out⟩
 case round =>
  obtain ⟨k,hk,rfl,hcp⟩:=hrel
  clear HS hmk
  by_cases hlt:k<xs.length
  · have hki:(k:Int)<(xs.length:Int):=by omega
    rcases HL.out.up (up_below hcp.bel) with hx | ⟨b,o,ea,_,hc⟩
    · subst hx;simp at hlt
    have hxk:=hc k hlt
    have hxl:=Hl.out k hlt
    subst ea
    obtain ⟨x,hx⟩:∃ x,x=xs.getD k Grp.z:=⟨_,rfl⟩
    rw [← hx] at hxk hxl
    obtain ⟨⟨q0,q1⟩,hi⟩:=hxk
    have HT:=Hm (rtGrp_c x wr hi hxl)
    have HX:=Hm hx
    have HP:=Hm hcp
    clear hx hc hcp hi HL
    go_wp2_with fail
    refine HT.out.mono ?_
    rintro e w1 ⟨rfl,ho,hb⟩
    have hcp1:=HP.out.keep hb
    obtain ⟨hl1,hc1,hf1⟩:=hcp1.cells
    obtain ⟨u0,e0⟩:=hc1 (k*2) (by omega)
    obtain ⟨u1,e1⟩:=hc1 (k*2+1) (by omega)
    have HP1:=Hm (hcp1.step hlt x HX.out (ho.mono (by have:=HP.out.cells.1;omega)))
    clear ho hb hcp1 hc1 HT HP q0 q1
    go_wp2
    go_roundw
    case rel=>exact ⟨k+1,by omega,by go_num,HP1.out⟩
    case measure=>simp [intOf];omega
  · have e:k=xs.length:=by omega
    subst e
    go_wp2
    go_ret
    exact ⟨rfl,hcp.ls,hcp.bel⟩
end Go.Proofs.YtdbmolambolmgaaGreat.NF
