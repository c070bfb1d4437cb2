import Derived.Test.YtdbmolambolmgaaGreatHt
set_option linter.all false
set_option maxHeartbeats 16000000
set_option maxRecDepth 100000
namespace Go.Proofs.YtdbmolambolmgaaGreat.NF
open Go.RowKit Go.Sort
set_option maxRecDepth 100000
theorem rtGlob_c (x:Glob) (a1:Option Addr) (c1:Nat) (w:World) (hI:Glob.Is 0 w x a1) (hl:Glob.LB 1048576 x) :
    Calls Tryz.prog 118 #[.agg #[.int .i64 x.ty.ty,.bool x.ty.mu,.slice a1 x.ini.length c1]] w fun e w'=>∃ b1,e=.returned (.agg #[.int .i64 x.ty.ty,.bool x.ty.mu,.slice (some ⟨b1,0,none⟩) x.ini.length x.ini.length])∧Glob.Is w.heap.size w' x (some ⟨b1,0,none⟩)∧Below w.heap.size w w':=by
 have l2:=hl
 have r1:=hI
 clear hI
 have R1:=Hm r1
 clear r1
 have T0:=Hm (three w [.int .i64 x.ty.ty,.bool x.ty.mu,.slice a1 x.ini.length c1] [.int .i64 0,.bool false,.slice none 0 0] [.int .i64 0,.bool false,.slice none 0 0] 169 110 110)
 go_enter Tryz.func118,Tryz.ntmps118
 go_upto_region 2 with fail
 refine wp_gen (fun W=>Bk W w.heap.size [.int .i64 x.ty.ty,.bool x.ty.mu,.slice a1 x.ini.length c1]∧Bk W (w.heap.size+1) [.int .i64 0,.bool false,.slice none 0 0]∧Bk W (w.heap.size+2) [.int .i64 0,.bool false,.slice none 0 0]∧Below w.heap.size w W) T0.out ?_
 rintro W ⟨bb,br,bo,hb⟩
 clear T0
 have e1:w.heap.size≠w.heap.size+1:=by omega
 have e2:w.heap.size≠w.heap.size+2:=by omega
 have e3:w.heap.size+1≠w.heap.size+2:=by omega
 have e4:w.heap.size+2≠w.heap.size+1:=by omega
 have q0:=bb.2.1 0 _ rfl
 have o0:=bo.2.1 0 _ rfl
 have s0:=br.2.1 0 _ rfl
 have q1:=bb.2.1 1 _ rfl
 have o1:=bo.2.1 1 _ rfl
 have s1:=br.2.1 1 _ rfl
 have q2:=bb.2.1 2 _ rfl
 have o2:=bo.2.1 2 _ rfl
 have s2:=br.2.1 2 _ rfl
 have fo:=bo.2.2
 have fr:=br.2.2
 have hC1:Below w.heap.size w W:=hb
 have HC1:=Hm (rtGType_c x.ty W trivial trivial)
 have bb1:Bk W w.heap.size [.int .i64 x.ty.ty,.bool x.ty.mu,.slice a1 x.ini.length c1]:=bb
 have br1:Bk W (w.heap.size+1) [.int .i64 0,.bool false,.slice none 0 0]:=br
 have bo1:Bk W (w.heap.size+2) [.int .i64 0,.bool false,.slice none 0 0]:=bo
 go_wp2_with fail
 refine HC1.out.mono ?_
 rintro e W1 ⟨rfl,_,hb1⟩
 have bbn:=bb1.keep (hb_of hb1 rfl)
 have brn:=br1.keep (hb_of hb1 rfl)
 have bon:=bo1.keep (hb_of hb1 rfl)
 have hbn:Below w.heap.size w W1:=hC1.trans ((hb_of hb1 rfl).mono hC1.size)
 clear bb br bo hb fo fr q0 o0 s0 q1 o1 s1 q2 o2 s2
 have bb:=bbn
 have br:=brn
 have bo:=bon
 have hb:=hbn
 clear bbn brn bon hbn
 clear hC1 HC1 bb1 br1 bo1 hb1
 have q0:=bb.2.1 0 _ rfl
 have o0:=bo.2.1 0 _ rfl
 have s0:=br.2.1 0 _ rfl
 have q1:=bb.2.1 1 _ rfl
 have o1:=bo.2.1 1 _ rfl
 have s1:=br.2.1 1 _ rfl
 have q2:=bb.2.1 2 _ rfl
 have o2:=bo.2.1 2 _ rfl
 have s2:=br.2.1 2 _ rfl
 have fo:=bo.2.2
 have fr:=br.2.2
 have hC2:Below w.heap.size w ((W1.setCell ⟨w.heap.size+2,0,none⟩ (.int .i64 x.ty.ty)).setCell ⟨w.heap.size+2,1,none⟩ (.bool x.ty.mu)):=((hb.setCell (by show w.heap.size≤w.heap.size+2;omega) _).setCell (by show w.heap.size≤w.heap.size+2;omega) _)
 have HC2:=Hm (rtIns_c a1 c1 x.ini ((W1.setCell ⟨w.heap.size+2,0,none⟩ (.int .i64 x.ty.ty)).setCell ⟨w.heap.size+2,1,none⟩ (.bool x.ty.mu)) l2 (R1.out.up (up_below hC2)))
 obtain ⟨B1,hB1⟩:∃ B,B=(((W1.setCell ⟨w.heap.size+2,0,none⟩ (.int .i64 x.ty.ty)).setCell ⟨w.heap.size+2,1,none⟩ (.bool x.ty.mu))).heap.size:=⟨_,rfl⟩
 rw [← hB1] at HC2
 have HQ1:=Hm hB1
 clear hB1
 have bb2:Bk ((W1.setCell ⟨w.heap.size+2,0,none⟩ (.int .i64 x.ty.ty)).setCell ⟨w.heap.size+2,1,none⟩ (.bool x.ty.mu)) w.heap.size [.int .i64 x.ty.ty,.bool x.ty.mu,.slice a1 x.ini.length c1]:=((bb.other (by omega)).other (by omega))
 have br2:Bk ((W1.setCell ⟨w.heap.size+2,0,none⟩ (.int .i64 x.ty.ty)).setCell ⟨w.heap.size+2,1,none⟩ (.bool x.ty.mu)) (w.heap.size+1) [.int .i64 0,.bool false,.slice none 0 0]:=((br.other (by omega)).other (by omega))
 have bo2:Bk ((W1.setCell ⟨w.heap.size+2,0,none⟩ (.int .i64 x.ty.ty)).setCell ⟨w.heap.size+2,1,none⟩ (.bool x.ty.mu)) (w.heap.size+2) [.int .i64 x.ty.ty,.bool x.ty.mu,.slice none 0 0]:=bo.set.set
 go_wp2_with fail
 refine HC2.out.mono ?_
 rintro e W2 ⟨rfl,n1,hb2⟩
 have bbn:=bb2.keep (hb_of hb2 HQ1.out)
 have brn:=br2.keep (hb_of hb2 HQ1.out)
 have bon:=bo2.keep (hb_of hb2 HQ1.out)
 have hbn:Below w.heap.size w W2:=hC2.trans ((hb_of hb2 HQ1.out).mono hC2.size)
 clear bb br bo hb fo fr q0 o0 s0 q1 o1 s1 q2 o2 s2
 have bb:=bbn
 have br:=brn
 have bo:=bon
 have hb:=hbn
 clear bbn brn bon hbn
 have hBle1:w.heap.size+2<B1:=by rw [HQ1.out];exact bo2.1
 have n1:=n1.mono (show w.heap.size+3≤B1 by omega)
 clear hC2 HC2 bb2 br2 bo2 hb2
 have q0:=bb.2.1 0 _ rfl
 have o0:=bo.2.1 0 _ rfl
 have s0:=br.2.1 0 _ rfl
 have q1:=bb.2.1 1 _ rfl
 have o1:=bo.2.1 1 _ rfl
 have s1:=br.2.1 1 _ rfl
 have q2:=bb.2.1 2 _ rfl
 have o2:=bo.2.1 2 _ rfl
 have s2:=br.2.1 2 _ rfl
 have fo:=bo.2.2
 have fr:=br.2.2
 have HB:=Hm hb
 have HN1:=Hm n1
 clear hb bb br bo n1
 go_wp2
 exact bodyPost_ret (v:=.agg #[.int .i64 x.ty.ty,.bool x.ty.mu,.slice (some ⟨B1,0,none⟩) x.ini.length x.ini.length]) (by simp [results,Tryz.results118,go_sem,s0,s1,s2,e3,e4]) rfl ⟨B1,rfl,((HN1.out.up (up_sets1 (by omega))).up (up_set1_3 (by omega))).mono (by omega),((((HB.out.setCell (by show w.heap.size≤w.heap.size+2;omega) _).setCell (by show w.heap.size≤w.heap.size+1;omega) _).setCell (by show w.heap.size≤w.heap.size+1;omega) _).setCell (by show w.heap.size≤w.heap.size+1;omega) _)⟩
theorem Tryz.infoGlob:(Tryz.prog.info? 110).map (fun i=>(i.zero,i.size,i.bytes))=some (some (.agg #[.int .i64 0,.bool false,.slice none 0 0]),3,40):=by kernel_rfl
theorem makeGlob (n:Nat) (hn:n≤1048576) (w:World):(Instr.makeSlice 39 (.int .i64 (n:Int)) (.int .i64 (n:Int))).run Tryz.prog w=.ok (.slice (some ⟨w.heap.size,0,none⟩) n n) (w.alloc (.cells (madeCells #[.int .i64 0,.bool false,.slice none 0 0] (n*3)) 110)):=by
 obtain ⟨i,hi,hzz⟩:=Option.map_eq_some_iff.1 Tryz.infoGlob
 simp only [Prod.mk.injEq] at hzz
 obtain ⟨hz,hs,hb⟩:=hzz
 have:=run_make (P:=Tryz.prog) w 39 110 i _ Tryz.underlying39 hi hz .i64 .i64 n n (by omega) (by omega) (by rw [hb];omega) (by omega)
 rw [hs] at this
 simpa [Value.cells] using this
structure CpGlob (w:World) (g n k:Nat) (xs:List Glob) (W:World):Prop where
 blk:∃ cur,W.heap[g]?=some (.cells cur 110 (0,0))∧cur.size=n*3
 done:∀ i,i<k→∃ a1 c1,(W.cell? ⟨g,i*3,none⟩=some (.int .i64 (xs.getD i Glob.z).ty.ty)∧W.cell? ⟨g,i*3+1,none⟩=some (.bool (xs.getD i Glob.z).ty.mu)∧W.cell? ⟨g,i*3+2,none⟩=some (.slice a1 (xs.getD i Glob.z).ini.length c1))∧Glob.Is (g+1) W (xs.getD i Glob.z) a1
 bel:Below w.heap.size w W
 ge:w.heap.size≤g
theorem CpGlob.cells {w W:World} {g n k:Nat} {xs:List Glob} (h:CpGlob w g n k xs W):g<W.heap.size∧(∀ j,j<n*3→∃ u,W.cell? ⟨g,j,none⟩=some u)∧∀ j,W.frozen? ⟨g,j,none⟩=false:=by
 obtain ⟨cur,e,hc⟩:=h.blk
 have hl:g<W.heap.size:=by
  rcases Nat.lt_or_ge g W.heap.size with h' | h'
  · exact h'
  · rw [Array.getElem?_eq_none h'] at e;cases e
 refine ⟨hl,fun j hj=>?_,fun j=>?_⟩
 · simp only [World.cell?,e]
   exact ⟨cur[j]'(by omega),by simp [show j<cur.size by omega]⟩
 · simp only [World.frozen?,e];simp
theorem CpGlob.keep {w W W1:World} {g n k:Nat} {xs:List Glob} (h:CpGlob w g n k xs W) (hb:Below W.heap.size W W1):CpGlob w g n k xs W1:=by
 obtain ⟨cur,e,hc⟩:=h.blk
 have hl:=h.cells.1
 refine ⟨⟨cur,(hb.block g hl).trans e,hc⟩,fun i hi=>?_,h.bel.trans (hb.mono h.bel.size),h.ge⟩
 obtain ⟨a1,c1,⟨q0,q1,q2⟩,hi2⟩:=h.done i hi
 exact ⟨a1,c1,⟨(hb.cell (p:=⟨g,i*3,none⟩) hl).trans q0,(hb.cell (p:=⟨g,i*3+1,none⟩) hl).trans q1,(hb.cell (p:=⟨g,i*3+2,none⟩) hl).trans q2⟩,hi2.up (up_below hb)⟩
theorem blk_Glob {w:World} {g o n:Nat} {v:Value} (h:∃ cur,w.heap[g]?=some (.cells cur 110 (0,0))∧cur.size=n):∃ cur,(w.setCell ⟨g,o,none⟩ v).heap[g]?=some (.cells cur 110 (0,0))∧cur.size=n:=by
 obtain ⟨cur,e,hc⟩:=h
 refine ⟨cur.setIfInBounds o v,?_,by simpa using hc⟩
 simp only [World.setCell,Array.getElem?_modify,if_true,e,Option.map_some]
 rfl
theorem CpGlob.step {w W:World} {g n k:Nat} {xs:List Glob} {b1:Nat} (H:CpGlob w g n k xs W) (hk:k<n) (x:Glob) (hx:x=xs.getD k Glob.z) (ho:Glob.Is (g+1) W x (some ⟨b1,0,none⟩)) :
    CpGlob w g n (k+1) xs (((W.setCell ⟨g,k*3,none⟩ (.int .i64 x.ty.ty)).setCell ⟨g,k*3+1,none⟩ (.bool x.ty.mu)).setCell ⟨g,k*3+2,none⟩ (.slice (some ⟨b1,0,none⟩) x.ini.length x.ini.length)):=by
 obtain ⟨hl,hc,hf⟩:=H.cells
 obtain ⟨u0,e0⟩:=hc (k*3) (by omega)
 obtain ⟨u1,e1⟩:=hc (k*3+1) (by omega)
 obtain ⟨u2,e2⟩:=hc (k*3+2) (by omega)
 refine ⟨blk_Glob (blk_Glob (blk_Glob (H.blk))),fun i hi=>?_,(((H.bel.setCell H.ge _).setCell H.ge _).setCell H.ge _),H.ge⟩
 by_cases hik:i=k
 · subst hik
   rw [← hx]
   exact ⟨_,_,⟨set_off (set_off (set_same (e0)) (by omega)) (by omega),set_off (set_same (set_off (e1) (by omega))) (by omega),set_same (set_off (set_off (e2) (by omega)) (by omega))⟩,(((ho.up (up_set (Nat.lt_succ_self g))).up (up_set (Nat.lt_succ_self g))).up (up_set (Nat.lt_succ_self g)))⟩
 · obtain ⟨a1,c1,⟨q0,q1,q2⟩,hi2⟩:=H.done i (by omega)
   exact ⟨a1,c1,⟨set_off (set_off (set_off (q0) (by omega)) (by omega)) (by omega),set_off (set_off (set_off (q1) (by omega)) (by omega)) (by omega),set_off (set_off (set_off (q2) (by omega)) (by omega)) (by omega)⟩,(((hi2.up (up_set (Nat.lt_succ_self g))).up (up_set (Nat.lt_succ_self g))).up (up_set (Nat.lt_succ_self g)))⟩
theorem CpGlob.ls {w W:World} {g:Nat} {xs:List Glob} (h:CpGlob w g xs.length xs.length xs W):Glob.Ls g W (some ⟨g,0,none⟩) xs:=by
 refine .inr ⟨g,0,rfl,Nat.le_refl _,fun i hi=>?_⟩
 obtain ⟨a1,c1,qs,hi2⟩:=h.done i hi
 rw [Nat.zero_add]
 exact ⟨a1,c1,qs,hi2.mono (Nat.le_succ g)⟩
theorem rtGlobs_c (a:Option Addr) (c:Nat) (xs:List Glob) (w:World) (hl:xs.length≤1048576∧∀ i,i<xs.length→Glob.LB 1048576 (xs.getD i Glob.z)) (hL:Glob.Ls 0 w a xs) :
    Calls Tryz.prog 41 #[.slice a xs.length c] w fun e w'=>e=.returned (.slice (some ⟨w.heap.size,0,none⟩) xs.length xs.length)∧Glob.Ls w.heap.size w' (some ⟨w.heap.size,0,none⟩) xs∧Below w.heap.size w w':=by
 obtain ⟨hn,hll⟩:=hl
 have hmk:=makeGlob xs.length hn
 have HL:=Hm hL
 have Hl:=Hm hll
 clear hL hll
 have hst:CpGlob w w.heap.size xs.length 0 xs (w.alloc (.cells (madeCells #[.int .i64 0,.bool false,.slice none 0 0] (xs.length*3)) 110)) :=
  ⟨⟨_,heap_new _ _,by simp [madeCells]⟩,fun i hi=>by omega,(Below.refl _ _).alloc (Nat.le_refl _) _,Nat.le_refl _⟩
 have HS:=Hm hst
 clear hst
 go_enter Tryz.func41,Tryz.ntmps41
 go_wp2
 go_loopw [4] (fun i wr=>∃ k:Nat,k≤xs.length∧i=.int .i64 k∧CpGlob w w.heap.size xs.length k xs wr) (fun i _=>xs.length-(intOf i).toNat)
 case atStart=>exact ⟨0,Nat.zero_le _,rfl,HS.out⟩
 case round =>
  obtain ⟨k,hk,rfl,hcp⟩:=hrel
  clear HS hmk
  by_cases hlt:k<xs.length
  · have hki:(k:Int)<(xs.length:Int):=by omega
    rcases HL.out.up (up_below hcp.bel) with hx | ⟨b,o,ea,_,hc⟩
    · subst hx;simp at hlt
    have hxk:=hc k hlt
    have hxl:=Hl.out k hlt
    subst ea
    obtain ⟨x,hx⟩:∃ x,x=xs.getD k Glob.z:=⟨_,rfl⟩
    rw [← hx] at hxk hxl
    obtain ⟨a1,c1,⟨q0,q1,q2⟩,hi⟩:=hxk
    have HT:=Hm (rtGlob_c x a1 c1 wr hi hxl)
    have HX:=Hm hx
    have HP:=Hm hcp
    clear hx hc hcp hi HL
    go_wp2_with fail
    refine HT.out.mono ?_
    rintro e w1 ⟨b1,rfl,ho,hb⟩
    have hcp1:=HP.out.keep hb
    obtain ⟨hl1,hc1,hf1⟩:=hcp1.cells
    obtain ⟨u0,e0⟩:=hc1 (k*3) (by omega)
    obtain ⟨u1,e1⟩:=hc1 (k*3+1) (by omega)
    obtain ⟨u2,e2⟩:=hc1 (k*3+2) (by omega)
    have HP1:=Hm (hcp1.step hlt x HX.out (ho.mono (by have:=HP.out.cells.1;omega)))
    clear ho hb hcp1 hc1 HT HP q0 q1 q2
    go_wp2
    go_roundw
    case rel=>exact ⟨k+1,by omega,by go_num,HP1.out⟩
    case measure=>simp [intOf];omega
  · have e:k=xs.length:=by omega
    subst e
    go_wp2
    go_ret
    exact ⟨rfl,hcp.ls,hcp.bel⟩
theorem rtEle_c (x:Ele) (a1:Option Addr) (c1:Nat) (a2:Option Addr) (c2:Nat) (w:World) (hI:Ele.Is 0 w x a1 a2) (hl:Ele.LB 1048576 x) :
    Calls Tryz.prog 120 #[.agg #[.slice a1 x.off.length c1,.slice a2 x.fs.length c2]] w fun e w'=>∃ b1 b2,e=.returned (.agg #[.slice (some ⟨b1,0,none⟩) x.off.length x.off.length,.slice (some ⟨b2,0,none⟩) x.fs.length x.fs.length])∧Ele.Is w.heap.size w' x (some ⟨b1,0,none⟩) (some ⟨b2,0,none⟩)∧Below w.heap.size w w':=by
 obtain ⟨l0,l1⟩:=hl
 obtain ⟨r1,r2⟩:=hI
 have R1:=Hm r1
 have R2:=Hm r2
 clear r1 r2
 have T0:=Hm (three w [.slice a1 x.off.length c1,.slice a2 x.fs.length c2] [.slice none 0 0,.slice none 0 0] [.slice none 0 0,.slice none 0 0] 174 70 70)
 go_enter Tryz.func120,Tryz.ntmps120
 go_upto_region 2 with fail
 refine wp_gen (fun W=>Bk W w.heap.size [.slice a1 x.off.length c1,.slice a2 x.fs.length c2]∧Bk W (w.heap.size+1) [.slice none 0 0,.slice none 0 0]∧Bk W (w.heap.size+2) [.slice none 0 0,.slice none 0 0]∧Below w.heap.size w W) T0.out ?_
 rintro W ⟨bb,br,bo,hb⟩
 clear T0
 have e1:w.heap.size≠w.heap.size+1:=by omega
 have e2:w.heap.size≠w.heap.size+2:=by omega
 have e3:w.heap.size+1≠w.heap.size+2:=by omega
 have e4:w.heap.size+2≠w.heap.size+1:=by omega
 have q0:=bb.2.1 0 _ rfl
 have o0:=bo.2.1 0 _ rfl
 have s0:=br.2.1 0 _ rfl
 have q1:=bb.2.1 1 _ rfl
 have o1:=bo.2.1 1 _ rfl
 have s1:=br.2.1 1 _ rfl
 have fo:=bo.2.2
 have fr:=br.2.2
 have hC1:Below w.heap.size w W:=hb
 have HC1:=Hm (rtIns_c a1 c1 x.off W l0 (R1.out.up (up_below hC1)))
 obtain ⟨B1,hB1⟩:∃ B,B=(W).heap.size:=⟨_,rfl⟩
 rw [← hB1] at HC1
 have HQ1:=Hm hB1
 clear hB1
 have bb1:Bk W w.heap.size [.slice a1 x.off.length c1,.slice a2 x.fs.length c2]:=bb
 have br1:Bk W (w.heap.size+1) [.slice none 0 0,.slice none 0 0]:=br
 have bo1:Bk W (w.heap.size+2) [.slice none 0 0,.slice none 0 0]:=bo
 go_wp2_with fail
 refine HC1.out.mono ?_
 rintro e W1 ⟨rfl,n1,hb1⟩
 have bbn:=bb1.keep (hb_of hb1 HQ1.out)
 have brn:=br1.keep (hb_of hb1 HQ1.out)
 have bon:=bo1.keep (hb_of hb1 HQ1.out)
 have hbn:Below w.heap.size w W1:=hC1.trans ((hb_of hb1 HQ1.out).mono hC1.size)
 clear bb br bo hb fo fr q0 o0 s0 q1 o1 s1
 have bb:=bbn
 have br:=brn
 have bo:=bon
 have hb:=hbn
 clear bbn brn bon hbn
 have hBle1:w.heap.size+2<B1:=by rw [HQ1.out];exact bo1.1
 have n1:=n1.mono (show w.heap.size+3≤B1 by omega)
 clear hC1 HC1 bb1 br1 bo1 hb1
 have q0:=bb.2.1 0 _ rfl
 have o0:=bo.2.1 0 _ rfl
 have s0:=br.2.1 0 _ rfl
 have q1:=bb.2.1 1 _ rfl
 have o1:=bo.2.1 1 _ rfl
 have s1:=br.2.1 1 _ rfl
 have fo:=bo.2.2
 have fr:=br.2.2
 have hC2:Below w.heap.size w (W1.setCell ⟨w.heap.size+2,0,none⟩ (.slice (some ⟨B1,0,none⟩) x.off.length x.off.length)):=(hb.setCell (by show w.heap.size≤w.heap.size+2;omega) _)
 have HC2:=Hm (rtInts_c a2 c2 x.fs (W1.setCell ⟨w.heap.size+2,0,none⟩ (.slice (some ⟨B1,0,none⟩) x.off.length x.off.length)) l1 (R2.out.up (up_below hC2)))
 obtain ⟨B2,hB2⟩:∃ B,B=((W1.setCell ⟨w.heap.size+2,0,none⟩ (.slice (some ⟨B1,0,none⟩) x.off.length x.off.length))).heap.size:=⟨_,rfl⟩
 rw [← hB2] at HC2
 have HQ2:=Hm hB2
 clear hB2
 have bb2:Bk (W1.setCell ⟨w.heap.size+2,0,none⟩ (.slice (some ⟨B1,0,none⟩) x.off.length x.off.length)) w.heap.size [.slice a1 x.off.length c1,.slice a2 x.fs.length c2]:=(bb.other (by omega))
 have br2:Bk (W1.setCell ⟨w.heap.size+2,0,none⟩ (.slice (some ⟨B1,0,none⟩) x.off.length x.off.length)) (w.heap.size+1) [.slice none 0 0,.slice none 0 0]:=(br.other (by omega))
 have bo2:Bk (W1.setCell ⟨w.heap.size+2,0,none⟩ (.slice (some ⟨B1,0,none⟩) x.off.length x.off.length)) (w.heap.size+2) [.slice (some ⟨B1,0,none⟩) x.off.length x.off.length,.slice none 0 0]:=bo.set
 go_wp2_with fail
 refine HC2.out.mono ?_
 rintro e W2 ⟨rfl,n2,hb2⟩
 have bbn:=bb2.keep (hb_of hb2 HQ2.out)
 have brn:=br2.keep (hb_of hb2 HQ2.out)
 have bon:=bo2.keep (hb_of hb2 HQ2.out)
 have hbn:Below w.heap.size w W2:=hC2.trans ((hb_of hb2 HQ2.out).mono hC2.size)
 clear bb br bo hb fo fr q0 o0 s0 q1 o1 s1
 have bb:=bbn
 have br:=brn
 have bo:=bon
 have hb:=hbn
 clear bbn brn bon hbn
 have n1:=n1.up (Up.size_trans (up_sets1 (by omega)) (up_below (hb_of hb2 HQ2.out)) (by simp))
 have hBle2:w.heap.size+2<B2:=by rw [HQ2.out];exact bo2.1
 have n2:=n2.mono (show w.heap.size+3≤B2 by omega)
 clear hC2 HC2 bb2 br2 bo2 hb2
 have q0:=bb.2.1 0 _ rfl
 have o0:=bo.2.1 0 _ rfl
 have s0:=br.2.1 0 _ rfl
 have q1:=bb.2.1 1 _ rfl
 have o1:=bo.2.1 1 _ rfl
 have s1:=br.2.1 1 _ rfl
 have fo:=bo.2.2
 have fr:=br.2.2
 have HB:=Hm hb
 have HN1:=Hm n1
 have HN2:=Hm n2
 clear hb bb br bo n1 n2
 go_wp2
 exact bodyPost_ret (v:=.agg #[.slice (some ⟨B1,0,none⟩) x.off.length x.off.length,.slice (some ⟨B2,0,none⟩) x.fs.length x.fs.length]) (by simp [results,Tryz.results120,go_sem,s0,s1,e3,e4]) rfl ⟨B1,B2,rfl,⟨((HN1.out.up (up_sets1 (by omega))).up (up_set1_2 (by omega))).mono (by omega),((HN2.out.up (up_sets1 (by omega))).up (up_set1_2 (by omega))).mono (by omega)⟩,(((HB.out.setCell (by show w.heap.size≤w.heap.size+2;omega) _).setCell (by show w.heap.size≤w.heap.size+1;omega) _).setCell (by show w.heap.size≤w.heap.size+1;omega) _)⟩
theorem Tryz.infoEle:(Tryz.prog.info? 70).map (fun i=>(i.zero,i.size,i.bytes))=some (some (.agg #[.slice none 0 0,.slice none 0 0]),2,48):=by kernel_rfl
theorem makeEle (n:Nat) (hn:n≤1048576) (w:World):(Instr.makeSlice 41 (.int .i64 (n:Int)) (.int .i64 (n:Int))).run Tryz.prog w=.ok (.slice (some ⟨w.heap.size,0,none⟩) n n) (w.alloc (.cells (madeCells #[.slice none 0 0,.slice none 0 0] (n*2)) 70)):=by
 obtain ⟨i,hi,hzz⟩:=Option.map_eq_some_iff.1 Tryz.infoEle
 simp only [Prod.mk.injEq] at hzz
 obtain ⟨hz,hs,hb⟩:=hzz
 have:=run_make (P:=Tryz.prog) w 41 70 i _ Tryz.underlying41 hi hz .i64 .i64 n n (by omega) (by omega) (by rw [hb];omega) (by omega)
 rw [hs] at this
 simpa [Value.cells] using this
structure CpEle (w:World) (g n k:Nat) (xs:List Ele) (W:World):Prop where
 blk:∃ cur,W.heap[g]?=some (.cells cur 70 (0,0))∧cur.size=n*2
 done:∀ i,i<k→∃ a1 c1 a2 c2,(W.cell? ⟨g,i*2,none⟩=some (.slice a1 (xs.getD i Ele.z).off.length c1)∧W.cell? ⟨g,i*2+1,none⟩=some (.slice a2 (xs.getD i Ele.z).fs.length c2))∧Ele.Is (g+1) W (xs.getD i Ele.z) a1 a2
 bel:Below w.heap.size w W
 ge:w.heap.size≤g
theorem CpEle.cells {w W:World} {g n k:Nat} {xs:List Ele} (h:CpEle w g n k xs W):g<W.heap.size∧(∀ j,j<n*2→∃ u,W.cell? ⟨g,j,none⟩=some u)∧∀ j,W.frozen? ⟨g,j,none⟩=false:=by
 obtain ⟨cur,e,hc⟩:=h.blk
 have hl:g<W.heap.size:=by
  rcases Nat.lt_or_ge g W.heap.size with h' | h'
  · exact h'
  · rw [Array.getElem?_eq_none h'] at e;cases e
 refine ⟨hl,fun j hj=>?_,fun j=>?_⟩
 · simp only [World.cell?,e]
   exact ⟨cur[j]'(by omega),by simp [show j<cur.size by omega]⟩
 · simp only [World.frozen?,e];simp
theorem CpEle.keep {w W W1:World} {g n k:Nat} {xs:List Ele} (h:CpEle w g n k xs W) (hb:Below W.heap.size W W1):CpEle w g n k xs W1:=by
 obtain ⟨cur,e,hc⟩:=h.blk
 have hl:=h.cells.1
 refine ⟨⟨cur,(hb.block g hl).trans e,hc⟩,fun i hi=>?_,h.bel.trans (hb.mono h.bel.size),h.ge⟩
 obtain ⟨a1,c1,a2,c2,⟨q0,q1⟩,hi2⟩:=h.done i hi
 exact ⟨a1,c1,a2,c2,⟨(hb.cell (p:=⟨g,i*2,none⟩) hl).trans q0,(hb.cell (p:=⟨g,i*2+1,none⟩) hl).trans q1⟩,hi2.up (up_below hb)⟩
theorem blk_Ele {w:World} {g o n:Nat} {v:Value} (h:∃ cur,w.heap[g]?=some (.cells cur 70 (0,0))∧cur.size=n):∃ cur,(w.setCell ⟨g,o,none⟩ v).heap[g]?=some (.cells cur 70 (0,0))∧cur.size=n:=by
 obtain ⟨cur,e,hc⟩:=h
 refine ⟨cur.setIfInBounds o v,?_,by simpa using hc⟩
 simp only [World.setCell,Array.getElem?_modify,if_true,e,Option.map_some]
 rfl
theorem CpEle.step {w W:World} {g n k:Nat} {xs:List Ele} {b1:Nat} {b2:Nat} (H:CpEle w g n k xs W) (hk:k<n) (x:Ele) (hx:x=xs.getD k Ele.z) (ho:Ele.Is (g+1) W x (some ⟨b1,0,none⟩) (some ⟨b2,0,none⟩)) :
    CpEle w g n (k+1) xs ((W.setCell ⟨g,k*2,none⟩ (.slice (some ⟨b1,0,none⟩) x.off.length x.off.length)).setCell ⟨g,k*2+1,none⟩ (.slice (some ⟨b2,0,none⟩) x.fs.length x.fs.length)):=by
 obtain ⟨hl,hc,hf⟩:=H.cells
 obtain ⟨u0,e0⟩:=hc (k*2) (by omega)
 obtain ⟨u1,e1⟩:=hc (k*2+1) (by omega)
 refine ⟨blk_Ele (blk_Ele (H.blk)),fun i hi=>?_,((H.bel.setCell H.ge _).setCell H.ge _),H.ge⟩
 by_cases hik:i=k
 · subst hik
   rw [← hx]
   exact ⟨_,_,_,_,⟨set_off (set_same (e0)) (by omega),set_same (set_off (e1) (by omega))⟩,((ho.up (up_set (Nat.lt_succ_self g))).up (up_set (Nat.lt_succ_self g)))⟩
 · obtain ⟨a1,c1,a2,c2,⟨q0,q1⟩,hi2⟩:=H.done i (by omega)
   exact ⟨a1,c1,a2,c2,⟨set_off (set_off (q0) (by omega)) (by omega),set_off (set_off (q1) (by omega)) (by omega)⟩,((hi2.up (up_set (Nat.lt_succ_self g))).up (up_set (Nat.lt_succ_self g)))⟩
theorem CpEle.ls {w W:World} {g:Nat} {xs:List Ele} (h:CpEle w g xs.length xs.length xs W):Ele.Ls g W (some ⟨g,0,none⟩) xs:=by
 refine .inr ⟨g,0,rfl,Nat.le_refl _,fun i hi=>?_⟩
 obtain ⟨a1,c1,a2,c2,qs,hi2⟩:=h.done i hi
 rw [Nat.zero_add]
 exact ⟨a1,c1,a2,c2,qs,hi2.mono (Nat.le_succ g)⟩
theorem rtEles_c (a:Option Addr) (c:Nat) (xs:List Ele) (w:World) (hl:xs.length≤1048576∧∀ i,i<xs.length→Ele.LB 1048576 (xs.getD i Ele.z)) (hL:Ele.Ls 0 w a xs) :
    Calls Tryz.prog 43 #[.slice a xs.length c] w fun e w'=>e=.returned (.slice (some ⟨w.heap.size,0,none⟩) xs.length xs.length)∧Ele.Ls w.heap.size w' (some ⟨w.heap.size,0,none⟩) xs∧Below w.heap.size w w':=by
 obtain ⟨hn,hll⟩:=hl
 have hmk:=makeEle xs.length hn
 have HL:=Hm hL
 have Hl:=Hm hll
 clear hL hll
 have hst:CpEle w w.heap.size xs.length 0 xs (w.alloc (.cells (madeCells #[.slice none 0 0,.slice none 0 0] (xs.length*2)) 70)) :=
  ⟨⟨_,heap_new _ _,by simp [madeCells]⟩,fun i hi=>by omega,(Below.refl _ _).alloc (Nat.le_refl _) _,Nat.le_refl _⟩
 have HS:=Hm hst
 clear hst
 go_enter Tryz.func43,Tryz.ntmps43
 go_wp2
 go_loopw [4] (fun i wr=>∃ k:Nat,k≤xs.length∧i=.int .i64 k∧CpEle w w.heap.size xs.length k xs wr) (fun i _=>xs.length-(intOf i).toNat)
 case atStart=>exact ⟨0,Nat.zero_le _,rfl,HS.out⟩
 case round =>
  obtain ⟨k,hk,rfl,hcp⟩:=hrel
  clear HS hmk
  by_cases hlt:k<xs.length
  · have hki:(k:Int)<(xs.length:Int):=by omega
    rcases HL.out.up (up_below hcp.bel) with hx | ⟨b,o,ea,_,hc⟩
    · subst hx;simp at hlt
    have hxk:=hc k hlt
    have hxl:=Hl.out k hlt
    subst ea
    obtain ⟨x,hx⟩:∃ x,x=xs.getD k Ele.z:=⟨_,rfl⟩
    rw [← hx] at hxk hxl
    obtain ⟨a1,c1,a2,c2,⟨q0,q1⟩,hi⟩:=hxk
    have HT:=Hm (rtEle_c x a1 c1 a2 c2 wr hi hxl)
    have HX:=Hm hx
    have HP:=Hm hcp
    clear hx hc hcp hi HL
    go_wp2_with fail
    refine HT.out.mono ?_
    rintro e w1 ⟨b1,b2,rfl,ho,hb⟩
    have hcp1:=HP.out.keep hb
    obtain ⟨hl1,hc1,hf1⟩:=hcp1.cells
    obtain ⟨u0,e0⟩:=hc1 (k*2) (by omega)
    obtain ⟨u1,e1⟩:=hc1 (k*2+1) (by omega)
    have HP1:=Hm (hcp1.step hlt x HX.out (ho.mono (by have:=HP.out.cells.1;omega)))
    clear ho hb hcp1 hc1 HT HP q0 q1
    go_wp2
    go_roundw
    case rel=>exact ⟨k+1,by omega,by go_num,HP1.out⟩
    case measure=>simp [intOf];omega
  · have e:k=xs.length:=by omega
    subst e
    go_wp2
    go_ret
    exact ⟨rfl,hcp.ls,hcp.bel⟩
theorem rtCod_c (x:Cod) (a1:Option Addr) (c1:Nat) (a2:Option Addr) (c2:Nat) (w:World) (hI:Cod.Is 0 w x a1 a2) (hl:Cod.LB 1048576 x) :
    Calls Tryz.prog 121 #[.agg #[.slice a1 x.locs.length c1,.slice a2 x.body.length c2]] w fun e w'=>∃ b1 b2,e=.returned (.agg #[.slice (some ⟨b1,0,none⟩) x.locs.length x.locs.length,.slice (some ⟨b2,0,none⟩) x.body.length x.body.length])∧Cod.Is w.heap.size w' x (some ⟨b1,0,none⟩) (some ⟨b2,0,none⟩)∧Below w.heap.size w w':=by
 obtain ⟨l0,l1⟩:=hl
 obtain ⟨r1,r2⟩:=hI
 have R1:=Hm r1
 have R2:=Hm r2
 clear r1 r2
 have T0:=Hm (three w [.slice a1 x.locs.length c1,.slice a2 x.body.length c2] [.slice none 0 0,.slice none 0 0] [.slice none 0 0,.slice none 0 0] 178 74 74)
 go_enter Tryz.func121,Tryz.ntmps121
 go_upto_region 2 with fail
 refine wp_gen (fun W=>Bk W w.heap.size [.slice a1 x.locs.length c1,.slice a2 x.body.length c2]∧Bk W (w.heap.size+1) [.slice none 0 0,.slice none 0 0]∧Bk W (w.heap.size+2) [.slice none 0 0,.slice none 0 0]∧Below w.heap.size w W) T0.out ?_
 rintro W ⟨bb,br,bo,hb⟩
 clear T0
 have e1:w.heap.size≠w.heap.size+1:=by omega
 have e2:w.heap.size≠w.heap.size+2:=by omega
 have e3:w.heap.size+1≠w.heap.size+2:=by omega
 have e4:w.heap.size+2≠w.heap.size+1:=by omega
 have q0:=bb.2.1 0 _ rfl
 have o0:=bo.2.1 0 _ rfl
 have s0:=br.2.1 0 _ rfl
 have q1:=bb.2.1 1 _ rfl
 have o1:=bo.2.1 1 _ rfl
 have s1:=br.2.1 1 _ rfl
 have fo:=bo.2.2
 have fr:=br.2.2
 have hC1:Below w.heap.size w W:=hb
 have HC1:=Hm (rtGrps_c a1 c1 x.locs W l0 (R1.out.up (up_below hC1)))
 obtain ⟨B1,hB1⟩:∃ B,B=(W).heap.size:=⟨_,rfl⟩
 rw [← hB1] at HC1
 have HQ1:=Hm hB1
 clear hB1
 have bb1:Bk W w.heap.size [.slice a1 x.locs.length c1,.slice a2 x.body.length c2]:=bb
 have br1:Bk W (w.heap.size+1) [.slice none 0 0,.slice none 0 0]:=br
 have bo1:Bk W (w.heap.size+2) [.slice none 0 0,.slice none 0 0]:=bo
 go_wp2_with fail
 refine HC1.out.mono ?_
 rintro e W1 ⟨rfl,n1,hb1⟩
 have bbn:=bb1.keep (hb_of hb1 HQ1.out)
 have brn:=br1.keep (hb_of hb1 HQ1.out)
 have bon:=bo1.keep (hb_of hb1 HQ1.out)
 have hbn:Below w.heap.size w W1:=hC1.trans ((hb_of hb1 HQ1.out).mono hC1.size)
 clear bb br bo hb fo fr q0 o0 s0 q1 o1 s1
 have bb:=bbn
 have br:=brn
 have bo:=bon
 have hb:=hbn
 clear bbn brn bon hbn
 have hBle1:w.heap.size+2<B1:=by rw [HQ1.out];exact bo1.1
 have n1:=n1.mono (show w.heap.size+3≤B1 by omega)
 clear hC1 HC1 bb1 br1 bo1 hb1
 have q0:=bb.2.1 0 _ rfl
 have o0:=bo.2.1 0 _ rfl
 have s0:=br.2.1 0 _ rfl
 have q1:=bb.2.1 1 _ rfl
 have o1:=bo.2.1 1 _ rfl
 have s1:=br.2.1 1 _ rfl
 have fo:=bo.2.2
 have fr:=br.2.2
 have hC2:Below w.heap.size w (W1.setCell ⟨w.heap.size+2,0,none⟩ (.slice (some ⟨B1,0,none⟩) x.locs.length x.locs.length)):=(hb.setCell (by show w.heap.size≤w.heap.size+2;omega) _)
 have HC2:=Hm (rtIns_c a2 c2 x.body (W1.setCell ⟨w.heap.size+2,0,none⟩ (.slice (some ⟨B1,0,none⟩) x.locs.length x.locs.length)) l1 (R2.out.up (up_below hC2)))
 obtain ⟨B2,hB2⟩:∃ B,B=((W1.setCell ⟨w.heap.size+2,0,none⟩ (.slice (some ⟨B1,0,none⟩) x.locs.length x.locs.length))).heap.size:=⟨_,rfl⟩
 rw [← hB2] at HC2
 have HQ2:=Hm hB2
 clear hB2
 have bb2:Bk (W1.setCell ⟨w.heap.size+2,0,none⟩ (.slice (some ⟨B1,0,none⟩) x.locs.length x.locs.length)) w.heap.size [.slice a1 x.locs.length c1,.slice a2 x.body.length c2]:=(bb.other (by omega))
 have br2:Bk (W1.setCell ⟨w.heap.size+2,0,none⟩ (.slice (some ⟨B1,0,none⟩) x.locs.length x.locs.length)) (w.heap.size+1) [.slice none 0 0,.slice none 0 0]:=(br.other (by omega))
 have bo2:Bk (W1.setCell ⟨w.heap.size+2,0,none⟩ (.slice (some ⟨B1,0,none⟩) x.locs.length x.locs.length)) (w.heap.size+2) [.slice (some ⟨B1,0,none⟩) x.locs.length x.locs.length,.slice none 0 0]:=bo.set
 go_wp2_with fail
 refine HC2.out.mono ?_
 rintro e W2 ⟨rfl,n2,hb2⟩
 have bbn:=bb2.keep (hb_of hb2 HQ2.out)
 have brn:=br2.keep (hb_of hb2 HQ2.out)
 have bon:=bo2.keep (hb_of hb2 HQ2.out)
 have hbn:Below w.heap.size w W2:=hC2.trans ((hb_of hb2 HQ2.out).mono hC2.size)
 clear bb br bo hb fo fr q0 o0 s0 q1 o1 s1
 have bb:=bbn
 have br:=brn
 have bo:=bon
 have hb:=hbn
 clear bbn brn bon hbn
 have n1:=n1.up (Up.size_trans (up_sets1 (by omega)) (up_below (hb_of hb2 HQ2.out)) (by simp))
 have hBle2:w.heap.size+2<B2:=by rw [HQ2.out];exact bo2.1
 have n2:=n2.mono (show w.heap.size+3≤B2 by omega)
 clear hC2 HC2 bb2 br2 bo2 hb2
 have q0:=bb.2.1 0 _ rfl
 have o0:=bo.2.1 0 _ rfl
 have s0:=br.2.1 0 _ rfl
 have q1:=bb.2.1 1 _ rfl
 have o1:=bo.2.1 1 _ rfl
 have s1:=br.2.1 1 _ rfl
 have fo:=bo.2.2
 have fr:=br.2.2
 have HB:=Hm hb
 have HN1:=Hm n1
 have HN2:=Hm n2
 clear hb bb br bo n1 n2
 go_wp2
 exact bodyPost_ret (v:=.agg #[.slice (some ⟨B1,0,none⟩) x.locs.length x.locs.length,.slice (some ⟨B2,0,none⟩) x.body.length x.body.length]) (by simp [results,Tryz.results121,go_sem,s0,s1,e3,e4]) rfl ⟨B1,B2,rfl,⟨((HN1.out.up (up_sets1 (by omega))).up (up_set1_2 (by omega))).mono (by omega),((HN2.out.up (up_sets1 (by omega))).up (up_set1_2 (by omega))).mono (by omega)⟩,(((HB.out.setCell (by show w.heap.size≤w.heap.size+2;omega) _).setCell (by show w.heap.size≤w.heap.size+1;omega) _).setCell (by show w.heap.size≤w.heap.size+1;omega) _)⟩
theorem Tryz.infoCod:(Tryz.prog.info? 74).map (fun i=>(i.zero,i.size,i.bytes))=some (some (.agg #[.slice none 0 0,.slice none 0 0]),2,48):=by kernel_rfl
theorem makeCod (n:Nat) (hn:n≤1048576) (w:World):(Instr.makeSlice 42 (.int .i64 (n:Int)) (.int .i64 (n:Int))).run Tryz.prog w=.ok (.slice (some ⟨w.heap.size,0,none⟩) n n) (w.alloc (.cells (madeCells #[.slice none 0 0,.slice none 0 0] (n*2)) 74)):=by
 obtain ⟨i,hi,hzz⟩:=Option.map_eq_some_iff.1 Tryz.infoCod
 simp only [Prod.mk.injEq] at hzz
 obtain ⟨hz,hs,hb⟩:=hzz
 have:=run_make (P:=Tryz.prog) w 42 74 i _ Tryz.underlying42 hi hz .i64 .i64 n n (by omega) (by omega) (by rw [hb];omega) (by omega)
 rw [hs] at this
 simpa [Value.cells] using this
structure CpCod (w:World) (g n k:Nat) (xs:List Cod) (W:World):Prop where
 blk:∃ cur,W.heap[g]?=some (.cells cur 74 (0,0))∧cur.size=n*2
 done:∀ i,i<k→∃ a1 c1 a2 c2,(W.cell? ⟨g,i*2,none⟩=some (.slice a1 (xs.getD i Cod.z).locs.length c1)∧W.cell? ⟨g,i*2+1,none⟩=some (.slice a2 (xs.getD i Cod.z).body.length c2))∧Cod.Is (g+1) W (xs.getD i Cod.z) a1 a2
 bel:Below w.heap.size w W
 ge:w.heap.size≤g
theorem CpCod.cells {w W:World} {g n k:Nat} {xs:List Cod} (h:CpCod w g n k xs W):g<W.heap.size∧(∀ j,j<n*2→∃ u,W.cell? ⟨g,j,none⟩=some u)∧∀ j,W.frozen? ⟨g,j,none⟩=false:=by
 obtain ⟨cur,e,hc⟩:=h.blk
 have hl:g<W.heap.size:=by
  rcases Nat.lt_or_ge g W.heap.size with h' | h'
  · exact h'
  · rw [Array.getElem?_eq_none h'] at e;cases e
 refine ⟨hl,fun j hj=>?_,fun j=>?_⟩
 · simp only [World.cell?,e]
   exact ⟨cur[j]'(by omega),by simp [show j<cur.size by omega]⟩
 · simp only [World.frozen?,e];simp
theorem CpCod.keep {w W W1:World} {g n k:Nat} {xs:List Cod} (h:CpCod w g n k xs W) (hb:Below W.heap.size W W1):CpCod w g n k xs W1:=by
 obtain ⟨cur,e,hc⟩:=h.blk
 have hl:=h.cells.1
 refine ⟨⟨cur,(hb.block g hl).trans e,hc⟩,fun i hi=>?_,h.bel.trans (hb.mono h.bel.size),h.ge⟩
 obtain ⟨a1,c1,a2,c2,⟨q0,q1⟩,hi2⟩:=h.done i hi
 exact ⟨a1,c1,a2,c2,⟨(hb.cell (p:=⟨g,i*2,none⟩) hl).trans q0,(hb.cell (p:=⟨g,i*2+1,none⟩) hl).trans q1⟩,hi2.up (up_below hb)⟩
theorem blk_Cod {w:World} {g o n:Nat} {v:Value} (h:∃ cur,w.heap[g]?=some (.cells cur 74 (0,0))∧cur.size=n):∃ cur,(w.setCell ⟨g,o,none⟩ v).heap[g]?=some (.cells cur 74 (0,0))∧cur.size=n:=by
 obtain ⟨cur,e,hc⟩:=h
 refine ⟨cur.setIfInBounds o v,?_,by simpa using hc⟩
 simp only [World.setCell,Array.getElem?_modify,if_true,e,Option.map_some]
 rfl
theorem CpCod.step {w W:World} {g n k:Nat} {xs:List Cod} {b1:Nat} {b2:Nat} (H:CpCod w g n k xs W) (hk:k<n) (x:Cod) (hx:x=xs.getD k Cod.z) (ho:Cod.Is (g+1) W x (some ⟨b1,0,none⟩) (some ⟨b2,0,none⟩)) :
    CpCod w g n (k+1) xs ((W.setCell ⟨g,k*2,none⟩ (.slice (some ⟨b1,0,none⟩) x.locs.length x.locs.length)).setCell ⟨g,k*2+1,none⟩ (.slice (some ⟨b2,0,none⟩) x.body.length x.body.length)):=by
 obtain ⟨hl,hc,hf⟩:=H.cells
 obtain ⟨u0,e0⟩:=hc (k*2) (by omega)
 obtain ⟨u1,e1⟩:=hc (k*2+1) (by omega)
 refine ⟨blk_Cod (blk_Cod (H.blk)),fun i hi=>?_,((H.bel.setCell H.ge _).setCell H.ge _),H.ge⟩
 by_cases hik:i=k
 · subst hik
   rw [← hx]
   exact ⟨_,_,_,_,⟨set_off (set_same (e0)) (by omega),set_same (set_off (e1) (by omega))⟩,((ho.up (up_set (Nat.lt_succ_self g))).up (up_set (Nat.lt_succ_self g)))⟩
 · obtain ⟨a1,c1,a2,c2,⟨q0,q1⟩,hi2⟩:=H.done i (by omega)
   exact ⟨a1,c1,a2,c2,⟨set_off (set_off (q0) (by omega)) (by omega),set_off (set_off (q1) (by omega)) (by omega)⟩,((hi2.up (up_set (Nat.lt_succ_self g))).up (up_set (Nat.lt_succ_self g)))⟩
theorem CpCod.ls {w W:World} {g:Nat} {xs:List Cod} (h:CpCod w g xs.length xs.length xs W):Cod.Ls g W (some ⟨g,0,none⟩) xs:=by
 refine .inr ⟨g,0,rfl,Nat.le_refl _,fun i hi=>?_⟩
 obtain ⟨a1,c1,a2,c2,qs,hi2⟩:=h.done i hi
 rw [Nat.zero_add]
 exact ⟨a1,c1,a2,c2,qs,hi2.mono (Nat.le_succ g)⟩
theorem rtCods_c (a:Option Addr) (c:Nat) (xs:List Cod) (w:World) (hl:xs.length≤1048576∧∀ i,i<xs.length→Cod.LB 1048576 (xs.getD i Cod.z)) (hL:Cod.Ls 0 w a xs) :
    Calls Tryz.prog 44 #[.slice a xs.length c] w fun e w'=>e=.returned (.slice (some ⟨w.heap.size,0,none⟩) xs.length xs.length)∧Cod.Ls w.heap.size w' (some ⟨w.heap.size,0,none⟩) xs∧Below w.heap.size w w':=by
 obtain ⟨hn,hll⟩:=hl
 have hmk:=makeCod xs.length hn
 have HL:=Hm hL
 have Hl:=Hm hll
 clear hL hll
 have hst:CpCod w w.heap.size xs.length 0 xs (w.alloc (.cells (madeCells #[.slice none 0 0,.slice none 0 0] (xs.length*2)) 74)) :=
  ⟨⟨_,heap_new _ _,by simp [madeCells]⟩,fun i hi=>by omega,(Below.refl _ _).alloc (Nat.le_refl _) _,Nat.le_refl _⟩
 have HS:=Hm hst
 clear hst
 go_enter Tryz.func44,Tryz.ntmps44
 go_wp2
 go_loopw [4] (fun i wr=>∃ k:Nat,k≤xs.length∧i=.int .i64 k∧CpCod w w.heap.size xs.length k xs wr) (fun i _=>xs.length-(intOf i).toNat)
 case atStart=>exact ⟨0,Nat.zero_le _,rfl,HS.out⟩
 case round =>
  obtain ⟨k,hk,rfl,hcp⟩:=hrel
  clear HS hmk
  by_cases hlt:k<xs.length
  · have hki:(k:Int)<(xs.length:Int):=by omega
    rcases HL.out.up (up_below hcp.bel) with hx | ⟨b,o,ea,_,hc⟩
    · subst hx;simp at hlt
    have hxk:=hc k hlt
    have hxl:=Hl.out k hlt
    subst ea
    obtain ⟨x,hx⟩:∃ x,x=xs.getD k Cod.z:=⟨_,rfl⟩
    rw [← hx] at hxk hxl
    obtain ⟨a1,c1,a2,c2,⟨q0,q1⟩,hi⟩:=hxk
    have HT:=Hm (rtCod_c x a1 c1 a2 c2 wr hi hxl)
    have HX:=Hm hx
    have HP:=Hm hcp
    clear hx hc hcp hi HL
    go_wp2_with fail
    refine HT.out.mono ?_
    rintro e w1 ⟨b1,b2,rfl,ho,hb⟩
    have hcp1:=HP.out.keep hb
    obtain ⟨hl1,hc1,hf1⟩:=hcp1.cells
    obtain ⟨u0,e0⟩:=hc1 (k*2) (by omega)
    obtain ⟨u1,e1⟩:=hc1 (k*2+1) (by omega)
    have HP1:=Hm (hcp1.step hlt x HX.out (ho.mono (by have:=HP.out.cells.1;omega)))
    clear ho hb hcp1 hc1 HT HP q0 q1
    go_wp2
    go_roundw
    case rel=>exact ⟨k+1,by omega,by go_num,HP1.out⟩
    case measure=>simp [intOf];omega
  · have e:k=xs.length:=by omega
    subst e
    go_wp2
    go_ret
    exact ⟨rfl,hcp.ls,hcp.bel⟩
end Go.Proofs.YtdbmolambolmgaaGreat.NF
