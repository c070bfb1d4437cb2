import Derived.Test.YtdbmolambolmgaaGreatHt
set_option linter.all false
set_option maxHeartbeats 16000000
set_option maxRecDepth 100000
namespace Go.Proofs.YtdbmolambolmgaaGreat.NF
open Go.RowKit Go.Sort
set_option maxRecDepth 100000
theorem rtFType_c (x:FType) (a1:Option Addr) (c1:Nat) (a2:Option Addr) (c2:Nat) (w:World) (hI:FType.Is 0 w x a1 a2) (hl:FType.LB 1048576 x) :
    Calls Tryz.prog 115 #[.agg #[.slice a1 x.ps.length c1,.slice a2 x.rs.length c2]] w fun e w'=>∃ b1 b2,e=.returned (.agg #[.slice (some ⟨b1,0,none⟩) x.ps.length x.ps.length,.slice (some ⟨b2,0,none⟩) x.rs.length x.rs.length])∧FType.Is w.heap.size w' x (some ⟨b1,0,none⟩) (some ⟨b2,0,none⟩)∧Below w.heap.size w w':=by
 obtain ⟨l0,l1⟩:=hl
 obtain ⟨r1,r2⟩:=hI
 have R1:=Hm r1
 have R2:=Hm r2
 clear r1 r2
 have T0:=Hm (three w [.slice a1 x.ps.length c1,.slice a2 x.rs.length c2] [.slice none 0 0,.slice none 0 0] [.slice none 0 0,.slice none 0 0] 160 95 95)
 go_enter Tryz.func115,Tryz.ntmps115
 go_upto_region 2 with fail
 refine wp_gen (fun W=>Bk W w.heap.size [.slice a1 x.ps.length c1,.slice a2 x.rs.length c2]∧Bk W (w.heap.size+1) [.slice none 0 0,.slice none 0 0]∧Bk W (w.heap.size+2) [.slice none 0 0,.slice none 0 0]∧Below w.heap.size w W) T0.out ?_
 rintro W ⟨bb,br,bo,hb⟩
 clear T0
 have e1:w.heap.size≠w.heap.size+1:=by omega
 have e2:w.heap.size≠w.heap.size+2:=by omega
 have e3:w.heap.size+1≠w.heap.size+2:=by omega
 have e4:w.heap.size+2≠w.heap.size+1:=by omega
 have q0:=bb.2.1 0 _ rfl
 have o0:=bo.2.1 0 _ rfl
 have s0:=br.2.1 0 _ rfl
 have q1:=bb.2.1 1 _ rfl
 have o1:=bo.2.1 1 _ rfl
 have s1:=br.2.1 1 _ rfl
 have fo:=bo.2.2
 have fr:=br.2.2
 have hC1:Below w.heap.size w W:=hb
 have HC1:=Hm (rtInts_c a1 c1 x.ps W l0 (R1.out.up (up_below hC1)))
 obtain ⟨B1,hB1⟩:∃ B,B=(W).heap.size:=⟨_,rfl⟩
 rw [← hB1] at HC1
 have HQ1:=Hm hB1
 clear hB1
 have bb1:Bk W w.heap.size [.slice a1 x.ps.length c1,.slice a2 x.rs.length c2]:=bb
 have br1:Bk W (w.heap.size+1) [.slice none 0 0,.slice none 0 0]:=br
 have bo1:Bk W (w.heap.size+2) [.slice none 0 0,.slice none 0 0]:=bo
 go_wp2_with fail
 refine HC1.out.mono ?_
 rintro e W1 ⟨rfl,n1,hb1⟩
 have bbn:=bb1.keep (hb_of hb1 HQ1.out)
 have brn:=br1.keep (hb_of hb1 HQ1.out)
 have bon:=bo1.keep (hb_of hb1 HQ1.out)
 have hbn:Below w.heap.size w W1:=hC1.trans ((hb_of hb1 HQ1.out).mono hC1.size)
 clear bb br bo hb fo fr q0 o0 s0 q1 o1 s1
 have bb:=bbn
 have br:=brn
 have bo:=bon
 have hb:=hbn
 clear bbn brn bon hbn
 have hBle1:w.heap.size+2<B1:=by rw [HQ1.out];exact bo1.1
 have n1:=n1.mono (show w.heap.size+3≤B1 by omega)
 clear hC1 HC1 bb1 br1 bo1 hb1
 have q0:=bb.2.1 0 _ rfl
 have o0:=bo.2.1 0 _ rfl
 have s0:=br.2.1 0 _ rfl
 have q1:=bb.2.1 1 _ rfl
 have o1:=bo.2.1 1 _ rfl
 have s1:=br.2.1 1 _ rfl
 have fo:=bo.2.2
 have fr:=br.2.2
 have hC2:Below w.heap.size w (W1.setCell ⟨w.heap.size+2,0,none⟩ (.slice (some ⟨B1,0,none⟩) x.ps.length x.ps.length)):=(hb.setCell (by show w.heap.size≤w.heap.size+2;omega) _)
 have HC2:=Hm (rtInts_c a2 c2 x.rs (W1.setCell ⟨w.heap.size+2,0,none⟩ (.slice (some ⟨B1,0,none⟩) x.ps.length x.ps.length)) l1 (R2.out.up (up_below hC2)))
 obtain ⟨B2,hB2⟩:∃ B,B=((W1.setCell ⟨w.heap.size+2,0,none⟩ (.slice (some ⟨B1,0,none⟩) x.ps.length x.ps.length))).heap.size:=⟨_,rfl⟩
 rw [← hB2] at HC2
 have HQ2:=Hm hB2
 clear hB2
 have bb2:Bk (W1.setCell ⟨w.heap.size+2,0,none⟩ (.slice (some ⟨B1,0,none⟩) x.ps.length x.ps.length)) w.heap.size [.slice a1 x.ps.length c1,.slice a2 x.rs.length c2]:=(bb.other (by omega))
 have br2:Bk (W1.setCell ⟨w.heap.size+2,0,none⟩ (.slice (some ⟨B1,0,none⟩) x.ps.length x.ps.length)) (w.heap.size+1) [.slice none 0 0,.slice none 0 0]:=(br.other (by omega))
 have bo2:Bk (W1.setCell ⟨w.heap.size+2,0,none⟩ (.slice (some ⟨B1,0,none⟩) x.ps.length x.ps.length)) (w.heap.size+2) [.slice (some ⟨B1,0,none⟩) x.ps.length x.ps.length,.slice none 0 0]:=bo.set
 go_wp2_with fail
 refine HC2.out.mono ?_
 rintro e W2 ⟨rfl,n2,hb2⟩
 have bbn:=bb2.keep (hb_of hb2 HQ2.out)
 have brn:=br2.keep (hb_of hb2 HQ2.out)
 have bon:=bo2.keep (hb_of hb2 HQ2.out)
 have hbn:Below w.heap.size w W2:=hC2.trans ((hb_of hb2 HQ2.out).mono hC2.size)
 clear bb br bo hb fo fr q0 o0 s0 q1 o1 s1
 have bb:=bbn
 have br:=brn
 have bo:=bon
 have hb:=hbn
 clear bbn brn bon hbn
 have n1:=n1.up (Up.size_trans (up_sets1 (by omega)) (up_below (hb_of hb2 HQ2.out)) (by simp))
 have hBle2:w.heap.size+2<B2:=by rw [HQ2.out];exact bo2.1
 have n2:=n2.mono (show w.heap.size+3≤B2 by omega)
 clear hC2 HC2 bb2 br2 bo2 hb2
 have q0:=bb.2.1 0 _ rfl
 have o0:=bo.2.1 0 _ rfl
 have s0:=br.2.1 0 _ rfl
 have q1:=bb.2.1 1 _ rfl
 have o1:=bo.2.1 1 _ rfl
 have s1:=br.2.1 1 _ rfl
 have fo:=bo.2.2
 have fr:=br.2.2
 have HB:=Hm hb
 have HN1:=Hm n1
 have HN2:=Hm n2
 clear hb bb br bo n1 n2
 go_wp2
 exact bodyPost_ret (v:=.agg #[.slice (some ⟨B1,0,none⟩) x.ps.length x.ps.length,.slice (some ⟨B2,0,none⟩) x.rs.length x.rs.length]) (by simp [results,Tryz.results115,go_sem,s0,s1,e3,e4]) rfl ⟨B1,B2,rfl,⟨((HN1.out.up (up_sets1 (by omega))).up (up_set1_2 (by omega))).mono (by omega),((HN2.out.up (up_sets1 (by omega))).up (up_set1_2 (by omega))).mono (by omega)⟩,(((HB.out.setCell (by show w.heap.size≤w.heap.size+2;omega) _).setCell (by show w.heap.size≤w.heap.size+1;omega) _).setCell (by show w.heap.size≤w.heap.size+1;omega) _)⟩
theorem Tryz.infoFType:(Tryz.prog.info? 95).map (fun i=>(i.zero,i.size,i.bytes))=some (some (.agg #[.slice none 0 0,.slice none 0 0]),2,48):=by kernel_rfl
theorem makeFType (n:Nat) (hn:n≤1048576) (w:World):(Instr.makeSlice 36 (.int .i64 (n:Int)) (.int .i64 (n:Int))).run Tryz.prog w=.ok (.slice (some ⟨w.heap.size,0,none⟩) n n) (w.alloc (.cells (madeCells #[.slice none 0 0,.slice none 0 0] (n*2)) 95)):=by
 obtain ⟨i,hi,hzz⟩:=Option.map_eq_some_iff.1 Tryz.infoFType
 simp only [Prod.mk.injEq] at hzz
 obtain ⟨hz,hs,hb⟩:=hzz
 have:=run_make (P:=Tryz.prog) w 36 95 i _ Tryz.underlying36 hi hz .i64 .i64 n n (by omega) (by omega) (by rw [hb];omega) (by omega)
 rw [hs] at this
 simpa [Value.cells] using this
structure CpFType (w:World) (g n k:Nat) (xs:List FType) (W:World):Prop where
 blk:∃ cur,W.heap[g]?=some (.cells cur 95 (0,0))∧cur.size=n*2
 done:∀ i,i<k→∃ a1 c1 a2 c2,(W.cell? ⟨g,i*2,none⟩=some (.slice a1 (xs.getD i FType.z).ps.length c1)∧W.cell? ⟨g,i*2+1,none⟩=some (.slice a2 (xs.getD i FType.z).rs.length c2))∧FType.Is (g+1) W (xs.getD i FType.z) a1 a2
 bel:Below w.heap.size w W
 ge:w.heap.size≤g
theorem CpFType.cells {w W:World} {g n k:Nat} {xs:List FType} (h:CpFType w g n k xs W):g<W.heap.size∧(∀ j,j<n*2→∃ u,W.cell? ⟨g,j,none⟩=some u)∧∀ j,W.frozen? ⟨g,j,none⟩=false:=by
 obtain ⟨cur,e,hc⟩:=h.blk
 have hl:g<W.heap.size:=by
  rcases Nat.lt_or_ge g W.heap.size with h' | h'
  · exact h'
  · rw [Array.getElem?_eq_none h'] at e;cases e
 refine ⟨hl,fun j hj=>?_,fun j=>?_⟩
 · simp only [World.cell?,e]
   exact ⟨cur[j]'(by omega),by simp [show j<cur.size by omega]⟩
 · simp only [World.frozen?,e];simp
theorem CpFType.keep {w W W1:World} {g n k:Nat} {xs:List FType} (h:CpFType w g n k xs W) (hb:Below W.heap.size W W1):CpFType w g n k xs W1:=by
 obtain ⟨cur,e,hc⟩:=h.blk
 have hl:=h.cells.1
 refine ⟨⟨cur,(hb.block g hl).trans e,hc⟩,fun i hi=>?_,h.bel.trans (hb.mono h.bel.size),h.ge⟩
 obtain ⟨a1,c1,a2,c2,⟨q0,q1⟩,hi2⟩:=h.done i hi
 exact ⟨a1,c1,a2,c2,⟨(hb.cell (p:=⟨g,i*2,none⟩) hl).trans q0,(hb.cell (p:=⟨g,i*2+1,none⟩) hl).trans q1⟩,hi2.up (up_below hb)⟩
theorem blk_FType {w:World} {g o n:Nat} {v:Value} (h:∃ cur,w.heap[g]?=some (.cells cur 95 (0,0))∧cur.size=n):∃ cur,(w.setCell ⟨g,o,none⟩ v).heap[g]?=some (.cells cur 95 (0,0))∧cur.size=n:=by
 obtain ⟨cur,e,hc⟩:=h
 refine ⟨cur.setIfInBounds o v,?_,by simpa using hc⟩
 simp only [World.setCell,Array.getElem?_modify,if_true,e,Option.map_some]
 rfl
theorem CpFType.step {w W:World} {g n k:Nat} {xs:List FType} {b1:Nat} {b2:Nat} (H:CpFType w g n k xs W) (hk:k<n) (x:FType) (hx:x=xs.getD k FType.z) (ho:FType.Is (g+1) W x (some ⟨b1,0,none⟩) (some ⟨b2,0,none⟩)) :
    CpFType w g n (k+1) xs ((W.setCell ⟨g,k*2,none⟩ (.slice (some ⟨b1,0,none⟩) x.ps.length x.ps.length)).setCell ⟨g,k*2+1,none⟩ (.slice (some ⟨b2,0,none⟩) x.rs.length x.rs.length)):=by
 obtain ⟨hl,hc,hf⟩:=H.cells
 obtain ⟨u0,e0⟩:=hc (k*2) (by omega)
 obtain ⟨u1,e1⟩:=hc (k*2+1) (by omega)
 refine ⟨blk_FType (blk_FType (H.blk)),fun i hi=>?_,((H.bel.setCell H.ge _).setCell H.ge _),H.ge⟩
 by_cases hik:i=k
 · subst hik
   rw [← hx]
   exact ⟨_,_,_,_,⟨set_off (set_same (e0)) (by omega),set_same (set_off (e1) (by omega))⟩,((ho.up (up_set (Nat.lt_succ_self g))).up (up_set (Nat.lt_succ_self g)))⟩
 · obtain ⟨a1,c1,a2,c2,⟨q0,q1⟩,hi2⟩:=H.done i (by omega)
   exact ⟨a1,c1,a2,c2,⟨set_off (set_off (q0) (by omega)) (by omega),set_off (set_off (q1) (by omega)) (by omega)⟩,((hi2.up (up_set (Nat.lt_succ_self g))).up (up_set (Nat.lt_succ_self g)))⟩
theorem CpFType.ls {w W:World} {g:Nat} {xs:List FType} (h:CpFType w g xs.length xs.length xs W):FType.Ls g W (some ⟨g,0,none⟩) xs:=by
 refine .inr ⟨g,0,rfl,Nat.le_refl _,fun i hi=>?_⟩
 obtain ⟨a1,c1,a2,c2,qs,hi2⟩:=h.done i hi
 rw [Nat.zero_add]
 exact ⟨a1,c1,a2,c2,qs,hi2.mono (Nat.le_succ g)⟩
theorem rtFTypes_c (a:Option Addr) (c:Nat) (xs:List FType) (w:World) (hl:xs.length≤1048576∧∀ i,i<xs.length→FType.LB 1048576 (xs.getD i FType.z)) (hL:FType.Ls 0 w a xs) :
    Calls Tryz.prog 37 #[.slice a xs.length c] w fun e w'=>e=.returned (.slice (some ⟨w.heap.size,0,none⟩) xs.length xs.length)∧FType.Ls w.heap.size w' (some ⟨w.heap.size,0,none⟩) xs∧Below w.heap.size w w':=by
 obtain ⟨hn,hll⟩:=hl
 have hmk:=makeFType xs.length hn
 have HL:=Hm hL
 have Hl:=Hm hll
 clear hL hll
 have hst:CpFType w w.heap.size xs.length 0 xs (w.alloc (.cells (madeCells #[.slice none 0 0,.slice none 0 0] (xs.length*2)) 95)) :=
  ⟨⟨_,heap_new _ _,by simp [madeCells]⟩,fun i hi=>by omega,(Below.refl _ _).alloc (Nat.le_refl _) _,Nat.le_refl _⟩
 have HS:=Hm hst
 clear hst
 go_enter Tryz.func37,Tryz.ntmps37
 go_wp2
 go_loopw [4] (fun i wr=>∃ k:Nat,k≤xs.length∧i=.int .i64 k∧CpFType w w.heap.size xs.length k xs wr) (fun i _=>xs.length-(intOf i).toNat)
 case atStart=>exact ⟨0,Nat.zero_le _,rfl,HS.out⟩
 case round =>
  obtain ⟨k,hk,rfl,hcp⟩:=hrel
  clear HS hmk
  by_cases hlt:k<xs.length
  · have hki:(k:Int)<(xs.length:Int):=by omega
    rcases HL.out.up (up_below hcp.bel) with hx | ⟨b,o,ea,_,hc⟩
    · subst hx;simp at hlt
    have hxk:=hc k hlt
    have hxl:=Hl.out k hlt
    subst ea
    obtain ⟨x,hx⟩:∃ x,x=xs.getD k FType.z:=⟨_,rfl⟩
    rw [← hx] at hxk hxl
    obtain ⟨a1,c1,a2,c2,⟨q0,q1⟩,hi⟩:=hxk
    have HT:=Hm (rtFType_c x a1 c1 a2 c2 wr hi hxl)
    have HX:=Hm hx
    have HP:=Hm hcp
    clear hx hc hcp hi HL
    go_wp2_with fail
    refine HT.out.mono ?_
    rintro e w1 ⟨b1,b2,rfl,ho,hb⟩
    have hcp1:=HP.out.keep hb
    obtain ⟨hl1,hc1,hf1⟩:=hcp1.cells
    obtain ⟨u0,e0⟩:=hc1 (k*2) (by omega)
    obtain ⟨u1,e1⟩:=hc1 (k*2+1) (by omega)
    have HP1:=Hm (hcp1.step hlt x HX.out (ho.mono (by have:=HP.out.cells.1;omega)))
    clear ho hb hcp1 hc1 HT HP q0 q1
    go_wp2
    go_roundw
    case rel=>exact ⟨k+1,by omega,by go_num,HP1.out⟩
    case measure=>simp [intOf];omega
  · have e:k=xs.length:=by omega
    subst e
    go_wp2
    go_ret
    exact ⟨rfl,hcp.ls,hcp.bel⟩
theorem rtImp_c (x:Imp) (w:World) (hI:Imp.Is 0 w x) (hl:Imp.LB 1048576 x) :
    Calls Tryz.prog 116 #[.agg #[.string x.mod,.string x.nm,.int .i64 x.kind,.int .i64 x.ty,.int .i64 x.lim.min,.int .i64 x.lim.max,.bool x.lim.has,.int .i64 x.gl.ty,.bool x.gl.mu]] w fun e w'=>e=.returned (.agg #[.string x.mod,.string x.nm,.int .i64 x.kind,.int .i64 x.ty,.int .i64 x.lim.min,.int .i64 x.lim.max,.bool x.lim.has,.int .i64 x.gl.ty,.bool x.gl.mu])∧Imp.Is w.heap.size w' x∧Below w.heap.size w w':=by
 obtain ⟨l0,l1⟩:=hl
 have T0:=Hm (three w [.string x.mod,.string x.nm,.int .i64 x.kind,.int .i64 x.ty,.int .i64 x.lim.min,.int .i64 x.lim.max,.bool x.lim.has,.int .i64 x.gl.ty,.bool x.gl.mu] [.string ⟨#[]⟩,.string ⟨#[]⟩,.int .i64 0,.int .i64 0,.int .i64 0,.int .i64 0,.bool false,.int .i64 0,.bool false] [.string ⟨#[]⟩,.string ⟨#[]⟩,.int .i64 0,.int .i64 0,.int .i64 0,.int .i64 0,.bool false,.int .i64 0,.bool false] 165 103 103)
 go_enter Tryz.func116,Tryz.ntmps116
 go_upto_region 2 with fail
 refine wp_gen (fun W=>Bk W w.heap.size [.string x.mod,.string x.nm,.int .i64 x.kind,.int .i64 x.ty,.int .i64 x.lim.min,.int .i64 x.lim.max,.bool x.lim.has,.int .i64 x.gl.ty,.bool x.gl.mu]∧Bk W (w.heap.size+1) [.string ⟨#[]⟩,.string ⟨#[]⟩,.int .i64 0,.int .i64 0,.int .i64 0,.int .i64 0,.bool false,.int .i64 0,.bool false]∧Bk W (w.heap.size+2) [.string ⟨#[]⟩,.string ⟨#[]⟩,.int .i64 0,.int .i64 0,.int .i64 0,.int .i64 0,.bool false,.int .i64 0,.bool false]∧Below w.heap.size w W) T0.out ?_
 rintro W ⟨bb,br,bo,hb⟩
 clear T0
 have e1:w.heap.size≠w.heap.size+1:=by omega
 have e2:w.heap.size≠w.heap.size+2:=by omega
 have e3:w.heap.size+1≠w.heap.size+2:=by omega
 have e4:w.heap.size+2≠w.heap.size+1:=by omega
 have q0:=bb.2.1 0 _ rfl
 have o0:=bo.2.1 0 _ rfl
 have s0:=br.2.1 0 _ rfl
 have q1:=bb.2.1 1 _ rfl
 have o1:=bo.2.1 1 _ rfl
 have s1:=br.2.1 1 _ rfl
 have q2:=bb.2.1 2 _ rfl
 have o2:=bo.2.1 2 _ rfl
 have s2:=br.2.1 2 _ rfl
 have q3:=bb.2.1 3 _ rfl
 have o3:=bo.2.1 3 _ rfl
 have s3:=br.2.1 3 _ rfl
 have q4:=bb.2.1 4 _ rfl
 have o4:=bo.2.1 4 _ rfl
 have s4:=br.2.1 4 _ rfl
 have q5:=bb.2.1 5 _ rfl
 have o5:=bo.2.1 5 _ rfl
 have s5:=br.2.1 5 _ rfl
 have q6:=bb.2.1 6 _ rfl
 have o6:=bo.2.1 6 _ rfl
 have s6:=br.2.1 6 _ rfl
 have q7:=bb.2.1 7 _ rfl
 have o7:=bo.2.1 7 _ rfl
 have s7:=br.2.1 7 _ rfl
 have q8:=bb.2.1 8 _ rfl
 have o8:=bo.2.1 8 _ rfl
 have s8:=br.2.1 8 _ rfl
 have fo:=bo.2.2
 have fr:=br.2.2
 have hC1:Below w.heap.size w ((((W.setCell ⟨w.heap.size+2,0,none⟩ (.string x.mod)).setCell ⟨w.heap.size+2,1,none⟩ (.string x.nm)).setCell ⟨w.heap.size+2,2,none⟩ (.int .i64 x.kind)).setCell ⟨w.heap.size+2,3,none⟩ (.int .i64 x.ty)):=((((hb.setCell (by show w.heap.size≤w.heap.size+2;omega) _).setCell (by show w.heap.size≤w.heap.size+2;omega) _).setCell (by show w.heap.size≤w.heap.size+2;omega) _).setCell (by show w.heap.size≤w.heap.size+2;omega) _)
 have HC1:=Hm (rtLimits_c x.lim ((((W.setCell ⟨w.heap.size+2,0,none⟩ (.string x.mod)).setCell ⟨w.heap.size+2,1,none⟩ (.string x.nm)).setCell ⟨w.heap.size+2,2,none⟩ (.int .i64 x.kind)).setCell ⟨w.heap.size+2,3,none⟩ (.int .i64 x.ty)) trivial trivial)
 have bb1:Bk ((((W.setCell ⟨w.heap.size+2,0,none⟩ (.string x.mod)).setCell ⟨w.heap.size+2,1,none⟩ (.string x.nm)).setCell ⟨w.heap.size+2,2,none⟩ (.int .i64 x.kind)).setCell ⟨w.heap.size+2,3,none⟩ (.int .i64 x.ty)) w.heap.size [.string x.mod,.string x.nm,.int .i64 x.kind,.int .i64 x.ty,.int .i64 x.lim.min,.int .i64 x.lim.max,.bool x.lim.has,.int .i64 x.gl.ty,.bool x.gl.mu]:=((((bb.other (by omega)).other (by omega)).other (by omega)).other (by omega))
 have br1:Bk ((((W.setCell ⟨w.heap.size+2,0,none⟩ (.string x.mod)).setCell ⟨w.heap.size+2,1,none⟩ (.string x.nm)).setCell ⟨w.heap.size+2,2,none⟩ (.int .i64 x.kind)).setCell ⟨w.heap.size+2,3,none⟩ (.int .i64 x.ty)) (w.heap.size+1) [.string ⟨#[]⟩,.string ⟨#[]⟩,.int .i64 0,.int .i64 0,.int .i64 0,.int .i64 0,.bool false,.int .i64 0,.bool false]:=((((br.other (by omega)).other (by omega)).other (by omega)).other (by omega))
 have bo1:Bk ((((W.setCell ⟨w.heap.size+2,0,none⟩ (.string x.mod)).setCell ⟨w.heap.size+2,1,none⟩ (.string x.nm)).setCell ⟨w.heap.size+2,2,none⟩ (.int .i64 x.kind)).setCell ⟨w.heap.size+2,3,none⟩ (.int .i64 x.ty)) (w.heap.size+2) [.string x.mod,.string x.nm,.int .i64 x.kind,.int .i64 x.ty,.int .i64 0,.int .i64 0,.bool false,.int .i64 0,.bool false]:=bo.set.set.set.set
 go_wp2_with fail
 refine HC1.out.mono ?_
 rintro e W1 ⟨rfl,_,hb1⟩
 have bbn:=bb1.keep (hb_of hb1 rfl)
 have brn:=br1.keep (hb_of hb1 rfl)
 have bon:=bo1.keep (hb_of hb1 rfl)
 have hbn:Below w.heap.size w W1:=hC1.trans ((hb_of hb1 rfl).mono hC1.size)
 clear bb br bo hb fo fr q0 o0 s0 q1 o1 s1 q2 o2 s2 q3 o3 s3 q4 o4 s4 q5 o5 s5 q6 o6 s6 q7 o7 s7 q8 o8 s8
 have bb:=bbn
 have br:=brn
 have bo:=bon
 have hb:=hbn
 clear bbn brn bon hbn
 clear hC1 HC1 bb1 br1 bo1 hb1
 have q0:=bb.2.1 0 _ rfl
 have o0:=bo.2.1 0 _ rfl
 have s0:=br.2.1 0 _ rfl
 have q1:=bb.2.1 1 _ rfl
 have o1:=bo.2.1 1 _ rfl
 have s1:=br.2.1 1 _ rfl
 have q2:=bb.2.1 2 _ rfl
 have o2:=bo.2.1 2 _ rfl
 have s2:=br.2.1 2 _ rfl
 have q3:=bb.2.1 3 _ rfl
 have o3:=bo.2.1 3 _ rfl
 have s3:=br.2.1 3 _ rfl
 have q4:=bb.2.1 4 _ rfl
 have o4:=bo.2.1 4 _ rfl
 have s4:=br.2.1 4 _ rfl
 have q5:=bb.2.1 5 _ rfl
 have o5:=bo.2.1 5 _ rfl
 have s5:=br.2.1 5 _ rfl
 have q6:=bb.2.1 6 _ rfl
 have o6:=bo.2.1 6 _ rfl
 have s6:=br.2.1 6 _ rfl
 have q7:=bb.2.1 7 _ rfl
 have o7:=bo.2.1 7 _ rfl
 have s7:=br.2.1 7 _ rfl
 have q8:=bb.2.1 8 _ rfl
 have o8:=bo.2.1 8 _ rfl
 have s8:=br.2.1 8 _ rfl
 have fo:=bo.2.2
 have fr:=br.2.2
 have hC2:Below w.heap.size w (((W1.setCell ⟨w.heap.size+2,4,none⟩ (.int .i64 x.lim.min)).setCell ⟨w.heap.size+2,5,none⟩ (.int .i64 x.lim.max)).setCell ⟨w.heap.size+2,6,none⟩ (.bool x.lim.has)):=(((hb.setCell (by show w.heap.size≤w.heap.size+2;omega) _).setCell (by show w.heap.size≤w.heap.size+2;omega) _).setCell (by show w.heap.size≤w.heap.size+2;omega) _)
 have HC2:=Hm (rtGType_c x.gl (((W1.setCell ⟨w.heap.size+2,4,none⟩ (.int .i64 x.lim.min)).setCell ⟨w.heap.size+2,5,none⟩ (.int .i64 x.lim.max)).setCell ⟨w.heap.size+2,6,none⟩ (.bool x.lim.has)) trivial trivial)
 have bb2:Bk (((W1.setCell ⟨w.heap.size+2,4,none⟩ (.int .i64 x.lim.min)).setCell ⟨w.heap.size+2,5,none⟩ (.int .i64 x.lim.max)).setCell ⟨w.heap.size+2,6,none⟩ (.bool x.lim.has)) w.heap.size [.string x.mod,.string x.nm,.int .i64 x.kind,.int .i64 x.ty,.int .i64 x.lim.min,.int .i64 x.lim.max,.bool x.lim.has,.int .i64 x.gl.ty,.bool x.gl.mu]:=(((bb.other (by omega)).other (by omega)).other (by omega))
 have br2:Bk (((W1.setCell ⟨w.heap.size+2,4,none⟩ (.int .i64 x.lim.min)).setCell ⟨w.heap.size+2,5,none⟩ (.int .i64 x.lim.max)).setCell ⟨w.heap.size+2,6,none⟩ (.bool x.lim.has)) (w.heap.size+1) [.string ⟨#[]⟩,.string ⟨#[]⟩,.int .i64 0,.int .i64 0,.int .i64 0,.int .i64 0,.bool false,.int .i64 0,.bool false]:=(((br.other (by omega)).other (by omega)).other (by omega))
 have bo2:Bk (((W1.setCell ⟨w.heap.size+2,4,none⟩ (.int .i64 x.lim.min)).setCell ⟨w.heap.size+2,5,none⟩ (.int .i64 x.lim.max)).setCell ⟨w.heap.size+2,6,none⟩ (.bool x.lim.has)) (w.heap.size+2) [.string x.mod,.string x.nm,.int .i64 x.kind,.int .i64 x.ty,.int .i64 x.lim.min,.int .i64 x.lim.max,.bool x.lim.has,.int .i64 0,.bool false]:=bo.set.set.set
 go_wp2_with fail
 refine HC2.out.mono ?_
 rintro e W2 ⟨rfl,_,hb2⟩
 have bbn:=bb2.keep (hb_of hb2 rfl)
 have brn:=br2.keep (hb_of hb2 rfl)
 have bon:=bo2.keep (hb_of hb2 rfl)
 have hbn:Below w.heap.size w W2:=hC2.trans ((hb_of hb2 rfl).mono hC2.size)
 clear bb br bo hb fo fr q0 o0 s0 q1 o1 s1 q2 o2 s2 q3 o3 s3 q4 o4 s4 q5 o5 s5 q6 o6 s6 q7 o7 s7 q8 o8 s8
 have bb:=bbn
 have br:=brn
 have bo:=bon
 have hb:=hbn
 clear bbn brn bon hbn
 clear hC2 HC2 bb2 br2 bo2 hb2
 have q0:=bb.2.1 0 _ rfl
 have o0:=bo.2.1 0 _ rfl
 have s0:=br.2.1 0 _ rfl
 have q1:=bb.2.1 1 _ rfl
 have o1:=bo.2.1 1 _ rfl
 have s1:=br.2.1 1 _ rfl
 have q2:=bb.2.1 2 _ rfl
 have o2:=bo.2.1 2 _ rfl
 have s2:=br.2.1 2 _ rfl
 have q3:=bb.2.1 3 _ rfl
 have o3:=bo.2.1 3 _ rfl
 have s3:=br.2.1 3 _ rfl
 have q4:=bb.2.1 4 _ rfl
 have o4:=bo.2.1 4 _ rfl
 have s4:=br.2.1 4 _ rfl
 have q5:=bb.2.1 5 _ rfl
 have o5:=bo.2.1 5 _ rfl
 have s5:=br.2.1 5 _ rfl
 have q6:=bb.2.1 6 _ rfl
 have o6:=bo.2.1 6 _ rfl
 have s6:=br.2.1 6 _ rfl
 have q7:=bb.2.1 7 _ rfl
 have o7:=bo.2.1 7 _ rfl
 have s7:=br.2.1 7 _ rfl
 have q8:=bb.2.1 8 _ rfl
 have o8:=bo.2.1 8 _ rfl
 have s8:=br.2.1 8 _ rfl
 have fo:=bo.2.2
 have fr:=br.2.2
 have HB:=Hm hb
 clear hb bb br bo
 go_wp2
 exact bodyPost_ret (v:=.agg #[.string x.mod,.string x.nm,.int .i64 x.kind,.int .i64 x.ty,.int .i64 x.lim.min,.int .i64 x.lim.max,.bool x.lim.has,.int .i64 x.gl.ty,.bool x.gl.mu]) (by simp [results,Tryz.results116,go_sem,s0,s1,s2,s3,s4,s5,s6,s7,s8,e3,e4]) rfl ⟨rfl,trivial,(((((((((((HB.out.setCell (by show w.heap.size≤w.heap.size+2;omega) _).setCell (by show w.heap.size≤w.heap.size+2;omega) _).setCell (by show w.heap.size≤w.heap.size+1;omega) _).setCell (by show w.heap.size≤w.heap.size+1;omega) _).setCell (by show w.heap.size≤w.heap.size+1;omega) _).setCell (by show w.heap.size≤w.heap.size+1;omega) _).setCell (by show w.heap.size≤w.heap.size+1;omega) _).setCell (by show w.heap.size≤w.heap.size+1;omega) _).setCell (by show w.heap.size≤w.heap.size+1;omega) _).setCell (by show w.heap.size≤w.heap.size+1;omega) _).setCell (by show w.heap.size≤w.heap.size+1;omega) _)⟩
theorem Tryz.infoImp:(Tryz.prog.info? 103).map (fun i=>(i.zero,i.size,i.bytes))=some (some (.agg #[.string ⟨#[]⟩,.string ⟨#[]⟩,.int .i64 0,.int .i64 0,.int .i64 0,.int .i64 0,.bool false,.int .i64 0,.bool false]),9,88):=by kernel_rfl
theorem makeImp (n:Nat) (hn:n≤1048576) (w:World):(Instr.makeSlice 37 (.int .i64 (n:Int)) (.int .i64 (n:Int))).run Tryz.prog w=.ok (.slice (some ⟨w.heap.size,0,none⟩) n n) (w.alloc (.cells (madeCells #[.string ⟨#[]⟩,.string ⟨#[]⟩,.int .i64 0,.int .i64 0,.int .i64 0,.int .i64 0,.bool false,.int .i64 0,.bool false] (n*9)) 103)):=by
 obtain ⟨i,hi,hzz⟩:=Option.map_eq_some_iff.1 Tryz.infoImp
 simp only [Prod.mk.injEq] at hzz
 obtain ⟨hz,hs,hb⟩:=hzz
 have:=run_make (P:=Tryz.prog) w 37 103 i _ Tryz.underlying37 hi hz .i64 .i64 n n (by omega) (by omega) (by rw [hb];omega) (by omega)
 rw [hs] at this
 simpa [Value.cells] using this
structure CpImp (w:World) (g n k:Nat) (xs:List Imp) (W:World):Prop where
 blk:∃ cur,W.heap[g]?=some (.cells cur 103 (0,0))∧cur.size=n*9
 done:∀ i,i<k→(W.cell? ⟨g,i*9,none⟩=some (.string (xs.getD i Imp.z).mod)∧W.cell? ⟨g,i*9+1,none⟩=some (.string (xs.getD i Imp.z).nm)∧W.cell? ⟨g,i*9+2,none⟩=some (.int .i64 (xs.getD i Imp.z).kind)∧W.cell? ⟨g,i*9+3,none⟩=some (.int .i64 (xs.getD i Imp.z).ty)∧W.cell? ⟨g,i*9+4,none⟩=some (.int .i64 (xs.getD i Imp.z).lim.min)∧W.cell? ⟨g,i*9+5,none⟩=some (.int .i64 (xs.getD i Imp.z).lim.max)∧W.cell? ⟨g,i*9+6,none⟩=some (.bool (xs.getD i Imp.z).lim.has)∧W.cell? ⟨g,i*9+7,none⟩=some (.int .i64 (xs.getD i Imp.z).gl.ty)∧W.cell? ⟨g,i*9+8,none⟩=some (.bool (xs.getD i Imp.z).gl.mu))∧Imp.Is (g+1) W (xs.getD i Imp.z)
 bel:Below w.heap.size w W
 ge:w.heap.size≤g
theorem CpImp.cells {w W:World} {g n k:Nat} {xs:List Imp} (h:CpImp w g n k xs W):g<W.heap.size∧(∀ j,j<n*9→∃ u,W.cell? ⟨g,j,none⟩=some u)∧∀ j,W.frozen? ⟨g,j,none⟩=false:=by
 obtain ⟨cur,e,hc⟩:=h.blk
 have hl:g<W.heap.size:=by
  rcases Nat.lt_or_ge g W.heap.size with h' | h'
  · exact h'
  · rw [Array.getElem?_eq_none h'] at e;cases e
 refine ⟨hl,fun j hj=>?_,fun j=>?_⟩
 · simp only [World.cell?,e]
   exact ⟨cur[j]'(by omega),by simp [show j<cur.size by omega]⟩
 · simp only [World.frozen?,e];simp
theorem CpImp.keep {w W W1:World} {g n k:Nat} {xs:List Imp} (h:CpImp w g n k xs W) (hb:Below W.heap.size W W1):CpImp w g n k xs W1:=by
 obtain ⟨cur,e,hc⟩:=h.blk
 have hl:=h.cells.1
 refine ⟨⟨cur,(hb.block g hl).trans e,hc⟩,fun i hi=>?_,h.bel.trans (hb.mono h.bel.size),h.ge⟩
 obtain ⟨⟨q0,q1,q2,q3,q4,q5,q6,q7,q8⟩,hi2⟩:=h.done i hi
 exact ⟨⟨(hb.cell (p:=⟨g,i*9,none⟩) hl).trans q0,(hb.cell (p:=⟨g,i*9+1,none⟩) hl).trans q1,(hb.cell (p:=⟨g,i*9+2,none⟩) hl).trans q2,(hb.cell (p:=⟨g,i*9+3,none⟩) hl).trans q3,(hb.cell (p:=⟨g,i*9+4,none⟩) hl).trans q4,(hb.cell (p:=⟨g,i*9+5,none⟩) hl).trans q5,(hb.cell (p:=⟨g,i*9+6,none⟩) hl).trans q6,(hb.cell (p:=⟨g,i*9+7,none⟩) hl).trans q7,(hb.cell (p:=⟨g,i*9+8,none⟩) hl).trans q8⟩,hi2.up (up_below hb)⟩
theorem blk_Imp {w:World} {g o n:Nat} {v:Value} (h:∃ cur,w.heap[g]?=some (.cells cur 103 (0,0))∧cur.size=n):∃ cur,(w.setCell ⟨g,o,none⟩ v).heap[g]?=some (.cells cur 103 (0,0))∧cur.size=n:=by
 obtain ⟨cur,e,hc⟩:=h
 refine ⟨cur.setIfInBounds o v,?_,by simpa using hc⟩
 simp only [World.setCell,Array.getElem?_modify,if_true,e,Option.map_some]
 rfl
theorem CpImp.step {w W:World} {g n k:Nat} {xs:List Imp} (H:CpImp w g n k xs W) (hk:k<n) (x:Imp) (hx:x=xs.getD k Imp.z) (ho:Imp.Is (g+1) W x) :
    CpImp w g n (k+1) xs (((((((((W.setCell ⟨g,k*9,none⟩ (.string x.mod)).setCell ⟨g,k*9+1,none⟩ (.string x.nm)).setCell ⟨g,k*9+2,none⟩ (.int .i64 x.kind)).setCell ⟨g,k*9+3,none⟩ (.int .i64 x.ty)).setCell ⟨g,k*9+4,none⟩ (.int .i64 x.lim.min)).setCell ⟨g,k*9+5,none⟩ (.int .i64 x.lim.max)).setCell ⟨g,k*9+6,none⟩ (.bool x.lim.has)).setCell ⟨g,k*9+7,none⟩ (.int .i64 x.gl.ty)).setCell ⟨g,k*9+8,none⟩ (.bool x.gl.mu)):=by
 obtain ⟨hl,hc,hf⟩:=H.cells
 obtain ⟨u0,e0⟩:=hc (k*9) (by omega)
 obtain ⟨u1,e1⟩:=hc (k*9+1) (by omega)
 obtain ⟨u2,e2⟩:=hc (k*9+2) (by omega)
 obtain ⟨u3,e3⟩:=hc (k*9+3) (by omega)
 obtain ⟨u4,e4⟩:=hc (k*9+4) (by omega)
 obtain ⟨u5,e5⟩:=hc (k*9+5) (by omega)
 obtain ⟨u6,e6⟩:=hc (k*9+6) (by omega)
 obtain ⟨u7,e7⟩:=hc (k*9+7) (by omega)
 obtain ⟨u8,e8⟩:=hc (k*9+8) (by omega)
 refine ⟨blk_Imp (blk_Imp (blk_Imp (blk_Imp (blk_Imp (blk_Imp (blk_Imp (blk_Imp (blk_Imp (H.blk))))))))),fun i hi=>?_,(((((((((H.bel.setCell H.ge _).setCell H.ge _).setCell H.ge _).setCell H.ge _).setCell H.ge _).setCell H.ge _).setCell H.ge _).setCell H.ge _).setCell H.ge _),H.ge⟩
 by_cases hik:i=k
 · subst hik
   rw [← hx]
   exact ⟨⟨set_off (set_off (set_off (set_off (set_off (set_off (set_off (set_off (set_same (e0)) (by omega)) (by omega)) (by omega)) (by omega)) (by omega)) (by omega)) (by omega)) (by omega),set_off (set_off (set_off (set_off (set_off (set_off (set_off (set_same (set_off (e1) (by omega))) (by omega)) (by omega)) (by omega)) (by omega)) (by omega)) (by omega)) (by omega),set_off (set_off (set_off (set_off (set_off (set_off (set_same (set_off (set_off (e2) (by omega)) (by omega))) (by omega)) (by omega)) (by omega)) (by omega)) (by omega)) (by omega),set_off (set_off (set_off (set_off (set_off (set_same (set_off (set_off (set_off (e3) (by omega)) (by omega)) (by omega))) (by omega)) (by omega)) (by omega)) (by omega)) (by omega),set_off (set_off (set_off (set_off (set_same (set_off (set_off (set_off (set_off (e4) (by omega)) (by omega)) (by omega)) (by omega))) (by omega)) (by omega)) (by omega)) (by omega),set_off (set_off (set_off (set_same (set_off (set_off (set_off (set_off (set_off (e5) (by omega)) (by omega)) (by omega)) (by omega)) (by omega))) (by omega)) (by omega)) (by omega),set_off (set_off (set_same (set_off (set_off (set_off (set_off (set_off (set_off (e6) (by omega)) (by omega)) (by omega)) (by omega)) (by omega)) (by omega))) (by omega)) (by omega),set_off (set_same (set_off (set_off (set_off (set_off (set_off (set_off (set_off (e7) (by omega)) (by omega)) (by omega)) (by omega)) (by omega)) (by omega)) (by omega))) (by omega),set_same (set_off (set_off (set_off (set_off (set_off (set_off (set_off (set_off (e8) (by omega)) (by omega)) (by omega)) (by omega)) (by omega)) (by omega)) (by omega)) (by omega))⟩,(((((((((ho.up (up_set (Nat.lt_succ_self g))).up (up_set (Nat.lt_succ_self g))).up (up_set (Nat.lt_succ_self g))).up (up_set (Nat.lt_succ_self g))).up (up_set (Nat.lt_succ_self g))).up (up_set (Nat.lt_succ_self g))).up (up_set (Nat.lt_succ_self g))).up (up_set (Nat.lt_succ_self g))).up (up_set (Nat.lt_succ_self g)))⟩
 · obtain ⟨⟨q0,q1,q2,q3,q4,q5,q6,q7,q8⟩,hi2⟩:=H.done i (by omega)
   exact ⟨⟨set_off (set_off (set_off (set_off (set_off (set_off (set_off (set_off (set_off (q0) (by omega)) (by omega)) (by omega)) (by omega)) (by omega)) (by omega)) (by omega)) (by omega)) (by omega),set_off (set_off (set_off (set_off (set_off (set_off (set_off (set_off (set_off (q1) (by omega)) (by omega)) (by omega)) (by omega)) (by omega)) (by omega)) (by omega)) (by omega)) (by omega),set_off (set_off (set_off (set_off (set_off (set_off (set_off (set_off (set_off (q2) (by omega)) (by omega)) (by omega)) (by omega)) (by omega)) (by omega)) (by omega)) (by omega)) (by omega),set_off (set_off (set_off (set_off (set_off (set_off (set_off (set_off (set_off (q3) (by omega)) (by omega)) (by omega)) (by omega)) (by omega)) (by omega)) (by omega)) (by omega)) (by omega),set_off (set_off (set_off (set_off (set_off (set_off (set_off (set_off (set_off (q4) (by omega)) (by omega)) (by omega)) (by omega)) (by omega)) (by omega)) (by omega)) (by omega)) (by omega),set_off (set_off (set_off (set_off (set_off (set_off (set_off (set_off (set_off (q5) (by omega)) (by omega)) (by omega)) (by omega)) (by omega)) (by omega)) (by omega)) (by omega)) (by omega),set_off (set_off (set_off (set_off (set_off (set_off (set_off (set_off (set_off (q6) (by omega)) (by omega)) (by omega)) (by omega)) (by omega)) (by omega)) (by omega)) (by omega)) (by omega),set_off (set_off (set_off (set_off (set_off (set_off (set_off (set_off (set_off (q7) (by omega)) (by omega)) (by omega)) (by omega)) (by omega)) (by omega)) (by omega)) (by omega)) (by omega),set_off (set_off (set_off (set_off (set_off (set_off (set_off (set_off (set_off (q8) (by omega)) (by omega)) (by omega)) (by omega)) (by omega)) (by omega)) (by omega)) (by omega)) (by omega)⟩,(((((((((hi2.up (up_set (Nat.lt_succ_self g))).up (up_set (Nat.lt_succ_self g))).up (up_set (Nat.lt_succ_self g))).up (up_set (Nat.lt_succ_self g))).up (up_set (Nat.lt_succ_self g))).up (up_set (Nat.lt_succ_self g))).up (up_set (Nat.lt_succ_self g))).up (up_set (Nat.lt_succ_self g))).up (up_set (Nat.lt_succ_self g)))⟩
theorem CpImp.ls {w W:World} {g:Nat} {xs:List Imp} (h:CpImp w g xs.length xs.length xs W):Imp.Ls g W (some ⟨g,0,none⟩) xs:=by
 refine .inr ⟨g,0,rfl,Nat.le_refl _,fun i hi=>?_⟩
 obtain ⟨qs,hi2⟩:=h.done i hi
 rw [Nat.zero_add]
 exact ⟨qs,hi2.mono (Nat.le_succ g)⟩
theorem rtImps_c (a:Option Addr) (c:Nat) (xs:List Imp) (w:World) (hl:xs.length≤1048576∧∀ i,i<xs.length→Imp.LB 1048576 (xs.getD i Imp.z)) (hL:Imp.Ls 0 w a xs) :
    Calls Tryz.prog 38 #[.slice a xs.length c] w fun e w'=>e=.returned (.slice (some ⟨w.heap.size,0,none⟩) xs.length xs.length)∧Imp.Ls w.heap.size w' (some ⟨w.heap.size,0,none⟩) xs∧Below w.heap.size w w':=by
 obtain ⟨hn,hll⟩:=hl
 have hmk:=makeImp xs.length hn
 have HL:=Hm hL
 have Hl:=Hm hll
 clear hL hll
 have hst:CpImp w w.heap.size xs.length 0 xs (w.alloc (.cells (madeCells #[.string ⟨#[]⟩,.string ⟨#[]⟩,.int .i64 0,.int .i64 0,.int .i64 0,.int .i64 0,.bool false,.int .i64 0,.bool false] (xs.length*9)) 103)) :=
  ⟨⟨_,heap_new _ _,by simp [madeCells]⟩,fun i hi=>by omega,(Below.refl _ _).alloc (Nat.le_refl _) _,Nat.le_refl _⟩
 have HS:=Hm hst
 clear hst
 go_enter Tryz.func38,Tryz.ntmps38
 go_wp2
 go_loopw [4] (fun i wr=>∃ k:Nat,k≤xs.length∧i=.int .i64 k∧CpImp w w.heap.size xs.length k xs wr) (fun i _=>xs.length-(intOf i).toNat)
 case atStart=>exact ⟨0,Nat.zero_le _,rfl,HS.out⟩
 case round =>
  obtain ⟨k,hk,rfl,hcp⟩:=hrel
  clear HS hmk
  by_cases hlt:k<xs.length
  · have hki:(k:Int)<(xs.length:Int):=by omega
    rcases HL.out.up (up_below hcp.bel) with hx | ⟨b,o,ea,_,hc⟩
    · subst hx;simp at hlt
    have hxk:=hc k hlt
    have hxl:=Hl.out k hlt
    subst ea
    obtain ⟨x,hx⟩:∃ x,x=xs.getD k Imp.z:=⟨_,rfl⟩
    rw [← hx] at hxk hxl
    obtain ⟨⟨q0,q1,q2,q3,q4,q5,q6,q7,q8⟩,hi⟩:=hxk
    have HT:=Hm (rtImp_c x wr hi hxl)
    have HX:=Hm hx
    have HP:=Hm hcp
    clear hx hc hcp hi HL
    go_wp2_with fail
    refine HT.out.mono ?_
    rintro e w1 ⟨rfl,ho,hb⟩
    have hcp1:=HP.out.keep hb
    obtain ⟨hl1,hc1,hf1⟩:=hcp1.cells
    obtain ⟨u0,e0⟩:=hc1 (k*9) (by omega)
    obtain ⟨u1,e1⟩:=hc1 (k*9+1) (by omega)
    obtain ⟨u2,e2⟩:=hc1 (k*9+2) (by omega)
    obtain ⟨u3,e3⟩:=hc1 (k*9+3) (by omega)
    obtain ⟨u4,e4⟩:=hc1 (k*9+4) (by omega)
    obtain ⟨u5,e5⟩:=hc1 (k*9+5) (by omega)
    obtain ⟨u6,e6⟩:=hc1 (k*9+6) (by omega)
    obtain ⟨u7,e7⟩:=hc1 (k*9+7) (by omega)
    obtain ⟨u8,e8⟩:=hc1 (k*9+8) (by omega)
    have HP1:=Hm (hcp1.step hlt x HX.out (ho.mono (by have:=HP.out.cells.1;omega)))
    clear ho hb hcp1 hc1 HT HP q0 q1 q2 q3 q4 q5 q6 q7 q8
    go_wp2
    go_roundw
    case rel=>exact ⟨k+1,by omega,by go_num,HP1.out⟩
    case measure=>simp [intOf];omega
  · have e:k=xs.length:=by omega
    subst e
    go_wp2
    go_ret
    exact ⟨rfl,hcp.ls,hcp.bel⟩
theorem rtExp_c (x:Exp) (w:World) (hI:Exp.Is 0 w x) (hl:Exp.LB 1048576 x) :
    Calls Tryz.prog 119 #[.agg #[.string x.nm,.int .i64 x.kind,.int .i64 x.ix]] w fun e w'=>e=.returned (.agg #[.string x.nm,.int .i64 x.kind,.int .i64 x.ix])∧Exp.Is w.heap.size w' x∧Below w.heap.size w w':=by
 have l0:=hl
 have T0:=Hm (three w [.string x.nm,.int .i64 x.kind,.int .i64 x.ix] [.string ⟨#[]⟩,.int .i64 0,.int .i64 0] [.string ⟨#[]⟩,.int .i64 0,.int .i64 0] 171 114 114)
 go_enter Tryz.func119,Tryz.ntmps119
 go_upto_region 2 with fail
 refine wp_gen (fun W=>Bk W w.heap.size [.string x.nm,.int .i64 x.kind,.int .i64 x.ix]∧Bk W (w.heap.size+1) [.string ⟨#[]⟩,.int .i64 0,.int .i64 0]∧Bk W (w.heap.size+2) [.string ⟨#[]⟩,.int .i64 0,.int .i64 0]∧Below w.heap.size w W) T0.out ?_
 rintro W ⟨bb,br,bo,hb⟩
 clear T0
 have e1:w.heap.size≠w.heap.size+1:=by omega
 have e2:w.heap.size≠w.heap.size+2:=by omega
 have e3:w.heap.size+1≠w.heap.size+2:=by omega
 have e4:w.heap.size+2≠w.heap.size+1:=by omega
 have q0:=bb.2.1 0 _ rfl
 have o0:=bo.2.1 0 _ rfl
 have s0:=br.2.1 0 _ rfl
 have q1:=bb.2.1 1 _ rfl
 have o1:=bo.2.1 1 _ rfl
 have s1:=br.2.1 1 _ rfl
 have q2:=bb.2.1 2 _ rfl
 have o2:=bo.2.1 2 _ rfl
 have s2:=br.2.1 2 _ rfl
 have fo:=bo.2.2
 have fr:=br.2.2
 have HB:=Hm hb
 clear hb bb br bo
 go_wp2
 exact bodyPost_ret (v:=.agg #[.string x.nm,.int .i64 x.kind,.int .i64 x.ix]) (by simp [results,Tryz.results119,go_sem,s0,s1,s2,e3,e4]) rfl ⟨rfl,trivial,((((((HB.out.setCell (by show w.heap.size≤w.heap.size+2;omega) _).setCell (by show w.heap.size≤w.heap.size+2;omega) _).setCell (by show w.heap.size≤w.heap.size+2;omega) _).setCell (by show w.heap.size≤w.heap.size+1;omega) _).setCell (by show w.heap.size≤w.heap.size+1;omega) _).setCell (by show w.heap.size≤w.heap.size+1;omega) _)⟩
theorem Tryz.infoExp:(Tryz.prog.info? 114).map (fun i=>(i.zero,i.size,i.bytes))=some (some (.agg #[.string ⟨#[]⟩,.int .i64 0,.int .i64 0]),3,32):=by kernel_rfl
theorem makeExp (n:Nat) (hn:n≤1048576) (w:World):(Instr.makeSlice 40 (.int .i64 (n:Int)) (.int .i64 (n:Int))).run Tryz.prog w=.ok (.slice (some ⟨w.heap.size,0,none⟩) n n) (w.alloc (.cells (madeCells #[.string ⟨#[]⟩,.int .i64 0,.int .i64 0] (n*3)) 114)):=by
 obtain ⟨i,hi,hzz⟩:=Option.map_eq_some_iff.1 Tryz.infoExp
 simp only [Prod.mk.injEq] at hzz
 obtain ⟨hz,hs,hb⟩:=hzz
 have:=run_make (P:=Tryz.prog) w 40 114 i _ Tryz.underlying40 hi hz .i64 .i64 n n (by omega) (by omega) (by rw [hb];omega) (by omega)
 rw [hs] at this
 simpa [Value.cells] using this
structure CpExp (w:World) (g n k:Nat) (xs:List Exp) (W:World):Prop where
 blk:∃ cur,W.heap[g]?=some (.cells cur 114 (0,0))∧cur.size=n*3
 done:∀ i,i<k→(W.cell? ⟨g,i*3,none⟩=some (.string (xs.getD i Exp.z).nm)∧W.cell? ⟨g,i*3+1,none⟩=some (.int .i64 (xs.getD i Exp.z).kind)∧W.cell? ⟨g,i*3+2,none⟩=some (.int .i64 (xs.getD i Exp.z).ix))∧Exp.Is (g+1) W (xs.getD i Exp.z)
 bel:Below w.heap.size w W
 ge:w.heap.size≤g
theorem CpExp.cells {w W:World} {g n k:Nat} {xs:List Exp} (h:CpExp w g n k xs W):g<W.heap.size∧(∀ j,j<n*3→∃ u,W.cell? ⟨g,j,none⟩=some u)∧∀ j,W.frozen? ⟨g,j,none⟩=false:=by
 obtain ⟨cur,e,hc⟩:=h.blk
 have hl:g<W.heap.size:=by
  rcases Nat.lt_or_ge g W.heap.size with h' | h'
  · exact h'
  · rw [Array.getElem?_eq_none h'] at e;cases e
 refine ⟨hl,fun j hj=>?_,fun j=>?_⟩
 · simp only [World.cell?,e]
   exact ⟨cur[j]'(by omega),by simp [show j<cur.size by omega]⟩
 · simp only [World.frozen?,e];simp
theorem CpExp.keep {w W W1:World} {g n k:Nat} {xs:List Exp} (h:CpExp w g n k xs W) (hb:Below W.heap.size W W1):CpExp w g n k xs W1:=by
 obtain ⟨cur,e,hc⟩:=h.blk
 have hl:=h.cells.1
 refine ⟨⟨cur,(hb.block g hl).trans e,hc⟩,fun i hi=>?_,h.bel.trans (hb.mono h.bel.size),h.ge⟩
 obtain ⟨⟨q0,q1,q2⟩,hi2⟩:=h.done i hi
 exact ⟨⟨(hb.cell (p:=⟨g,i*3,none⟩) hl).trans q0,(hb.cell (p:=⟨g,i*3+1,none⟩) hl).trans q1,(hb.cell (p:=⟨g,i*3+2,none⟩) hl).trans q2⟩,hi2.up (up_below hb)⟩
theorem blk_Exp {w:World} {g o n:Nat} {v:Value} (h:∃ cur,w.heap[g]?=some (.cells cur 114 (0,0))∧cur.size=n):∃ cur,(w.setCell ⟨g,o,none⟩ v).heap[g]?=some (.cells cur 114 (0,0))∧cur.size=n:=by
 obtain ⟨cur,e,hc⟩:=h
 refine ⟨cur.setIfInBounds o v,?_,by simpa using hc⟩
 simp only [World.setCell,Array.getElem?_modify,if_true,e,Option.map_some]
 rfl
theorem CpExp.step {w W:World} {g n k:Nat} {xs:List Exp} (H:CpExp w g n k xs W) (hk:k<n) (x:Exp) (hx:x=xs.getD k Exp.z) (ho:Exp.Is (g+1) W x) :
    CpExp w g n (k+1) xs (((W.setCell ⟨g,k*3,none⟩ (.string x.nm)).setCell ⟨g,k*3+1,none⟩ (.int .i64 x.kind)).setCell ⟨g,k*3+2,none⟩ (.int .i64 x.ix)):=by
 obtain ⟨hl,hc,hf⟩:=H.cells
 obtain ⟨u0,e0⟩:=hc (k*3) (by omega)
 obtain ⟨u1,e1⟩:=hc (k*3+1) (by omega)
 obtain ⟨u2,e2⟩:=hc (k*3+2) (by omega)
 refine ⟨blk_Exp (blk_Exp (blk_Exp (H.blk))),fun i hi=>?_,(((H.bel.setCell H.ge _).setCell H.ge _).setCell H.ge _),H.ge⟩
 by_cases hik:i=k
 · subst hik
   rw [← hx]
   exact ⟨⟨set_off (set_off (set_same (e0)) (by omega)) (by omega),set_off (set_same (set_off (e1) (by omega))) (by omega),set_same (set_off (set_off (e2) (by omega)) (by omega))⟩,(((ho.up (up_set (Nat.lt_succ_self g))).up (up_set (Nat.lt_succ_self g))).up (up_set (Nat.lt_succ_self g)))⟩
 · obtain ⟨⟨q0,q1,q2⟩,hi2⟩:=H.done i (by omega)
   exact ⟨⟨set_off (set_off (set_off (q0) (by omega)) (by omega)) (by omega),set_off (set_off (set_off (q1) (by omega)) (by omega)) (by omega),set_off (set_off (set_off (q2) (by omega)) (by omega)) (by omega)⟩,(((hi2.up (up_set (Nat.lt_succ_self g))).up (up_set (Nat.lt_succ_self g))).up (up_set (Nat.lt_succ_self g)))⟩
theorem CpExp.ls {w W:World} {g:Nat} {xs:List Exp} (h:CpExp w g xs.length xs.length xs W):Exp.Ls g W (some ⟨g,0,none⟩) xs:=by
 refine .inr ⟨g,0,rfl,Nat.le_refl _,fun i hi=>?_⟩
 obtain ⟨qs,hi2⟩:=h.done i hi
 rw [Nat.zero_add]
 exact ⟨qs,hi2.mono (Nat.le_succ g)⟩
theorem rtExps_c (a:Option Addr) (c:Nat) (xs:List Exp) (w:World) (hl:xs.length≤1048576∧∀ i,i<xs.length→Exp.LB 1048576 (xs.getD i Exp.z)) (hL:Exp.Ls 0 w a xs) :
    Calls Tryz.prog 42 #[.slice a xs.length c] w fun e w'=>e=.returned (.slice (some ⟨w.heap.size,0,none⟩) xs.length xs.length)∧Exp.Ls w.heap.size w' (some ⟨w.heap.size,0,none⟩) xs∧Below w.heap.size w w':=by
 obtain ⟨hn,hll⟩:=hl
 have hmk:=makeExp xs.length hn
 have HL:=Hm hL
 have Hl:=Hm hll
 clear hL hll
 have hst:CpExp w w.heap.size xs.length 0 xs (w.alloc (.cells (madeCells #[.string ⟨#[]⟩,.int .i64 0,.int .i64 0] (xs.length*3)) 114)) :=
  ⟨⟨_,heap_new _ _,by simp [madeCells]⟩,fun i hi=>by omega,(Below.refl _ _).alloc (Nat.le_refl _) _,Nat.le_refl _⟩
 have HS:=Hm hst
 clear hst
 go_enter Tryz.func42,Tryz.ntmps42
 go_wp2
 go_loopw [4] (fun i wr=>∃ k:Nat,k≤xs.length∧i=.int .i64 k∧CpExp w w.heap.size xs.length k xs wr) (fun i _=>xs.length-(intOf i).toNat)
 case atStart=>exact ⟨0,Nat.zero_le _,rfl,HS.out⟩
 case round =>
  obtain ⟨k,hk,rfl,hcp⟩:=hrel
  clear HS hmk
  by_cases hlt:k<xs.length
  · have hki:(k:Int)<(xs.length:Int):=by omega
    rcases HL.out.up (up_below hcp.bel) with hx | ⟨b,o,ea,_,hc⟩
    · subst hx;simp at hlt
    have hxk:=hc k hlt
    have hxl:=Hl.out k hlt
    subst ea
    obtain ⟨x,hx⟩:∃ x,x=xs.getD k Exp.z:=⟨_,rfl⟩
    rw [← hx] at hxk hxl
    obtain ⟨⟨q0,q1,q2⟩,hi⟩:=hxk
    have HT:=Hm (rtExp_c x wr hi hxl)
    have HX:=Hm hx
    have HP:=Hm hcp
    clear hx hc hcp hi HL
    go_wp2_with fail
    refine HT.out.mono ?_
    rintro e w1 ⟨rfl,ho,hb⟩
    have hcp1:=HP.out.keep hb
    obtain ⟨hl1,hc1,hf1⟩:=hcp1.cells
    obtain ⟨u0,e0⟩:=hc1 (k*3) (by omega)
    obtain ⟨u1,e1⟩:=hc1 (k*3+1) (by omega)
    obtain ⟨u2,e2⟩:=hc1 (k*3+2) (by omega)
    have HP1:=Hm (hcp1.step hlt x HX.out (ho.mono (by have:=HP.out.cells.1;omega)))
    clear ho hb hcp1 hc1 HT HP q0 q1 q2
    go_wp2
    go_roundw
    case rel=>exact ⟨k+1,by omega,by go_num,HP1.out⟩
    case measure=>simp [intOf];omega
  · have e:k=xs.length:=by omega
    subst e
    go_wp2
    go_ret
    exact ⟨rfl,hcp.ls,hcp.bel⟩
end Go.Proofs.YtdbmolambolmgaaGreat.NF
