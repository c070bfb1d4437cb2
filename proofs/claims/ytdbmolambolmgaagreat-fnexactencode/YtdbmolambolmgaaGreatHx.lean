import Derived.Test.YtdbmolambolmgaaGreatHu
import Derived.Test.YtdbmolambolmgaaGreatHv
import Derived.Test.YtdbmolambolmgaaGreatHw
set_option linter.all false
set_option maxHeartbeats 16000000
set_option maxRecDepth 100000
namespace Go.Proofs.YtdbmolambolmgaaGreat.NF
open Go.RowKit Go.Sort
set_option maxRecDepth 100000
theorem rtMod_c (x:Mod) (a1:Option Addr) (c1:Nat) (a2:Option Addr) (c2:Nat) (a3:Option Addr) (c3:Nat) (a4:Option Addr) (c4:Nat) (a5:Option Addr) (c5:Nat) (a6:Option Addr) (c6:Nat) (a7:Option Addr) (c7:Nat) (a8:Option Addr) (c8:Nat) (a9:Option Addr) (c9:Nat) (a10:Option Addr) (c10:Nat) (a11:Option Addr) (c11:Nat) (w:World) (hI:Mod.Is 0 w x a1 a2 a3 a4 a5 a6 a7 a8 a9 a10 a11) (hl:Mod.LB 1048576 x) :
    Calls Tryz.prog 8 #[.agg #[.slice a1 x.types.length c1,.slice a2 x.imps.length c2,.slice a3 x.funcs.length c3,.slice a4 x.tabs.length c4,.slice a5 x.mems.length c5,.slice a6 x.globs.length c6,.slice a7 x.exps.length c7,.bool x.hasS,.int .i64 x.start,.slice a8 x.elems.length c8,.slice a9 x.codes.length c9,.slice a10 x.datas.length c10,.slice a11 x.customs.length c11]] w fun e w'=>∃ b1 b2 b3 b4 b5 b6 b7 b8 b9 b10 b11,e=.returned (.agg #[.slice (some ⟨b1,0,none⟩) x.types.length x.types.length,.slice (some ⟨b2,0,none⟩) x.imps.length x.imps.length,.slice (some ⟨b3,0,none⟩) x.funcs.length x.funcs.length,.slice (some ⟨b4,0,none⟩) x.tabs.length x.tabs.length,.slice (some ⟨b5,0,none⟩) x.mems.length x.mems.length,.slice (some ⟨b6,0,none⟩) x.globs.length x.globs.length,.slice (some ⟨b7,0,none⟩) x.exps.length x.exps.length,.bool x.hasS,.int .i64 x.start,.slice (some ⟨b8,0,none⟩) x.elems.length x.elems.length,.slice (some ⟨b9,0,none⟩) x.codes.length x.codes.length,.slice (some ⟨b10,0,none⟩) x.datas.length x.datas.length,.slice (some ⟨b11,0,none⟩) x.customs.length x.customs.length])∧Mod.Is w.heap.size w' x (some ⟨b1,0,none⟩) (some ⟨b2,0,none⟩) (some ⟨b3,0,none⟩) (some ⟨b4,0,none⟩) (some ⟨b5,0,none⟩) (some ⟨b6,0,none⟩) (some ⟨b7,0,none⟩) (some ⟨b8,0,none⟩) (some ⟨b9,0,none⟩) (some ⟨b10,0,none⟩) (some ⟨b11,0,none⟩)∧Below w.heap.size w w':=by
 obtain ⟨l0,l1,l2,l3,l4,l5,l6,l9,l10,l11,l12⟩:=hl
 obtain ⟨r1,r2,r3,r4,r5,r6,r7,r8,r9,r10,r11⟩:=hI
 have R1:=Hm r1
 have R2:=Hm r2
 have R3:=Hm r3
 have R4:=Hm r4
 have R5:=Hm r5
 have R6:=Hm r6
 have R7:=Hm r7
 have R8:=Hm r8
 have R9:=Hm r9
 have R10:=Hm r10
 have R11:=Hm r11
 clear r1 r2 r3 r4 r5 r6 r7 r8 r9 r10 r11
 have T0:=Hm (three w [.slice a1 x.types.length c1,.slice a2 x.imps.length c2,.slice a3 x.funcs.length c3,.slice a4 x.tabs.length c4,.slice a5 x.mems.length c5,.slice a6 x.globs.length c6,.slice a7 x.exps.length c7,.bool x.hasS,.int .i64 x.start,.slice a8 x.elems.length c8,.slice a9 x.codes.length c9,.slice a10 x.datas.length c10,.slice a11 x.customs.length c11] [.slice none 0 0,.slice none 0 0,.slice none 0 0,.slice none 0 0,.slice none 0 0,.slice none 0 0,.slice none 0 0,.bool false,.int .i64 0,.slice none 0 0,.slice none 0 0,.slice none 0 0,.slice none 0 0] [.slice none 0 0,.slice none 0 0,.slice none 0 0,.slice none 0 0,.slice none 0 0,.slice none 0 0,.slice none 0 0,.bool false,.int .i64 0,.slice none 0 0,.slice none 0 0,.slice none 0 0,.slice none 0 0] 33 46 46)
 go_enter Tryz.func8,Tryz.ntmps8
 go_upto_region 2 with fail
 refine wp_gen (fun W=>Bk W w.heap.size [.slice a1 x.types.length c1,.slice a2 x.imps.length c2,.slice a3 x.funcs.length c3,.slice a4 x.tabs.length c4,.slice a5 x.mems.length c5,.slice a6 x.globs.length c6,.slice a7 x.exps.length c7,.bool x.hasS,.int .i64 x.start,.slice a8 x.elems.length c8,.slice a9 x.codes.length c9,.slice a10 x.datas.length c10,.slice a11 x.customs.length c11]∧Bk W (w.heap.size+1) [.slice none 0 0,.slice none 0 0,.slice none 0 0,.slice none 0 0,.slice none 0 0,.slice none 0 0,.slice none 0 0,.bool false,.int .i64 0,.slice none 0 0,.slice none 0 0,.slice none 0 0,.slice none 0 0]∧Bk W (w.heap.size+2) [.slice none 0 0,.slice none 0 0,.slice none 0 0,.slice none 0 0,.slice none 0 0,.slice none 0 0,.slice none 0 0,.bool false,.int .i64 0,.slice none 0 0,.slice none 0 0,.slice none 0 0,.slice none 0 0]∧Below w.heap.size w W) T0.out ?_
 rintro W ⟨bb,br,bo,hb⟩
 clear T0
 have e1:w.heap.size≠w.heap.size+1:=by omega
 have e2:w.heap.size≠w.heap.size+2:=by omega
 have e3:w.heap.size+1≠w.heap.size+2:=by omega
 have e4:w.heap.size+2≠w.heap.size+1:=by omega
 have q0:=bb.2.1 0 _ rfl
 have o0:=bo.2.1 0 _ rfl
 have s0:=br.2.1 0 _ rfl
 have q1:=bb.2.1 1 _ rfl
 have o1:=bo.2.1 1 _ rfl
 have s1:=br.2.1 1 _ rfl
 have q2:=bb.2.1 2 _ rfl
 have o2:=bo.2.1 2 _ rfl
 have s2:=br.2.1 2 _ rfl
 have q3:=bb.2.1 3 _ rfl
 have o3:=bo.2.1 3 _ rfl
 have s3:=br.2.1 3 _ rfl
 have q4:=bb.2.1 4 _ rfl
 have o4:=bo.2.1 4 _ rfl
 have s4:=br.2.1 4 _ rfl
 have q5:=bb.2.1 5 _ rfl
 have o5:=bo.2.1 5 _ rfl
 have s5:=br.2.1 5 _ rfl
 have q6:=bb.2.1 6 _ rfl
 have o6:=bo.2.1 6 _ rfl
 have s6:=br.2.1 6 _ rfl
 have q7:=bb.2.1 7 _ rfl
 have o7:=bo.2.1 7 _ rfl
 have s7:=br.2.1 7 _ rfl
 have q8:=bb.2.1 8 _ rfl
 have o8:=bo.2.1 8 _ rfl
 have s8:=br.2.1 8 _ rfl
 have q9:=bb.2.1 9 _ rfl
 have o9:=bo.2.1 9 _ rfl
 have s9:=br.2.1 9 _ rfl
 have q10:=bb.2.1 10 _ rfl
 have o10:=bo.2.1 10 _ rfl
 have s10:=br.2.1 10 _ rfl
 have q11:=bb.2.1 11 _ rfl
 have o11:=bo.2.1 11 _ rfl
 have s11:=br.2.1 11 _ rfl
 have q12:=bb.2.1 12 _ rfl
 have o12:=bo.2.1 12 _ rfl
 have s12:=br.2.1 12 _ rfl
 have fo:=bo.2.2
 have fr:=br.2.2
 have hC1:Below w.heap.size w W:=hb
 have HC1:=Hm (rtFTypes_c a1 c1 x.types W l0 (R1.out.up (up_below hC1)))
 obtain ⟨B1,hB1⟩:∃ B,B=(W).heap.size:=⟨_,rfl⟩
 rw [← hB1] at HC1
 have HQ1:=Hm hB1
 clear hB1
 have bb1:Bk W w.heap.size [.slice a1 x.types.length c1,.slice a2 x.imps.length c2,.slice a3 x.funcs.length c3,.slice a4 x.tabs.length c4,.slice a5 x.mems.length c5,.slice a6 x.globs.length c6,.slice a7 x.exps.length c7,.bool x.hasS,.int .i64 x.start,.slice a8 x.elems.length c8,.slice a9 x.codes.length c9,.slice a10 x.datas.length c10,.slice a11 x.customs.length c11]:=bb
 have br1:Bk W (w.heap.size+1) [.slice none 0 0,.slice none 0 0,.slice none 0 0,.slice none 0 0,.slice none 0 0,.slice none 0 0,.slice none 0 0,.bool false,.int .i64 0,.slice none 0 0,.slice none 0 0,.slice none 0 0,.slice none 0 0]:=br
 have bo1:Bk W (w.heap.size+2) [.slice none 0 0,.slice none 0 0,.slice none 0 0,.slice none 0 0,.slice none 0 0,.slice none 0 0,.slice none 0 0,.bool false,.int .i64 0,.slice none 0 0,.slice none 0 0,.slice none 0 0,.slice none 0 0]:=bo
 go_wp2_with fail
 refine HC1.out.mono ?_
 rintro e W1 ⟨rfl,n1,hb1⟩
 have bbn:=bb1.keep (hb_of hb1 HQ1.out)
 have brn:=br1.keep (hb_of hb1 HQ1.out)
 have bon:=bo1.keep (hb_of hb1 HQ1.out)
 have hbn:Below w.heap.size w W1:=hC1.trans ((hb_of hb1 HQ1.out).mono hC1.size)
 clear bb br bo hb fo fr q0 o0 s0 q1 o1 s1 q2 o2 s2 q3 o3 s3 q4 o4 s4 q5 o5 s5 q6 o6 s6 q7 o7 s7 q8 o8 s8 q9 o9 s9 q10 o10 s10 q11 o11 s11 q12 o12 s12
 have bb:=bbn
 have br:=brn
 have bo:=bon
 have hb:=hbn
 clear bbn brn bon hbn
 have hBle1:w.heap.size+2<B1:=by rw [HQ1.out];exact bo1.1
 have n1:=n1.mono (show w.heap.size+3≤B1 by omega)
 clear hC1 HC1 bb1 br1 bo1 hb1
 have q0:=bb.2.1 0 _ rfl
 have o0:=bo.2.1 0 _ rfl
 have s0:=br.2.1 0 _ rfl
 have q1:=bb.2.1 1 _ rfl
 have o1:=bo.2.1 1 _ rfl
 have s1:=br.2.1 1 _ rfl
 have q2:=bb.2.1 2 _ rfl
 have o2:=bo.2.1 2 _ rfl
 have s2:=br.2.1 2 _ rfl
 have q3:=bb.2.1 3 _ rfl
 have o3:=bo.2.1 3 _ rfl
 have s3:=br.2.1 3 _ rfl
 have q4:=bb.2.1 4 _ rfl
 have o4:=bo.2.1 4 _ rfl
 have s4:=br.2.1 4 _ rfl
 have q5:=bb.2.1 5 _ rfl
 have o5:=bo.2.1 5 _ rfl
 have s5:=br.2.1 5 _ rfl
 have q6:=bb.2.1 6 _ rfl
 have o6:=bo.2.1 6 _ rfl
 have s6:=br.2.1 6 _ rfl
 have q7:=bb.2.1 7 _ rfl
 have o7:=bo.2.1 7 _ rfl
 have s7:=br.2.1 7 _ rfl
 have q8:=bb.2.1 8 _ rfl
 have o8:=bo.2.1 8 _ rfl
 have s8:=br.2.1 8 _ rfl
 have q9:=bb.2.1 9 _ rfl
 have o9:=bo.2.1 9 _ rfl
 have s9:=br.2.1 9 _ rfl
 have q10:=bb.2.1 10 _ rfl
 have o10:=bo.2.1 10 _ rfl
 have s10:=br.2.1 10 _ rfl
 have q11:=bb.2.1 11 _ rfl
 have o11:=bo.2.1 11 _ rfl
 have s11:=br.2.1 11 _ rfl
 have q12:=bb.2.1 12 _ rfl
 have o12:=bo.2.1 12 _ rfl
 have s12:=br.2.1 12 _ rfl
 have fo:=bo.2.2
 have fr:=br.2.2
 have hC2:Below w.heap.size w (W1.setCell ⟨w.heap.size+2,0,none⟩ (.slice (some ⟨B1,0,none⟩) x.types.length x.types.length)):=(hb.setCell (by show w.heap.size≤w.heap.size+2;omega) _)
 have HC2:=Hm (rtImps_c a2 c2 x.imps (W1.setCell ⟨w.heap.size+2,0,none⟩ (.slice (some ⟨B1,0,none⟩) x.types.length x.types.length)) l1 (R2.out.up (up_below hC2)))
 obtain ⟨B2,hB2⟩:∃ B,B=((W1.setCell ⟨w.heap.size+2,0,none⟩ (.slice (some ⟨B1,0,none⟩) x.types.length x.types.length))).heap.size:=⟨_,rfl⟩
 rw [← hB2] at HC2
 have HQ2:=Hm hB2
 clear hB2
 have bb2:Bk (W1.setCell ⟨w.heap.size+2,0,none⟩ (.slice (some ⟨B1,0,none⟩) x.types.length x.types.length)) w.heap.size [.slice a1 x.types.length c1,.slice a2 x.imps.length c2,.slice a3 x.funcs.length c3,.slice a4 x.tabs.length c4,.slice a5 x.mems.length c5,.slice a6 x.globs.length c6,.slice a7 x.exps.length c7,.bool x.hasS,.int .i64 x.start,.slice a8 x.elems.length c8,.slice a9 x.codes.length c9,.slice a10 x.datas.length c10,.slice a11 x.customs.length c11]:=(bb.other (by omega))
 have br2:Bk (W1.setCell ⟨w.heap.size+2,0,none⟩ (.slice (some ⟨B1,0,none⟩) x.types.length x.types.length)) (w.heap.size+1) [.slice none 0 0,.slice none 0 0,.slice none 0 0,.slice none 0 0,.slice none 0 0,.slice none 0 0,.slice none 0 0,.bool false,.int .i64 0,.slice none 0 0,.slice none 0 0,.slice none 0 0,.slice none 0 0]:=(br.other (by omega))
 have bo2:Bk (W1.setCell ⟨w.heap.size+2,0,none⟩ (.slice (some ⟨B1,0,none⟩) x.types.length x.types.length)) (w.heap.size+2) [.slice (some ⟨B1,0,none⟩) x.types.length x.types.length,.slice none 0 0,.slice none 0 0,.slice none 0 0,.slice none 0 0,.slice none 0 0,.slice none 0 0,.bool false,.int .i64 0,.slice none 0 0,.slice none 0 0,.slice none 0 0,.slice none 0 0]:=bo.set
 go_wp2_with fail
 refine HC2.out.mono ?_
 rintro e W2 ⟨rfl,n2,hb2⟩
 have bbn:=bb2.keep (hb_of hb2 HQ2.out)
 have brn:=br2.keep (hb_of hb2 HQ2.out)
 have bon:=bo2.keep (hb_of hb2 HQ2.out)
 have hbn:Below w.heap.size w W2:=hC2.trans ((hb_of hb2 HQ2.out).mono hC2.size)
 clear bb br bo hb fo fr q0 o0 s0 q1 o1 s1 q2 o2 s2 q3 o3 s3 q4 o4 s4 q5 o5 s5 q6 o6 s6 q7 o7 s7 q8 o8 s8 q9 o9 s9 q10 o10 s10 q11 o11 s11 q12 o12 s12
 have bb:=bbn
 have br:=brn
 have bo:=bon
 have hb:=hbn
 clear bbn brn bon hbn
 have n1:=n1.up (Up.size_trans (up_sets1 (by omega)) (up_below (hb_of hb2 HQ2.out)) (by simp))
 have hBle2:w.heap.size+2<B2:=by rw [HQ2.out];exact bo2.1
 have n2:=n2.mono (show w.heap.size+3≤B2 by omega)
 clear hC2 HC2 bb2 br2 bo2 hb2
 have q0:=bb.2.1 0 _ rfl
 have o0:=bo.2.1 0 _ rfl
 have s0:=br.2.1 0 _ rfl
 have q1:=bb.2.1 1 _ rfl
 have o1:=bo.2.1 1 _ rfl
 have s1:=br.2.1 1 _ rfl
 have q2:=bb.2.1 2 _ rfl
 have o2:=bo.2.1 2 _ rfl
 have s2:=br.2.1 2 _ rfl
 have q3:=bb.2.1 3 _ rfl
 have o3:=bo.2.1 3 _ rfl
 have s3:=br.2.1 3 _ rfl
 have q4:=bb.2.1 4 _ rfl
 have o4:=bo.2.1 4 _ rfl
 have s4:=br.2.1 4 _ rfl
 have q5:=bb.2.1 5 _ rfl
 have o5:=bo.2.1 5 _ rfl
 have s5:=br.2.1 5 _ rfl
 have q6:=bb.2.1 6 _ rfl
 have o6:=bo.2.1 6 _ rfl
 have s6:=br.2.1 6 _ rfl
 have q7:=bb.2.1 7 _ rfl
 have o7:=bo.2.1 7 _ rfl
 have s7:=br.2.1 7 _ rfl
 have q8:=bb.2.1 8 _ rfl
 have o8:=bo.2.1 8 _ rfl
 have s8:=br.2.1 8 _ rfl
 have q9:=bb.2.1 9 _ rfl
 have o9:=bo.2.1 9 _ rfl
 have s9:=br.2.1 9 _ rfl
 have q10:=bb.2.1 10 _ rfl
 have o10:=bo.2.1 10 _ rfl
 have s10:=br.2.1 10 _ rfl
 have q11:=bb.2.1 11 _ rfl
 have o11:=bo.2.1 11 _ rfl
 have s11:=br.2.1 11 _ rfl
 have q12:=bb.2.1 12 _ rfl
 have o12:=bo.2.1 12 _ rfl
 have s12:=br.2.1 12 _ rfl
 have fo:=bo.2.2
 have fr:=br.2.2
 have hC3:Below w.heap.size w (W2.setCell ⟨w.heap.size+2,1,none⟩ (.slice (some ⟨B2,0,none⟩) x.imps.length x.imps.length)):=(hb.setCell (by show w.heap.size≤w.heap.size+2;omega) _)
 have HC3:=Hm (rtInts_c a3 c3 x.funcs (W2.setCell ⟨w.heap.size+2,1,none⟩ (.slice (some ⟨B2,0,none⟩) x.imps.length x.imps.length)) l2 (R3.out.up (up_below hC3)))
 obtain ⟨B3,hB3⟩:∃ B,B=((W2.setCell ⟨w.heap.size+2,1,none⟩ (.slice (some ⟨B2,0,none⟩) x.imps.length x.imps.length))).heap.size:=⟨_,rfl⟩
 rw [← hB3] at HC3
 have HQ3:=Hm hB3
 clear hB3
 have bb3:Bk (W2.setCell ⟨w.heap.size+2,1,none⟩ (.slice (some ⟨B2,0,none⟩) x.imps.length x.imps.length)) w.heap.size [.slice a1 x.types.length c1,.slice a2 x.imps.length c2,.slice a3 x.funcs.length c3,.slice a4 x.tabs.length c4,.slice a5 x.mems.length c5,.slice a6 x.globs.length c6,.slice a7 x.exps.length c7,.bool x.hasS,.int .i64 x.start,.slice a8 x.elems.length c8,.slice a9 x.codes.length c9,.slice a10 x.datas.length c10,.slice a11 x.customs.length c11]:=(bb.other (by omega))
 have br3:Bk (W2.setCell ⟨w.heap.size+2,1,none⟩ (.slice (some ⟨B2,0,none⟩) x.imps.length x.imps.length)) (w.heap.size+1) [.slice none 0 0,.slice none 0 0,.slice none 0 0,.slice none 0 0,.slice none 0 0,.slice none 0 0,.slice none 0 0,.bool false,.int .i64 0,.slice none 0 0,.slice none 0 0,.slice none 0 0,.slice none 0 0]:=(br.other (by omega))
 have bo3:Bk (W2.setCell ⟨w.heap.size+2,1,none⟩ (.slice (some ⟨B2,0,none⟩) x.imps.length x.imps.length)) (w.heap.size+2) [.slice (some ⟨B1,0,none⟩) x.types.length x.types.length,.slice (some ⟨B2,0,none⟩) x.imps.length x.imps.length,.slice none 0 0,.slice none 0 0,.slice none 0 0,.slice none 0 0,.slice none 0 0,.bool false,.int .i64 0,.slice none 0 0,.slice none 0 0,.slice none 0 0,.slice none 0 0]:=bo.set
 go_wp2_with fail
 refine HC3.out.mono ?_
 rintro e W3 ⟨rfl,n3,hb3⟩
 have bbn:=bb3.keep (hb_of hb3 HQ3.out)
 have brn:=br3.keep (hb_of hb3 HQ3.out)
 have bon:=bo3.keep (hb_of hb3 HQ3.out)
 have hbn:Below w.heap.size w W3:=hC3.trans ((hb_of hb3 HQ3.out).mono hC3.size)
 clear bb br bo hb fo fr q0 o0 s0 q1 o1 s1 q2 o2 s2 q3 o3 s3 q4 o4 s4 q5 o5 s5 q6 o6 s6 q7 o7 s7 q8 o8 s8 q9 o9 s9 q10 o10 s10 q11 o11 s11 q12 o12 s12
 have bb:=bbn
 have br:=brn
 have bo:=bon
 have hb:=hbn
 clear bbn brn bon hbn
 have n1:=n1.up (Up.size_trans (up_sets1 (by omega)) (up_below (hb_of hb3 HQ3.out)) (by simp))
 have n2:=n2.up (Up.size_trans (up_sets1 (by omega)) (up_below (hb_of hb3 HQ3.out)) (by simp))
 have hBle3:w.heap.size+2<B3:=by rw [HQ3.out];exact bo3.1
 have n3:=n3.mono (show w.heap.size+3≤B3 by omega)
 clear hC3 HC3 bb3 br3 bo3 hb3
 have q0:=bb.2.1 0 _ rfl
 have o0:=bo.2.1 0 _ rfl
 have s0:=br.2.1 0 _ rfl
 have q1:=bb.2.1 1 _ rfl
 have o1:=bo.2.1 1 _ rfl
 have s1:=br.2.1 1 _ rfl
 have q2:=bb.2.1 2 _ rfl
 have o2:=bo.2.1 2 _ rfl
 have s2:=br.2.1 2 _ rfl
 have q3:=bb.2.1 3 _ rfl
 have o3:=bo.2.1 3 _ rfl
 have s3:=br.2.1 3 _ rfl
 have q4:=bb.2.1 4 _ rfl
 have o4:=bo.2.1 4 _ rfl
 have s4:=br.2.1 4 _ rfl
 have q5:=bb.2.1 5 _ rfl
 have o5:=bo.2.1 5 _ rfl
 have s5:=br.2.1 5 _ rfl
 have q6:=bb.2.1 6 _ rfl
 have o6:=bo.2.1 6 _ rfl
 have s6:=br.2.1 6 _ rfl
 have q7:=bb.2.1 7 _ rfl
 have o7:=bo.2.1 7 _ rfl
 have s7:=br.2.1 7 _ rfl
 have q8:=bb.2.1 8 _ rfl
 have o8:=bo.2.1 8 _ rfl
 have s8:=br.2.1 8 _ rfl
 have q9:=bb.2.1 9 _ rfl
 have o9:=bo.2.1 9 _ rfl
 have s9:=br.2.1 9 _ rfl
 have q10:=bb.2.1 10 _ rfl
 have o10:=bo.2.1 10 _ rfl
 have s10:=br.2.1 10 _ rfl
 have q11:=bb.2.1 11 _ rfl
 have o11:=bo.2.1 11 _ rfl
 have s11:=br.2.1 11 _ rfl
 have q12:=bb.2.1 12 _ rfl
 have o12:=bo.2.1 12 _ rfl
 have s12:=br.2.1 12 _ rfl
 have fo:=bo.2.2
 have fr:=br.2.2
 have hC4:Below w.heap.size w (W3.setCell ⟨w.heap.size+2,2,none⟩ (.slice (some ⟨B3,0,none⟩) x.funcs.length x.funcs.length)):=(hb.setCell (by show w.heap.size≤w.heap.size+2;omega) _)
 have HC4:=Hm (rtLimitss_c a4 c4 x.tabs (W3.setCell ⟨w.heap.size+2,2,none⟩ (.slice (some ⟨B3,0,none⟩) x.funcs.length x.funcs.length)) l3 (R4.out.up (up_below hC4)))
 obtain ⟨B4,hB4⟩:∃ B,B=((W3.setCell ⟨w.heap.size+2,2,none⟩ (.slice (some ⟨B3,0,none⟩) x.funcs.length x.funcs.length))).heap.size:=⟨_,rfl⟩
 rw [← hB4] at HC4
 have HQ4:=Hm hB4
 clear hB4
 have bb4:Bk (W3.setCell ⟨w.heap.size+2,2,none⟩ (.slice (some ⟨B3,0,none⟩) x.funcs.length x.funcs.length)) w.heap.size [.slice a1 x.types.length c1,.slice a2 x.imps.length c2,.slice a3 x.funcs.length c3,.slice a4 x.tabs.length c4,.slice a5 x.mems.length c5,.slice a6 x.globs.length c6,.slice a7 x.exps.length c7,.bool x.hasS,.int .i64 x.start,.slice a8 x.elems.length c8,.slice a9 x.codes.length c9,.slice a10 x.datas.length c10,.slice a11 x.customs.length c11]:=(bb.other (by omega))
 have br4:Bk (W3.setCell ⟨w.heap.size+2,2,none⟩ (.slice (some ⟨B3,0,none⟩) x.funcs.length x.funcs.length)) (w.heap.size+1) [.slice none 0 0,.slice none 0 0,.slice none 0 0,.slice none 0 0,.slice none 0 0,.slice none 0 0,.slice none 0 0,.bool false,.int .i64 0,.slice none 0 0,.slice none 0 0,.slice none 0 0,.slice none 0 0]:=(br.other (by omega))
 have bo4:Bk (W3.setCell ⟨w.heap.size+2,2,none⟩ (.slice (some ⟨B3,0,none⟩) x.funcs.length x.funcs.length)) (w.heap.size+2) [.slice (some ⟨B1,0,none⟩) x.types.length x.types.length,.slice (some ⟨B2,0,none⟩) x.imps.length x.imps.length,.slice (some ⟨B3,0,none⟩) x.funcs.length x.funcs.length,.slice none 0 0,.slice none 0 0,.slice none 0 0,.slice none 0 0,.bool false,.int .i64 0,.slice none 0 0,.slice none 0 0,.slice none 0 0,.slice none 0 0]:=bo.set
 go_wp2_with fail
 refine HC4.out.mono ?_
 rintro e W4 ⟨rfl,n4,hb4⟩
 have bbn:=bb4.keep (hb_of hb4 HQ4.out)
 have brn:=br4.keep (hb_of hb4 HQ4.out)
 have bon:=bo4.keep (hb_of hb4 HQ4.out)
 have hbn:Below w.heap.size w W4:=hC4.trans ((hb_of hb4 HQ4.out).mono hC4.size)
 clear bb br bo hb fo fr q0 o0 s0 q1 o1 s1 q2 o2 s2 q3 o3 s3 q4 o4 s4 q5 o5 s5 q6 o6 s6 q7 o7 s7 q8 o8 s8 q9 o9 s9 q10 o10 s10 q11 o11 s11 q12 o12 s12
 have bb:=bbn
 have br:=brn
 have bo:=bon
 have hb:=hbn
 clear bbn brn bon hbn
 have n1:=n1.up (Up.size_trans (up_sets1 (by omega)) (up_below (hb_of hb4 HQ4.out)) (by simp))
 have n2:=n2.up (Up.size_trans (up_sets1 (by omega)) (up_below (hb_of hb4 HQ4.out)) (by simp))
 have n3:=n3.up (Up.size_trans (up_sets1 (by omega)) (up_below (hb_of hb4 HQ4.out)) (by simp))
 have hBle4:w.heap.size+2<B4:=by rw [HQ4.out];exact bo4.1
 have n4:=n4.mono (show w.heap.size+3≤B4 by omega)
 clear hC4 HC4 bb4 br4 bo4 hb4
 have q0:=bb.2.1 0 _ rfl
 have o0:=bo.2.1 0 _ rfl
 have s0:=br.2.1 0 _ rfl
 have q1:=bb.2.1 1 _ rfl
 have o1:=bo.2.1 1 _ rfl
 have s1:=br.2.1 1 _ rfl
 have q2:=bb.2.1 2 _ rfl
 have o2:=bo.2.1 2 _ rfl
 have s2:=br.2.1 2 _ rfl
 have q3:=bb.2.1 3 _ rfl
 have o3:=bo.2.1 3 _ rfl
 have s3:=br.2.1 3 _ rfl
 have q4:=bb.2.1 4 _ rfl
 have o4:=bo.2.1 4 _ rfl
 have s4:=br.2.1 4 _ rfl
 have q5:=bb.2.1 5 _ rfl
 have o5:=bo.2.1 5 _ rfl
 have s5:=br.2.1 5 _ rfl
 have q6:=bb.2.1 6 _ rfl
 have o6:=bo.2.1 6 _ rfl
 have s6:=br.2.1 6 _ rfl
 have q7:=bb.2.1 7 _ rfl
 have o7:=bo.2.1 7 _ rfl
 have s7:=br.2.1 7 _ rfl
 have q8:=bb.2.1 8 _ rfl
 have o8:=bo.2.1 8 _ rfl
 have s8:=br.2.1 8 _ rfl
 have q9:=bb.2.1 9 _ rfl
 have o9:=bo.2.1 9 _ rfl
 have s9:=br.2.1 9 _ rfl
 have q10:=bb.2.1 10 _ rfl
 have o10:=bo.2.1 10 _ rfl
 have s10:=br.2.1 10 _ rfl
 have q11:=bb.2.1 11 _ rfl
 have o11:=bo.2.1 11 _ rfl
 have s11:=br.2.1 11 _ rfl
 have q12:=bb.2.1 12 _ rfl
 have o12:=bo.2.1 12 _ rfl
 have s12:=br.2.1 12 _ rfl
 have fo:=bo.2.2
 have fr:=br.2.2
 have hC5:Below w.heap.size w (W4.setCell ⟨w.heap.size+2,3,none⟩ (.slice (some ⟨B4,0,none⟩) x.tabs.length x.tabs.length)):=(hb.setCell (by show w.heap.size≤w.heap.size+2;omega) _)
 have HC5:=Hm (rtLimitss_c a5 c5 x.mems (W4.setCell ⟨w.heap.size+2,3,none⟩ (.slice (some ⟨B4,0,none⟩) x.tabs.length x.tabs.length)) l4 (R5.out.up (up_below hC5)))
 obtain ⟨B5,hB5⟩:∃ B,B=((W4.setCell ⟨w.heap.size+2,3,none⟩ (.slice (some ⟨B4,0,none⟩) x.tabs.length x.tabs.length))).heap.size:=⟨_,rfl⟩
 rw [← hB5] at HC5
 have HQ5:=Hm hB5
 clear hB5
 have bb5:Bk (W4.setCell ⟨w.heap.size+2,3,none⟩ (.slice (some ⟨B4,0,none⟩) x.tabs.length x.tabs.length)) w.heap.size [.slice a1 x.types.length c1,.slice a2 x.imps.length c2,.slice a3 x.funcs.length c3,.slice a4 x.tabs.length c4,.slice a5 x.mems.length c5,.slice a6 x.globs.length c6,.slice a7 x.exps.length c7,.bool x.hasS,.int .i64 x.start,.slice a8 x.elems.length c8,.slice a9 x.codes.length c9,.slice a10 x.datas.length c10,.slice a11 x.customs.length c11]:=(bb.other (by omega))
 have br5:Bk (W4.setCell ⟨w.heap.size+2,3,none⟩ (.slice (some ⟨B4,0,none⟩) x.tabs.length x.tabs.length)) (w.heap.size+1) [.slice none 0 0,.slice none 0 0,.slice none 0 0,.slice none 0 0,.slice none 0 0,.slice none 0 0,.slice none 0 0,.bool false,.int .i64 0,.slice none 0 0,.slice none 0 0,.slice none 0 0,.slice none 0 0]:=(br.other (by omega))
 have bo5:Bk (W4.setCell ⟨w.heap.size+2,3,none⟩ (.slice (some ⟨B4,0,none⟩) x.tabs.length x.tabs.length)) (w.heap.size+2) [.slice (some ⟨B1,0,none⟩) x.types.length x.types.length,.slice (some ⟨B2,0,none⟩) x.imps.length x.imps.length,.slice (some ⟨B3,0,none⟩) x.funcs.length x.funcs.length,.slice (some ⟨B4,0,none⟩) x.tabs.length x.tabs.length,.slice none 0 0,.slice none 0 0,.slice none 0 0,.bool false,.int .i64 0,.slice none 0 0,.slice none 0 0,.slice none 0 0,.slice none 0 0]:=bo.set
 go_wp2_with fail
 refine HC5.out.mono ?_
 rintro e W5 ⟨rfl,n5,hb5⟩
 have bbn:=bb5.keep (hb_of hb5 HQ5.out)
 have brn:=br5.keep (hb_of hb5 HQ5.out)
 have bon:=bo5.keep (hb_of hb5 HQ5.out)
 have hbn:Below w.heap.size w W5:=hC5.trans ((hb_of hb5 HQ5.out).mono hC5.size)
 clear bb br bo hb fo fr q0 o0 s0 q1 o1 s1 q2 o2 s2 q3 o3 s3 q4 o4 s4 q5 o5 s5 q6 o6 s6 q7 o7 s7 q8 o8 s8 q9 o9 s9 q10 o10 s10 q11 o11 s11 q12 o12 s12
 have bb:=bbn
 have br:=brn
 have bo:=bon
 have hb:=hbn
 clear bbn brn bon hbn
 have n1:=n1.up (Up.size_trans (up_sets1 (by omega)) (up_below (hb_of hb5 HQ5.out)) (by simp))
 have n2:=n2.up (Up.size_trans (up_sets1 (by omega)) (up_below (hb_of hb5 HQ5.out)) (by simp))
 have n3:=n3.up (Up.size_trans (up_sets1 (by omega)) (up_below (hb_of hb5 HQ5.out)) (by simp))
 have n4:=n4.up (Up.size_trans (up_sets1 (by omega)) (up_below (hb_of hb5 HQ5.out)) (by simp))
 have hBle5:w.heap.size+2<B5:=by rw [HQ5.out];exact bo5.1
 have n5:=n5.mono (show w.heap.size+3≤B5 by omega)
 clear hC5 HC5 bb5 br5 bo5 hb5
 have q0:=bb.2.1 0 _ rfl
 have o0:=bo.2.1 0 _ rfl
 have s0:=br.2.1 0 _ rfl
 have q1:=bb.2.1 1 _ rfl
 have o1:=bo.2.1 1 _ rfl
 have s1:=br.2.1 1 _ rfl
 have q2:=bb.2.1 2 _ rfl
 have o2:=bo.2.1 2 _ rfl
 have s2:=br.2.1 2 _ rfl
 have q3:=bb.2.1 3 _ rfl
 have o3:=bo.2.1 3 _ rfl
 have s3:=br.2.1 3 _ rfl
 have q4:=bb.2.1 4 _ rfl
 have o4:=bo.2.1 4 _ rfl
 have s4:=br.2.1 4 _ rfl
 have q5:=bb.2.1 5 _ rfl
 have o5:=bo.2.1 5 _ rfl
 have s5:=br.2.1 5 _ rfl
 have q6:=bb.2.1 6 _ rfl
 have o6:=bo.2.1 6 _ rfl
 have s6:=br.2.1 6 _ rfl
 have q7:=bb.2.1 7 _ rfl
 have o7:=bo.2.1 7 _ rfl
 have s7:=br.2.1 7 _ rfl
 have q8:=bb.2.1 8 _ rfl
 have o8:=bo.2.1 8 _ rfl
 have s8:=br.2.1 8 _ rfl
 have q9:=bb.2.1 9 _ rfl
 have o9:=bo.2.1 9 _ rfl
 have s9:=br.2.1 9 _ rfl
 have q10:=bb.2.1 10 _ rfl
 have o10:=bo.2.1 10 _ rfl
 have s10:=br.2.1 10 _ rfl
 have q11:=bb.2.1 11 _ rfl
 have o11:=bo.2.1 11 _ rfl
 have s11:=br.2.1 11 _ rfl
 have q12:=bb.2.1 12 _ rfl
 have o12:=bo.2.1 12 _ rfl
 have s12:=br.2.1 12 _ rfl
 have fo:=bo.2.2
 have fr:=br.2.2
 have hC6:Below w.heap.size w (W5.setCell ⟨w.heap.size+2,4,none⟩ (.slice (some ⟨B5,0,none⟩) x.mems.length x.mems.length)):=(hb.setCell (by show w.heap.size≤w.heap.size+2;omega) _)
 have HC6:=Hm (rtGlobs_c a6 c6 x.globs (W5.setCell ⟨w.heap.size+2,4,none⟩ (.slice (some ⟨B5,0,none⟩) x.mems.length x.mems.length)) l5 (R6.out.up (up_below hC6)))
 obtain ⟨B6,hB6⟩:∃ B,B=((W5.setCell ⟨w.heap.size+2,4,none⟩ (.slice (some ⟨B5,0,none⟩) x.mems.length x.mems.length))).heap.size:=⟨_,rfl⟩
 rw [← hB6] at HC6
 have HQ6:=Hm hB6
 clear hB6
 have bb6:Bk (W5.setCell ⟨w.heap.size+2,4,none⟩ (.slice (some ⟨B5,0,none⟩) x.mems.length x.mems.length)) w.heap.size [.slice a1 x.types.length c1,.slice a2 x.imps.length c2,.slice a3 x.funcs.length c3,.slice a4 x.tabs.length c4,.slice a5 x.mems.length c5,.slice a6 x.globs.length c6,.slice a7 x.exps.length c7,.bool x.hasS,.int .i64 x.start,.slice a8 x.elems.length c8,.slice a9 x.codes.length c9,.slice a10 x.datas.length c10,.slice a11 x.customs.length c11]:=(bb.other (by omega))
 have br6:Bk (W5.setCell ⟨w.heap.size+2,4,none⟩ (.slice (some ⟨B5,0,none⟩) x.mems.length x.mems.length)) (w.heap.size+1) [.slice none 0 0,.slice none 0 0,.slice none 0 0,.slice none 0 0,.slice none 0 0,.slice none 0 0,.slice none 0 0,.bool false,.int .i64 0,.slice none 0 0,.slice none 0 0,.slice none 0 0,.slice none 0 0]:=(br.other (by omega))
 have bo6:Bk (W5.setCell ⟨w.heap.size+2,4,none⟩ (.slice (some ⟨B5,0,none⟩) x.mems.length x.mems.length)) (w.heap.size+2) [.slice (some ⟨B1,0,none⟩) x.types.length x.types.length,.slice (some ⟨B2,0,none⟩) x.imps.length x.imps.length,.slice (some ⟨B3,0,none⟩) x.funcs.length x.funcs.length,.slice (some ⟨B4,0,none⟩) x.tabs.length x.tabs.length,.slice (some ⟨B5,0,none⟩) x.mems.length x.mems.length,.slice none 0 0,.slice none 0 0,.bool false,.int .i64 0,.slice none 0 0,.slice none 0 0,.slice none 0 0,.slice none 0 0]:=bo.set
 go_wp2_with fail
 refine HC6.out.mono ?_
 rintro e W6 ⟨rfl,n6,hb6⟩
 have bbn:=bb6.keep (hb_of hb6 HQ6.out)
 have brn:=br6.keep (hb_of hb6 HQ6.out)
 have bon:=bo6.keep (hb_of hb6 HQ6.out)
 have hbn:Below w.heap.size w W6:=hC6.trans ((hb_of hb6 HQ6.out).mono hC6.size)
 clear bb br bo hb fo fr q0 o0 s0 q1 o1 s1 q2 o2 s2 q3 o3 s3 q4 o4 s4 q5 o5 s5 q6 o6 s6 q7 o7 s7 q8 o8 s8 q9 o9 s9 q10 o10 s10 q11 o11 s11 q12 o12 s12
 have bb:=bbn
 have br:=brn
 have bo:=bon
 have hb:=hbn
 clear bbn brn bon hbn
 have n1:=n1.up (Up.size_trans (up_sets1 (by omega)) (up_below (hb_of hb6 HQ6.out)) (by simp))
 have n2:=n2.up (Up.size_trans (up_sets1 (by omega)) (up_below (hb_of hb6 HQ6.out)) (by simp))
 have n3:=n3.up (Up.size_trans (up_sets1 (by omega)) (up_below (hb_of hb6 HQ6.out)) (by simp))
 have n4:=n4.up (Up.size_trans (up_sets1 (by omega)) (up_below (hb_of hb6 HQ6.out)) (by simp))
 have n5:=n5.up (Up.size_trans (up_sets1 (by omega)) (up_below (hb_of hb6 HQ6.out)) (by simp))
 have hBle6:w.heap.size+2<B6:=by rw [HQ6.out];exact bo6.1
 have n6:=n6.mono (show w.heap.size+3≤B6 by omega)
 clear hC6 HC6 bb6 br6 bo6 hb6
 have q0:=bb.2.1 0 _ rfl
 have o0:=bo.2.1 0 _ rfl
 have s0:=br.2.1 0 _ rfl
 have q1:=bb.2.1 1 _ rfl
 have o1:=bo.2.1 1 _ rfl
 have s1:=br.2.1 1 _ rfl
 have q2:=bb.2.1 2 _ rfl
 have o2:=bo.2.1 2 _ rfl
 have s2:=br.2.1 2 _ rfl
 have q3:=bb.2.1 3 _ rfl
 have o3:=bo.2.1 3 _ rfl
 have s3:=br.2.1 3 _ rfl
 have q4:=bb.2.1 4 _ rfl
 have o4:=bo.2.1 4 _ rfl
 have s4:=br.2.1 4 _ rfl
 have q5:=bb.2.1 5 _ rfl
 have o5:=bo.2.1 5 _ rfl
 have s5:=br.2.1 5 _ rfl
 have q6:=bb.2.1 6 _ rfl
 have o6:=bo.2.1 6 _ rfl
 have s6:=br.2.1 6 _ rfl
 have q7:=bb.2.1 7 _ rfl
 have o7:=bo.2.1 7 _ rfl
 have s7:=br.2.1 7 _ rfl
 have q8:=bb.2.1 8 _ rfl
 have o8:=bo.2.1 8 _ rfl
 have s8:=br.2.1 8 _ rfl
 have q9:=bb.2.1 9 _ rfl
 have o9:=bo.2.1 9 _ rfl
 have s9:=br.2.1 9 _ rfl
 have q10:=bb.2.1 10 _ rfl
 have o10:=bo.2.1 10 _ rfl
 have s10:=br.2.1 10 _ rfl
 have q11:=bb.2.1 11 _ rfl
 have o11:=bo.2.1 11 _ rfl
 have s11:=br.2.1 11 _ rfl
 have q12:=bb.2.1 12 _ rfl
 have o12:=bo.2.1 12 _ rfl
 have s12:=br.2.1 12 _ rfl
 have fo:=bo.2.2
 have fr:=br.2.2
 have hC7:Below w.heap.size w (W6.setCell ⟨w.heap.size+2,5,none⟩ (.slice (some ⟨B6,0,none⟩) x.globs.length x.globs.length)):=(hb.setCell (by show w.heap.size≤w.heap.size+2;omega) _)
 have HC7:=Hm (rtExps_c a7 c7 x.exps (W6.setCell ⟨w.heap.size+2,5,none⟩ (.slice (some ⟨B6,0,none⟩) x.globs.length x.globs.length)) l6 (R7.out.up (up_below hC7)))
 obtain ⟨B7,hB7⟩:∃ B,B=((W6.setCell ⟨w.heap.size+2,5,none⟩ (.slice (some ⟨B6,0,none⟩) x.globs.length x.globs.length))).heap.size:=⟨_,rfl⟩
 rw [← hB7] at HC7
 have HQ7:=Hm hB7
 clear hB7
 have bb7:Bk (W6.setCell ⟨w.heap.size+2,5,none⟩ (.slice (some ⟨B6,0,none⟩) x.globs.length x.globs.length)) w.heap.size [.slice a1 x.types.length c1,.slice a2 x.imps.length c2,.slice a3 x.funcs.length c3,.slice a4 x.tabs.length c4,.slice a5 x.mems.length c5,.slice a6 x.globs.length c6,.slice a7 x.exps.length c7,.bool x.hasS,.int .i64 x.start,.slice a8 x.elems.length c8,.slice a9 x.codes.length c9,.slice a10 x.datas.length c10,.slice a11 x.customs.length c11]:=(bb.other (by omega))
 have br7:Bk (W6.setCell ⟨w.heap.size+2,5,none⟩ (.slice (some ⟨B6,0,none⟩) x.globs.length x.globs.length)) (w.heap.size+1) [.slice none 0 0,.slice none 0 0,.slice none 0 0,.slice none 0 0,.slice none 0 0,.slice none 0 0,.slice none 0 0,.bool false,.int .i64 0,.slice none 0 0,.slice none 0 0,.slice none 0 0,.slice none 0 0]:=(br.other (by omega))
 have bo7:Bk (W6.setCell ⟨w.heap.size+2,5,none⟩ (.slice (some ⟨B6,0,none⟩) x.globs.length x.globs.length)) (w.heap.size+2) [.slice (some ⟨B1,0,none⟩) x.types.length x.types.length,.slice (some ⟨B2,0,none⟩) x.imps.length x.imps.length,.slice (some ⟨B3,0,none⟩) x.funcs.length x.funcs.length,.slice (some ⟨B4,0,none⟩) x.tabs.length x.tabs.length,.slice (some ⟨B5,0,none⟩) x.mems.length x.mems.length,.slice (some ⟨B6,0,none⟩) x.globs.length x.globs.length,.slice none 0 0,.bool false,.int .i64 0,.slice none 0 0,.slice none 0 0,.slice none 0 0,.slice none 0 0]:=bo.set
 go_wp2_with fail
 refine HC7.out.mono ?_
 rintro e W7 ⟨rfl,n7,hb7⟩
 have bbn:=bb7.keep (hb_of hb7 HQ7.out)
 have brn:=br7.keep (hb_of hb7 HQ7.out)
 have bon:=bo7.keep (hb_of hb7 HQ7.out)
 have hbn:Below w.heap.size w W7:=hC7.trans ((hb_of hb7 HQ7.out).mono hC7.size)
 clear bb br bo hb fo fr q0 o0 s0 q1 o1 s1 q2 o2 s2 q3 o3 s3 q4 o4 s4 q5 o5 s5 q6 o6 s6 q7 o7 s7 q8 o8 s8 q9 o9 s9 q10 o10 s10 q11 o11 s11 q12 o12 s12
 have bb:=bbn
 have br:=brn
 have bo:=bon
 have hb:=hbn
 clear bbn brn bon hbn
 have n1:=n1.up (Up.size_trans (up_sets1 (by omega)) (up_below (hb_of hb7 HQ7.out)) (by simp))
 have n2:=n2.up (Up.size_trans (up_sets1 (by omega)) (up_below (hb_of hb7 HQ7.out)) (by simp))
 have n3:=n3.up (Up.size_trans (up_sets1 (by omega)) (up_below (hb_of hb7 HQ7.out)) (by simp))
 have n4:=n4.up (Up.size_trans (up_sets1 (by omega)) (up_below (hb_of hb7 HQ7.out)) (by simp))
 have n5:=n5.up (Up.size_trans (up_sets1 (by omega)) (up_below (hb_of hb7 HQ7.out)) (by simp))
 have n6:=n6.up (Up.size_trans (up_sets1 (by omega)) (up_below (hb_of hb7 HQ7.out)) (by simp))
 have hBle7:w.heap.size+2<B7:=by rw [HQ7.out];exact bo7.1
 have n7:=n7.mono (show w.heap.size+3≤B7 by omega)
 clear hC7 HC7 bb7 br7 bo7 hb7
 have q0:=bb.2.1 0 _ rfl
 have o0:=bo.2.1 0 _ rfl
 have s0:=br.2.1 0 _ rfl
 have q1:=bb.2.1 1 _ rfl
 have o1:=bo.2.1 1 _ rfl
 have s1:=br.2.1 1 _ rfl
 have q2:=bb.2.1 2 _ rfl
 have o2:=bo.2.1 2 _ rfl
 have s2:=br.2.1 2 _ rfl
 have q3:=bb.2.1 3 _ rfl
 have o3:=bo.2.1 3 _ rfl
 have s3:=br.2.1 3 _ rfl
 have q4:=bb.2.1 4 _ rfl
 have o4:=bo.2.1 4 _ rfl
 have s4:=br.2.1 4 _ rfl
 have q5:=bb.2.1 5 _ rfl
 have o5:=bo.2.1 5 _ rfl
 have s5:=br.2.1 5 _ rfl
 have q6:=bb.2.1 6 _ rfl
 have o6:=bo.2.1 6 _ rfl
 have s6:=br.2.1 6 _ rfl
 have q7:=bb.2.1 7 _ rfl
 have o7:=bo.2.1 7 _ rfl
 have s7:=br.2.1 7 _ rfl
 have q8:=bb.2.1 8 _ rfl
 have o8:=bo.2.1 8 _ rfl
 have s8:=br.2.1 8 _ rfl
 have q9:=bb.2.1 9 _ rfl
 have o9:=bo.2.1 9 _ rfl
 have s9:=br.2.1 9 _ rfl
 have q10:=bb.2.1 10 _ rfl
 have o10:=bo.2.1 10 _ rfl
 have s10:=br.2.1 10 _ rfl
 have q11:=bb.2.1 11 _ rfl
 have o11:=bo.2.1 11 _ rfl
 have s11:=br.2.1 11 _ rfl
 have q12:=bb.2.1 12 _ rfl
 have o12:=bo.2.1 12 _ rfl
 have s12:=br.2.1 12 _ rfl
 have fo:=bo.2.2
 have fr:=br.2.2
 have hC8:Below w.heap.size w (((W7.setCell ⟨w.heap.size+2,6,none⟩ (.slice (some ⟨B7,0,none⟩) x.exps.length x.exps.length)).setCell ⟨w.heap.size+2,7,none⟩ (.bool x.hasS)).setCell ⟨w.heap.size+2,8,none⟩ (.int .i64 x.start)):=(((hb.setCell (by show w.heap.size≤w.heap.size+2;omega) _).setCell (by show w.heap.size≤w.heap.size+2;omega) _).setCell (by show w.heap.size≤w.heap.size+2;omega) _)
 have HC8:=Hm (rtEles_c a8 c8 x.elems (((W7.setCell ⟨w.heap.size+2,6,none⟩ (.slice (some ⟨B7,0,none⟩) x.exps.length x.exps.length)).setCell ⟨w.heap.size+2,7,none⟩ (.bool x.hasS)).setCell ⟨w.heap.size+2,8,none⟩ (.int .i64 x.start)) l9 (R8.out.up (up_below hC8)))
 obtain ⟨B8,hB8⟩:∃ B,B=((((W7.setCell ⟨w.heap.size+2,6,none⟩ (.slice (some ⟨B7,0,none⟩) x.exps.length x.exps.length)).setCell ⟨w.heap.size+2,7,none⟩ (.bool x.hasS)).setCell ⟨w.heap.size+2,8,none⟩ (.int .i64 x.start))).heap.size:=⟨_,rfl⟩
 rw [← hB8] at HC8
 have HQ8:=Hm hB8
 clear hB8
 have bb8:Bk (((W7.setCell ⟨w.heap.size+2,6,none⟩ (.slice (some ⟨B7,0,none⟩) x.exps.length x.exps.length)).setCell ⟨w.heap.size+2,7,none⟩ (.bool x.hasS)).setCell ⟨w.heap.size+2,8,none⟩ (.int .i64 x.start)) w.heap.size [.slice a1 x.types.length c1,.slice a2 x.imps.length c2,.slice a3 x.funcs.length c3,.slice a4 x.tabs.length c4,.slice a5 x.mems.length c5,.slice a6 x.globs.length c6,.slice a7 x.exps.length c7,.bool x.hasS,.int .i64 x.start,.slice a8 x.elems.length c8,.slice a9 x.codes.length c9,.slice a10 x.datas.length c10,.slice a11 x.customs.length c11]:=(((bb.other (by omega)).other (by omega)).other (by omega))
 have br8:Bk (((W7.setCell ⟨w.heap.size+2,6,none⟩ (.slice (some ⟨B7,0,none⟩) x.exps.length x.exps.length)).setCell ⟨w.heap.size+2,7,none⟩ (.bool x.hasS)).setCell ⟨w.heap.size+2,8,none⟩ (.int .i64 x.start)) (w.heap.size+1) [.slice none 0 0,.slice none 0 0,.slice none 0 0,.slice none 0 0,.slice none 0 0,.slice none 0 0,.slice none 0 0,.bool false,.int .i64 0,.slice none 0 0,.slice none 0 0,.slice none 0 0,.slice none 0 0]:=(((br.other (by omega)).other (by omega)).other (by omega))
 have bo8:Bk (((W7.setCell ⟨w.heap.size+2,6,none⟩ (.slice (some ⟨B7,0,none⟩) x.exps.length x.exps.length)).setCell ⟨w.heap.size+2,7,none⟩ (.bool x.hasS)).setCell ⟨w.heap.size+2,8,none⟩ (.int .i64 x.start)) (w.heap.size+2) [.slice (some ⟨B1,0,none⟩) x.types.length x.types.length,.slice (some ⟨B2,0,none⟩) x.imps.length x.imps.length,.slice (some ⟨B3,0,none⟩) x.funcs.length x.funcs.length,.slice (some ⟨B4,0,none⟩) x.tabs.length x.tabs.length,.slice (some ⟨B5,0,none⟩) x.mems.length x.mems.length,.slice (some ⟨B6,0,none⟩) x.globs.length x.globs.length,.slice (some ⟨B7,0,none⟩) x.exps.length x.exps.length,.bool x.hasS,.int .i64 x.start,.slice none 0 0,.slice none 0 0,.slice none 0 0,.slice none 0 0]:=bo.set.set.set
 go_wp2_with fail
 refine HC8.out.mono ?_
 rintro e W8 ⟨rfl,n8,hb8⟩
 have bbn:=bb8.keep (hb_of hb8 HQ8.out)
 have brn:=br8.keep (hb_of hb8 HQ8.out)
 have bon:=bo8.keep (hb_of hb8 HQ8.out)
 have hbn:Below w.heap.size w W8:=hC8.trans ((hb_of hb8 HQ8.out).mono hC8.size)
 clear bb br bo hb fo fr q0 o0 s0 q1 o1 s1 q2 o2 s2 q3 o3 s3 q4 o4 s4 q5 o5 s5 q6 o6 s6 q7 o7 s7 q8 o8 s8 q9 o9 s9 q10 o10 s10 q11 o11 s11 q12 o12 s12
 have bb:=bbn
 have br:=brn
 have bo:=bon
 have hb:=hbn
 clear bbn brn bon hbn
 have n1:=n1.up (Up.size_trans (up_sets3 (by omega)) (up_below (hb_of hb8 HQ8.out)) (by simp))
 have n2:=n2.up (Up.size_trans (up_sets3 (by omega)) (up_below (hb_of hb8 HQ8.out)) (by simp))
 have n3:=n3.up (Up.size_trans (up_sets3 (by omega)) (up_below (hb_of hb8 HQ8.out)) (by simp))
 have n4:=n4.up (Up.size_trans (up_sets3 (by omega)) (up_below (hb_of hb8 HQ8.out)) (by simp))
 have n5:=n5.up (Up.size_trans (up_sets3 (by omega)) (up_below (hb_of hb8 HQ8.out)) (by simp))
 have n6:=n6.up (Up.size_trans (up_sets3 (by omega)) (up_below (hb_of hb8 HQ8.out)) (by simp))
 have n7:=n7.up (Up.size_trans (up_sets3 (by omega)) (up_below (hb_of hb8 HQ8.out)) (by simp))
 have hBle8:w.heap.size+2<B8:=by rw [HQ8.out];exact bo8.1
 have n8:=n8.mono (show w.heap.size+3≤B8 by omega)
 clear hC8 HC8 bb8 br8 bo8 hb8
 have q0:=bb.2.1 0 _ rfl
 have o0:=bo.2.1 0 _ rfl
 have s0:=br.2.1 0 _ rfl
 have q1:=bb.2.1 1 _ rfl
 have o1:=bo.2.1 1 _ rfl
 have s1:=br.2.1 1 _ rfl
 have q2:=bb.2.1 2 _ rfl
 have o2:=bo.2.1 2 _ rfl
 have s2:=br.2.1 2 _ rfl
 have q3:=bb.2.1 3 _ rfl
 have o3:=bo.2.1 3 _ rfl
 have s3:=br.2.1 3 _ rfl
 have q4:=bb.2.1 4 _ rfl
 have o4:=bo.2.1 4 _ rfl
 have s4:=br.2.1 4 _ rfl
 have q5:=bb.2.1 5 _ rfl
 have o5:=bo.2.1 5 _ rfl
 have s5:=br.2.1 5 _ rfl
 have q6:=bb.2.1 6 _ rfl
 have o6:=bo.2.1 6 _ rfl
 have s6:=br.2.1 6 _ rfl
 have q7:=bb.2.1 7 _ rfl
 have o7:=bo.2.1 7 _ rfl
 have s7:=br.2.1 7 _ rfl
 have q8:=bb.2.1 8 _ rfl
 have o8:=bo.2.1 8 _ rfl
 have s8:=br.2.1 8 _ rfl
 have q9:=bb.2.1 9 _ rfl
 have o9:=bo.2.1 9 _ rfl
 have s9:=br.2.1 9 _ rfl
 have q10:=bb.2.1 10 _ rfl
 have o10:=bo.2.1 10 _ rfl
 have s10:=br.2.1 10 _ rfl
 have q11:=bb.2.1 11 _ rfl
 have o11:=bo.2.1 11 _ rfl
 have s11:=br.2.1 11 _ rfl
 have q12:=bb.2.1 12 _ rfl
 have o12:=bo.2.1 12 _ rfl
 have s12:=br.2.1 12 _ rfl
 have fo:=bo.2.2
 have fr:=br.2.2
 have hC9:Below w.heap.size w (W8.setCell ⟨w.heap.size+2,9,none⟩ (.slice (some ⟨B8,0,none⟩) x.elems.length x.elems.length)):=(hb.setCell (by show w.heap.size≤w.heap.size+2;omega) _)
 have HC9:=Hm (rtCods_c a9 c9 x.codes (W8.setCell ⟨w.heap.size+2,9,none⟩ (.slice (some ⟨B8,0,none⟩) x.elems.length x.elems.length)) l10 (R9.out.up (up_below hC9)))
 obtain ⟨B9,hB9⟩:∃ B,B=((W8.setCell ⟨w.heap.size+2,9,none⟩ (.slice (some ⟨B8,0,none⟩) x.elems.length x.elems.length))).heap.size:=⟨_,rfl⟩
 rw [← hB9] at HC9
 have HQ9:=Hm hB9
 clear hB9
 have bb9:Bk (W8.setCell ⟨w.heap.size+2,9,none⟩ (.slice (some ⟨B8,0,none⟩) x.elems.length x.elems.length)) w.heap.size [.slice a1 x.types.length c1,.slice a2 x.imps.length c2,.slice a3 x.funcs.length c3,.slice a4 x.tabs.length c4,.slice a5 x.mems.length c5,.slice a6 x.globs.length c6,.slice a7 x.exps.length c7,.bool x.hasS,.int .i64 x.start,.slice a8 x.elems.length c8,.slice a9 x.codes.length c9,.slice a10 x.datas.length c10,.slice a11 x.customs.length c11]:=(bb.other (by omega))
 have br9:Bk (W8.setCell ⟨w.heap.size+2,9,none⟩ (.slice (some ⟨B8,0,none⟩) x.elems.length x.elems.length)) (w.heap.size+1) [.slice none 0 0,.slice none 0 0,.slice none 0 0,.slice none 0 0,.slice none 0 0,.slice none 0 0,.slice none 0 0,.bool false,.int .i64 0,.slice none 0 0,.slice none 0 0,.slice none 0 0,.slice none 0 0]:=(br.other (by omega))
 have bo9:Bk (W8.setCell ⟨w.heap.size+2,9,none⟩ (.slice (some ⟨B8,0,none⟩) x.elems.length x.elems.length)) (w.heap.size+2) [.slice (some ⟨B1,0,none⟩) x.types.length x.types.length,.slice (some ⟨B2,0,none⟩) x.imps.length x.imps.length,.slice (some ⟨B3,0,none⟩) x.funcs.length x.funcs.length,.slice (some ⟨B4,0,none⟩) x.tabs.length x.tabs.length,.slice (some ⟨B5,0,none⟩) x.mems.length x.mems.length,.slice (some ⟨B6,0,none⟩) x.globs.length x.globs.length,.slice (some ⟨B7,0,none⟩) x.exps.length x.exps.length,.bool x.hasS,.int .i64 x.start,.slice (some ⟨B8,0,none⟩) x.elems.length x.elems.length,.slice none 0 0,.slice none 0 0,.slice none 0 0]:=bo.set
 go_wp2_with fail
 refine HC9.out.mono ?_
 rintro e W9 ⟨rfl,n9,hb9⟩
 have bbn:=bb9.keep (hb_of hb9 HQ9.out)
 have brn:=br9.keep (hb_of hb9 HQ9.out)
 have bon:=bo9.keep (hb_of hb9 HQ9.out)
 have hbn:Below w.heap.size w W9:=hC9.trans ((hb_of hb9 HQ9.out).mono hC9.size)
 clear bb br bo hb fo fr q0 o0 s0 q1 o1 s1 q2 o2 s2 q3 o3 s3 q4 o4 s4 q5 o5 s5 q6 o6 s6 q7 o7 s7 q8 o8 s8 q9 o9 s9 q10 o10 s10 q11 o11 s11 q12 o12 s12
 have bb:=bbn
 have br:=brn
 have bo:=bon
 have hb:=hbn
 clear bbn brn bon hbn
 have n1:=n1.up (Up.size_trans (up_sets1 (by omega)) (up_below (hb_of hb9 HQ9.out)) (by simp))
 have n2:=n2.up (Up.size_trans (up_sets1 (by omega)) (up_below (hb_of hb9 HQ9.out)) (by simp))
 have n3:=n3.up (Up.size_trans (up_sets1 (by omega)) (up_below (hb_of hb9 HQ9.out)) (by simp))
 have n4:=n4.up (Up.size_trans (up_sets1 (by omega)) (up_below (hb_of hb9 HQ9.out)) (by simp))
 have n5:=n5.up (Up.size_trans (up_sets1 (by omega)) (up_below (hb_of hb9 HQ9.out)) (by simp))
 have n6:=n6.up (Up.size_trans (up_sets1 (by omega)) (up_below (hb_of hb9 HQ9.out)) (by simp))
 have n7:=n7.up (Up.size_trans (up_sets1 (by omega)) (up_below (hb_of hb9 HQ9.out)) (by simp))
 have n8:=n8.up (Up.size_trans (up_sets1 (by omega)) (up_below (hb_of hb9 HQ9.out)) (by simp))
 have hBle9:w.heap.size+2<B9:=by rw [HQ9.out];exact bo9.1
 have n9:=n9.mono (show w.heap.size+3≤B9 by omega)
 clear hC9 HC9 bb9 br9 bo9 hb9
 have q0:=bb.2.1 0 _ rfl
 have o0:=bo.2.1 0 _ rfl
 have s0:=br.2.1 0 _ rfl
 have q1:=bb.2.1 1 _ rfl
 have o1:=bo.2.1 1 _ rfl
 have s1:=br.2.1 1 _ rfl
 have q2:=bb.2.1 2 _ rfl
 have o2:=bo.2.1 2 _ rfl
 have s2:=br.2.1 2 _ rfl
 have q3:=bb.2.1 3 _ rfl
 have o3:=bo.2.1 3 _ rfl
 have s3:=br.2.1 3 _ rfl
 have q4:=bb.2.1 4 _ rfl
 have o4:=bo.2.1 4 _ rfl
 have s4:=br.2.1 4 _ rfl
 have q5:=bb.2.1 5 _ rfl
 have o5:=bo.2.1 5 _ rfl
 have s5:=br.2.1 5 _ rfl
 have q6:=bb.2.1 6 _ rfl
 have o6:=bo.2.1 6 _ rfl
 have s6:=br.2.1 6 _ rfl
 have q7:=bb.2.1 7 _ rfl
 have o7:=bo.2.1 7 _ rfl
 have s7:=br.2.1 7 _ rfl
 have q8:=bb.2.1 8 _ rfl
 have o8:=bo.2.1 8 _ rfl
 have s8:=br.2.1 8 _ rfl
 have q9:=bb.2.1 9 _ rfl
 have o9:=bo.2.1 9 _ rfl
 have s9:=br.2.1 9 _ rfl
 have q10:=bb.2.1 10 _ rfl
 have o10:=bo.2.1 10 _ rfl
 have s10:=br.2.1 10 _ rfl
 have q11:=bb.2.1 11 _ rfl
 have o11:=bo.2.1 11 _ rfl
 have s11:=br.2.1 11 _ rfl
 have q12:=bb.2.1 12 _ rfl
 have o12:=bo.2.1 12 _ rfl
 have s12:=br.2.1 12 _ rfl
 have fo:=bo.2.2
 have fr:=br.2.2
 have hC10:Below w.heap.size w (W9.setCell ⟨w.heap.size+2,10,none⟩ (.slice (some ⟨B9,0,none⟩) x.codes.length x.codes.length)):=(hb.setCell (by show w.heap.size≤w.heap.size+2;omega) _)
 have HC10:=Hm (rtDats_c a10 c10 x.datas (W9.setCell ⟨w.heap.size+2,10,none⟩ (.slice (some ⟨B9,0,none⟩) x.codes.length x.codes.length)) l11 (R10.out.up (up_below hC10)))
 obtain ⟨B10,hB10⟩:∃ B,B=((W9.setCell ⟨w.heap.size+2,10,none⟩ (.slice (some ⟨B9,0,none⟩) x.codes.length x.codes.length))).heap.size:=⟨_,rfl⟩
 rw [← hB10] at HC10
 have HQ10:=Hm hB10
 clear hB10
 have bb10:Bk (W9.setCell ⟨w.heap.size+2,10,none⟩ (.slice (some ⟨B9,0,none⟩) x.codes.length x.codes.length)) w.heap.size [.slice a1 x.types.length c1,.slice a2 x.imps.length c2,.slice a3 x.funcs.length c3,.slice a4 x.tabs.length c4,.slice a5 x.mems.length c5,.slice a6 x.globs.length c6,.slice a7 x.exps.length c7,.bool x.hasS,.int .i64 x.start,.slice a8 x.elems.length c8,.slice a9 x.codes.length c9,.slice a10 x.datas.length c10,.slice a11 x.customs.length c11]:=(bb.other (by omega))
 have br10:Bk (W9.setCell ⟨w.heap.size+2,10,none⟩ (.slice (some ⟨B9,0,none⟩) x.codes.length x.codes.length)) (w.heap.size+1) [.slice none 0 0,.slice none 0 0,.slice none 0 0,.slice none 0 0,.slice none 0 0,.slice none 0 0,.slice none 0 0,.bool false,.int .i64 0,.slice none 0 0,.slice none 0 0,.slice none 0 0,.slice none 0 0]:=(br.other (by omega))
 have bo10:Bk (W9.setCell ⟨w.heap.size+2,10,none⟩ (.slice (some ⟨B9,0,none⟩) x.codes.length x.codes.length)) (w.heap.size+2) [.slice (some ⟨B1,0,none⟩) x.types.length x.types.length,.slice (some ⟨B2,0,none⟩) x.imps.length x.imps.length,.slice (some ⟨B3,0,none⟩) x.funcs.length x.funcs.length,.slice (some ⟨B4,0,none⟩) x.tabs.length x.tabs.length,.slice (some ⟨B5,0,none⟩) x.mems.length x.mems.length,.slice (some ⟨B6,0,none⟩) x.globs.length x.globs.length,.slice (some ⟨B7,0,none⟩) x.exps.length x.exps.length,.bool x.hasS,.int .i64 x.start,.slice (some ⟨B8,0,none⟩) x.elems.length x.elems.length,.slice (some ⟨B9,0,none⟩) x.codes.length x.codes.length,.slice none 0 0,.slice none 0 0]:=bo.set
 go_wp2_with fail
 refine HC10.out.mono ?_
 rintro e W10 ⟨rfl,n10,hb10⟩
 have bbn:=bb10.keep (hb_of hb10 HQ10.out)
 have brn:=br10.keep (hb_of hb10 HQ10.out)
 have bon:=bo10.keep (hb_of hb10 HQ10.out)
 have hbn:Below w.heap.size w W10:=hC10.trans ((hb_of hb10 HQ10.out).mono hC10.size)
 clear bb br bo hb fo fr q0 o0 s0 q1 o1 s1 q2 o2 s2 q3 o3 s3 q4 o4 s4 q5 o5 s5 q6 o6 s6 q7 o7 s7 q8 o8 s8 q9 o9 s9 q10 o10 s10 q11 o11 s11 q12 o12 s12
 have bb:=bbn
 have br:=brn
 have bo:=bon
 have hb:=hbn
 clear bbn brn bon hbn
 have n1:=n1.up (Up.size_trans (up_sets1 (by omega)) (up_below (hb_of hb10 HQ10.out)) (by simp))
 have n2:=n2.up (Up.size_trans (up_sets1 (by omega)) (up_below (hb_of hb10 HQ10.out)) (by simp))
 have n3:=n3.up (Up.size_trans (up_sets1 (by omega)) (up_below (hb_of hb10 HQ10.out)) (by simp))
 have n4:=n4.up (Up.size_trans (up_sets1 (by omega)) (up_below (hb_of hb10 HQ10.out)) (by simp))
 have n5:=n5.up (Up.size_trans (up_sets1 (by omega)) (up_below (hb_of hb10 HQ10.out)) (by simp))
 have n6:=n6.up (Up.size_trans (up_sets1 (by omega)) (up_below (hb_of hb10 HQ10.out)) (by simp))
 have n7:=n7.up (Up.size_trans (up_sets1 (by omega)) (up_below (hb_of hb10 HQ10.out)) (by simp))
 have n8:=n8.up (Up.size_trans (up_sets1 (by omega)) (up_below (hb_of hb10 HQ10.out)) (by simp))
 have n9:=n9.up (Up.size_trans (up_sets1 (by omega)) (up_below (hb_of hb10 HQ10.out)) (by simp))
 have hBle10:w.heap.size+2<B10:=by rw [HQ10.out];exact bo10.1
 have n10:=n10.mono (show w.heap.size+3≤B10 by omega)
 clear hC10 HC10 bb10 br10 bo10 hb10
 have q0:=bb.2.1 0 _ rfl
 have o0:=bo.2.1 0 _ rfl
 have s0:=br.2.1 0 _ rfl
 have q1:=bb.2.1 1 _ rfl
 have o1:=bo.2.1 1 _ rfl
 have s1:=br.2.1 1 _ rfl
 have q2:=bb.2.1 2 _ rfl
 have o2:=bo.2.1 2 _ rfl
 have s2:=br.2.1 2 _ rfl
 have q3:=bb.2.1 3 _ rfl
 have o3:=bo.2.1 3 _ rfl
 have s3:=br.2.1 3 _ rfl
 have q4:=bb.2.1 4 _ rfl
 have o4:=bo.2.1 4 _ rfl
 have s4:=br.2.1 4 _ rfl
 have q5:=bb.2.1 5 _ rfl
 have o5:=bo.2.1 5 _ rfl
 have s5:=br.2.1 5 _ rfl
 have q6:=bb.2.1 6 _ rfl
 have o6:=bo.2.1 6 _ rfl
 have s6:=br.2.1 6 _ rfl
 have q7:=bb.2.1 7 _ rfl
 have o7:=bo.2.1 7 _ rfl
 have s7:=br.2.1 7 _ rfl
 have q8:=bb.2.1 8 _ rfl
 have o8:=bo.2.1 8 _ rfl
 have s8:=br.2.1 8 _ rfl
 have q9:=bb.2.1 9 _ rfl
 have o9:=bo.2.1 9 _ rfl
 have s9:=br.2.1 9 _ rfl
 have q10:=bb.2.1 10 _ rfl
 have o10:=bo.2.1 10 _ rfl
 have s10:=br.2.1 10 _ rfl
 have q11:=bb.2.1 11 _ rfl
 have o11:=bo.2.1 11 _ rfl
 have s11:=br.2.1 11 _ rfl
 have q12:=bb.2.1 12 _ rfl
 have o12:=bo.2.1 12 _ rfl
 have s12:=br.2.1 12 _ rfl
 have fo:=bo.2.2
 have fr:=br.2.2
 have hC11:Below w.heap.size w (W10.setCell ⟨w.heap.size+2,11,none⟩ (.slice (some ⟨B10,0,none⟩) x.datas.length x.datas.length)):=(hb.setCell (by show w.heap.size≤w.heap.size+2;omega) _)
 have HC11:=Hm (rtCuss_c a11 c11 x.customs (W10.setCell ⟨w.heap.size+2,11,none⟩ (.slice (some ⟨B10,0,none⟩) x.datas.length x.datas.length)) l12 (R11.out.up (up_below hC11)))
 obtain ⟨B11,hB11⟩:∃ B,B=((W10.setCell ⟨w.heap.size+2,11,none⟩ (.slice (some ⟨B10,0,none⟩) x.datas.length x.datas.length))).heap.size:=⟨_,rfl⟩
 rw [← hB11] at HC11
 have HQ11:=Hm hB11
 clear hB11
 have bb11:Bk (W10.setCell ⟨w.heap.size+2,11,none⟩ (.slice (some ⟨B10,0,none⟩) x.datas.length x.datas.length)) w.heap.size [.slice a1 x.types.length c1,.slice a2 x.imps.length c2,.slice a3 x.funcs.length c3,.slice a4 x.tabs.length c4,.slice a5 x.mems.length c5,.slice a6 x.globs.length c6,.slice a7 x.exps.length c7,.bool x.hasS,.int .i64 x.start,.slice a8 x.elems.length c8,.slice a9 x.codes.length c9,.slice a10 x.datas.length c10,.slice a11 x.customs.length c11]:=(bb.other (by omega))
 have br11:Bk (W10.setCell ⟨w.heap.size+2,11,none⟩ (.slice (some ⟨B10,0,none⟩) x.datas.length x.datas.length)) (w.heap.size+1) [.slice none 0 0,.slice none 0 0,.slice none 0 0,.slice none 0 0,.slice none 0 0,.slice none 0 0,.slice none 0 0,.bool false,.int .i64 0,.slice none 0 0,.slice none 0 0,.slice none 0 0,.slice none 0 0]:=(br.other (by omega))
 have bo11:Bk (W10.setCell ⟨w.heap.size+2,11,none⟩ (.slice (some ⟨B10,0,none⟩) x.datas.length x.datas.length)) (w.heap.size+2) [.slice (some ⟨B1,0,none⟩) x.types.length x.types.length,.slice (some ⟨B2,0,none⟩) x.imps.length x.imps.length,.slice (some ⟨B3,0,none⟩) x.funcs.length x.funcs.length,.slice (some ⟨B4,0,none⟩) x.tabs.length x.tabs.length,.slice (some ⟨B5,0,none⟩) x.mems.length x.mems.length,.slice (some ⟨B6,0,none⟩) x.globs.length x.globs.length,.slice (some ⟨B7,0,none⟩) x.exps.length x.exps.length,.bool x.hasS,.int .i64 x.start,.slice (some ⟨B8,0,none⟩) x.elems.length x.elems.length,.slice (some ⟨B9,0,none⟩) x.codes.length x.codes.length,.slice (some ⟨B10,0,none⟩) x.datas.length x.datas.length,.slice none 0 0]:=bo.set
 go_wp2_with fail
 refine HC11.out.mono ?_
 rintro e W11 ⟨rfl,n11,hb11⟩
 have bbn:=bb11.keep (hb_of hb11 HQ11.out)
 have brn:=br11.keep (hb_of hb11 HQ11.out)
 have bon:=bo11.keep (hb_of hb11 HQ11.out)
 have hbn:Below w.heap.size w W11:=hC11.trans ((hb_of hb11 HQ11.out).mono hC11.size)
 clear bb br bo hb fo fr q0 o0 s0 q1 o1 s1 q2 o2 s2 q3 o3 s3 q4 o4 s4 q5 o5 s5 q6 o6 s6 q7 o7 s7 q8 o8 s8 q9 o9 s9 q10 o10 s10 q11 o11 s11 q12 o12 s12
 have bb:=bbn
 have br:=brn
 have bo:=bon
 have hb:=hbn
 clear bbn brn bon hbn
 have n1:=n1.up (Up.size_trans (up_sets1 (by omega)) (up_below (hb_of hb11 HQ11.out)) (by simp))
 have n2:=n2.up (Up.size_trans (up_sets1 (by omega)) (up_below (hb_of hb11 HQ11.out)) (by simp))
 have n3:=n3.up (Up.size_trans (up_sets1 (by omega)) (up_below (hb_of hb11 HQ11.out)) (by simp))
 have n4:=n4.up (Up.size_trans (up_sets1 (by omega)) (up_below (hb_of hb11 HQ11.out)) (by simp))
 have n5:=n5.up (Up.size_trans (up_sets1 (by omega)) (up_below (hb_of hb11 HQ11.out)) (by simp))
 have n6:=n6.up (Up.size_trans (up_sets1 (by omega)) (up_below (hb_of hb11 HQ11.out)) (by simp))
 have n7:=n7.up (Up.size_trans (up_sets1 (by omega)) (up_below (hb_of hb11 HQ11.out)) (by simp))
 have n8:=n8.up (Up.size_trans (up_sets1 (by omega)) (up_below (hb_of hb11 HQ11.out)) (by simp))
 have n9:=n9.up (Up.size_trans (up_sets1 (by omega)) (up_below (hb_of hb11 HQ11.out)) (by simp))
 have n10:=n10.up (Up.size_trans (up_sets1 (by omega)) (up_below (hb_of hb11 HQ11.out)) (by simp))
 have hBle11:w.heap.size+2<B11:=by rw [HQ11.out];exact bo11.1
 have n11:=n11.mono (show w.heap.size+3≤B11 by omega)
 clear hC11 HC11 bb11 br11 bo11 hb11
 have q0:=bb.2.1 0 _ rfl
 have o0:=bo.2.1 0 _ rfl
 have s0:=br.2.1 0 _ rfl
 have q1:=bb.2.1 1 _ rfl
 have o1:=bo.2.1 1 _ rfl
 have s1:=br.2.1 1 _ rfl
 have q2:=bb.2.1 2 _ rfl
 have o2:=bo.2.1 2 _ rfl
 have s2:=br.2.1 2 _ rfl
 have q3:=bb.2.1 3 _ rfl
 have o3:=bo.2.1 3 _ rfl
 have s3:=br.2.1 3 _ rfl
 have q4:=bb.2.1 4 _ rfl
 have o4:=bo.2.1 4 _ rfl
 have s4:=br.2.1 4 _ rfl
 have q5:=bb.2.1 5 _ rfl
 have o5:=bo.2.1 5 _ rfl
 have s5:=br.2.1 5 _ rfl
 have q6:=bb.2.1 6 _ rfl
 have o6:=bo.2.1 6 _ rfl
 have s6:=br.2.1 6 _ rfl
 have q7:=bb.2.1 7 _ rfl
 have o7:=bo.2.1 7 _ rfl
 have s7:=br.2.1 7 _ rfl
 have q8:=bb.2.1 8 _ rfl
 have o8:=bo.2.1 8 _ rfl
 have s8:=br.2.1 8 _ rfl
 have q9:=bb.2.1 9 _ rfl
 have o9:=bo.2.1 9 _ rfl
 have s9:=br.2.1 9 _ rfl
 have q10:=bb.2.1 10 _ rfl
 have o10:=bo.2.1 10 _ rfl
 have s10:=br.2.1 10 _ rfl
 have q11:=bb.2.1 11 _ rfl
 have o11:=bo.2.1 11 _ rfl
 have s11:=br.2.1 11 _ rfl
 have q12:=bb.2.1 12 _ rfl
 have o12:=bo.2.1 12 _ rfl
 have s12:=br.2.1 12 _ rfl
 have fo:=bo.2.2
 have fr:=br.2.2
 have HB:=Hm hb
 have HN1:=Hm n1
 have HN2:=Hm n2
 have HN3:=Hm n3
 have HN4:=Hm n4
 have HN5:=Hm n5
 have HN6:=Hm n6
 have HN7:=Hm n7
 have HN8:=Hm n8
 have HN9:=Hm n9
 have HN10:=Hm n10
 have HN11:=Hm n11
 clear hb bb br bo n1 n2 n3 n4 n5 n6 n7 n8 n9 n10 n11
 go_wp2
 exact bodyPost_ret (v:=.agg #[.slice (some ⟨B1,0,none⟩) x.types.length x.types.length,.slice (some ⟨B2,0,none⟩) x.imps.length x.imps.length,.slice (some ⟨B3,0,none⟩) x.funcs.length x.funcs.length,.slice (some ⟨B4,0,none⟩) x.tabs.length x.tabs.length,.slice (some ⟨B5,0,none⟩) x.mems.length x.mems.length,.slice (some ⟨B6,0,none⟩) x.globs.length x.globs.length,.slice (some ⟨B7,0,none⟩) x.exps.length x.exps.length,.bool x.hasS,.int .i64 x.start,.slice (some ⟨B8,0,none⟩) x.elems.length x.elems.length,.slice (some ⟨B9,0,none⟩) x.codes.length x.codes.length,.slice (some ⟨B10,0,none⟩) x.datas.length x.datas.length,.slice (some ⟨B11,0,none⟩) x.customs.length x.customs.length]) (by simp [results,Tryz.results8,go_sem,s0,s1,s2,s3,s4,s5,s6,s7,s8,s9,s10,s11,s12,e3,e4]) rfl ⟨B1,B2,B3,B4,B5,B6,B7,B8,B9,B10,B11,rfl,⟨((HN1.out.up (up_sets1 (by omega))).up (up_set1_13 (by omega))).mono (by omega),((HN2.out.up (up_sets1 (by omega))).up (up_set1_13 (by omega))).mono (by omega),((HN3.out.up (up_sets1 (by omega))).up (up_set1_13 (by omega))).mono (by omega),((HN4.out.up (up_sets1 (by omega))).up (up_set1_13 (by omega))).mono (by omega),((HN5.out.up (up_sets1 (by omega))).up (up_set1_13 (by omega))).mono (by omega),((HN6.out.up (up_sets1 (by omega))).up (up_set1_13 (by omega))).mono (by omega),((HN7.out.up (up_sets1 (by omega))).up (up_set1_13 (by omega))).mono (by omega),((HN8.out.up (up_sets1 (by omega))).up (up_set1_13 (by omega))).mono (by omega),((HN9.out.up (up_sets1 (by omega))).up (up_set1_13 (by omega))).mono (by omega),((HN10.out.up (up_sets1 (by omega))).up (up_set1_13 (by omega))).mono (by omega),((HN11.out.up (up_sets1 (by omega))).up (up_set1_13 (by omega))).mono (by omega)⟩,((((((((((((((HB.out.setCell (by show w.heap.size≤w.heap.size+2;omega) _).setCell (by show w.heap.size≤w.heap.size+1;omega) _).setCell (by show w.heap.size≤w.heap.size+1;omega) _).setCell (by show w.heap.size≤w.heap.size+1;omega) _).setCell (by show w.heap.size≤w.heap.size+1;omega) _).setCell (by show w.heap.size≤w.heap.size+1;omega) _).setCell (by show w.heap.size≤w.heap.size+1;omega) _).setCell (by show w.heap.size≤w.heap.size+1;omega) _).setCell (by show w.heap.size≤w.heap.size+1;omega) _).setCell (by show w.heap.size≤w.heap.size+1;omega) _).setCell (by show w.heap.size≤w.heap.size+1;omega) _).setCell (by show w.heap.size≤w.heap.size+1;omega) _).setCell (by show w.heap.size≤w.heap.size+1;omega) _).setCell (by show w.heap.size≤w.heap.size+1;omega) _)⟩
end Go.Proofs.YtdbmolambolmgaaGreat.NF
