import Derived.Test.YtdbmolambolmgaaGreatGt
set_option linter.all false
set_option maxHeartbeats 16000000
set_option maxRecDepth 100000
namespace Go.Proofs.YtdbmolambolmgaaGreat
open Go.RowKit Go.Sort
set_option maxRecDepth 100000
def wfB (x:Mod):Bool:=x.types.all ftB&&(x.imps.all impB&&(x.funcs.all u32B&&(x.tabs.all limB&&(x.mems.all limB&&(x.globs.all globB&&(x.exps.all expB&&(stB x.hasS x.start&&(x.elems.all eleB&&(x.codes.all codB&&(x.datas.all datB&&(decide (x.codes.length=x.funcs.length)&&(cusM x x.customs 0))))))))))))
def Mod.Pos (x:Mod):Prop:=(∀ i,i<x.globs.length→InsPos (x.globs.getD i Glob.z).ini)∧(∀ i,i<x.elems.length→InsPos (x.elems.getD i Ele.z).off)∧(∀ i,i<x.codes.length→InsPos (x.codes.getD i Cod.z).body)∧(∀ i,i<x.datas.length→InsPos (x.datas.getD i Dat.z).off)
theorem modLn {x:Mod} (L:Mod.LB 1048576 x):x.Ln:=⟨L.1.1,L.2.1.1,L.2.2.1,L.2.2.2.1.1,L.2.2.2.2.1.1,L.2.2.2.2.2.1.1,L.2.2.2.2.2.2.1.1,L.2.2.2.2.2.2.2.1.1,L.2.2.2.2.2.2.2.2.1.1,L.2.2.2.2.2.2.2.2.2.1.1,L.2.2.2.2.2.2.2.2.2.2.1⟩
theorem iwf_c (x:Mod) (a1:Option Addr) (c1:Nat) (a2:Option Addr) (c2:Nat) (a3:Option Addr) (c3:Nat) (a4:Option Addr) (c4:Nat) (a5:Option Addr) (c5:Nat) (a6:Option Addr) (c6:Nat) (a7:Option Addr) (c7:Nat) (a8:Option Addr) (c8:Nat) (a9:Option Addr) (c9:Nat) (a10:Option Addr) (c10:Nat) (a11:Option Addr) (c11:Nat) (w:World) (hI:Mod.Is 0 w x a1 a2 a3 a4 a5 a6 a7 a8 a9 a10 a11) (hl:Mod.LB 1048576 x) (hp:x.Pos) :
    Calls Tryz.prog 9 #[.agg #[.slice a1 x.types.length c1,.slice a2 x.imps.length c2,.slice a3 x.funcs.length c3,.slice a4 x.tabs.length c4,.slice a5 x.mems.length c5,.slice a6 x.globs.length c6,.slice a7 x.exps.length c7,.bool x.hasS,.int .i64 x.start,.slice a8 x.elems.length c8,.slice a9 x.codes.length c9,.slice a10 x.datas.length c10,.slice a11 x.customs.length c11]] w fun e w'=>e=.returned (.bool (wfB x))∧Below w.heap.size w w':=by
 have ⟨l1,l2,l3,l4,l5,l6,l7,l8,l9,l10,l11⟩:=modLn hl
 obtain ⟨r1,r2,r3,r4,r5,r6,r7,r8,r9,r10,r11⟩:=hI
 have R1:=Hm r1
 have R2:=Hm r2
 have R3:=Hm r3
 have R4:=Hm r4
 have R5:=Hm r5
 have R6:=Hm r6
 have R7:=Hm r7
 have R8:=Hm r8
 have R9:=Hm r9
 have R10:=Hm r10
 have R11:=Hm r11
 clear r1 r2 r3 r4 r5 r6 r7 r8 r9 r10 r11
 have LL:=Hm hl
 have PP:=Hm hp
 clear hl hp
 go_enter Tryz.func9,Tryz.ntmps9
 go_upto_region 1 with fail
 refine wp_gen (fun W=>Bk W w.heap.size [.slice a1 x.types.length c1,.slice a2 x.imps.length c2,.slice a3 x.funcs.length c3,.slice a4 x.tabs.length c4,.slice a5 x.mems.length c5,.slice a6 x.globs.length c6,.slice a7 x.exps.length c7,.bool x.hasS,.int .i64 x.start,.slice a8 x.elems.length c8,.slice a9 x.codes.length c9,.slice a10 x.datas.length c10,.slice a11 x.customs.length c11]∧Below w.heap.size w W) ⟨Bk.new,(Below.refl _ _).alloc (Nat.le_refl _) _⟩ ?_
 rintro W0 ⟨bb,hb⟩
 have q0:=bb.2.1 0 _ rfl
 have q1:=bb.2.1 1 _ rfl
 have q2:=bb.2.1 2 _ rfl
 have q3:=bb.2.1 3 _ rfl
 have q4:=bb.2.1 4 _ rfl
 have q5:=bb.2.1 5 _ rfl
 have q6:=bb.2.1 6 _ rfl
 have q7:=bb.2.1 7 _ rfl
 have q8:=bb.2.1 8 _ rfl
 have q9:=bb.2.1 9 _ rfl
 have q10:=bb.2.1 10 _ rfl
 have q11:=bb.2.1 11 _ rfl
 have q12:=bb.2.1 12 _ rfl
 have L:=LL.out
 have P:=PP.out
 have HC0:=Hm (aaFType_c a1 c1 x.types W0 L.1 (R1.out.up (up_below hb)))
 clear L P
 generalize ht0:x.types.all ftB=t0 at HC0
 cases t0
 · have HX:Hid (wfB x=false):=by show _=_;rw [wfB,ht0];rfl
   clear ht0 
   go_wp2_with fail
   refine HC0.out.mono ?_
   rintro e W9 ⟨rfl,hb0⟩
   have hb:=hb.trans (hb0.mono hb.size)
   clear hb0 bb HC0 q0 q1 q2 q3 q4 q5 q6 q7 q8 q9 q10 q11 q12
   go_wp2
   go_ret
   exact ⟨by rw [HX.out];rfl,hb⟩
 have HW2:Hid (wfB x=(x.imps.all impB&&(x.funcs.all u32B&&(x.tabs.all limB&&(x.mems.all limB&&(x.globs.all globB&&(x.exps.all expB&&(stB x.hasS x.start&&(x.elems.all eleB&&(x.codes.all codB&&(x.datas.all datB&&(decide (x.codes.length=x.funcs.length)&&(cusM x x.customs 0))))))))))))):=by show _=_;rw [wfB,ht0,Bool.true_and]
 clear ht0 
 go_wp2_with fail
 refine HC0.out.mono ?_
 rintro e W1 ⟨rfl,hb0⟩
 have bc:=bb.keep hb0
 have hb2:=hb.trans (hb0.mono hb.size)
 clear hb0 HC0 bb hb q0 q1 q2 q3 q4 q5 q6 q7 q8 q9 q10 q11 q12
 have bb:=bc
 have hb:=hb2
 have HW:=HW2
 clear bc hb2 HW2
 have q0:=bb.2.1 0 _ rfl
 have q1:=bb.2.1 1 _ rfl
 have q2:=bb.2.1 2 _ rfl
 have q3:=bb.2.1 3 _ rfl
 have q4:=bb.2.1 4 _ rfl
 have q5:=bb.2.1 5 _ rfl
 have q6:=bb.2.1 6 _ rfl
 have q7:=bb.2.1 7 _ rfl
 have q8:=bb.2.1 8 _ rfl
 have q9:=bb.2.1 9 _ rfl
 have q10:=bb.2.1 10 _ rfl
 have q11:=bb.2.1 11 _ rfl
 have q12:=bb.2.1 12 _ rfl
 have L:=LL.out
 have P:=PP.out
 have HC1:=Hm (aaImp_c a2 c2 x.imps W1 L.2.1 (R2.out.up (up_below hb)))
 clear L P
 generalize ht1:x.imps.all impB=t1 at HC1
 cases t1
 · have HX:Hid (wfB x=false):=by show _=_;rw [HW.out,ht1];rfl
   clear ht1 HW
   go_wp2_with fail
   refine HC1.out.mono ?_
   rintro e W9 ⟨rfl,hb0⟩
   have hb:=hb.trans (hb0.mono hb.size)
   clear hb0 bb HC1 q0 q1 q2 q3 q4 q5 q6 q7 q8 q9 q10 q11 q12
   go_wp2
   go_ret
   exact ⟨by rw [HX.out];rfl,hb⟩
 have HW2:Hid (wfB x=(x.funcs.all u32B&&(x.tabs.all limB&&(x.mems.all limB&&(x.globs.all globB&&(x.exps.all expB&&(stB x.hasS x.start&&(x.elems.all eleB&&(x.codes.all codB&&(x.datas.all datB&&(decide (x.codes.length=x.funcs.length)&&(cusM x x.customs 0)))))))))))):=by show _=_;rw [HW.out,ht1,Bool.true_and]
 clear ht1 HW
 go_wp2_with fail
 refine HC1.out.mono ?_
 rintro e W2 ⟨rfl,hb0⟩
 have bc:=bb.keep hb0
 have hb2:=hb.trans (hb0.mono hb.size)
 clear hb0 HC1 bb hb q0 q1 q2 q3 q4 q5 q6 q7 q8 q9 q10 q11 q12
 have bb:=bc
 have hb:=hb2
 have HW:=HW2
 clear bc hb2 HW2
 have q0:=bb.2.1 0 _ rfl
 have q1:=bb.2.1 1 _ rfl
 have q2:=bb.2.1 2 _ rfl
 have q3:=bb.2.1 3 _ rfl
 have q4:=bb.2.1 4 _ rfl
 have q5:=bb.2.1 5 _ rfl
 have q6:=bb.2.1 6 _ rfl
 have q7:=bb.2.1 7 _ rfl
 have q8:=bb.2.1 8 _ rfl
 have q9:=bb.2.1 9 _ rfl
 have q10:=bb.2.1 10 _ rfl
 have q11:=bb.2.1 11 _ rfl
 have q12:=bb.2.1 12 _ rfl
 have L:=LL.out
 have P:=PP.out
 have HC2:=Hm (same_below (allAre_c a3 c3 x.funcs W2 (by have:=L.2.2.1;omega) (R3.out.up (up_below hb)).has))
 clear L P
 generalize ht2:x.funcs.all u32B=t2 at HC2
 cases t2
 · have HX:Hid (wfB x=false):=by show _=_;rw [HW.out,ht2];rfl
   clear ht2 HW
   go_wp2_with fail
   refine HC2.out.mono ?_
   rintro e W9 ⟨rfl,hb0⟩
   have hb:=hb.trans (hb0.mono hb.size)
   clear hb0 bb HC2 q0 q1 q2 q3 q4 q5 q6 q7 q8 q9 q10 q11 q12
   go_wp2
   go_ret
   exact ⟨by rw [HX.out];rfl,hb⟩
 have HW2:Hid (wfB x=(x.tabs.all limB&&(x.mems.all limB&&(x.globs.all globB&&(x.exps.all expB&&(stB x.hasS x.start&&(x.elems.all eleB&&(x.codes.all codB&&(x.datas.all datB&&(decide (x.codes.length=x.funcs.length)&&(cusM x x.customs 0))))))))))):=by show _=_;rw [HW.out,ht2,Bool.true_and]
 clear ht2 HW
 go_wp2_with fail
 refine HC2.out.mono ?_
 rintro e W3 ⟨rfl,hb0⟩
 have bc:=bb.keep hb0
 have hb2:=hb.trans (hb0.mono hb.size)
 clear hb0 HC2 bb hb q0 q1 q2 q3 q4 q5 q6 q7 q8 q9 q10 q11 q12
 have bb:=bc
 have hb:=hb2
 have HW:=HW2
 clear bc hb2 HW2
 have q0:=bb.2.1 0 _ rfl
 have q1:=bb.2.1 1 _ rfl
 have q2:=bb.2.1 2 _ rfl
 have q3:=bb.2.1 3 _ rfl
 have q4:=bb.2.1 4 _ rfl
 have q5:=bb.2.1 5 _ rfl
 have q6:=bb.2.1 6 _ rfl
 have q7:=bb.2.1 7 _ rfl
 have q8:=bb.2.1 8 _ rfl
 have q9:=bb.2.1 9 _ rfl
 have q10:=bb.2.1 10 _ rfl
 have q11:=bb.2.1 11 _ rfl
 have q12:=bb.2.1 12 _ rfl
 have L:=LL.out
 have P:=PP.out
 have HC3:=Hm (aaLimits_c a4 c4 x.tabs W3 L.2.2.2.1 (R4.out.up (up_below hb)))
 clear L P
 generalize ht3:x.tabs.all limB=t3 at HC3
 cases t3
 · have HX:Hid (wfB x=false):=by show _=_;rw [HW.out,ht3];rfl
   clear ht3 HW
   go_wp2_with fail
   refine HC3.out.mono ?_
   rintro e W9 ⟨rfl,hb0⟩
   have hb:=hb.trans (hb0.mono hb.size)
   clear hb0 bb HC3 q0 q1 q2 q3 q4 q5 q6 q7 q8 q9 q10 q11 q12
   go_wp2
   go_ret
   exact ⟨by rw [HX.out];rfl,hb⟩
 have HW2:Hid (wfB x=(x.mems.all limB&&(x.globs.all globB&&(x.exps.all expB&&(stB x.hasS x.start&&(x.elems.all eleB&&(x.codes.all codB&&(x.datas.all datB&&(decide (x.codes.length=x.funcs.length)&&(cusM x x.customs 0)))))))))):=by show _=_;rw [HW.out,ht3,Bool.true_and]
 clear ht3 HW
 go_wp2_with fail
 refine HC3.out.mono ?_
 rintro e W4 ⟨rfl,hb0⟩
 have bc:=bb.keep hb0
 have hb2:=hb.trans (hb0.mono hb.size)
 clear hb0 HC3 bb hb q0 q1 q2 q3 q4 q5 q6 q7 q8 q9 q10 q11 q12
 have bb:=bc
 have hb:=hb2
 have HW:=HW2
 clear bc hb2 HW2
 have q0:=bb.2.1 0 _ rfl
 have q1:=bb.2.1 1 _ rfl
 have q2:=bb.2.1 2 _ rfl
 have q3:=bb.2.1 3 _ rfl
 have q4:=bb.2.1 4 _ rfl
 have q5:=bb.2.1 5 _ rfl
 have q6:=bb.2.1 6 _ rfl
 have q7:=bb.2.1 7 _ rfl
 have q8:=bb.2.1 8 _ rfl
 have q9:=bb.2.1 9 _ rfl
 have q10:=bb.2.1 10 _ rfl
 have q11:=bb.2.1 11 _ rfl
 have q12:=bb.2.1 12 _ rfl
 have L:=LL.out
 have P:=PP.out
 have HC4:=Hm (aaLimits_c a5 c5 x.mems W4 L.2.2.2.2.1 (R5.out.up (up_below hb)))
 clear L P
 generalize ht4:x.mems.all limB=t4 at HC4
 cases t4
 · have HX:Hid (wfB x=false):=by show _=_;rw [HW.out,ht4];rfl
   clear ht4 HW
   go_wp2_with fail
   refine HC4.out.mono ?_
   rintro e W9 ⟨rfl,hb0⟩
   have hb:=hb.trans (hb0.mono hb.size)
   clear hb0 bb HC4 q0 q1 q2 q3 q4 q5 q6 q7 q8 q9 q10 q11 q12
   go_wp2
   go_ret
   exact ⟨by rw [HX.out];rfl,hb⟩
 have HW2:Hid (wfB x=(x.globs.all globB&&(x.exps.all expB&&(stB x.hasS x.start&&(x.elems.all eleB&&(x.codes.all codB&&(x.datas.all datB&&(decide (x.codes.length=x.funcs.length)&&(cusM x x.customs 0))))))))):=by show _=_;rw [HW.out,ht4,Bool.true_and]
 clear ht4 HW
 go_wp2_with fail
 refine HC4.out.mono ?_
 rintro e W5 ⟨rfl,hb0⟩
 have bc:=bb.keep hb0
 have hb2:=hb.trans (hb0.mono hb.size)
 clear hb0 HC4 bb hb q0 q1 q2 q3 q4 q5 q6 q7 q8 q9 q10 q11 q12
 have bb:=bc
 have hb:=hb2
 have HW:=HW2
 clear bc hb2 HW2
 have q0:=bb.2.1 0 _ rfl
 have q1:=bb.2.1 1 _ rfl
 have q2:=bb.2.1 2 _ rfl
 have q3:=bb.2.1 3 _ rfl
 have q4:=bb.2.1 4 _ rfl
 have q5:=bb.2.1 5 _ rfl
 have q6:=bb.2.1 6 _ rfl
 have q7:=bb.2.1 7 _ rfl
 have q8:=bb.2.1 8 _ rfl
 have q9:=bb.2.1 9 _ rfl
 have q10:=bb.2.1 10 _ rfl
 have q11:=bb.2.1 11 _ rfl
 have q12:=bb.2.1 12 _ rfl
 have L:=LL.out
 have P:=PP.out
 have HC5:=Hm (aaGlob_c a6 c6 x.globs W5 L.2.2.2.2.2.1 (R6.out.up (up_below hb)) P.1)
 clear L P
 generalize ht5:x.globs.all globB=t5 at HC5
 cases t5
 · have HX:Hid (wfB x=false):=by show _=_;rw [HW.out,ht5];rfl
   clear ht5 HW
   go_wp2_with fail
   refine HC5.out.mono ?_
   rintro e W9 ⟨rfl,hb0⟩
   have hb:=hb.trans (hb0.mono hb.size)
   clear hb0 bb HC5 q0 q1 q2 q3 q4 q5 q6 q7 q8 q9 q10 q11 q12
   go_wp2
   go_ret
   exact ⟨by rw [HX.out];rfl,hb⟩
 have HW2:Hid (wfB x=(x.exps.all expB&&(stB x.hasS x.start&&(x.elems.all eleB&&(x.codes.all codB&&(x.datas.all datB&&(decide (x.codes.length=x.funcs.length)&&(cusM x x.customs 0)))))))):=by show _=_;rw [HW.out,ht5,Bool.true_and]
 clear ht5 HW
 go_wp2_with fail
 refine HC5.out.mono ?_
 rintro e W6 ⟨rfl,hb0⟩
 have bc:=bb.keep hb0
 have hb2:=hb.trans (hb0.mono hb.size)
 clear hb0 HC5 bb hb q0 q1 q2 q3 q4 q5 q6 q7 q8 q9 q10 q11 q12
 have bb:=bc
 have hb:=hb2
 have HW:=HW2
 clear bc hb2 HW2
 have q0:=bb.2.1 0 _ rfl
 have q1:=bb.2.1 1 _ rfl
 have q2:=bb.2.1 2 _ rfl
 have q3:=bb.2.1 3 _ rfl
 have q4:=bb.2.1 4 _ rfl
 have q5:=bb.2.1 5 _ rfl
 have q6:=bb.2.1 6 _ rfl
 have q7:=bb.2.1 7 _ rfl
 have q8:=bb.2.1 8 _ rfl
 have q9:=bb.2.1 9 _ rfl
 have q10:=bb.2.1 10 _ rfl
 have q11:=bb.2.1 11 _ rfl
 have q12:=bb.2.1 12 _ rfl
 have L:=LL.out
 have P:=PP.out
 have HC6:=Hm (aaExp_c a7 c7 x.exps W6 L.2.2.2.2.2.2.1 (R7.out.up (up_below hb)))
 clear L P
 generalize ht6:x.exps.all expB=t6 at HC6
 cases t6
 · have HX:Hid (wfB x=false):=by show _=_;rw [HW.out,ht6];rfl
   clear ht6 HW
   go_wp2_with fail
   refine HC6.out.mono ?_
   rintro e W9 ⟨rfl,hb0⟩
   have hb:=hb.trans (hb0.mono hb.size)
   clear hb0 bb HC6 q0 q1 q2 q3 q4 q5 q6 q7 q8 q9 q10 q11 q12
   go_wp2
   go_ret
   exact ⟨by rw [HX.out];rfl,hb⟩
 have HW2:Hid (wfB x=(stB x.hasS x.start&&(x.elems.all eleB&&(x.codes.all codB&&(x.datas.all datB&&(decide (x.codes.length=x.funcs.length)&&(cusM x x.customs 0))))))):=by show _=_;rw [HW.out,ht6,Bool.true_and]
 clear ht6 HW
 go_wp2_with fail
 refine HC6.out.mono ?_
 rintro e W7 ⟨rfl,hb0⟩
 have bc:=bb.keep hb0
 have hb2:=hb.trans (hb0.mono hb.size)
 clear hb0 HC6 bb hb q0 q1 q2 q3 q4 q5 q6 q7 q8 q9 q10 q11 q12
 have bb:=bc
 have hb:=hb2
 have HW:=HW2
 clear bc hb2 HW2
 have q0:=bb.2.1 0 _ rfl
 have q1:=bb.2.1 1 _ rfl
 have q2:=bb.2.1 2 _ rfl
 have q3:=bb.2.1 3 _ rfl
 have q4:=bb.2.1 4 _ rfl
 have q5:=bb.2.1 5 _ rfl
 have q6:=bb.2.1 6 _ rfl
 have q7:=bb.2.1 7 _ rfl
 have q8:=bb.2.1 8 _ rfl
 have q9:=bb.2.1 9 _ rfl
 have q10:=bb.2.1 10 _ rfl
 have q11:=bb.2.1 11 _ rfl
 have q12:=bb.2.1 12 _ rfl
 have L:=LL.out
 have P:=PP.out
 have HC7:=Hm (same_below (istart_c x.hasS x.start W7))
 clear L P
 generalize ht7:stB x.hasS x.start=t7 at HC7
 cases t7
 · have HX:Hid (wfB x=false):=by show _=_;rw [HW.out,ht7];rfl
   clear ht7 HW
   go_wp2_with fail
   refine HC7.out.mono ?_
   rintro e W9 ⟨rfl,hb0⟩
   have hb:=hb.trans (hb0.mono hb.size)
   clear hb0 bb HC7 q0 q1 q2 q3 q4 q5 q6 q7 q8 q9 q10 q11 q12
   go_wp2
   go_ret
   exact ⟨by rw [HX.out];rfl,hb⟩
 have HW2:Hid (wfB x=(x.elems.all eleB&&(x.codes.all codB&&(x.datas.all datB&&(decide (x.codes.length=x.funcs.length)&&(cusM x x.customs 0)))))):=by show _=_;rw [HW.out,ht7,Bool.true_and]
 clear ht7 HW
 go_wp2_with fail
 refine HC7.out.mono ?_
 rintro e W8 ⟨rfl,hb0⟩
 have bc:=bb.keep hb0
 have hb2:=hb.trans (hb0.mono hb.size)
 clear hb0 HC7 bb hb q0 q1 q2 q3 q4 q5 q6 q7 q8 q9 q10 q11 q12
 have bb:=bc
 have hb:=hb2
 have HW:=HW2
 clear bc hb2 HW2
 have q0:=bb.2.1 0 _ rfl
 have q1:=bb.2.1 1 _ rfl
 have q2:=bb.2.1 2 _ rfl
 have q3:=bb.2.1 3 _ rfl
 have q4:=bb.2.1 4 _ rfl
 have q5:=bb.2.1 5 _ rfl
 have q6:=bb.2.1 6 _ rfl
 have q7:=bb.2.1 7 _ rfl
 have q8:=bb.2.1 8 _ rfl
 have q9:=bb.2.1 9 _ rfl
 have q10:=bb.2.1 10 _ rfl
 have q11:=bb.2.1 11 _ rfl
 have q12:=bb.2.1 12 _ rfl
 have L:=LL.out
 have P:=PP.out
 have HC8:=Hm (aaEle_c a8 c8 x.elems W8 L.2.2.2.2.2.2.2.1 (R8.out.up (up_below hb)) P.2.1)
 clear L P
 generalize ht8:x.elems.all eleB=t8 at HC8
 cases t8
 · have HX:Hid (wfB x=false):=by show _=_;rw [HW.out,ht8];rfl
   clear ht8 HW
   go_wp2_with fail
   refine HC8.out.mono ?_
   rintro e W9 ⟨rfl,hb0⟩
   have hb:=hb.trans (hb0.mono hb.size)
   clear hb0 bb HC8 q0 q1 q2 q3 q4 q5 q6 q7 q8 q9 q10 q11 q12
   go_wp2
   go_ret
   exact ⟨by rw [HX.out];rfl,hb⟩
 have HW2:Hid (wfB x=(x.codes.all codB&&(x.datas.all datB&&(decide (x.codes.length=x.funcs.length)&&(cusM x x.customs 0))))):=by show _=_;rw [HW.out,ht8,Bool.true_and]
 clear ht8 HW
 go_wp2_with fail
 refine HC8.out.mono ?_
 rintro e W9 ⟨rfl,hb0⟩
 have bc:=bb.keep hb0
 have hb2:=hb.trans (hb0.mono hb.size)
 clear hb0 HC8 bb hb q0 q1 q2 q3 q4 q5 q6 q7 q8 q9 q10 q11 q12
 have bb:=bc
 have hb:=hb2
 have HW:=HW2
 clear bc hb2 HW2
 have q0:=bb.2.1 0 _ rfl
 have q1:=bb.2.1 1 _ rfl
 have q2:=bb.2.1 2 _ rfl
 have q3:=bb.2.1 3 _ rfl
 have q4:=bb.2.1 4 _ rfl
 have q5:=bb.2.1 5 _ rfl
 have q6:=bb.2.1 6 _ rfl
 have q7:=bb.2.1 7 _ rfl
 have q8:=bb.2.1 8 _ rfl
 have q9:=bb.2.1 9 _ rfl
 have q10:=bb.2.1 10 _ rfl
 have q11:=bb.2.1 11 _ rfl
 have q12:=bb.2.1 12 _ rfl
 have L:=LL.out
 have P:=PP.out
 have HC9:=Hm (aaCod_c a9 c9 x.codes W9 L.2.2.2.2.2.2.2.2.1 (R9.out.up (up_below hb)) P.2.2.1)
 clear L P
 generalize ht9:x.codes.all codB=t9 at HC9
 cases t9
 · have HX:Hid (wfB x=false):=by show _=_;rw [HW.out,ht9];rfl
   clear ht9 HW
   go_wp2_with fail
   refine HC9.out.mono ?_
   rintro e W9 ⟨rfl,hb0⟩
   have hb:=hb.trans (hb0.mono hb.size)
   clear hb0 bb HC9 q0 q1 q2 q3 q4 q5 q6 q7 q8 q9 q10 q11 q12
   go_wp2
   go_ret
   exact ⟨by rw [HX.out];rfl,hb⟩
 have HW2:Hid (wfB x=(x.datas.all datB&&(decide (x.codes.length=x.funcs.length)&&(cusM x x.customs 0)))):=by show _=_;rw [HW.out,ht9,Bool.true_and]
 clear ht9 HW
 go_wp2_with fail
 refine HC9.out.mono ?_
 rintro e W10 ⟨rfl,hb0⟩
 have bc:=bb.keep hb0
 have hb2:=hb.trans (hb0.mono hb.size)
 clear hb0 HC9 bb hb q0 q1 q2 q3 q4 q5 q6 q7 q8 q9 q10 q11 q12
 have bb:=bc
 have hb:=hb2
 have HW:=HW2
 clear bc hb2 HW2
 have q0:=bb.2.1 0 _ rfl
 have q1:=bb.2.1 1 _ rfl
 have q2:=bb.2.1 2 _ rfl
 have q3:=bb.2.1 3 _ rfl
 have q4:=bb.2.1 4 _ rfl
 have q5:=bb.2.1 5 _ rfl
 have q6:=bb.2.1 6 _ rfl
 have q7:=bb.2.1 7 _ rfl
 have q8:=bb.2.1 8 _ rfl
 have q9:=bb.2.1 9 _ rfl
 have q10:=bb.2.1 10 _ rfl
 have q11:=bb.2.1 11 _ rfl
 have q12:=bb.2.1 12 _ rfl
 have L:=LL.out
 have P:=PP.out
 have HC10:=Hm (aaDat_c a10 c10 x.datas W10 L.2.2.2.2.2.2.2.2.2.1 (R10.out.up (up_below hb)) P.2.2.2)
 clear L P
 generalize ht10:x.datas.all datB=t10 at HC10
 cases t10
 · have HX:Hid (wfB x=false):=by show _=_;rw [HW.out,ht10];rfl
   clear ht10 HW
   go_wp2_with fail
   refine HC10.out.mono ?_
   rintro e W9 ⟨rfl,hb0⟩
   have hb:=hb.trans (hb0.mono hb.size)
   clear hb0 bb HC10 q0 q1 q2 q3 q4 q5 q6 q7 q8 q9 q10 q11 q12
   go_wp2
   go_ret
   exact ⟨by rw [HX.out];rfl,hb⟩
 have HW2:Hid (wfB x=(decide (x.codes.length=x.funcs.length)&&(cusM x x.customs 0))):=by show _=_;rw [HW.out,ht10,Bool.true_and]
 clear ht10 HW
 go_wp2_with fail
 refine HC10.out.mono ?_
 rintro e W11 ⟨rfl,hb0⟩
 have bc:=bb.keep hb0
 have hb2:=hb.trans (hb0.mono hb.size)
 clear hb0 HC10 bb hb q0 q1 q2 q3 q4 q5 q6 q7 q8 q9 q10 q11 q12
 have bb:=bc
 have hb:=hb2
 have HW:=HW2
 clear bc hb2 HW2
 have q0:=bb.2.1 0 _ rfl
 have q1:=bb.2.1 1 _ rfl
 have q2:=bb.2.1 2 _ rfl
 have q3:=bb.2.1 3 _ rfl
 have q4:=bb.2.1 4 _ rfl
 have q5:=bb.2.1 5 _ rfl
 have q6:=bb.2.1 6 _ rfl
 have q7:=bb.2.1 7 _ rfl
 have q8:=bb.2.1 8 _ rfl
 have q9:=bb.2.1 9 _ rfl
 have q10:=bb.2.1 10 _ rfl
 have q11:=bb.2.1 11 _ rfl
 have q12:=bb.2.1 12 _ rfl
 by_cases ht11:x.codes.length=x.funcs.length
 case neg =>
  have HX11:Hid (wfB x=false):=by show _=_;rw [HW.out];simp [ht11]
  have hn:¬ ((x.codes.length:Int)=(x.funcs.length:Int)):=by omega
  have hn1:((x.codes.length:Int)==(x.funcs.length:Int))=false:=by simpa using hn
  clear ht11 bb
  go_wp2
  go_ret
  exact ⟨by rw [HX11.out];rfl,hb⟩
 have HW:Hid (wfB x=(cusM x x.customs 0)):=by show _=_;rw [HW.out];simp [ht11]
 have hn1:((x.codes.length:Int)==(x.funcs.length:Int))=true:=by simp [ht11]
 have hn2:decide ((x.codes.length:Int)=(x.funcs.length:Int))=true:=by simp [ht11]
 clear ht11
 have L:=LL.out
 have P:=PP.out
 have HC12:=Hm (icus_c x a1 c1 a2 c2 a3 c3 a4 c4 a5 c5 a6 c6 a7 c7 a8 c8 a9 c9 a10 c10 a11 c11 W11 (R11.out.up (up_below hb)) (modLn L) L.2.2.2.2.2.2.2.2.2.2.2)
 clear L P
 generalize ht12:cusM x x.customs 0=t12 at HC12
 have HX:Hid (wfB x=t12):=by show _=_;rw [HW.out,ht12]
 clear ht12 HW
 go_wp2_with fail
 with_reducible refine HC12.out.mono ?_
 rintro e W9 ⟨rfl,hb0⟩
 have hb:=hb.trans (hb0.mono hb.size)
 clear hb0 bb HC12 q0 q1 q2 q3 q4 q5 q6 q7 q8 q9 q10 q11 q12
 go_wp2
 go_ret
 exact ⟨by rw [HX.out];rfl,hb⟩
end Go.Proofs.YtdbmolambolmgaaGreat
