import Derived.Test.YtdbmolambolmgaaGreatHy
import Derived.Test.YtdbmolambolmgaaGreatHz
import Derived.Deep.RegionWith
import Derived.Deep.CutRange
set_option linter.all false
set_option maxHeartbeats 16000000
set_option maxRecDepth 100000
namespace Go.Proofs.YtdbmolambolmgaaGreat
open Go.RowKit Go.Sort
set_option maxRecDepth 100000
theorem reMod_c (x:Mod) (a1:Option Addr) (c1:Nat) (a2:Option Addr) (c2:Nat) (a3:Option Addr) (c3:Nat) (a4:Option Addr) (c4:Nat) (a5:Option Addr) (c5:Nat) (a6:Option Addr) (c6:Nat) (a7:Option Addr) (c7:Nat) (a8:Option Addr) (c8:Nat) (a9:Option Addr) (c9:Nat) (a10:Option Addr) (c10:Nat) (a11:Option Addr) (c11:Nat) (a1':Option Addr) (c1':Nat) (a2':Option Addr) (c2':Nat) (a3':Option Addr) (c3':Nat) (a4':Option Addr) (c4':Nat) (a5':Option Addr) (c5':Nat) (a6':Option Addr) (c6':Nat) (a7':Option Addr) (c7':Nat) (a8':Option Addr) (c8':Nat) (a9':Option Addr) (c9':Nat) (a10':Option Addr) (c10':Nat) (a11':Option Addr) (c11':Nat) (w:World) (hI:Mod.Is 0 w x a1 a2 a3 a4 a5 a6 a7 a8 a9 a10 a11) (hI':Mod.Is 0 w x a1' a2' a3' a4' a5' a6' a7' a8' a9' a10' a11') (hl:Mod.LB 1048576 x) :
    Calls Tryz.prog 10 #[.agg #[.slice a1 x.types.length c1,.slice a2 x.imps.length c2,.slice a3 x.funcs.length c3,.slice a4 x.tabs.length c4,.slice a5 x.mems.length c5,.slice a6 x.globs.length c6,.slice a7 x.exps.length c7,.bool x.hasS,.int .i64 x.start,.slice a8 x.elems.length c8,.slice a9 x.codes.length c9,.slice a10 x.datas.length c10,.slice a11 x.customs.length c11],.agg #[.slice a1' x.types.length c1',.slice a2' x.imps.length c2',.slice a3' x.funcs.length c3',.slice a4' x.tabs.length c4',.slice a5' x.mems.length c5',.slice a6' x.globs.length c6',.slice a7' x.exps.length c7',.bool x.hasS,.int .i64 x.start,.slice a8' x.elems.length c8',.slice a9' x.codes.length c9',.slice a10' x.datas.length c10',.slice a11' x.customs.length c11']] w fun e w'=>e=.returned (.bool true)∧Below w.heap.size w w':=by
 obtain ⟨l0,l1,l2,l3,l4,l5,l6,l9,l10,l11,l12⟩:=hl
 obtain ⟨r1,r2,r3,r4,r5,r6,r7,r8,r9,r10,r11⟩:=hI
 have R1:=Hm r1
 have R2:=Hm r2
 have R3:=Hm r3
 have R4:=Hm r4
 have R5:=Hm r5
 have R6:=Hm r6
 have R7:=Hm r7
 have R8:=Hm r8
 have R9:=Hm r9
 have R10:=Hm r10
 have R11:=Hm r11
 clear r1 r2 r3 r4 r5 r6 r7 r8 r9 r10 r11
 obtain ⟨r1',r2',r3',r4',r5',r6',r7',r8',r9',r10',r11'⟩:=hI'
 have R1':=Hm r1'
 have R2':=Hm r2'
 have R3':=Hm r3'
 have R4':=Hm r4'
 have R5':=Hm r5'
 have R6':=Hm r6'
 have R7':=Hm r7'
 have R8':=Hm r8'
 have R9':=Hm r9'
 have R10':=Hm r10'
 have R11':=Hm r11'
 clear r1' r2' r3' r4' r5' r6' r7' r8' r9' r10' r11'
 have T0:Hid (Bk ((w.alloc (.cells #[.slice a1 x.types.length c1,.slice a2 x.imps.length c2,.slice a3 x.funcs.length c3,.slice a4 x.tabs.length c4,.slice a5 x.mems.length c5,.slice a6 x.globs.length c6,.slice a7 x.exps.length c7,.bool x.hasS,.int .i64 x.start,.slice a8 x.elems.length c8,.slice a9 x.codes.length c9,.slice a10 x.datas.length c10,.slice a11 x.customs.length c11] 46)).alloc (.cells #[.slice a1' x.types.length c1',.slice a2' x.imps.length c2',.slice a3' x.funcs.length c3',.slice a4' x.tabs.length c4',.slice a5' x.mems.length c5',.slice a6' x.globs.length c6',.slice a7' x.exps.length c7',.bool x.hasS,.int .i64 x.start,.slice a8' x.elems.length c8',.slice a9' x.codes.length c9',.slice a10' x.datas.length c10',.slice a11' x.customs.length c11'] 46)) w.heap.size [.slice a1 x.types.length c1,.slice a2 x.imps.length c2,.slice a3 x.funcs.length c3,.slice a4 x.tabs.length c4,.slice a5 x.mems.length c5,.slice a6 x.globs.length c6,.slice a7 x.exps.length c7,.bool x.hasS,.int .i64 x.start,.slice a8 x.elems.length c8,.slice a9 x.codes.length c9,.slice a10 x.datas.length c10,.slice a11 x.customs.length c11]∧Bk ((w.alloc (.cells #[.slice a1 x.types.length c1,.slice a2 x.imps.length c2,.slice a3 x.funcs.length c3,.slice a4 x.tabs.length c4,.slice a5 x.mems.length c5,.slice a6 x.globs.length c6,.slice a7 x.exps.length c7,.bool x.hasS,.int .i64 x.start,.slice a8 x.elems.length c8,.slice a9 x.codes.length c9,.slice a10 x.datas.length c10,.slice a11 x.customs.length c11] 46)).alloc (.cells #[.slice a1' x.types.length c1',.slice a2' x.imps.length c2',.slice a3' x.funcs.length c3',.slice a4' x.tabs.length c4',.slice a5' x.mems.length c5',.slice a6' x.globs.length c6',.slice a7' x.exps.length c7',.bool x.hasS,.int .i64 x.start,.slice a8' x.elems.length c8',.slice a9' x.codes.length c9',.slice a10' x.datas.length c10',.slice a11' x.customs.length c11'] 46)) (w.heap.size+1) [.slice a1' x.types.length c1',.slice a2' x.imps.length c2',.slice a3' x.funcs.length c3',.slice a4' x.tabs.length c4',.slice a5' x.mems.length c5',.slice a6' x.globs.length c6',.slice a7' x.exps.length c7',.bool x.hasS,.int .i64 x.start,.slice a8' x.elems.length c8',.slice a9' x.codes.length c9',.slice a10' x.datas.length c10',.slice a11' x.customs.length c11']∧Below w.heap.size w ((w.alloc (.cells #[.slice a1 x.types.length c1,.slice a2 x.imps.length c2,.slice a3 x.funcs.length c3,.slice a4 x.tabs.length c4,.slice a5 x.mems.length c5,.slice a6 x.globs.length c6,.slice a7 x.exps.length c7,.bool x.hasS,.int .i64 x.start,.slice a8 x.elems.length c8,.slice a9 x.codes.length c9,.slice a10 x.datas.length c10,.slice a11 x.customs.length c11] 46)).alloc (.cells #[.slice a1' x.types.length c1',.slice a2' x.imps.length c2',.slice a3' x.funcs.length c3',.slice a4' x.tabs.length c4',.slice a5' x.mems.length c5',.slice a6' x.globs.length c6',.slice a7' x.exps.length c7',.bool x.hasS,.int .i64 x.start,.slice a8' x.elems.length c8',.slice a9' x.codes.length c9',.slice a10' x.datas.length c10',.slice a11' x.customs.length c11'] 46))):=two w [.slice a1 x.types.length c1,.slice a2 x.imps.length c2,.slice a3 x.funcs.length c3,.slice a4 x.tabs.length c4,.slice a5 x.mems.length c5,.slice a6 x.globs.length c6,.slice a7 x.exps.length c7,.bool x.hasS,.int .i64 x.start,.slice a8 x.elems.length c8,.slice a9 x.codes.length c9,.slice a10 x.datas.length c10,.slice a11 x.customs.length c11] [.slice a1' x.types.length c1',.slice a2' x.imps.length c2',.slice a3' x.funcs.length c3',.slice a4' x.tabs.length c4',.slice a5' x.mems.length c5',.slice a6' x.globs.length c6',.slice a7' x.exps.length c7',.bool x.hasS,.int .i64 x.start,.slice a8' x.elems.length c8',.slice a9' x.codes.length c9',.slice a10' x.datas.length c10',.slice a11' x.customs.length c11'] 46 46
 go_enter Tryz.func10,Tryz.ntmps10
 go_upto_region 1 with fail
 refine wp_gen (fun W=>Bk W w.heap.size [.slice a1 x.types.length c1,.slice a2 x.imps.length c2,.slice a3 x.funcs.length c3,.slice a4 x.tabs.length c4,.slice a5 x.mems.length c5,.slice a6 x.globs.length c6,.slice a7 x.exps.length c7,.bool x.hasS,.int .i64 x.start,.slice a8 x.elems.length c8,.slice a9 x.codes.length c9,.slice a10 x.datas.length c10,.slice a11 x.customs.length c11]∧Bk W (w.heap.size+1) [.slice a1' x.types.length c1',.slice a2' x.imps.length c2',.slice a3' x.funcs.length c3',.slice a4' x.tabs.length c4',.slice a5' x.mems.length c5',.slice a6' x.globs.length c6',.slice a7' x.exps.length c7',.bool x.hasS,.int .i64 x.start,.slice a8' x.elems.length c8',.slice a9' x.codes.length c9',.slice a10' x.datas.length c10',.slice a11' x.customs.length c11']∧Below w.heap.size w W) T0.out ?_
 rintro W ⟨bb,bp,hb⟩
 clear T0
 have q0:=bb.2.1 0 _ rfl
 have p0:=bp.2.1 0 _ rfl
 have q1:=bb.2.1 1 _ rfl
 have p1:=bp.2.1 1 _ rfl
 have q2:=bb.2.1 2 _ rfl
 have p2:=bp.2.1 2 _ rfl
 have q3:=bb.2.1 3 _ rfl
 have p3:=bp.2.1 3 _ rfl
 have q4:=bb.2.1 4 _ rfl
 have p4:=bp.2.1 4 _ rfl
 have q5:=bb.2.1 5 _ rfl
 have p5:=bp.2.1 5 _ rfl
 have q6:=bb.2.1 6 _ rfl
 have p6:=bp.2.1 6 _ rfl
 have q7:=bb.2.1 7 _ rfl
 have p7:=bp.2.1 7 _ rfl
 have q8:=bb.2.1 8 _ rfl
 have p8:=bp.2.1 8 _ rfl
 have q9:=bb.2.1 9 _ rfl
 have p9:=bp.2.1 9 _ rfl
 have q10:=bb.2.1 10 _ rfl
 have p10:=bp.2.1 10 _ rfl
 have q11:=bb.2.1 11 _ rfl
 have p11:=bp.2.1 11 _ rfl
 have q12:=bb.2.1 12 _ rfl
 have p12:=bp.2.1 12 _ rfl
 have HC1:=Hm (reFTypes_c a1 a1' c1 c1' x.types W l0 (R1.out.up (up_below hb)) (R1'.out.up (up_below hb)))
 go_wp2_with fail
 refine HC1.out.mono ?_
 rintro e W1 ⟨rfl,hb1⟩
 have bb:=bb.keep hb1
 have bp:=bp.keep hb1
 have hb:=hb.trans (hb1.mono hb.size)
 clear HC1 hb1
 have q0:=bb.2.1 0 _ rfl
 have p0:=bp.2.1 0 _ rfl
 have q1:=bb.2.1 1 _ rfl
 have p1:=bp.2.1 1 _ rfl
 have q2:=bb.2.1 2 _ rfl
 have p2:=bp.2.1 2 _ rfl
 have q3:=bb.2.1 3 _ rfl
 have p3:=bp.2.1 3 _ rfl
 have q4:=bb.2.1 4 _ rfl
 have p4:=bp.2.1 4 _ rfl
 have q5:=bb.2.1 5 _ rfl
 have p5:=bp.2.1 5 _ rfl
 have q6:=bb.2.1 6 _ rfl
 have p6:=bp.2.1 6 _ rfl
 have q7:=bb.2.1 7 _ rfl
 have p7:=bp.2.1 7 _ rfl
 have q8:=bb.2.1 8 _ rfl
 have p8:=bp.2.1 8 _ rfl
 have q9:=bb.2.1 9 _ rfl
 have p9:=bp.2.1 9 _ rfl
 have q10:=bb.2.1 10 _ rfl
 have p10:=bp.2.1 10 _ rfl
 have q11:=bb.2.1 11 _ rfl
 have p11:=bp.2.1 11 _ rfl
 have q12:=bb.2.1 12 _ rfl
 have p12:=bp.2.1 12 _ rfl
 have HC2:=Hm (reImps_c a2 a2' c2 c2' x.imps W1 l1 (R2.out.up (up_below hb)) (R2'.out.up (up_below hb)))
 go_wp2_with fail
 refine HC2.out.mono ?_
 rintro e W2 ⟨rfl,hb2⟩
 have bb:=bb.keep hb2
 have bp:=bp.keep hb2
 have hb:=hb.trans (hb2.mono hb.size)
 clear HC2 hb2
 have q0:=bb.2.1 0 _ rfl
 have p0:=bp.2.1 0 _ rfl
 have q1:=bb.2.1 1 _ rfl
 have p1:=bp.2.1 1 _ rfl
 have q2:=bb.2.1 2 _ rfl
 have p2:=bp.2.1 2 _ rfl
 have q3:=bb.2.1 3 _ rfl
 have p3:=bp.2.1 3 _ rfl
 have q4:=bb.2.1 4 _ rfl
 have p4:=bp.2.1 4 _ rfl
 have q5:=bb.2.1 5 _ rfl
 have p5:=bp.2.1 5 _ rfl
 have q6:=bb.2.1 6 _ rfl
 have p6:=bp.2.1 6 _ rfl
 have q7:=bb.2.1 7 _ rfl
 have p7:=bp.2.1 7 _ rfl
 have q8:=bb.2.1 8 _ rfl
 have p8:=bp.2.1 8 _ rfl
 have q9:=bb.2.1 9 _ rfl
 have p9:=bp.2.1 9 _ rfl
 have q10:=bb.2.1 10 _ rfl
 have p10:=bp.2.1 10 _ rfl
 have q11:=bb.2.1 11 _ rfl
 have p11:=bp.2.1 11 _ rfl
 have q12:=bb.2.1 12 _ rfl
 have p12:=bp.2.1 12 _ rfl
 have HC3:=Hm (eq_any a3 a3' c3 c3' x.funcs W2 (by omega) (R3.out.up (up_below hb)).has (R3'.out.up (up_below hb)).has)
 go_wp2_with fail
 refine HC3.out.mono ?_
 rintro e W3 ⟨rfl,nd3,hd3⟩
 have hb3:Below W2.heap.size W2 W3:=by rw [hd3];exact below_drewN' (Below.refl _ _) _
 clear hd3
 have bb:=bb.keep hb3
 have bp:=bp.keep hb3
 have hb:=hb.trans (hb3.mono hb.size)
 clear HC3 hb3
 have q0:=bb.2.1 0 _ rfl
 have p0:=bp.2.1 0 _ rfl
 have q1:=bb.2.1 1 _ rfl
 have p1:=bp.2.1 1 _ rfl
 have q2:=bb.2.1 2 _ rfl
 have p2:=bp.2.1 2 _ rfl
 have q3:=bb.2.1 3 _ rfl
 have p3:=bp.2.1 3 _ rfl
 have q4:=bb.2.1 4 _ rfl
 have p4:=bp.2.1 4 _ rfl
 have q5:=bb.2.1 5 _ rfl
 have p5:=bp.2.1 5 _ rfl
 have q6:=bb.2.1 6 _ rfl
 have p6:=bp.2.1 6 _ rfl
 have q7:=bb.2.1 7 _ rfl
 have p7:=bp.2.1 7 _ rfl
 have q8:=bb.2.1 8 _ rfl
 have p8:=bp.2.1 8 _ rfl
 have q9:=bb.2.1 9 _ rfl
 have p9:=bp.2.1 9 _ rfl
 have q10:=bb.2.1 10 _ rfl
 have p10:=bp.2.1 10 _ rfl
 have q11:=bb.2.1 11 _ rfl
 have p11:=bp.2.1 11 _ rfl
 have q12:=bb.2.1 12 _ rfl
 have p12:=bp.2.1 12 _ rfl
 have HC4:=Hm (reLimitss_c a4 a4' c4 c4' x.tabs W3 l3 (R4.out.up (up_below hb)) (R4'.out.up (up_below hb)))
 go_wp2_with fail
 refine HC4.out.mono ?_
 rintro e W4 ⟨rfl,hb4⟩
 have bb:=bb.keep hb4
 have bp:=bp.keep hb4
 have hb:=hb.trans (hb4.mono hb.size)
 clear HC4 hb4
 have q0:=bb.2.1 0 _ rfl
 have p0:=bp.2.1 0 _ rfl
 have q1:=bb.2.1 1 _ rfl
 have p1:=bp.2.1 1 _ rfl
 have q2:=bb.2.1 2 _ rfl
 have p2:=bp.2.1 2 _ rfl
 have q3:=bb.2.1 3 _ rfl
 have p3:=bp.2.1 3 _ rfl
 have q4:=bb.2.1 4 _ rfl
 have p4:=bp.2.1 4 _ rfl
 have q5:=bb.2.1 5 _ rfl
 have p5:=bp.2.1 5 _ rfl
 have q6:=bb.2.1 6 _ rfl
 have p6:=bp.2.1 6 _ rfl
 have q7:=bb.2.1 7 _ rfl
 have p7:=bp.2.1 7 _ rfl
 have q8:=bb.2.1 8 _ rfl
 have p8:=bp.2.1 8 _ rfl
 have q9:=bb.2.1 9 _ rfl
 have p9:=bp.2.1 9 _ rfl
 have q10:=bb.2.1 10 _ rfl
 have p10:=bp.2.1 10 _ rfl
 have q11:=bb.2.1 11 _ rfl
 have p11:=bp.2.1 11 _ rfl
 have q12:=bb.2.1 12 _ rfl
 have p12:=bp.2.1 12 _ rfl
 have HC5:=Hm (reLimitss_c a5 a5' c5 c5' x.mems W4 l4 (R5.out.up (up_below hb)) (R5'.out.up (up_below hb)))
 go_wp2_with fail
 refine HC5.out.mono ?_
 rintro e W5 ⟨rfl,hb5⟩
 have bb:=bb.keep hb5
 have bp:=bp.keep hb5
 have hb:=hb.trans (hb5.mono hb.size)
 clear HC5 hb5
 have q0:=bb.2.1 0 _ rfl
 have p0:=bp.2.1 0 _ rfl
 have q1:=bb.2.1 1 _ rfl
 have p1:=bp.2.1 1 _ rfl
 have q2:=bb.2.1 2 _ rfl
 have p2:=bp.2.1 2 _ rfl
 have q3:=bb.2.1 3 _ rfl
 have p3:=bp.2.1 3 _ rfl
 have q4:=bb.2.1 4 _ rfl
 have p4:=bp.2.1 4 _ rfl
 have q5:=bb.2.1 5 _ rfl
 have p5:=bp.2.1 5 _ rfl
 have q6:=bb.2.1 6 _ rfl
 have p6:=bp.2.1 6 _ rfl
 have q7:=bb.2.1 7 _ rfl
 have p7:=bp.2.1 7 _ rfl
 have q8:=bb.2.1 8 _ rfl
 have p8:=bp.2.1 8 _ rfl
 have q9:=bb.2.1 9 _ rfl
 have p9:=bp.2.1 9 _ rfl
 have q10:=bb.2.1 10 _ rfl
 have p10:=bp.2.1 10 _ rfl
 have q11:=bb.2.1 11 _ rfl
 have p11:=bp.2.1 11 _ rfl
 have q12:=bb.2.1 12 _ rfl
 have p12:=bp.2.1 12 _ rfl
 have HC6:=Hm (reGlobs_c a6 a6' c6 c6' x.globs W5 l5 (R6.out.up (up_below hb)) (R6'.out.up (up_below hb)))
 go_wp2_with fail
 refine HC6.out.mono ?_
 rintro e W6 ⟨rfl,hb6⟩
 have bb:=bb.keep hb6
 have bp:=bp.keep hb6
 have hb:=hb.trans (hb6.mono hb.size)
 clear HC6 hb6
 have q0:=bb.2.1 0 _ rfl
 have p0:=bp.2.1 0 _ rfl
 have q1:=bb.2.1 1 _ rfl
 have p1:=bp.2.1 1 _ rfl
 have q2:=bb.2.1 2 _ rfl
 have p2:=bp.2.1 2 _ rfl
 have q3:=bb.2.1 3 _ rfl
 have p3:=bp.2.1 3 _ rfl
 have q4:=bb.2.1 4 _ rfl
 have p4:=bp.2.1 4 _ rfl
 have q5:=bb.2.1 5 _ rfl
 have p5:=bp.2.1 5 _ rfl
 have q6:=bb.2.1 6 _ rfl
 have p6:=bp.2.1 6 _ rfl
 have q7:=bb.2.1 7 _ rfl
 have p7:=bp.2.1 7 _ rfl
 have q8:=bb.2.1 8 _ rfl
 have p8:=bp.2.1 8 _ rfl
 have q9:=bb.2.1 9 _ rfl
 have p9:=bp.2.1 9 _ rfl
 have q10:=bb.2.1 10 _ rfl
 have p10:=bp.2.1 10 _ rfl
 have q11:=bb.2.1 11 _ rfl
 have p11:=bp.2.1 11 _ rfl
 have q12:=bb.2.1 12 _ rfl
 have p12:=bp.2.1 12 _ rfl
 have HC7:=Hm (reExps_c a7 a7' c7 c7' x.exps W6 l6 (R7.out.up (up_below hb)) (R7'.out.up (up_below hb)))
 go_wp2_with fail
 refine HC7.out.mono ?_
 rintro e W7 ⟨rfl,hb7⟩
 have bb:=bb.keep hb7
 have bp:=bp.keep hb7
 have hb:=hb.trans (hb7.mono hb.size)
 clear HC7 hb7
 have q0:=bb.2.1 0 _ rfl
 have p0:=bp.2.1 0 _ rfl
 have q1:=bb.2.1 1 _ rfl
 have p1:=bp.2.1 1 _ rfl
 have q2:=bb.2.1 2 _ rfl
 have p2:=bp.2.1 2 _ rfl
 have q3:=bb.2.1 3 _ rfl
 have p3:=bp.2.1 3 _ rfl
 have q4:=bb.2.1 4 _ rfl
 have p4:=bp.2.1 4 _ rfl
 have q5:=bb.2.1 5 _ rfl
 have p5:=bp.2.1 5 _ rfl
 have q6:=bb.2.1 6 _ rfl
 have p6:=bp.2.1 6 _ rfl
 have q7:=bb.2.1 7 _ rfl
 have p7:=bp.2.1 7 _ rfl
 have q8:=bb.2.1 8 _ rfl
 have p8:=bp.2.1 8 _ rfl
 have q9:=bb.2.1 9 _ rfl
 have p9:=bp.2.1 9 _ rfl
 have q10:=bb.2.1 10 _ rfl
 have p10:=bp.2.1 10 _ rfl
 have q11:=bb.2.1 11 _ rfl
 have p11:=bp.2.1 11 _ rfl
 have q12:=bb.2.1 12 _ rfl
 have p12:=bp.2.1 12 _ rfl
 have HC8:=Hm (reEles_c a8 a8' c8 c8' x.elems W7 l9 (R8.out.up (up_below hb)) (R8'.out.up (up_below hb)))
 go_wp2_with fail
 refine HC8.out.mono ?_
 rintro e W8 ⟨rfl,hb8⟩
 have bb:=bb.keep hb8
 have bp:=bp.keep hb8
 have hb:=hb.trans (hb8.mono hb.size)
 clear HC8 hb8
 have q0:=bb.2.1 0 _ rfl
 have p0:=bp.2.1 0 _ rfl
 have q1:=bb.2.1 1 _ rfl
 have p1:=bp.2.1 1 _ rfl
 have q2:=bb.2.1 2 _ rfl
 have p2:=bp.2.1 2 _ rfl
 have q3:=bb.2.1 3 _ rfl
 have p3:=bp.2.1 3 _ rfl
 have q4:=bb.2.1 4 _ rfl
 have p4:=bp.2.1 4 _ rfl
 have q5:=bb.2.1 5 _ rfl
 have p5:=bp.2.1 5 _ rfl
 have q6:=bb.2.1 6 _ rfl
 have p6:=bp.2.1 6 _ rfl
 have q7:=bb.2.1 7 _ rfl
 have p7:=bp.2.1 7 _ rfl
 have q8:=bb.2.1 8 _ rfl
 have p8:=bp.2.1 8 _ rfl
 have q9:=bb.2.1 9 _ rfl
 have p9:=bp.2.1 9 _ rfl
 have q10:=bb.2.1 10 _ rfl
 have p10:=bp.2.1 10 _ rfl
 have q11:=bb.2.1 11 _ rfl
 have p11:=bp.2.1 11 _ rfl
 have q12:=bb.2.1 12 _ rfl
 have p12:=bp.2.1 12 _ rfl
 have HC9:=Hm (reCods_c a9 a9' c9 c9' x.codes W8 l10 (R9.out.up (up_below hb)) (R9'.out.up (up_below hb)))
 go_wp2_with fail
 refine HC9.out.mono ?_
 rintro e W9 ⟨rfl,hb9⟩
 have bb:=bb.keep hb9
 have bp:=bp.keep hb9
 have hb:=hb.trans (hb9.mono hb.size)
 clear HC9 hb9
 have q0:=bb.2.1 0 _ rfl
 have p0:=bp.2.1 0 _ rfl
 have q1:=bb.2.1 1 _ rfl
 have p1:=bp.2.1 1 _ rfl
 have q2:=bb.2.1 2 _ rfl
 have p2:=bp.2.1 2 _ rfl
 have q3:=bb.2.1 3 _ rfl
 have p3:=bp.2.1 3 _ rfl
 have q4:=bb.2.1 4 _ rfl
 have p4:=bp.2.1 4 _ rfl
 have q5:=bb.2.1 5 _ rfl
 have p5:=bp.2.1 5 _ rfl
 have q6:=bb.2.1 6 _ rfl
 have p6:=bp.2.1 6 _ rfl
 have q7:=bb.2.1 7 _ rfl
 have p7:=bp.2.1 7 _ rfl
 have q8:=bb.2.1 8 _ rfl
 have p8:=bp.2.1 8 _ rfl
 have q9:=bb.2.1 9 _ rfl
 have p9:=bp.2.1 9 _ rfl
 have q10:=bb.2.1 10 _ rfl
 have p10:=bp.2.1 10 _ rfl
 have q11:=bb.2.1 11 _ rfl
 have p11:=bp.2.1 11 _ rfl
 have q12:=bb.2.1 12 _ rfl
 have p12:=bp.2.1 12 _ rfl
 have HC10:=Hm (reDats_c a10 a10' c10 c10' x.datas W9 l11 (R10.out.up (up_below hb)) (R10'.out.up (up_below hb)))
 go_wp2_with fail
 refine HC10.out.mono ?_
 rintro e W10 ⟨rfl,hb10⟩
 have bb:=bb.keep hb10
 have bp:=bp.keep hb10
 have hb:=hb.trans (hb10.mono hb.size)
 clear HC10 hb10
 have q0:=bb.2.1 0 _ rfl
 have p0:=bp.2.1 0 _ rfl
 have q1:=bb.2.1 1 _ rfl
 have p1:=bp.2.1 1 _ rfl
 have q2:=bb.2.1 2 _ rfl
 have p2:=bp.2.1 2 _ rfl
 have q3:=bb.2.1 3 _ rfl
 have p3:=bp.2.1 3 _ rfl
 have q4:=bb.2.1 4 _ rfl
 have p4:=bp.2.1 4 _ rfl
 have q5:=bb.2.1 5 _ rfl
 have p5:=bp.2.1 5 _ rfl
 have q6:=bb.2.1 6 _ rfl
 have p6:=bp.2.1 6 _ rfl
 have q7:=bb.2.1 7 _ rfl
 have p7:=bp.2.1 7 _ rfl
 have q8:=bb.2.1 8 _ rfl
 have p8:=bp.2.1 8 _ rfl
 have q9:=bb.2.1 9 _ rfl
 have p9:=bp.2.1 9 _ rfl
 have q10:=bb.2.1 10 _ rfl
 have p10:=bp.2.1 10 _ rfl
 have q11:=bb.2.1 11 _ rfl
 have p11:=bp.2.1 11 _ rfl
 have q12:=bb.2.1 12 _ rfl
 have p12:=bp.2.1 12 _ rfl
 have HC11:=Hm (reCuss_c a11 a11' c11 c11' x.customs W10 l12 (R11.out.up (up_below hb)) (R11'.out.up (up_below hb)))
 go_wp2_with fail
 refine HC11.out.mono ?_
 rintro e W11 ⟨rfl,hb11⟩
 have bb:=bb.keep hb11
 have bp:=bp.keep hb11
 have hb:=hb.trans (hb11.mono hb.size)
 clear HC11 hb11
 have q0:=bb.2.1 0 _ rfl
 have p0:=bp.2.1 0 _ rfl
 have q1:=bb.2.1 1 _ rfl
 have p1:=bp.2.1 1 _ rfl
 have q2:=bb.2.1 2 _ rfl
 have p2:=bp.2.1 2 _ rfl
 have q3:=bb.2.1 3 _ rfl
 have p3:=bp.2.1 3 _ rfl
 have q4:=bb.2.1 4 _ rfl
 have p4:=bp.2.1 4 _ rfl
 have q5:=bb.2.1 5 _ rfl
 have p5:=bp.2.1 5 _ rfl
 have q6:=bb.2.1 6 _ rfl
 have p6:=bp.2.1 6 _ rfl
 have q7:=bb.2.1 7 _ rfl
 have p7:=bp.2.1 7 _ rfl
 have q8:=bb.2.1 8 _ rfl
 have p8:=bp.2.1 8 _ rfl
 have q9:=bb.2.1 9 _ rfl
 have p9:=bp.2.1 9 _ rfl
 have q10:=bb.2.1 10 _ rfl
 have p10:=bp.2.1 10 _ rfl
 have q11:=bb.2.1 11 _ rfl
 have p11:=bp.2.1 11 _ rfl
 have q12:=bb.2.1 12 _ rfl
 have p12:=bp.2.1 12 _ rfl
 have HB:=Hm hb
 clear hb bb bp
 go_wp2
 go_ret
 exact ⟨rfl,HB.out⟩
open Go.RowKit Go.Sort
def MV (w:World) (v:Value) (x:Mod):Prop:=∃ a1 c1 a2 c2 a3 c3 a4 c4 a5 c5 a6 c6 a7 c7 a8 c8 a9 c9 a10 c10 a11 c11,v=.agg #[.slice a1 x.types.length c1,.slice a2 x.imps.length c2,.slice a3 x.funcs.length c3,.slice a4 x.tabs.length c4,.slice a5 x.mems.length c5,.slice a6 x.globs.length c6,.slice a7 x.exps.length c7,.bool x.hasS,.int .i64 x.start,.slice a8 x.elems.length c8,.slice a9 x.codes.length c9,.slice a10 x.datas.length c10,.slice a11 x.customs.length c11]∧Mod.Is 0 w x a1 a2 a3 a4 a5 a6 a7 a8 a9 a10 a11
theorem MV.keep {w w1:World} {v:Value} {x:Mod} (h:MV w v x) (hb:Below w.heap.size w w1):MV w1 v x:=by
 obtain ⟨a1,c1,a2,c2,a3,c3,a4,c4,a5,c5,a6,c6,a7,c7,a8,c8,a9,c9,a10,c10,a11,c11,e,hi⟩:=h
 exact ⟨a1,c1,a2,c2,a3,c3,a4,c4,a5,c5,a6,c6,a7,c7,a8,c8,a9,c9,a10,c10,a11,c11,e,hi.up (up_below hb)⟩
theorem eqMV_c (v v':Value) (x:Mod) (w:World) (hl:Mod.LB 1048576 x) (h:MV w v x) (h':MV w v' x) :
    Calls Tryz.prog 10 #[v,v'] w fun e w'=>e=.returned (.bool true)∧Below w.heap.size w w':=by
 obtain ⟨a1,c1,a2,c2,a3,c3,a4,c4,a5,c5,a6,c6,a7,c7,a8,c8,a9,c9,a10,c10,a11,c11,rfl,hi⟩:=h
 obtain ⟨a1',c1',a2',c2',a3',c3',a4',c4',a5',c5',a6',c6',a7',c7',a8',c8',a9',c9',a10',c10',a11',c11',rfl,hi'⟩:=h'
 exact reMod_c x a1 c1 a2 c2 a3 c3 a4 c4 a5 c5 a6 c6 a7 c7 a8 c8 a9 c9 a10 c10 a11 c11 a1' c1' a2' c2' a3' c3' a4' c4' a5' c5' a6' c6' a7' c7' a8' c8' a9' c9' a10' c10' a11' c11' w hi hi' hl
end Go.Proofs.YtdbmolambolmgaaGreat
