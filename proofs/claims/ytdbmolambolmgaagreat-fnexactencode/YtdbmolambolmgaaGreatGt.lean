import Derived.Test.YtdbmolambolmgaaGreatGp
import Derived.Test.YtdbmolambolmgaaGreatGr
import Derived.Test.YtdbmolambolmgaaGreatGs
set_option linter.all false
set_option maxHeartbeats 16000000
set_option maxRecDepth 100000
namespace Go.Proofs.YtdbmolambolmgaaGreat
open Go.RowKit Go.Sort
set_option maxRecDepth 100000
def szs (x:Mod):List Int:=[0,x.types.length,x.imps.length,x.funcs.length,x.tabs.length,x.mems.length,x.globs.length,x.exps.length,(if x.hasS then 1 else 0),x.elems.length,x.codes.length,x.datas.length]
def writ (x:Mod) (n:Int):Bool:=decide (0≤n∧n<12)&&decide (0<(szs x).getD n.toNat 0)
def Mod.Ln (x:Mod):Prop:=x.types.length≤1048576∧x.imps.length≤1048576∧x.funcs.length≤1048576∧x.tabs.length≤1048576∧x.mems.length≤1048576∧x.globs.length≤1048576∧x.exps.length≤1048576∧x.elems.length≤1048576∧x.codes.length≤1048576∧x.datas.length≤1048576∧x.customs.length≤1048576
theorem writ8 (x:Mod):writ x 8=x.hasS:=by
 cases h:x.hasS <;> simp [writ,szs,h]
theorem writ_out {x:Mod} {n:Int} (h:¬ (0≤n∧n<12)):writ x n=false:=by simp [writ,h]
def szN (x:Mod) (n:Int):Int:=if 0≤n∧n<12 then (szs x).getD n.toNat 0 else 0
theorem szN_writ (x:Mod) (n:Int):decide (0<szN x n)=writ x n:=by
 unfold szN writ
 by_cases h:0≤n∧n<12
 · simp [h]
 · simp [h]
theorem hidx_c (a:Option Addr) (n:Int) (w:World):Calls Tryz.prog 186 #[.slice a 12 12,.int .i64 n] w fun e w'=>e=.returned (.bool (decide (0≤n∧n<12)))∧w=w':=by
 by_cases h0:0≤n
 · by_cases h1:n<12
   · have hd:decide (0≤n∧n<12)=true:=by simp [h0,h1]
     rw [hd]
     clear hd
     go_enter Tryz.func186,Tryz.ntmps186
     go_wp2
     go_ret
     exact ⟨rfl,rfl⟩
   · have hd:decide (0≤n∧n<12)=false:=by simp [h1]
     rw [hd]
     clear hd
     go_enter Tryz.func186,Tryz.ntmps186
     go_wp2
     go_ret
     exact ⟨rfl,rfl⟩
 · have hd:decide (0≤n∧n<12)=false:=by simp [h0]
   rw [hd]
   clear hd
   go_enter Tryz.func186,Tryz.ntmps186
   go_wp2
   go_ret
   exact ⟨rfl,rfl⟩
theorem isz_false (x:Mod) (a1:Option Addr) (c1:Nat) (a2:Option Addr) (c2:Nat) (a3:Option Addr) (c3:Nat) (a4:Option Addr) (c4:Nat) (a5:Option Addr) (c5:Nat) (a6:Option Addr) (c6:Nat) (a7:Option Addr) (c7:Nat) (a8:Option Addr) (c8:Nat) (a9:Option Addr) (c9:Nat) (a10:Option Addr) (c10:Nat) (a11:Option Addr) (c11:Nat) (n:Int) (w:World) (hl:x.Ln) (hS:x.hasS=false) :
    Calls Tryz.prog 146 #[.agg #[.slice a1 x.types.length c1,.slice a2 x.imps.length c2,.slice a3 x.funcs.length c3,.slice a4 x.tabs.length c4,.slice a5 x.mems.length c5,.slice a6 x.globs.length c6,.slice a7 x.exps.length c7,.bool x.hasS,.int .i64 x.start,.slice a8 x.elems.length c8,.slice a9 x.codes.length c9,.slice a10 x.datas.length c10,.slice a11 x.customs.length c11],.int .i64 n] w fun e w'=>e=.returned (.int .i64 (szN x n))∧Below w.heap.size w w':=by
 obtain ⟨l1,l2,l3,l4,l5,l6,l7,l8,l9,l10,l11⟩:=hl
 have KH:=Hm (fun a w=>hidx_c a n w)
 have HS0:=Hm hS
 clear hS
 go_enter Tryz.func146,Tryz.ntmps146
 go_upto_region 1 with fail
 refine wp_gen (fun W=>Bk W w.heap.size [.slice a1 x.types.length c1,.slice a2 x.imps.length c2,.slice a3 x.funcs.length c3,.slice a4 x.tabs.length c4,.slice a5 x.mems.length c5,.slice a6 x.globs.length c6,.slice a7 x.exps.length c7,.bool x.hasS,.int .i64 x.start,.slice a8 x.elems.length c8,.slice a9 x.codes.length c9,.slice a10 x.datas.length c10,.slice a11 x.customs.length c11]∧Below w.heap.size w W∧W.heap.size=w.heap.size+1) ⟨Bk.new,(Below.refl _ _).alloc (Nat.le_refl _) _,by simp⟩ ?_
 rintro W ⟨bb,hb,hs⟩
 have q0:=bb.2.1 0 _ rfl
 have q1:=bb.2.1 1 _ rfl
 have q2:=bb.2.1 2 _ rfl
 have q3:=bb.2.1 3 _ rfl
 have q4:=bb.2.1 4 _ rfl
 have q5:=bb.2.1 5 _ rfl
 have q6:=bb.2.1 6 _ rfl
 have q7:=bb.2.1 7 _ rfl
 have q8:=bb.2.1 8 _ rfl
 have q9:=bb.2.1 9 _ rfl
 have q10:=bb.2.1 10 _ rfl
 have q11:=bb.2.1 11 _ rfl
 have q12:=bb.2.1 12 _ rfl
 rw [HS0.out] at q7
 have HS:=Hm hs
 clear hs
 go_upto_region 5 with fail
 refine wp_gen (fun V=>Bk V W.heap.size [.int .i64 0,.int .i64 x.types.length,.int .i64 x.imps.length,.int .i64 x.funcs.length,.int .i64 x.tabs.length,.int .i64 x.mems.length,.int .i64 x.globs.length,.int .i64 x.exps.length,.int .i64 0,.int .i64 x.elems.length,.int .i64 x.codes.length,.int .i64 x.datas.length]∧Below w.heap.size w V) ⟨Bk.new,hb.trans (((Below.refl _ W).alloc (Nat.le_refl _) _).mono hb.size)⟩ ?_
 clear bb hb q0 q1 q2 q3 q4 q5 q6 q7 q8 q9 q10 q11 q12
 rintro V ⟨bb,hb⟩
 have p0:=bb.2.1 0 _ rfl
 have p1:=bb.2.1 1 _ rfl
 have p2:=bb.2.1 2 _ rfl
 have p3:=bb.2.1 3 _ rfl
 have p4:=bb.2.1 4 _ rfl
 have p5:=bb.2.1 5 _ rfl
 have p6:=bb.2.1 6 _ rfl
 have p7:=bb.2.1 7 _ rfl
 have p8:=bb.2.1 8 _ rfl
 have p9:=bb.2.1 9 _ rfl
 have p10:=bb.2.1 10 _ rfl
 have p11:=bb.2.1 11 _ rfl
 clear bb
 by_cases hr:0≤n∧n<12
 · have h12:n=0∨n=1∨n=2∨n=3∨n=4∨n=5∨n=6∨n=7∨n=8∨n=9∨n=10∨n=11:=by omega
   rw [decide_eq_true hr] at KH
   clear hr
   rcases h12 with rfl | rfl | rfl | rfl | rfl | rfl | rfl | rfl | rfl | rfl | rfl | rfl
   all_goals
    go_wp2_with (go_at_call 186;refine (KH.out _ _).mono ?_;rintro e w2 ⟨rfl,rfl⟩)
    go_ret
    refine ⟨?_,hb⟩
    have h0:=HS0.out
    simp [szN,szs,h0]
 · have HF:Hid (szN x n=0):=by show _=_;simp [szN,hr]
   rw [decide_eq_false hr] at KH
   clear hr
   go_wp2_with (go_at_call 186;refine (KH.out _ _).mono ?_;rintro e w2 ⟨rfl,rfl⟩)
   go_ret
   exact ⟨by rw [HF.out];rfl,hb⟩
theorem isz_true (x:Mod) (a1:Option Addr) (c1:Nat) (a2:Option Addr) (c2:Nat) (a3:Option Addr) (c3:Nat) (a4:Option Addr) (c4:Nat) (a5:Option Addr) (c5:Nat) (a6:Option Addr) (c6:Nat) (a7:Option Addr) (c7:Nat) (a8:Option Addr) (c8:Nat) (a9:Option Addr) (c9:Nat) (a10:Option Addr) (c10:Nat) (a11:Option Addr) (c11:Nat) (n:Int) (w:World) (hl:x.Ln) (hS:x.hasS=true) :
    Calls Tryz.prog 146 #[.agg #[.slice a1 x.types.length c1,.slice a2 x.imps.length c2,.slice a3 x.funcs.length c3,.slice a4 x.tabs.length c4,.slice a5 x.mems.length c5,.slice a6 x.globs.length c6,.slice a7 x.exps.length c7,.bool x.hasS,.int .i64 x.start,.slice a8 x.elems.length c8,.slice a9 x.codes.length c9,.slice a10 x.datas.length c10,.slice a11 x.customs.length c11],.int .i64 n] w fun e w'=>e=.returned (.int .i64 (szN x n))∧Below w.heap.size w w':=by
 obtain ⟨l1,l2,l3,l4,l5,l6,l7,l8,l9,l10,l11⟩:=hl
 have KH:=Hm (fun a w=>hidx_c a n w)
 have HS0:=Hm hS
 clear hS
 go_enter Tryz.func146,Tryz.ntmps146
 go_upto_region 1 with fail
 refine wp_gen (fun W=>Bk W w.heap.size [.slice a1 x.types.length c1,.slice a2 x.imps.length c2,.slice a3 x.funcs.length c3,.slice a4 x.tabs.length c4,.slice a5 x.mems.length c5,.slice a6 x.globs.length c6,.slice a7 x.exps.length c7,.bool x.hasS,.int .i64 x.start,.slice a8 x.elems.length c8,.slice a9 x.codes.length c9,.slice a10 x.datas.length c10,.slice a11 x.customs.length c11]∧Below w.heap.size w W∧W.heap.size=w.heap.size+1) ⟨Bk.new,(Below.refl _ _).alloc (Nat.le_refl _) _,by simp⟩ ?_
 rintro W ⟨bb,hb,hs⟩
 have q0:=bb.2.1 0 _ rfl
 have q1:=bb.2.1 1 _ rfl
 have q2:=bb.2.1 2 _ rfl
 have q3:=bb.2.1 3 _ rfl
 have q4:=bb.2.1 4 _ rfl
 have q5:=bb.2.1 5 _ rfl
 have q6:=bb.2.1 6 _ rfl
 have q7:=bb.2.1 7 _ rfl
 have q8:=bb.2.1 8 _ rfl
 have q9:=bb.2.1 9 _ rfl
 have q10:=bb.2.1 10 _ rfl
 have q11:=bb.2.1 11 _ rfl
 have q12:=bb.2.1 12 _ rfl
 rw [HS0.out] at q7
 have HS:=Hm hs
 clear hs
 go_upto_region 5 with fail
 refine wp_gen (fun V=>Bk V W.heap.size [.int .i64 0,.int .i64 x.types.length,.int .i64 x.imps.length,.int .i64 x.funcs.length,.int .i64 x.tabs.length,.int .i64 x.mems.length,.int .i64 x.globs.length,.int .i64 x.exps.length,.int .i64 1,.int .i64 x.elems.length,.int .i64 x.codes.length,.int .i64 x.datas.length]∧Below w.heap.size w V) ⟨Bk.new,hb.trans (((Below.refl _ W).alloc (Nat.le_refl _) _).mono hb.size)⟩ ?_
 clear bb hb q0 q1 q2 q3 q4 q5 q6 q7 q8 q9 q10 q11 q12
 rintro V ⟨bb,hb⟩
 have p0:=bb.2.1 0 _ rfl
 have p1:=bb.2.1 1 _ rfl
 have p2:=bb.2.1 2 _ rfl
 have p3:=bb.2.1 3 _ rfl
 have p4:=bb.2.1 4 _ rfl
 have p5:=bb.2.1 5 _ rfl
 have p6:=bb.2.1 6 _ rfl
 have p7:=bb.2.1 7 _ rfl
 have p8:=bb.2.1 8 _ rfl
 have p9:=bb.2.1 9 _ rfl
 have p10:=bb.2.1 10 _ rfl
 have p11:=bb.2.1 11 _ rfl
 clear bb
 by_cases hr:0≤n∧n<12
 · have h12:n=0∨n=1∨n=2∨n=3∨n=4∨n=5∨n=6∨n=7∨n=8∨n=9∨n=10∨n=11:=by omega
   rw [decide_eq_true hr] at KH
   clear hr
   rcases h12 with rfl | rfl | rfl | rfl | rfl | rfl | rfl | rfl | rfl | rfl | rfl | rfl
   all_goals
    go_wp2_with (go_at_call 186;refine (KH.out _ _).mono ?_;rintro e w2 ⟨rfl,rfl⟩)
    go_ret
    refine ⟨?_,hb⟩
    have h0:=HS0.out
    simp [szN,szs,h0]
 · have HF:Hid (szN x n=0):=by show _=_;simp [szN,hr]
   rw [decide_eq_false hr] at KH
   clear hr
   go_wp2_with (go_at_call 186;refine (KH.out _ _).mono ?_;rintro e w2 ⟨rfl,rfl⟩)
   go_ret
   exact ⟨by rw [HF.out];rfl,hb⟩
theorem isz_c (x:Mod) (a1:Option Addr) (c1:Nat) (a2:Option Addr) (c2:Nat) (a3:Option Addr) (c3:Nat) (a4:Option Addr) (c4:Nat) (a5:Option Addr) (c5:Nat) (a6:Option Addr) (c6:Nat) (a7:Option Addr) (c7:Nat) (a8:Option Addr) (c8:Nat) (a9:Option Addr) (c9:Nat) (a10:Option Addr) (c10:Nat) (a11:Option Addr) (c11:Nat) (n:Int) (w:World) (hl:x.Ln) :
    Calls Tryz.prog 146 #[.agg #[.slice a1 x.types.length c1,.slice a2 x.imps.length c2,.slice a3 x.funcs.length c3,.slice a4 x.tabs.length c4,.slice a5 x.mems.length c5,.slice a6 x.globs.length c6,.slice a7 x.exps.length c7,.bool x.hasS,.int .i64 x.start,.slice a8 x.elems.length c8,.slice a9 x.codes.length c9,.slice a10 x.datas.length c10,.slice a11 x.customs.length c11],.int .i64 n] w fun e w'=>e=.returned (.int .i64 (szN x n))∧Below w.heap.size w w':=by
 cases h:x.hasS
 · have:=isz_false x a1 c1 a2 c2 a3 c3 a4 c4 a5 c5 a6 c6 a7 c7 a8 c8 a9 c9 a10 c10 a11 c11 n w hl h;rw [h] at this;exact this
 · have:=isz_true x a1 c1 a2 c2 a3 c3 a4 c4 a5 c5 a6 c6 a7 c7 a8 c8 a9 c9 a10 c10 a11 c11 n w hl h;rw [h] at this;exact this
theorem isec_c (x:Mod) (a1:Option Addr) (c1:Nat) (a2:Option Addr) (c2:Nat) (a3:Option Addr) (c3:Nat) (a4:Option Addr) (c4:Nat) (a5:Option Addr) (c5:Nat) (a6:Option Addr) (c6:Nat) (a7:Option Addr) (c7:Nat) (a8:Option Addr) (c8:Nat) (a9:Option Addr) (c9:Nat) (a10:Option Addr) (c10:Nat) (a11:Option Addr) (c11:Nat) (n:Int) (w:World) (hl:x.Ln) :
    Calls Tryz.prog 81 #[.agg #[.slice a1 x.types.length c1,.slice a2 x.imps.length c2,.slice a3 x.funcs.length c3,.slice a4 x.tabs.length c4,.slice a5 x.mems.length c5,.slice a6 x.globs.length c6,.slice a7 x.exps.length c7,.bool x.hasS,.int .i64 x.start,.slice a8 x.elems.length c8,.slice a9 x.codes.length c9,.slice a10 x.datas.length c10,.slice a11 x.customs.length c11],.int .i64 n] w fun e w'=>e=.returned (.bool (writ x n))∧Below w.heap.size w w':=by
 have KZ:=Hm (fun (w:World)=>isz_c x a1 c1 a2 c2 a3 c3 a4 c4 a5 c5 a6 c6 a7 c7 a8 c8 a9 c9 a10 c10 a11 c11 n w hl)
 have HW:=Hm (szN_writ x n)
 generalize szN x n=z at *
 go_enter Tryz.func81,Tryz.ntmps81
 go_upto_region 1 with fail
 refine wp_gen (fun W=>Bk W w.heap.size [.slice a1 x.types.length c1,.slice a2 x.imps.length c2,.slice a3 x.funcs.length c3,.slice a4 x.tabs.length c4,.slice a5 x.mems.length c5,.slice a6 x.globs.length c6,.slice a7 x.exps.length c7,.bool x.hasS,.int .i64 x.start,.slice a8 x.elems.length c8,.slice a9 x.codes.length c9,.slice a10 x.datas.length c10,.slice a11 x.customs.length c11]∧Below w.heap.size w W∧W.heap.size=w.heap.size+1) ⟨Bk.new,(Below.refl _ _).alloc (Nat.le_refl _) _,by simp⟩ ?_
 rintro W ⟨bb,hb,hs⟩
 have q0:=bb.2.1 0 _ rfl
 have q1:=bb.2.1 1 _ rfl
 have q2:=bb.2.1 2 _ rfl
 have q3:=bb.2.1 3 _ rfl
 have q4:=bb.2.1 4 _ rfl
 have q5:=bb.2.1 5 _ rfl
 have q6:=bb.2.1 6 _ rfl
 have q7:=bb.2.1 7 _ rfl
 have q8:=bb.2.1 8 _ rfl
 have q9:=bb.2.1 9 _ rfl
 have q10:=bb.2.1 10 _ rfl
 have q11:=bb.2.1 11 _ rfl
 have q12:=bb.2.1 12 _ rfl
 have HB:=Hm hb
 clear bb hb hs
 go_wp2_with fail
 refine (KZ.out _).mono ?_
 rintro e w2 ⟨rfl,hb2⟩
 have HB2:=Hm (HB.out.trans (hb2.mono HB.out.size))
 clear hb2 q0 q1 q2 q3 q4 q5 q6 q7 q8 q9 q10 q11 q12
 go_wp2
 go_ret
 exact ⟨by rw [← HW.out];rfl,HB2.out⟩
open Go.RowKit Go.Sort
def cusM (x:Mod):List Cus→Int→Bool
 | [],_=>true
 | c::cs,n=>(c.aft==0 || writ x c.aft)&&(decide (n≤c.aft)&&(nameB c.nm&&cusM x cs c.aft))
theorem cus_at (x:Mod) (l:List Cus) (k:Nat) (n:Int) (h:k<l.length):cusM x (l.drop k) n=(((l.getD k Cus.z).aft==0 || writ x (l.getD k Cus.z).aft)&&(decide (n≤(l.getD k Cus.z).aft)&&(nameB (l.getD k Cus.z).nm&&cusM x (l.drop (k+1)) (l.getD k Cus.z).aft))):=by
 rw [List.drop_eq_getElem_cons h]
 simp [cusM,List.getD,List.getElem?_eq_getElem h]
theorem icus_c (x:Mod) (a1:Option Addr) (c1:Nat) (a2:Option Addr) (c2:Nat) (a3:Option Addr) (c3:Nat) (a4:Option Addr) (c4:Nat) (a5:Option Addr) (c5:Nat) (a6:Option Addr) (c6:Nat) (a7:Option Addr) (c7:Nat) (a8:Option Addr) (c8:Nat) (a9:Option Addr) (c9:Nat) (a10:Option Addr) (c10:Nat) (a11:Option Addr) (c11:Nat) (w:World) (hL:Cus.Ls 0 w a11 x.customs) (hl:x.Ln) (hll:∀ i,i<x.customs.length→Cus.LB 1048576 (x.customs.getD i Cus.z)) :
    Calls Tryz.prog 66 #[.agg #[.slice a1 x.types.length c1,.slice a2 x.imps.length c2,.slice a3 x.funcs.length c3,.slice a4 x.tabs.length c4,.slice a5 x.mems.length c5,.slice a6 x.globs.length c6,.slice a7 x.exps.length c7,.bool x.hasS,.int .i64 x.start,.slice a8 x.elems.length c8,.slice a9 x.codes.length c9,.slice a10 x.datas.length c10,.slice a11 x.customs.length c11]] w fun e w'=>e=.returned (.bool (cusM x x.customs 0))∧Below w.heap.size w w':=by
 have l11:x.customs.length≤1048576:=hl.2.2.2.2.2.2.2.2.2.2
 have HL:=Hm hL
 have Hl:=Hm hll
 have LN:=Hm hl
 clear hL hll hl
 go_enter Tryz.func66,Tryz.ntmps66
 go_upto_region 1 with fail
 refine wp_gen (fun W=>Bk W w.heap.size [.slice a1 x.types.length c1,.slice a2 x.imps.length c2,.slice a3 x.funcs.length c3,.slice a4 x.tabs.length c4,.slice a5 x.mems.length c5,.slice a6 x.globs.length c6,.slice a7 x.exps.length c7,.bool x.hasS,.int .i64 x.start,.slice a8 x.elems.length c8,.slice a9 x.codes.length c9,.slice a10 x.datas.length c10,.slice a11 x.customs.length c11]∧Below w.heap.size w W) ⟨Bk.new,(Below.refl _ _).alloc (Nat.le_refl _) _⟩ ?_
 rintro W ⟨bb,hb⟩
 have q0:=bb.2.1 0 _ rfl
 have q1:=bb.2.1 1 _ rfl
 have q2:=bb.2.1 2 _ rfl
 have q3:=bb.2.1 3 _ rfl
 have q4:=bb.2.1 4 _ rfl
 have q5:=bb.2.1 5 _ rfl
 have q6:=bb.2.1 6 _ rfl
 have q7:=bb.2.1 7 _ rfl
 have q8:=bb.2.1 8 _ rfl
 have q9:=bb.2.1 9 _ rfl
 have q10:=bb.2.1 10 _ rfl
 have q11:=bb.2.1 11 _ rfl
 have q12:=bb.2.1 12 _ rfl
 go_wp2_with fail
 go_loopw [3,10] (fun s i wr=>∃ (k:Nat) (n:Int),k≤x.customs.length∧i=.int .i64 k∧s=.int .i64 n∧cusM x (x.customs.drop k) n=cusM x x.customs 0∧Bk wr w.heap.size [.slice a1 x.types.length c1,.slice a2 x.imps.length c2,.slice a3 x.funcs.length c3,.slice a4 x.tabs.length c4,.slice a5 x.mems.length c5,.slice a6 x.globs.length c6,.slice a7 x.exps.length c7,.bool x.hasS,.int .i64 x.start,.slice a8 x.elems.length c8,.slice a9 x.codes.length c9,.slice a10 x.datas.length c10,.slice a11 x.customs.length c11]∧Below w.heap.size w wr) (fun _ i _=>x.customs.length-(intOf i).toNat)
 case atStart=>exact ⟨0,0,Nat.zero_le _,rfl,rfl,rfl,bb,hb⟩
 case round =>
  clear bb hb q0 q1 q2 q3 q4 q5 q6 q7 q8 q9 q10 q11 q12
  obtain ⟨k,n,hk,rfl,rfl,hm,bb,hb⟩:=hrel
  have q0:=bb.2.1 0 _ rfl
  have q1:=bb.2.1 1 _ rfl
  have q2:=bb.2.1 2 _ rfl
  have q3:=bb.2.1 3 _ rfl
  have q4:=bb.2.1 4 _ rfl
  have q5:=bb.2.1 5 _ rfl
  have q6:=bb.2.1 6 _ rfl
  have q7:=bb.2.1 7 _ rfl
  have q8:=bb.2.1 8 _ rfl
  have q9:=bb.2.1 9 _ rfl
  have q10:=bb.2.1 10 _ rfl
  have q11:=bb.2.1 11 _ rfl
  have q12:=bb.2.1 12 _ rfl
  by_cases hlt:k<x.customs.length
  · have hki:(k:Int)<(x.customs.length:Int):=by omega
    rcases HL.out.up (up_below hb) with hx | ⟨b,o,ea,_,hc⟩
    · rw [hx] at hlt;simp at hlt
    have hxk:=hc k hlt
    have hcl:=Hl.out k hlt
    subst ea
    have HM:=Hm (hm.symm.trans (cus_at x x.customs k n hlt))
    generalize x.customs.getD k Cus.z=c at hxk HM hcl
    obtain ⟨b1,d1,⟨g0,g1,g2⟩,_⟩:=hxk
    clear hm hc
    go_upto_region 5 with fail
    refine wp_gen (fun V=>Bk V w.heap.size [.slice a1 x.types.length c1,.slice a2 x.imps.length c2,.slice a3 x.funcs.length c3,.slice a4 x.tabs.length c4,.slice a5 x.mems.length c5,.slice a6 x.globs.length c6,.slice a7 x.exps.length c7,.bool x.hasS,.int .i64 x.start,.slice a8 x.elems.length c8,.slice a9 x.codes.length c9,.slice a10 x.datas.length c10,.slice (some ⟨b,o,none⟩) x.customs.length c11]∧Bk V wr.heap.size [.int .i64 c.aft,.string c.nm,.slice b1 c.bs.length d1]∧Below w.heap.size w V) ⟨bb.past,Bk.new,hb.trans (((Below.refl _ wr).alloc (Nat.le_refl _) _).mono hb.size)⟩ ?_
    clear bb hb g0 g1 g2 q0 q1 q2 q3 q4 q5 q6 q7 q8 q9 q10 q11 q12
    rintro V ⟨bb,bc,hb⟩
    have q0:=bb.2.1 0 _ rfl
    have q1:=bb.2.1 1 _ rfl
    have q2:=bb.2.1 2 _ rfl
    have q3:=bb.2.1 3 _ rfl
    have q4:=bb.2.1 4 _ rfl
    have q5:=bb.2.1 5 _ rfl
    have q6:=bb.2.1 6 _ rfl
    have q7:=bb.2.1 7 _ rfl
    have q8:=bb.2.1 8 _ rfl
    have q9:=bb.2.1 9 _ rfl
    have q10:=bb.2.1 10 _ rfl
    have q11:=bb.2.1 11 _ rfl
    have q12:=bb.2.1 12 _ rfl
    have p0:=bc.2.1 0 _ rfl
    have p1:=bc.2.1 1 _ rfl
    have p2:=bc.2.1 2 _ rfl
    by_cases h0:c.aft=0
    · have HM:Hid (cusM x x.customs 0=(decide (n≤c.aft)&&(nameB c.nm&&cusM x (x.customs.drop (k+1)) c.aft))):=by rw [Hid,HM.out];simp [h0]
      clear p0 p1 p2
      have p0:=bc.2.1 0 _ rfl
      have p1:=bc.2.1 1 _ rfl
      have p2:=bc.2.1 2 _ rfl
      by_cases hn:c.aft<n
      · have HF:Hid (cusM x x.customs 0=false):=by rw [Hid,HM.out];simp [Int.not_le.2 hn]
        clear HM bb bc
        go_wp2
        go_ret
        exact ⟨by rw [HF.out];rfl,hb⟩
      have HM:Hid (cusM x x.customs 0=(nameB c.nm&&cusM x (x.customs.drop (k+1)) c.aft)):=by rw [Hid,HM.out];simp [Int.not_lt.1 hn]
      have HN:=Hm (iname_ok c.nm V hcl.1)
      generalize hz:nameB c.nm=z at HN HM
      cases z
      · go_wp2_with fail
        refine HN.out.mono ?_
        rintro e W9 ⟨rfl,hb9⟩
        have hb:=hb.trans (hb9.mono hb.size)
        clear hb9 bb bc
        go_wp2
        go_ret
        exact ⟨by rw [HM.out];rfl,hb⟩
      · go_wp2_with fail
        refine HN.out.mono ?_
        rintro e W9 ⟨rfl,hb9⟩
        have bb:=bb.keep hb9
        have bc:=bc.keep hb9
        have hb:=hb.trans (hb9.mono hb.size)
        clear hb9 p0 p1 p2
        have p0:=bc.2.1 0 _ rfl
        have p1:=bc.2.1 1 _ rfl
        have p2:=bc.2.1 2 _ rfl
        go_wp2
        go_roundw
        case rel=>exact ⟨k+1,c.aft,by omega,by go_num,by first | rfl | rw [h0],by rw [HM.out,Bool.true_and],bb,hb⟩
        case measure=>simp [intOf];omega
    · have HS:=Hm (isec_c x a1 c1 a2 c2 a3 c3 a4 c4 a5 c5 a6 c6 a7 c7 a8 c8 a9 c9 a10 c10 (some ⟨b,o,none⟩) c11 c.aft V LN.out)
      generalize hz0:writ x c.aft=z0 at HS HM
      cases z0
      · have HF:Hid (cusM x x.customs 0=false):=by rw [Hid,HM.out];simp [h0]
        clear HM
        go_wp2_with fail
        refine HS.out.mono ?_
        rintro e W8 ⟨rfl,hb8⟩
        have hb:=hb.trans (hb8.mono hb.size)
        clear hb8 bb bc
        go_wp2
        go_ret
        exact ⟨by rw [HF.out];rfl,hb⟩
      have HM:Hid (cusM x x.customs 0=(decide (n≤c.aft)&&(nameB c.nm&&cusM x (x.customs.drop (k+1)) c.aft))):=by rw [Hid,HM.out];simp
      go_wp2_with fail
      refine HS.out.mono ?_
      rintro e W8 ⟨rfl,hb8⟩
      have bb:=bb.keep hb8
      have bc:=bc.keep hb8
      have hb:=hb.trans (hb8.mono hb.size)
      clear hb8 HS p0 p1 p2 q0 q1 q2 q3 q4 q5 q6 q7 q8 q9 q10 q11 q12
      have p0:=bc.2.1 0 _ rfl
      have p1:=bc.2.1 1 _ rfl
      have p2:=bc.2.1 2 _ rfl
      by_cases hn:c.aft<n
      · have HF:Hid (cusM x x.customs 0=false):=by rw [Hid,HM.out];simp [Int.not_le.2 hn]
        clear HM bb bc
        go_wp2
        go_ret
        exact ⟨by rw [HF.out];rfl,hb⟩
      have HM:Hid (cusM x x.customs 0=(nameB c.nm&&cusM x (x.customs.drop (k+1)) c.aft)):=by rw [Hid,HM.out];simp [Int.not_lt.1 hn]
      have HN:=Hm (iname_ok c.nm W8 hcl.1)
      generalize hz:nameB c.nm=z at HN HM
      cases z
      · go_wp2_with fail
        refine HN.out.mono ?_
        rintro e W9 ⟨rfl,hb9⟩
        have hb:=hb.trans (hb9.mono hb.size)
        clear hb9 bb bc
        go_wp2
        go_ret
        exact ⟨by rw [HM.out];rfl,hb⟩
      · go_wp2_with fail
        refine HN.out.mono ?_
        rintro e W9 ⟨rfl,hb9⟩
        have bb:=bb.keep hb9
        have bc:=bc.keep hb9
        have hb:=hb.trans (hb9.mono hb.size)
        clear hb9 p0 p1 p2
        have p0:=bc.2.1 0 _ rfl
        have p1:=bc.2.1 1 _ rfl
        have p2:=bc.2.1 2 _ rfl
        go_wp2
        go_roundw
        case rel=>exact ⟨k+1,c.aft,by omega,by go_num,by first | rfl | rw [h0],by rw [HM.out,Bool.true_and],bb,hb⟩
        case measure=>simp [intOf];omega
  · have e:k=x.customs.length:=by omega
    subst e
    have HM:Hid (cusM x x.customs 0=true):=by show _=_;rw [← hm,List.drop_length];rfl
    clear hm bb
    go_wp2
    go_ret
    exact ⟨by rw [HM.out];rfl,hb⟩
open Go.RowKit Go.Sort
theorem aaImp_c (a:Option Addr) (c:Nat) (xs:List Imp) (w:World) (hl:xs.length≤1048576∧∀ i,i<xs.length→Imp.LB 1048576 (xs.getD i Imp.z)) (hL:Imp.Ls 0 w a xs) :
    Calls Tryz.prog 49 #[.slice a xs.length c,.func (.func 50) #[] #[]] w fun e w'=>e=.returned (.bool (xs.all impB))∧Below w.heap.size w w':=by
 obtain ⟨hn,hll⟩:=hl
 have HL:=Hm hL
 have Hl:=Hm hll
 skip
 clear hL hll
 go_enter Tryz.func49,Tryz.ntmps49
 go_wp2_with fail
 go_loopw [9] (fun i wr=>∃ k:Nat,k≤xs.length∧i=.int .i64 k∧(∀ j,j<k→impB (xs.getD j Imp.z)=true)∧Below w.heap.size w wr) (fun i _=>xs.length-(intOf i).toNat)
 case atStart=>exact ⟨0,Nat.zero_le _,rfl,fun j h=>by omega,Below.refl _ _⟩
 case round =>
  obtain ⟨k,hk,rfl,hall,hb⟩:=hrel
  by_cases hlt:k<xs.length
  · have hki:(k:Int)<(xs.length:Int):=by omega
    rcases HL.out.up (up_below hb) with hx | ⟨b,o,ea,_,hc⟩
    · subst hx;simp at hlt
    have hxk:=hc k hlt
    have hxl:=Hl.out k hlt
    skip
    subst ea
    obtain ⟨x,hx⟩:∃ x,x=xs.getD k Imp.z:=⟨_,rfl⟩
    rw [← hx] at hxk hxl
    obtain ⟨⟨q0,q1,q2,q3,q4,q5,q6,q7,q8⟩,hi⟩:=hxk
    have ba:Below wr.heap.size wr (wr.alloc (.cells #[.string x.mod,.string x.nm,.int .i64 x.kind,.int .i64 x.ty,.int .i64 x.lim.min,.int .i64 x.lim.max,.bool x.lim.has,.int .i64 x.gl.ty,.bool x.gl.mu] 103)):=(Below.refl _ _).alloc (Nat.le_refl _) _
    have HI0:=Hm (iimp_c x _ (hi.up (up_below ba)) hxl)
    have HB:=Hm hb
    have HBA:=Hm ba
    generalize hg:impB x=gx at HI0
    have HG:Hid (impB (xs.getD k Imp.z)=gx):=by show _=_;rw [← hx];exact hg
    cases gx
    · have HFIN:=Hm (alls_f impB xs Imp.z k hlt HG.out)
      clear hall hc hb ba hi HL Hl hx hg
      go_wp2_with fail
      refine HI0.out.mono ?_
      rintro e w2 ⟨rfl,hb2⟩
      have hb3:Below w.heap.size w w2:=HB.out.trans ((HBA.out.trans (hb2.mono (by simp))).mono HB.out.size)
      clear hb2
      go_wp2
      go_ret
      exact ⟨by rw [HFIN.out];rfl,hb3⟩
    · have HA2:Hid (∀ j,j<k+1→impB (xs.getD j Imp.z)=true):=fun j hj=>by
        rcases (by omega:j<k∨j=k) with h | h
        · exact hall j h
        · subst h;exact HG.out
      clear hall hc hb ba hi HL Hl hx hg
      go_wp2_with fail
      refine HI0.out.mono ?_
      rintro e w2 ⟨rfl,hb2⟩
      have hb3:Below w.heap.size w w2:=HB.out.trans ((HBA.out.trans (hb2.mono (by simp))).mono HB.out.size)
      clear hb2
      go_wp2
      go_roundw
      case rel=>exact ⟨k+1,by omega,by go_num,HA2.out,hb3⟩
      case measure=>simp [intOf];omega
  · have e:k=xs.length:=by omega
    subst e
    have HFIN:=Hm (alls_t impB xs Imp.z hall)
    clear hall HL Hl
    go_wp2
    go_ret
    exact ⟨by rw [HFIN.out];rfl,hb⟩
theorem aaCod_c (a:Option Addr) (c:Nat) (xs:List Cod) (w:World) (hl:xs.length≤1048576∧∀ i,i<xs.length→Cod.LB 1048576 (xs.getD i Cod.z)) (hL:Cod.Ls 0 w a xs) (hP:∀ i,i<xs.length→InsPos (xs.getD i Cod.z).body) :
    Calls Tryz.prog 62 #[.slice a xs.length c,.func (.func 63) #[] #[]] w fun e w'=>e=.returned (.bool (xs.all codB))∧Below w.heap.size w w':=by
 obtain ⟨hn,hll⟩:=hl
 have HL:=Hm hL
 have Hl:=Hm hll
 have HP:=Hm hP
 clear hL hll hP
 go_enter Tryz.func62,Tryz.ntmps62
 go_wp2_with fail
 go_loopw [9] (fun i wr=>∃ k:Nat,k≤xs.length∧i=.int .i64 k∧(∀ j,j<k→codB (xs.getD j Cod.z)=true)∧Below w.heap.size w wr) (fun i _=>xs.length-(intOf i).toNat)
 case atStart=>exact ⟨0,Nat.zero_le _,rfl,fun j h=>by omega,Below.refl _ _⟩
 case round =>
  obtain ⟨k,hk,rfl,hall,hb⟩:=hrel
  by_cases hlt:k<xs.length
  · have hki:(k:Int)<(xs.length:Int):=by omega
    rcases HL.out.up (up_below hb) with hx | ⟨b,o,ea,_,hc⟩
    · subst hx;simp at hlt
    have hxk:=hc k hlt
    have hxl:=Hl.out k hlt
    have hxp:=HP.out k hlt
    subst ea
    obtain ⟨x,hx⟩:∃ x,x=xs.getD k Cod.z:=⟨_,rfl⟩
    rw [← hx] at hxk hxl hxp
    obtain ⟨a1,c1,a2,c2,⟨q0,q1⟩,hi⟩:=hxk
    have ba:Below wr.heap.size wr (wr.alloc (.cells #[.slice a1 x.locs.length c1,.slice a2 x.body.length c2] 74)):=(Below.refl _ _).alloc (Nat.le_refl _) _
    have HI0:=Hm (icod_c x a1 c1 a2 c2 _ (hi.up (up_below ba)) hxl hxp)
    have HB:=Hm hb
    have HBA:=Hm ba
    generalize hg:codB x=gx at HI0
    have HG:Hid (codB (xs.getD k Cod.z)=gx):=by show _=_;rw [← hx];exact hg
    cases gx
    · have HFIN:=Hm (alls_f codB xs Cod.z k hlt HG.out)
      clear hall hc hb ba hi HL Hl hx hg
      go_wp2_with fail
      refine HI0.out.mono ?_
      rintro e w2 ⟨rfl,hb2⟩
      have hb3:Below w.heap.size w w2:=HB.out.trans ((HBA.out.trans (hb2.mono (by simp))).mono HB.out.size)
      clear hb2
      go_wp2
      go_ret
      exact ⟨by rw [HFIN.out];rfl,hb3⟩
    · have HA2:Hid (∀ j,j<k+1→codB (xs.getD j Cod.z)=true):=fun j hj=>by
        rcases (by omega:j<k∨j=k) with h | h
        · exact hall j h
        · subst h;exact HG.out
      clear hall hc hb ba hi HL Hl hx hg
      go_wp2_with fail
      refine HI0.out.mono ?_
      rintro e w2 ⟨rfl,hb2⟩
      have hb3:Below w.heap.size w w2:=HB.out.trans ((HBA.out.trans (hb2.mono (by simp))).mono HB.out.size)
      clear hb2
      go_wp2
      go_roundw
      case rel=>exact ⟨k+1,by omega,by go_num,HA2.out,hb3⟩
      case measure=>simp [intOf];omega
  · have e:k=xs.length:=by omega
    subst e
    have HFIN:=Hm (alls_t codB xs Cod.z hall)
    clear hall HL Hl
    go_wp2
    go_ret
    exact ⟨by rw [HFIN.out];rfl,hb⟩
end Go.Proofs.YtdbmolambolmgaaGreat
