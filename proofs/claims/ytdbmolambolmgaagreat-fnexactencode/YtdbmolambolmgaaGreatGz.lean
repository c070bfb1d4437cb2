import Derived.Test.YtdbmolambolmgaaGreatGy
set_option linter.all false
set_option maxHeartbeats 16000000
set_option maxRecDepth 100000
namespace Go.Proofs.YtdbmolambolmgaaGreat
open Go.RowKit Go.Sort
set_option maxRecDepth 100000
structure Mod.Gd (x:Mod):Prop where
 types:x.types.length≤1048576∧∀ i,i<x.types.length→(x.types.getD i FType.z).ps.length≤1048576∧(x.types.getD i FType.z).rs.length≤1048576
 imps:x.imps.length≤1048576∧∀ i,i<x.imps.length→impK (x.imps.getD i Imp.z)=true
 funcs:x.funcs.length≤1048576∧∀ i,i<x.funcs.length→0≤x.funcs.getD i 0∧x.funcs.getD i 0≤4294967295
 tabs:x.tabs.length≤1048576∧∀ i,i<x.tabs.length→limB (x.tabs.getD i Limits.z)=true
 mems:x.mems.length≤1048576∧∀ i,i<x.mems.length→limB (x.mems.getD i Limits.z)=true
 globs:x.globs.length≤1048576∧∀ i,i<x.globs.length→LG (x.globs.getD i Glob.z).ini
 exps:x.exps.length≤1048576∧∀ i,i<x.exps.length→0≤(x.exps.getD i Exp.z).ix∧(x.exps.getD i Exp.z).ix≤4294967295
 start:0≤x.start∧x.start≤4294967295
 elems:x.elems.length≤1048576∧∀ i,i<x.elems.length→LG (x.elems.getD i Ele.z).off∧(x.elems.getD i Ele.z).fs.length≤1048576∧∀ j,j<(x.elems.getD i Ele.z).fs.length→0≤(x.elems.getD i Ele.z).fs.getD j 0∧(x.elems.getD i Ele.z).fs.getD j 0≤4294967295
 codes:x.codes.length≤1048576∧∀ i,i<x.codes.length→(x.codes.getD i Cod.z).locs.length≤1048576∧(∀ j,j<(x.codes.getD i Cod.z).locs.length→0≤((x.codes.getD i Cod.z).locs.getD j Grp.z).n∧((x.codes.getD i Cod.z).locs.getD j Grp.z).n≤4294967295)∧LG (x.codes.getD i Cod.z).body
 datas:x.datas.length≤1048576∧∀ i,i<x.datas.length→LG (x.datas.getD i Dat.z).off
def cntE (x:Mod) (n:Int):List Int :=
 if n=1 then lebU 9 x.types.length++catE ftE x.types else if n=2 then lebU 9 x.imps.length++catE impE x.imps else if n=3 then lebU 9 x.funcs.length++nums x.funcs
 else if n=4 then lebU 9 x.tabs.length++catE tabE x.tabs else if n=5 then lebU 9 x.mems.length++catE limE x.mems else if n=6 then lebU 9 x.globs.length++catE globE x.globs
 else if n=7 then lebU 9 x.exps.length++catE expE x.exps else if n=8 then lebU 9 x.start else if n=9 then lebU 9 x.elems.length++catE eleE x.elems
 else if n=10 then lebU 9 x.codes.length++catE codE x.codes else if n=11 then lebU 9 x.datas.length++catE datE x.datas else []
theorem wcnt_1 (p:Nat) (S:Nat→Prop) (xs:List Int) (x:Mod) (a1:Option Addr) (c1:Nat) (a2:Option Addr) (c2:Nat) (a3:Option Addr) (c3:Nat) (a4:Option Addr) (c4:Nat) (a5:Option Addr) (c5:Nat) (a6:Option Addr) (c6:Nat) (a7:Option Addr) (c7:Nat) (a8:Option Addr) (c8:Nat) (a9:Option Addr) (c9:Nat) (a10:Option Addr) (c10:Nat) (a11:Option Addr) (c11:Nat) (w0:World) (w:World) (hS:∀ k,k<w0.heap.size→S k) (hb:Below w0.heap.size w0 w) (hI:Mod.Is 0 w0 x a1 a2 a3 a4 a5 a6 a7 a8 a9 a10 a11) (hG:x.Gd) (hl:xs.length+((lebU 9 x.types.length++catE ftE x.types)).length≤500000000000) (hW:Wr w p S xs) :
    Calls Tryz.prog 147 #[.pointer (some ⟨p,0,none⟩),.agg #[.slice a1 x.types.length c1,.slice a2 x.imps.length c2,.slice a3 x.funcs.length c3,.slice a4 x.tabs.length c4,.slice a5 x.mems.length c5,.slice a6 x.globs.length c6,.slice a7 x.exps.length c7,.bool x.hasS,.int .i64 x.start,.slice a8 x.elems.length c8,.slice a9 x.codes.length c9,.slice a10 x.datas.length c10,.slice a11 x.customs.length c11],.int .i64 1] w fun e w'=>e=.returned (.tuple #[])∧Wr w' p S (xs++((lebU 9 x.types.length++catE ftE x.types)))∧Kept S w w':=by
 try simp only [List.length_append,List.length_cons,List.length_nil] at hl
 have HLT:=Hm hW.lt
 obtain ⟨W,hWd⟩:∃ W,W=w.alloc (.cells #[.slice a1 x.types.length c1,.slice a2 x.imps.length c2,.slice a3 x.funcs.length c3,.slice a4 x.tabs.length c4,.slice a5 x.mems.length c5,.slice a6 x.globs.length c6,.slice a7 x.exps.length c7,.bool x.hasS,.int .i64 x.start,.slice a8 x.elems.length c8,.slice a9 x.codes.length c9,.slice a10 x.datas.length c10,.slice a11 x.customs.length c11] 46):=⟨_,rfl⟩
 have hBk:Bk W w.heap.size [.slice a1 x.types.length c1,.slice a2 x.imps.length c2,.slice a3 x.funcs.length c3,.slice a4 x.tabs.length c4,.slice a5 x.mems.length c5,.slice a6 x.globs.length c6,.slice a7 x.exps.length c7,.bool x.hasS,.int .i64 x.start,.slice a8 x.elems.length c8,.slice a9 x.codes.length c9,.slice a10 x.datas.length c10,.slice a11 x.customs.length c11]:=by rw [hWd];exact Bk.new
 have BB:=Hm hBk
 have HW0:Hid (Wr W p (Bx S w.heap.size) xs):=by show Wr _ _ _ _;rw [hWd];exact wr_box hW _
 have HK0:=Hm (Kept.refl (Bx S w.heap.size) W)
 have HWd:=Hm hWd
 have HS:=Hm (fun (k:Nat) (hk:k<w0.heap.size)=>(Or.inl (hS k hk):Bx S w.heap.size k))
 have HB0:Hid (Below w0.heap.size w0 W):=by show Below _ _ _;rw [hWd];exact hb.alloc hb.size _
 have q0:=hBk.2.1 0 _ rfl
 have q1:=hBk.2.1 1 _ rfl
 have q2:=hBk.2.1 2 _ rfl
 have q3:=hBk.2.1 3 _ rfl
 have q4:=hBk.2.1 4 _ rfl
 have q5:=hBk.2.1 5 _ rfl
 have q6:=hBk.2.1 6 _ rfl
 have q7:=hBk.2.1 7 _ rfl
 have q8:=hBk.2.1 8 _ rfl
 have q9:=hBk.2.1 9 _ rfl
 have q10:=hBk.2.1 10 _ rfl
 have q11:=hBk.2.1 11 _ rfl
 have q12:=hBk.2.1 12 _ rfl
 clear hBk hWd hW hS hb
 go_enter Tryz.func147,Tryz.ntmps147
 have K0:=Hm (wvft_c p (Bx S w.heap.size) xs x.types a1 c1 w0 W HS.out (kb HS.out HB0.out HK0.out) hI.1 hG.types.1 hG.types.2 (by (try simp only [List.length_append,List.length_cons,List.length_nil]);omega) HW0.out)
 go_wp2_with fail
 rw [show w.alloc (.cells #[.slice a1 x.types.length c1,.slice a2 x.imps.length c2,.slice a3 x.funcs.length c3,.slice a4 x.tabs.length c4,.slice a5 x.mems.length c5,.slice a6 x.globs.length c6,.slice a7 x.exps.length c7,.bool x.hasS,.int .i64 x.start,.slice a8 x.elems.length c8,.slice a9 x.codes.length c9,.slice a10 x.datas.length c10,.slice a11 x.customs.length c11] 46)=W from HWd.out.symm]
 refine K0.out.mono ?_
 rintro e w1 ⟨rfl,hw,hk⟩
 have HW1:=Hm hw
 have HK1:=Hm (HK0.out.trans hk)
 replace BB:=Hm (BB.out.kept hk (Bx.box S w.heap.size))
 clear q0 q1 q2 q3 q4 q5 q6 q7 q8 q9 q10 q11 q12
 have q0:=BB.out.2.1 0 _ rfl
 have q1:=BB.out.2.1 1 _ rfl
 have q2:=BB.out.2.1 2 _ rfl
 have q3:=BB.out.2.1 3 _ rfl
 have q4:=BB.out.2.1 4 _ rfl
 have q5:=BB.out.2.1 5 _ rfl
 have q6:=BB.out.2.1 6 _ rfl
 have q7:=BB.out.2.1 7 _ rfl
 have q8:=BB.out.2.1 8 _ rfl
 have q9:=BB.out.2.1 9 _ rfl
 have q10:=BB.out.2.1 10 _ rfl
 have q11:=BB.out.2.1 11 _ rfl
 have q12:=BB.out.2.1 12 _ rfl
 clear hw hk K0
 go_wp2
 go_end0
 have HKf:=HK1.out
 rw [HWd.out] at HKf
 obtain ⟨r1,r2⟩:=wr_fin (xs:=xs++((lebU 9 x.types.length++catE ftE x.types))) HLT.out HW1.out HKf (by simp)
 exact ⟨rfl,r1,r2⟩
theorem wcnt_2 (p:Nat) (S:Nat→Prop) (xs:List Int) (x:Mod) (a1:Option Addr) (c1:Nat) (a2:Option Addr) (c2:Nat) (a3:Option Addr) (c3:Nat) (a4:Option Addr) (c4:Nat) (a5:Option Addr) (c5:Nat) (a6:Option Addr) (c6:Nat) (a7:Option Addr) (c7:Nat) (a8:Option Addr) (c8:Nat) (a9:Option Addr) (c9:Nat) (a10:Option Addr) (c10:Nat) (a11:Option Addr) (c11:Nat) (w0:World) (w:World) (hS:∀ k,k<w0.heap.size→S k) (hb:Below w0.heap.size w0 w) (hI:Mod.Is 0 w0 x a1 a2 a3 a4 a5 a6 a7 a8 a9 a10 a11) (hG:x.Gd) (hl:xs.length+((lebU 9 x.imps.length++catE impE x.imps)).length≤500000000000) (hW:Wr w p S xs) :
    Calls Tryz.prog 147 #[.pointer (some ⟨p,0,none⟩),.agg #[.slice a1 x.types.length c1,.slice a2 x.imps.length c2,.slice a3 x.funcs.length c3,.slice a4 x.tabs.length c4,.slice a5 x.mems.length c5,.slice a6 x.globs.length c6,.slice a7 x.exps.length c7,.bool x.hasS,.int .i64 x.start,.slice a8 x.elems.length c8,.slice a9 x.codes.length c9,.slice a10 x.datas.length c10,.slice a11 x.customs.length c11],.int .i64 2] w fun e w'=>e=.returned (.tuple #[])∧Wr w' p S (xs++((lebU 9 x.imps.length++catE impE x.imps)))∧Kept S w w':=by
 try simp only [List.length_append,List.length_cons,List.length_nil] at hl
 have HLT:=Hm hW.lt
 obtain ⟨W,hWd⟩:∃ W,W=w.alloc (.cells #[.slice a1 x.types.length c1,.slice a2 x.imps.length c2,.slice a3 x.funcs.length c3,.slice a4 x.tabs.length c4,.slice a5 x.mems.length c5,.slice a6 x.globs.length c6,.slice a7 x.exps.length c7,.bool x.hasS,.int .i64 x.start,.slice a8 x.elems.length c8,.slice a9 x.codes.length c9,.slice a10 x.datas.length c10,.slice a11 x.customs.length c11] 46):=⟨_,rfl⟩
 have hBk:Bk W w.heap.size [.slice a1 x.types.length c1,.slice a2 x.imps.length c2,.slice a3 x.funcs.length c3,.slice a4 x.tabs.length c4,.slice a5 x.mems.length c5,.slice a6 x.globs.length c6,.slice a7 x.exps.length c7,.bool x.hasS,.int .i64 x.start,.slice a8 x.elems.length c8,.slice a9 x.codes.length c9,.slice a10 x.datas.length c10,.slice a11 x.customs.length c11]:=by rw [hWd];exact Bk.new
 have BB:=Hm hBk
 have HW0:Hid (Wr W p (Bx S w.heap.size) xs):=by show Wr _ _ _ _;rw [hWd];exact wr_box hW _
 have HK0:=Hm (Kept.refl (Bx S w.heap.size) W)
 have HWd:=Hm hWd
 have HS:=Hm (fun (k:Nat) (hk:k<w0.heap.size)=>(Or.inl (hS k hk):Bx S w.heap.size k))
 have HB0:Hid (Below w0.heap.size w0 W):=by show Below _ _ _;rw [hWd];exact hb.alloc hb.size _
 have q0:=hBk.2.1 0 _ rfl
 have q1:=hBk.2.1 1 _ rfl
 have q2:=hBk.2.1 2 _ rfl
 have q3:=hBk.2.1 3 _ rfl
 have q4:=hBk.2.1 4 _ rfl
 have q5:=hBk.2.1 5 _ rfl
 have q6:=hBk.2.1 6 _ rfl
 have q7:=hBk.2.1 7 _ rfl
 have q8:=hBk.2.1 8 _ rfl
 have q9:=hBk.2.1 9 _ rfl
 have q10:=hBk.2.1 10 _ rfl
 have q11:=hBk.2.1 11 _ rfl
 have q12:=hBk.2.1 12 _ rfl
 clear hBk hWd hW hS hb
 go_enter Tryz.func147,Tryz.ntmps147
 have K0:=Hm (wvimp_c p (Bx S w.heap.size) xs x.imps a2 c2 w0 W HS.out (kb HS.out HB0.out HK0.out) hI.2.1 hG.imps.1 hG.imps.2 (by (try simp only [List.length_append,List.length_cons,List.length_nil]);omega) HW0.out)
 go_wp2_with fail
 rw [show w.alloc (.cells #[.slice a1 x.types.length c1,.slice a2 x.imps.length c2,.slice a3 x.funcs.length c3,.slice a4 x.tabs.length c4,.slice a5 x.mems.length c5,.slice a6 x.globs.length c6,.slice a7 x.exps.length c7,.bool x.hasS,.int .i64 x.start,.slice a8 x.elems.length c8,.slice a9 x.codes.length c9,.slice a10 x.datas.length c10,.slice a11 x.customs.length c11] 46)=W from HWd.out.symm]
 refine K0.out.mono ?_
 rintro e w1 ⟨rfl,hw,hk⟩
 have HW1:=Hm hw
 have HK1:=Hm (HK0.out.trans hk)
 replace BB:=Hm (BB.out.kept hk (Bx.box S w.heap.size))
 clear q0 q1 q2 q3 q4 q5 q6 q7 q8 q9 q10 q11 q12
 have q0:=BB.out.2.1 0 _ rfl
 have q1:=BB.out.2.1 1 _ rfl
 have q2:=BB.out.2.1 2 _ rfl
 have q3:=BB.out.2.1 3 _ rfl
 have q4:=BB.out.2.1 4 _ rfl
 have q5:=BB.out.2.1 5 _ rfl
 have q6:=BB.out.2.1 6 _ rfl
 have q7:=BB.out.2.1 7 _ rfl
 have q8:=BB.out.2.1 8 _ rfl
 have q9:=BB.out.2.1 9 _ rfl
 have q10:=BB.out.2.1 10 _ rfl
 have q11:=BB.out.2.1 11 _ rfl
 have q12:=BB.out.2.1 12 _ rfl
 clear hw hk K0
 go_wp2
 go_end0
 have HKf:=HK1.out
 rw [HWd.out] at HKf
 obtain ⟨r1,r2⟩:=wr_fin (xs:=xs++((lebU 9 x.imps.length++catE impE x.imps))) HLT.out HW1.out HKf (by simp)
 exact ⟨rfl,r1,r2⟩
theorem wcnt_3 (p:Nat) (S:Nat→Prop) (xs:List Int) (x:Mod) (a1:Option Addr) (c1:Nat) (a2:Option Addr) (c2:Nat) (a3:Option Addr) (c3:Nat) (a4:Option Addr) (c4:Nat) (a5:Option Addr) (c5:Nat) (a6:Option Addr) (c6:Nat) (a7:Option Addr) (c7:Nat) (a8:Option Addr) (c8:Nat) (a9:Option Addr) (c9:Nat) (a10:Option Addr) (c10:Nat) (a11:Option Addr) (c11:Nat) (w0:World) (w:World) (hS:∀ k,k<w0.heap.size→S k) (hb:Below w0.heap.size w0 w) (hI:Mod.Is 0 w0 x a1 a2 a3 a4 a5 a6 a7 a8 a9 a10 a11) (hG:x.Gd) (hl:xs.length+((lebU 9 x.funcs.length++nums x.funcs)).length≤500000000000) (hW:Wr w p S xs) :
    Calls Tryz.prog 147 #[.pointer (some ⟨p,0,none⟩),.agg #[.slice a1 x.types.length c1,.slice a2 x.imps.length c2,.slice a3 x.funcs.length c3,.slice a4 x.tabs.length c4,.slice a5 x.mems.length c5,.slice a6 x.globs.length c6,.slice a7 x.exps.length c7,.bool x.hasS,.int .i64 x.start,.slice a8 x.elems.length c8,.slice a9 x.codes.length c9,.slice a10 x.datas.length c10,.slice a11 x.customs.length c11],.int .i64 3] w fun e w'=>e=.returned (.tuple #[])∧Wr w' p S (xs++((lebU 9 x.funcs.length++nums x.funcs)))∧Kept S w w':=by
 try simp only [List.length_append,List.length_cons,List.length_nil] at hl
 have HLT:=Hm hW.lt
 obtain ⟨W,hWd⟩:∃ W,W=w.alloc (.cells #[.slice a1 x.types.length c1,.slice a2 x.imps.length c2,.slice a3 x.funcs.length c3,.slice a4 x.tabs.length c4,.slice a5 x.mems.length c5,.slice a6 x.globs.length c6,.slice a7 x.exps.length c7,.bool x.hasS,.int .i64 x.start,.slice a8 x.elems.length c8,.slice a9 x.codes.length c9,.slice a10 x.datas.length c10,.slice a11 x.customs.length c11] 46):=⟨_,rfl⟩
 have hBk:Bk W w.heap.size [.slice a1 x.types.length c1,.slice a2 x.imps.length c2,.slice a3 x.funcs.length c3,.slice a4 x.tabs.length c4,.slice a5 x.mems.length c5,.slice a6 x.globs.length c6,.slice a7 x.exps.length c7,.bool x.hasS,.int .i64 x.start,.slice a8 x.elems.length c8,.slice a9 x.codes.length c9,.slice a10 x.datas.length c10,.slice a11 x.customs.length c11]:=by rw [hWd];exact Bk.new
 have BB:=Hm hBk
 have HW0:Hid (Wr W p (Bx S w.heap.size) xs):=by show Wr _ _ _ _;rw [hWd];exact wr_box hW _
 have HK0:=Hm (Kept.refl (Bx S w.heap.size) W)
 have HWd:=Hm hWd
 have HS:=Hm (fun (k:Nat) (hk:k<w0.heap.size)=>(Or.inl (hS k hk):Bx S w.heap.size k))
 have HB0:Hid (Below w0.heap.size w0 W):=by show Below _ _ _;rw [hWd];exact hb.alloc hb.size _
 have q0:=hBk.2.1 0 _ rfl
 have q1:=hBk.2.1 1 _ rfl
 have q2:=hBk.2.1 2 _ rfl
 have q3:=hBk.2.1 3 _ rfl
 have q4:=hBk.2.1 4 _ rfl
 have q5:=hBk.2.1 5 _ rfl
 have q6:=hBk.2.1 6 _ rfl
 have q7:=hBk.2.1 7 _ rfl
 have q8:=hBk.2.1 8 _ rfl
 have q9:=hBk.2.1 9 _ rfl
 have q10:=hBk.2.1 10 _ rfl
 have q11:=hBk.2.1 11 _ rfl
 have q12:=hBk.2.1 12 _ rfl
 clear hBk hWd hW hS hb
 go_enter Tryz.func147,Tryz.ntmps147
 have K0:=Hm (wvec_c p (Bx S w.heap.size) xs x.funcs a3 c3 W hG.funcs.1 hG.funcs.2 (by (try simp only [List.length_append,List.length_cons,List.length_nil]);omega) (fun w2 hk2=>HI.has (hI.2.2.1.up (up_below (kb HS.out (kb HS.out HB0.out HK0.out) hk2)))) HW0.out)
 go_wp2_with fail
 rw [show w.alloc (.cells #[.slice a1 x.types.length c1,.slice a2 x.imps.length c2,.slice a3 x.funcs.length c3,.slice a4 x.tabs.length c4,.slice a5 x.mems.length c5,.slice a6 x.globs.length c6,.slice a7 x.exps.length c7,.bool x.hasS,.int .i64 x.start,.slice a8 x.elems.length c8,.slice a9 x.codes.length c9,.slice a10 x.datas.length c10,.slice a11 x.customs.length c11] 46)=W from HWd.out.symm]
 refine K0.out.mono ?_
 rintro e w1 ⟨rfl,hw,hk⟩
 have HW1:=Hm hw
 have HK1:=Hm (HK0.out.trans hk)
 replace BB:=Hm (BB.out.kept hk (Bx.box S w.heap.size))
 clear q0 q1 q2 q3 q4 q5 q6 q7 q8 q9 q10 q11 q12
 have q0:=BB.out.2.1 0 _ rfl
 have q1:=BB.out.2.1 1 _ rfl
 have q2:=BB.out.2.1 2 _ rfl
 have q3:=BB.out.2.1 3 _ rfl
 have q4:=BB.out.2.1 4 _ rfl
 have q5:=BB.out.2.1 5 _ rfl
 have q6:=BB.out.2.1 6 _ rfl
 have q7:=BB.out.2.1 7 _ rfl
 have q8:=BB.out.2.1 8 _ rfl
 have q9:=BB.out.2.1 9 _ rfl
 have q10:=BB.out.2.1 10 _ rfl
 have q11:=BB.out.2.1 11 _ rfl
 have q12:=BB.out.2.1 12 _ rfl
 clear hw hk K0
 go_wp2
 go_end0
 have HKf:=HK1.out
 rw [HWd.out] at HKf
 obtain ⟨r1,r2⟩:=wr_fin (xs:=xs++((lebU 9 x.funcs.length++nums x.funcs))) HLT.out HW1.out HKf (by simp)
 exact ⟨rfl,r1,r2⟩
theorem wcnt_4 (p:Nat) (S:Nat→Prop) (xs:List Int) (x:Mod) (a1:Option Addr) (c1:Nat) (a2:Option Addr) (c2:Nat) (a3:Option Addr) (c3:Nat) (a4:Option Addr) (c4:Nat) (a5:Option Addr) (c5:Nat) (a6:Option Addr) (c6:Nat) (a7:Option Addr) (c7:Nat) (a8:Option Addr) (c8:Nat) (a9:Option Addr) (c9:Nat) (a10:Option Addr) (c10:Nat) (a11:Option Addr) (c11:Nat) (w0:World) (w:World) (hS:∀ k,k<w0.heap.size→S k) (hb:Below w0.heap.size w0 w) (hI:Mod.Is 0 w0 x a1 a2 a3 a4 a5 a6 a7 a8 a9 a10 a11) (hG:x.Gd) (hl:xs.length+((lebU 9 x.tabs.length++catE tabE x.tabs)).length≤500000000000) (hW:Wr w p S xs) :
    Calls Tryz.prog 147 #[.pointer (some ⟨p,0,none⟩),.agg #[.slice a1 x.types.length c1,.slice a2 x.imps.length c2,.slice a3 x.funcs.length c3,.slice a4 x.tabs.length c4,.slice a5 x.mems.length c5,.slice a6 x.globs.length c6,.slice a7 x.exps.length c7,.bool x.hasS,.int .i64 x.start,.slice a8 x.elems.length c8,.slice a9 x.codes.length c9,.slice a10 x.datas.length c10,.slice a11 x.customs.length c11],.int .i64 4] w fun e w'=>e=.returned (.tuple #[])∧Wr w' p S (xs++((lebU 9 x.tabs.length++catE tabE x.tabs)))∧Kept S w w':=by
 try simp only [List.length_append,List.length_cons,List.length_nil] at hl
 have HLT:=Hm hW.lt
 obtain ⟨W,hWd⟩:∃ W,W=w.alloc (.cells #[.slice a1 x.types.length c1,.slice a2 x.imps.length c2,.slice a3 x.funcs.length c3,.slice a4 x.tabs.length c4,.slice a5 x.mems.length c5,.slice a6 x.globs.length c6,.slice a7 x.exps.length c7,.bool x.hasS,.int .i64 x.start,.slice a8 x.elems.length c8,.slice a9 x.codes.length c9,.slice a10 x.datas.length c10,.slice a11 x.customs.length c11] 46):=⟨_,rfl⟩
 have hBk:Bk W w.heap.size [.slice a1 x.types.length c1,.slice a2 x.imps.length c2,.slice a3 x.funcs.length c3,.slice a4 x.tabs.length c4,.slice a5 x.mems.length c5,.slice a6 x.globs.length c6,.slice a7 x.exps.length c7,.bool x.hasS,.int .i64 x.start,.slice a8 x.elems.length c8,.slice a9 x.codes.length c9,.slice a10 x.datas.length c10,.slice a11 x.customs.length c11]:=by rw [hWd];exact Bk.new
 have BB:=Hm hBk
 have HW0:Hid (Wr W p (Bx S w.heap.size) xs):=by show Wr _ _ _ _;rw [hWd];exact wr_box hW _
 have HK0:=Hm (Kept.refl (Bx S w.heap.size) W)
 have HWd:=Hm hWd
 have HS:=Hm (fun (k:Nat) (hk:k<w0.heap.size)=>(Or.inl (hS k hk):Bx S w.heap.size k))
 have HB0:Hid (Below w0.heap.size w0 W):=by show Below _ _ _;rw [hWd];exact hb.alloc hb.size _
 have q0:=hBk.2.1 0 _ rfl
 have q1:=hBk.2.1 1 _ rfl
 have q2:=hBk.2.1 2 _ rfl
 have q3:=hBk.2.1 3 _ rfl
 have q4:=hBk.2.1 4 _ rfl
 have q5:=hBk.2.1 5 _ rfl
 have q6:=hBk.2.1 6 _ rfl
 have q7:=hBk.2.1 7 _ rfl
 have q8:=hBk.2.1 8 _ rfl
 have q9:=hBk.2.1 9 _ rfl
 have q10:=hBk.2.1 10 _ rfl
 have q11:=hBk.2.1 11 _ rfl
 have q12:=hBk.2.1 12 _ rfl
 clear hBk hWd hW hS hb
 go_enter Tryz.func147,Tryz.ntmps147
 have K0:=Hm (wvtab_c p (Bx S w.heap.size) xs x.tabs a4 c4 w0 W HS.out (kb HS.out HB0.out HK0.out) hI.2.2.2.1 hG.tabs.1 hG.tabs.2 (by (try simp only [List.length_append,List.length_cons,List.length_nil]);omega) HW0.out)
 go_wp2_with fail
 rw [show w.alloc (.cells #[.slice a1 x.types.length c1,.slice a2 x.imps.length c2,.slice a3 x.funcs.length c3,.slice a4 x.tabs.length c4,.slice a5 x.mems.length c5,.slice a6 x.globs.length c6,.slice a7 x.exps.length c7,.bool x.hasS,.int .i64 x.start,.slice a8 x.elems.length c8,.slice a9 x.codes.length c9,.slice a10 x.datas.length c10,.slice a11 x.customs.length c11] 46)=W from HWd.out.symm]
 refine K0.out.mono ?_
 rintro e w1 ⟨rfl,hw,hk⟩
 have HW1:=Hm hw
 have HK1:=Hm (HK0.out.trans hk)
 replace BB:=Hm (BB.out.kept hk (Bx.box S w.heap.size))
 clear q0 q1 q2 q3 q4 q5 q6 q7 q8 q9 q10 q11 q12
 have q0:=BB.out.2.1 0 _ rfl
 have q1:=BB.out.2.1 1 _ rfl
 have q2:=BB.out.2.1 2 _ rfl
 have q3:=BB.out.2.1 3 _ rfl
 have q4:=BB.out.2.1 4 _ rfl
 have q5:=BB.out.2.1 5 _ rfl
 have q6:=BB.out.2.1 6 _ rfl
 have q7:=BB.out.2.1 7 _ rfl
 have q8:=BB.out.2.1 8 _ rfl
 have q9:=BB.out.2.1 9 _ rfl
 have q10:=BB.out.2.1 10 _ rfl
 have q11:=BB.out.2.1 11 _ rfl
 have q12:=BB.out.2.1 12 _ rfl
 clear hw hk K0
 go_wp2
 go_end0
 have HKf:=HK1.out
 rw [HWd.out] at HKf
 obtain ⟨r1,r2⟩:=wr_fin (xs:=xs++((lebU 9 x.tabs.length++catE tabE x.tabs))) HLT.out HW1.out HKf (by simp)
 exact ⟨rfl,r1,r2⟩
theorem wcnt_5 (p:Nat) (S:Nat→Prop) (xs:List Int) (x:Mod) (a1:Option Addr) (c1:Nat) (a2:Option Addr) (c2:Nat) (a3:Option Addr) (c3:Nat) (a4:Option Addr) (c4:Nat) (a5:Option Addr) (c5:Nat) (a6:Option Addr) (c6:Nat) (a7:Option Addr) (c7:Nat) (a8:Option Addr) (c8:Nat) (a9:Option Addr) (c9:Nat) (a10:Option Addr) (c10:Nat) (a11:Option Addr) (c11:Nat) (w0:World) (w:World) (hS:∀ k,k<w0.heap.size→S k) (hb:Below w0.heap.size w0 w) (hI:Mod.Is 0 w0 x a1 a2 a3 a4 a5 a6 a7 a8 a9 a10 a11) (hG:x.Gd) (hl:xs.length+((lebU 9 x.mems.length++catE limE x.mems)).length≤500000000000) (hW:Wr w p S xs) :
    Calls Tryz.prog 147 #[.pointer (some ⟨p,0,none⟩),.agg #[.slice a1 x.types.length c1,.slice a2 x.imps.length c2,.slice a3 x.funcs.length c3,.slice a4 x.tabs.length c4,.slice a5 x.mems.length c5,.slice a6 x.globs.length c6,.slice a7 x.exps.length c7,.bool x.hasS,.int .i64 x.start,.slice a8 x.elems.length c8,.slice a9 x.codes.length c9,.slice a10 x.datas.length c10,.slice a11 x.customs.length c11],.int .i64 5] w fun e w'=>e=.returned (.tuple #[])∧Wr w' p S (xs++((lebU 9 x.mems.length++catE limE x.mems)))∧Kept S w w':=by
 try simp only [List.length_append,List.length_cons,List.length_nil] at hl
 have HLT:=Hm hW.lt
 obtain ⟨W,hWd⟩:∃ W,W=w.alloc (.cells #[.slice a1 x.types.length c1,.slice a2 x.imps.length c2,.slice a3 x.funcs.length c3,.slice a4 x.tabs.length c4,.slice a5 x.mems.length c5,.slice a6 x.globs.length c6,.slice a7 x.exps.length c7,.bool x.hasS,.int .i64 x.start,.slice a8 x.elems.length c8,.slice a9 x.codes.length c9,.slice a10 x.datas.length c10,.slice a11 x.customs.length c11] 46):=⟨_,rfl⟩
 have hBk:Bk W w.heap.size [.slice a1 x.types.length c1,.slice a2 x.imps.length c2,.slice a3 x.funcs.length c3,.slice a4 x.tabs.length c4,.slice a5 x.mems.length c5,.slice a6 x.globs.length c6,.slice a7 x.exps.length c7,.bool x.hasS,.int .i64 x.start,.slice a8 x.elems.length c8,.slice a9 x.codes.length c9,.slice a10 x.datas.length c10,.slice a11 x.customs.length c11]:=by rw [hWd];exact Bk.new
 have BB:=Hm hBk
 have HW0:Hid (Wr W p (Bx S w.heap.size) xs):=by show Wr _ _ _ _;rw [hWd];exact wr_box hW _
 have HK0:=Hm (Kept.refl (Bx S w.heap.size) W)
 have HWd:=Hm hWd
 have HS:=Hm (fun (k:Nat) (hk:k<w0.heap.size)=>(Or.inl (hS k hk):Bx S w.heap.size k))
 have HB0:Hid (Below w0.heap.size w0 W):=by show Below _ _ _;rw [hWd];exact hb.alloc hb.size _
 have q0:=hBk.2.1 0 _ rfl
 have q1:=hBk.2.1 1 _ rfl
 have q2:=hBk.2.1 2 _ rfl
 have q3:=hBk.2.1 3 _ rfl
 have q4:=hBk.2.1 4 _ rfl
 have q5:=hBk.2.1 5 _ rfl
 have q6:=hBk.2.1 6 _ rfl
 have q7:=hBk.2.1 7 _ rfl
 have q8:=hBk.2.1 8 _ rfl
 have q9:=hBk.2.1 9 _ rfl
 have q10:=hBk.2.1 10 _ rfl
 have q11:=hBk.2.1 11 _ rfl
 have q12:=hBk.2.1 12 _ rfl
 clear hBk hWd hW hS hb
 go_enter Tryz.func147,Tryz.ntmps147
 have K0:=Hm (wvlim_c p (Bx S w.heap.size) xs x.mems a5 c5 w0 W HS.out (kb HS.out HB0.out HK0.out) hI.2.2.2.2.1 hG.mems.1 hG.mems.2 (by (try simp only [List.length_append,List.length_cons,List.length_nil]);omega) HW0.out)
 go_wp2_with fail
 rw [show w.alloc (.cells #[.slice a1 x.types.length c1,.slice a2 x.imps.length c2,.slice a3 x.funcs.length c3,.slice a4 x.tabs.length c4,.slice a5 x.mems.length c5,.slice a6 x.globs.length c6,.slice a7 x.exps.length c7,.bool x.hasS,.int .i64 x.start,.slice a8 x.elems.length c8,.slice a9 x.codes.length c9,.slice a10 x.datas.length c10,.slice a11 x.customs.length c11] 46)=W from HWd.out.symm]
 refine K0.out.mono ?_
 rintro e w1 ⟨rfl,hw,hk⟩
 have HW1:=Hm hw
 have HK1:=Hm (HK0.out.trans hk)
 replace BB:=Hm (BB.out.kept hk (Bx.box S w.heap.size))
 clear q0 q1 q2 q3 q4 q5 q6 q7 q8 q9 q10 q11 q12
 have q0:=BB.out.2.1 0 _ rfl
 have q1:=BB.out.2.1 1 _ rfl
 have q2:=BB.out.2.1 2 _ rfl
 have q3:=BB.out.2.1 3 _ rfl
 have q4:=BB.out.2.1 4 _ rfl
 have q5:=BB.out.2.1 5 _ rfl
 have q6:=BB.out.2.1 6 _ rfl
 have q7:=BB.out.2.1 7 _ rfl
 have q8:=BB.out.2.1 8 _ rfl
 have q9:=BB.out.2.1 9 _ rfl
 have q10:=BB.out.2.1 10 _ rfl
 have q11:=BB.out.2.1 11 _ rfl
 have q12:=BB.out.2.1 12 _ rfl
 clear hw hk K0
 go_wp2
 go_end0
 have HKf:=HK1.out
 rw [HWd.out] at HKf
 obtain ⟨r1,r2⟩:=wr_fin (xs:=xs++((lebU 9 x.mems.length++catE limE x.mems))) HLT.out HW1.out HKf (by simp)
 exact ⟨rfl,r1,r2⟩
theorem wcnt_6 (p:Nat) (S:Nat→Prop) (xs:List Int) (x:Mod) (a1:Option Addr) (c1:Nat) (a2:Option Addr) (c2:Nat) (a3:Option Addr) (c3:Nat) (a4:Option Addr) (c4:Nat) (a5:Option Addr) (c5:Nat) (a6:Option Addr) (c6:Nat) (a7:Option Addr) (c7:Nat) (a8:Option Addr) (c8:Nat) (a9:Option Addr) (c9:Nat) (a10:Option Addr) (c10:Nat) (a11:Option Addr) (c11:Nat) (w0:World) (w:World) (hS:∀ k,k<w0.heap.size→S k) (hb:Below w0.heap.size w0 w) (hI:Mod.Is 0 w0 x a1 a2 a3 a4 a5 a6 a7 a8 a9 a10 a11) (hG:x.Gd) (hl:xs.length+((lebU 9 x.globs.length++catE globE x.globs)).length≤500000000000) (hW:Wr w p S xs) :
    Calls Tryz.prog 147 #[.pointer (some ⟨p,0,none⟩),.agg #[.slice a1 x.types.length c1,.slice a2 x.imps.length c2,.slice a3 x.funcs.length c3,.slice a4 x.tabs.length c4,.slice a5 x.mems.length c5,.slice a6 x.globs.length c6,.slice a7 x.exps.length c7,.bool x.hasS,.int .i64 x.start,.slice a8 x.elems.length c8,.slice a9 x.codes.length c9,.slice a10 x.datas.length c10,.slice a11 x.customs.length c11],.int .i64 6] w fun e w'=>e=.returned (.tuple #[])∧Wr w' p S (xs++((lebU 9 x.globs.length++catE globE x.globs)))∧Kept S w w':=by
 try simp only [List.length_append,List.length_cons,List.length_nil] at hl
 have HLT:=Hm hW.lt
 obtain ⟨W,hWd⟩:∃ W,W=w.alloc (.cells #[.slice a1 x.types.length c1,.slice a2 x.imps.length c2,.slice a3 x.funcs.length c3,.slice a4 x.tabs.length c4,.slice a5 x.mems.length c5,.slice a6 x.globs.length c6,.slice a7 x.exps.length c7,.bool x.hasS,.int .i64 x.start,.slice a8 x.elems.length c8,.slice a9 x.codes.length c9,.slice a10 x.datas.length c10,.slice a11 x.customs.length c11] 46):=⟨_,rfl⟩
 have hBk:Bk W w.heap.size [.slice a1 x.types.length c1,.slice a2 x.imps.length c2,.slice a3 x.funcs.length c3,.slice a4 x.tabs.length c4,.slice a5 x.mems.length c5,.slice a6 x.globs.length c6,.slice a7 x.exps.length c7,.bool x.hasS,.int .i64 x.start,.slice a8 x.elems.length c8,.slice a9 x.codes.length c9,.slice a10 x.datas.length c10,.slice a11 x.customs.length c11]:=by rw [hWd];exact Bk.new
 have BB:=Hm hBk
 have HW0:Hid (Wr W p (Bx S w.heap.size) xs):=by show Wr _ _ _ _;rw [hWd];exact wr_box hW _
 have HK0:=Hm (Kept.refl (Bx S w.heap.size) W)
 have HWd:=Hm hWd
 have HS:=Hm (fun (k:Nat) (hk:k<w0.heap.size)=>(Or.inl (hS k hk):Bx S w.heap.size k))
 have HB0:Hid (Below w0.heap.size w0 W):=by show Below _ _ _;rw [hWd];exact hb.alloc hb.size _
 have q0:=hBk.2.1 0 _ rfl
 have q1:=hBk.2.1 1 _ rfl
 have q2:=hBk.2.1 2 _ rfl
 have q3:=hBk.2.1 3 _ rfl
 have q4:=hBk.2.1 4 _ rfl
 have q5:=hBk.2.1 5 _ rfl
 have q6:=hBk.2.1 6 _ rfl
 have q7:=hBk.2.1 7 _ rfl
 have q8:=hBk.2.1 8 _ rfl
 have q9:=hBk.2.1 9 _ rfl
 have q10:=hBk.2.1 10 _ rfl
 have q11:=hBk.2.1 11 _ rfl
 have q12:=hBk.2.1 12 _ rfl
 clear hBk hWd hW hS hb
 go_enter Tryz.func147,Tryz.ntmps147
 have K0:=Hm (wvglob_c p (Bx S w.heap.size) xs x.globs a6 c6 w0 W HS.out (kb HS.out HB0.out HK0.out) hI.2.2.2.2.2.1 hG.globs.1 hG.globs.2 (by (try simp only [List.length_append,List.length_cons,List.length_nil]);omega) HW0.out)
 go_wp2_with fail
 rw [show w.alloc (.cells #[.slice a1 x.types.length c1,.slice a2 x.imps.length c2,.slice a3 x.funcs.length c3,.slice a4 x.tabs.length c4,.slice a5 x.mems.length c5,.slice a6 x.globs.length c6,.slice a7 x.exps.length c7,.bool x.hasS,.int .i64 x.start,.slice a8 x.elems.length c8,.slice a9 x.codes.length c9,.slice a10 x.datas.length c10,.slice a11 x.customs.length c11] 46)=W from HWd.out.symm]
 refine K0.out.mono ?_
 rintro e w1 ⟨rfl,hw,hk⟩
 have HW1:=Hm hw
 have HK1:=Hm (HK0.out.trans hk)
 replace BB:=Hm (BB.out.kept hk (Bx.box S w.heap.size))
 clear q0 q1 q2 q3 q4 q5 q6 q7 q8 q9 q10 q11 q12
 have q0:=BB.out.2.1 0 _ rfl
 have q1:=BB.out.2.1 1 _ rfl
 have q2:=BB.out.2.1 2 _ rfl
 have q3:=BB.out.2.1 3 _ rfl
 have q4:=BB.out.2.1 4 _ rfl
 have q5:=BB.out.2.1 5 _ rfl
 have q6:=BB.out.2.1 6 _ rfl
 have q7:=BB.out.2.1 7 _ rfl
 have q8:=BB.out.2.1 8 _ rfl
 have q9:=BB.out.2.1 9 _ rfl
 have q10:=BB.out.2.1 10 _ rfl
 have q11:=BB.out.2.1 11 _ rfl
 have q12:=BB.out.2.1 12 _ rfl
 clear hw hk K0
 go_wp2
 go_end0
 have HKf:=HK1.out
 rw [HWd.out] at HKf
 obtain ⟨r1,r2⟩:=wr_fin (xs:=xs++((lebU 9 x.globs.length++catE globE x.globs))) HLT.out HW1.out HKf (by simp)
 exact ⟨rfl,r1,r2⟩
theorem wcnt_7 (p:Nat) (S:Nat→Prop) (xs:List Int) (x:Mod) (a1:Option Addr) (c1:Nat) (a2:Option Addr) (c2:Nat) (a3:Option Addr) (c3:Nat) (a4:Option Addr) (c4:Nat) (a5:Option Addr) (c5:Nat) (a6:Option Addr) (c6:Nat) (a7:Option Addr) (c7:Nat) (a8:Option Addr) (c8:Nat) (a9:Option Addr) (c9:Nat) (a10:Option Addr) (c10:Nat) (a11:Option Addr) (c11:Nat) (w0:World) (w:World) (hS:∀ k,k<w0.heap.size→S k) (hb:Below w0.heap.size w0 w) (hI:Mod.Is 0 w0 x a1 a2 a3 a4 a5 a6 a7 a8 a9 a10 a11) (hG:x.Gd) (hl:xs.length+((lebU 9 x.exps.length++catE expE x.exps)).length≤500000000000) (hW:Wr w p S xs) :
    Calls Tryz.prog 147 #[.pointer (some ⟨p,0,none⟩),.agg #[.slice a1 x.types.length c1,.slice a2 x.imps.length c2,.slice a3 x.funcs.length c3,.slice a4 x.tabs.length c4,.slice a5 x.mems.length c5,.slice a6 x.globs.length c6,.slice a7 x.exps.length c7,.bool x.hasS,.int .i64 x.start,.slice a8 x.elems.length c8,.slice a9 x.codes.length c9,.slice a10 x.datas.length c10,.slice a11 x.customs.length c11],.int .i64 7] w fun e w'=>e=.returned (.tuple #[])∧Wr w' p S (xs++((lebU 9 x.exps.length++catE expE x.exps)))∧Kept S w w':=by
 try simp only [List.length_append,List.length_cons,List.length_nil] at hl
 have HLT:=Hm hW.lt
 obtain ⟨W,hWd⟩:∃ W,W=w.alloc (.cells #[.slice a1 x.types.length c1,.slice a2 x.imps.length c2,.slice a3 x.funcs.length c3,.slice a4 x.tabs.length c4,.slice a5 x.mems.length c5,.slice a6 x.globs.length c6,.slice a7 x.exps.length c7,.bool x.hasS,.int .i64 x.start,.slice a8 x.elems.length c8,.slice a9 x.codes.length c9,.slice a10 x.datas.length c10,.slice a11 x.customs.length c11] 46):=⟨_,rfl⟩
 have hBk:Bk W w.heap.size [.slice a1 x.types.length c1,.slice a2 x.imps.length c2,.slice a3 x.funcs.length c3,.slice a4 x.tabs.length c4,.slice a5 x.mems.length c5,.slice a6 x.globs.length c6,.slice a7 x.exps.length c7,.bool x.hasS,.int .i64 x.start,.slice a8 x.elems.length c8,.slice a9 x.codes.length c9,.slice a10 x.datas.length c10,.slice a11 x.customs.length c11]:=by rw [hWd];exact Bk.new
 have BB:=Hm hBk
 have HW0:Hid (Wr W p (Bx S w.heap.size) xs):=by show Wr _ _ _ _;rw [hWd];exact wr_box hW _
 have HK0:=Hm (Kept.refl (Bx S w.heap.size) W)
 have HWd:=Hm hWd
 have HS:=Hm (fun (k:Nat) (hk:k<w0.heap.size)=>(Or.inl (hS k hk):Bx S w.heap.size k))
 have HB0:Hid (Below w0.heap.size w0 W):=by show Below _ _ _;rw [hWd];exact hb.alloc hb.size _
 have q0:=hBk.2.1 0 _ rfl
 have q1:=hBk.2.1 1 _ rfl
 have q2:=hBk.2.1 2 _ rfl
 have q3:=hBk.2.1 3 _ rfl
 have q4:=hBk.2.1 4 _ rfl
 have q5:=hBk.2.1 5 _ rfl
 have q6:=hBk.2.1 6 _ rfl
 have q7:=hBk.2.1 7 _ rfl
 have q8:=hBk.2.1 8 _ rfl
 have q9:=hBk.2.1 9 _ rfl
 have q10:=hBk.2.1 10 _ rfl
 have q11:=hBk.2.1 11 _ rfl
 have q12:=hBk.2.1 12 _ rfl
 clear hBk hWd hW hS hb
 go_enter Tryz.func147,Tryz.ntmps147
 have K0:=Hm (wvexp_c p (Bx S w.heap.size) xs x.exps a7 c7 w0 W HS.out (kb HS.out HB0.out HK0.out) hI.2.2.2.2.2.2.1 hG.exps.1 hG.exps.2 (by (try simp only [List.length_append,List.length_cons,List.length_nil]);omega) HW0.out)
 go_wp2_with fail
 rw [show w.alloc (.cells #[.slice a1 x.types.length c1,.slice a2 x.imps.length c2,.slice a3 x.funcs.length c3,.slice a4 x.tabs.length c4,.slice a5 x.mems.length c5,.slice a6 x.globs.length c6,.slice a7 x.exps.length c7,.bool x.hasS,.int .i64 x.start,.slice a8 x.elems.length c8,.slice a9 x.codes.length c9,.slice a10 x.datas.length c10,.slice a11 x.customs.length c11] 46)=W from HWd.out.symm]
 refine K0.out.mono ?_
 rintro e w1 ⟨rfl,hw,hk⟩
 have HW1:=Hm hw
 have HK1:=Hm (HK0.out.trans hk)
 replace BB:=Hm (BB.out.kept hk (Bx.box S w.heap.size))
 clear q0 q1 q2 q3 q4 q5 q6 q7 q8 q9 q10 q11 q12
 have q0:=BB.out.2.1 0 _ rfl
 have q1:=BB.out.2.1 1 _ rfl
 have q2:=BB.out.2.1 2 _ rfl
 have q3:=BB.out.2.1 3 _ rfl
 have q4:=BB.out.2.1 4 _ rfl
 have q5:=BB.out.2.1 5 _ rfl
 have q6:=BB.out.2.1 6 _ rfl
 have q7:=BB.out.2.1 7 _ rfl
 have q8:=BB.out.2.1 8 _ rfl
 have q9:=BB.out.2.1 9 _ rfl
 have q10:=BB.out.2.1 10 _ rfl
 have q11:=BB.out.2.1 11 _ rfl
 have q12:=BB.out.2.1 12 _ rfl
 clear hw hk K0
 go_wp2
 go_end0
 have HKf:=HK1.out
 rw [HWd.out] at HKf
 obtain ⟨r1,r2⟩:=wr_fin (xs:=xs++((lebU 9 x.exps.length++catE expE x.exps))) HLT.out HW1.out HKf (by simp)
 exact ⟨rfl,r1,r2⟩
theorem wcnt_8 (p:Nat) (S:Nat→Prop) (xs:List Int) (x:Mod) (a1:Option Addr) (c1:Nat) (a2:Option Addr) (c2:Nat) (a3:Option Addr) (c3:Nat) (a4:Option Addr) (c4:Nat) (a5:Option Addr) (c5:Nat) (a6:Option Addr) (c6:Nat) (a7:Option Addr) (c7:Nat) (a8:Option Addr) (c8:Nat) (a9:Option Addr) (c9:Nat) (a10:Option Addr) (c10:Nat) (a11:Option Addr) (c11:Nat) (w0:World) (w:World) (hS:∀ k,k<w0.heap.size→S k) (hb:Below w0.heap.size w0 w) (hI:Mod.Is 0 w0 x a1 a2 a3 a4 a5 a6 a7 a8 a9 a10 a11) (hG:x.Gd) (hl:xs.length+(lebU 9 (x.start)).length≤500000000000) (hW:Wr w p S xs) :
    Calls Tryz.prog 147 #[.pointer (some ⟨p,0,none⟩),.agg #[.slice a1 x.types.length c1,.slice a2 x.imps.length c2,.slice a3 x.funcs.length c3,.slice a4 x.tabs.length c4,.slice a5 x.mems.length c5,.slice a6 x.globs.length c6,.slice a7 x.exps.length c7,.bool x.hasS,.int .i64 x.start,.slice a8 x.elems.length c8,.slice a9 x.codes.length c9,.slice a10 x.datas.length c10,.slice a11 x.customs.length c11],.int .i64 8] w fun e w'=>e=.returned (.tuple #[])∧Wr w' p S (xs++(lebU 9 (x.start)))∧Kept S w w':=by
 try simp only [List.length_append,List.length_cons,List.length_nil] at hl
 have HLT:=Hm hW.lt
 obtain ⟨W,hWd⟩:∃ W,W=w.alloc (.cells #[.slice a1 x.types.length c1,.slice a2 x.imps.length c2,.slice a3 x.funcs.length c3,.slice a4 x.tabs.length c4,.slice a5 x.mems.length c5,.slice a6 x.globs.length c6,.slice a7 x.exps.length c7,.bool x.hasS,.int .i64 x.start,.slice a8 x.elems.length c8,.slice a9 x.codes.length c9,.slice a10 x.datas.length c10,.slice a11 x.customs.length c11] 46):=⟨_,rfl⟩
 have hBk:Bk W w.heap.size [.slice a1 x.types.length c1,.slice a2 x.imps.length c2,.slice a3 x.funcs.length c3,.slice a4 x.tabs.length c4,.slice a5 x.mems.length c5,.slice a6 x.globs.length c6,.slice a7 x.exps.length c7,.bool x.hasS,.int .i64 x.start,.slice a8 x.elems.length c8,.slice a9 x.codes.length c9,.slice a10 x.datas.length c10,.slice a11 x.customs.length c11]:=by rw [hWd];exact Bk.new
 have BB:=Hm hBk
 have HW0:Hid (Wr W p (Bx S w.heap.size) xs):=by show Wr _ _ _ _;rw [hWd];exact wr_box hW _
 have HK0:=Hm (Kept.refl (Bx S w.heap.size) W)
 have HWd:=Hm hWd
 have HS:=Hm (fun (k:Nat) (hk:k<w0.heap.size)=>(Or.inl (hS k hk):Bx S w.heap.size k))
 have HB0:Hid (Below w0.heap.size w0 W):=by show Below _ _ _;rw [hWd];exact hb.alloc hb.size _
 have q0:=hBk.2.1 0 _ rfl
 have q1:=hBk.2.1 1 _ rfl
 have q2:=hBk.2.1 2 _ rfl
 have q3:=hBk.2.1 3 _ rfl
 have q4:=hBk.2.1 4 _ rfl
 have q5:=hBk.2.1 5 _ rfl
 have q6:=hBk.2.1 6 _ rfl
 have q7:=hBk.2.1 7 _ rfl
 have q8:=hBk.2.1 8 _ rfl
 have q9:=hBk.2.1 9 _ rfl
 have q10:=hBk.2.1 10 _ rfl
 have q11:=hBk.2.1 11 _ rfl
 have q12:=hBk.2.1 12 _ rfl
 clear hBk hWd hW hS hb
 go_enter Tryz.func147,Tryz.ntmps147
 have K0:=Hm (wu32_c p (Bx S w.heap.size) xs (x.start) W hG.start.1 (Int.le_trans hG.start.2 (by decide)) (by (try simp only [List.length_append,List.length_cons,List.length_nil]);omega) HW0.out)
 go_wp2_with fail
 rw [show w.alloc (.cells #[.slice a1 x.types.length c1,.slice a2 x.imps.length c2,.slice a3 x.funcs.length c3,.slice a4 x.tabs.length c4,.slice a5 x.mems.length c5,.slice a6 x.globs.length c6,.slice a7 x.exps.length c7,.bool x.hasS,.int .i64 x.start,.slice a8 x.elems.length c8,.slice a9 x.codes.length c9,.slice a10 x.datas.length c10,.slice a11 x.customs.length c11] 46)=W from HWd.out.symm]
 refine K0.out.mono ?_
 rintro e w1 ⟨rfl,hw,hk⟩
 have HW1:=Hm hw
 have HK1:=Hm (HK0.out.trans hk)
 replace BB:=Hm (BB.out.kept hk (Bx.box S w.heap.size))
 clear q0 q1 q2 q3 q4 q5 q6 q7 q8 q9 q10 q11 q12
 have q0:=BB.out.2.1 0 _ rfl
 have q1:=BB.out.2.1 1 _ rfl
 have q2:=BB.out.2.1 2 _ rfl
 have q3:=BB.out.2.1 3 _ rfl
 have q4:=BB.out.2.1 4 _ rfl
 have q5:=BB.out.2.1 5 _ rfl
 have q6:=BB.out.2.1 6 _ rfl
 have q7:=BB.out.2.1 7 _ rfl
 have q8:=BB.out.2.1 8 _ rfl
 have q9:=BB.out.2.1 9 _ rfl
 have q10:=BB.out.2.1 10 _ rfl
 have q11:=BB.out.2.1 11 _ rfl
 have q12:=BB.out.2.1 12 _ rfl
 clear hw hk K0
 go_wp2
 go_end0
 have HKf:=HK1.out
 rw [HWd.out] at HKf
 obtain ⟨r1,r2⟩:=wr_fin (xs:=xs++(lebU 9 (x.start))) HLT.out HW1.out HKf (by simp)
 exact ⟨rfl,r1,r2⟩
theorem wcnt_9 (p:Nat) (S:Nat→Prop) (xs:List Int) (x:Mod) (a1:Option Addr) (c1:Nat) (a2:Option Addr) (c2:Nat) (a3:Option Addr) (c3:Nat) (a4:Option Addr) (c4:Nat) (a5:Option Addr) (c5:Nat) (a6:Option Addr) (c6:Nat) (a7:Option Addr) (c7:Nat) (a8:Option Addr) (c8:Nat) (a9:Option Addr) (c9:Nat) (a10:Option Addr) (c10:Nat) (a11:Option Addr) (c11:Nat) (w0:World) (w:World) (hS:∀ k,k<w0.heap.size→S k) (hb:Below w0.heap.size w0 w) (hI:Mod.Is 0 w0 x a1 a2 a3 a4 a5 a6 a7 a8 a9 a10 a11) (hG:x.Gd) (hl:xs.length+((lebU 9 x.elems.length++catE eleE x.elems)).length≤500000000000) (hW:Wr w p S xs) :
    Calls Tryz.prog 147 #[.pointer (some ⟨p,0,none⟩),.agg #[.slice a1 x.types.length c1,.slice a2 x.imps.length c2,.slice a3 x.funcs.length c3,.slice a4 x.tabs.length c4,.slice a5 x.mems.length c5,.slice a6 x.globs.length c6,.slice a7 x.exps.length c7,.bool x.hasS,.int .i64 x.start,.slice a8 x.elems.length c8,.slice a9 x.codes.length c9,.slice a10 x.datas.length c10,.slice a11 x.customs.length c11],.int .i64 9] w fun e w'=>e=.returned (.tuple #[])∧Wr w' p S (xs++((lebU 9 x.elems.length++catE eleE x.elems)))∧Kept S w w':=by
 try simp only [List.length_append,List.length_cons,List.length_nil] at hl
 have HLT:=Hm hW.lt
 obtain ⟨W,hWd⟩:∃ W,W=w.alloc (.cells #[.slice a1 x.types.length c1,.slice a2 x.imps.length c2,.slice a3 x.funcs.length c3,.slice a4 x.tabs.length c4,.slice a5 x.mems.length c5,.slice a6 x.globs.length c6,.slice a7 x.exps.length c7,.bool x.hasS,.int .i64 x.start,.slice a8 x.elems.length c8,.slice a9 x.codes.length c9,.slice a10 x.datas.length c10,.slice a11 x.customs.length c11] 46):=⟨_,rfl⟩
 have hBk:Bk W w.heap.size [.slice a1 x.types.length c1,.slice a2 x.imps.length c2,.slice a3 x.funcs.length c3,.slice a4 x.tabs.length c4,.slice a5 x.mems.length c5,.slice a6 x.globs.length c6,.slice a7 x.exps.length c7,.bool x.hasS,.int .i64 x.start,.slice a8 x.elems.length c8,.slice a9 x.codes.length c9,.slice a10 x.datas.length c10,.slice a11 x.customs.length c11]:=by rw [hWd];exact Bk.new
 have BB:=Hm hBk
 have HW0:Hid (Wr W p (Bx S w.heap.size) xs):=by show Wr _ _ _ _;rw [hWd];exact wr_box hW _
 have HK0:=Hm (Kept.refl (Bx S w.heap.size) W)
 have HWd:=Hm hWd
 have HS:=Hm (fun (k:Nat) (hk:k<w0.heap.size)=>(Or.inl (hS k hk):Bx S w.heap.size k))
 have HB0:Hid (Below w0.heap.size w0 W):=by show Below _ _ _;rw [hWd];exact hb.alloc hb.size _
 have q0:=hBk.2.1 0 _ rfl
 have q1:=hBk.2.1 1 _ rfl
 have q2:=hBk.2.1 2 _ rfl
 have q3:=hBk.2.1 3 _ rfl
 have q4:=hBk.2.1 4 _ rfl
 have q5:=hBk.2.1 5 _ rfl
 have q6:=hBk.2.1 6 _ rfl
 have q7:=hBk.2.1 7 _ rfl
 have q8:=hBk.2.1 8 _ rfl
 have q9:=hBk.2.1 9 _ rfl
 have q10:=hBk.2.1 10 _ rfl
 have q11:=hBk.2.1 11 _ rfl
 have q12:=hBk.2.1 12 _ rfl
 clear hBk hWd hW hS hb
 go_enter Tryz.func147,Tryz.ntmps147
 have K0:=Hm (wvele_c p (Bx S w.heap.size) xs x.elems a8 c8 w0 W HS.out (kb HS.out HB0.out HK0.out) hI.2.2.2.2.2.2.2.1 hG.elems.1 hG.elems.2 (by (try simp only [List.length_append,List.length_cons,List.length_nil]);omega) HW0.out)
 go_wp2_with fail
 rw [show w.alloc (.cells #[.slice a1 x.types.length c1,.slice a2 x.imps.length c2,.slice a3 x.funcs.length c3,.slice a4 x.tabs.length c4,.slice a5 x.mems.length c5,.slice a6 x.globs.length c6,.slice a7 x.exps.length c7,.bool x.hasS,.int .i64 x.start,.slice a8 x.elems.length c8,.slice a9 x.codes.length c9,.slice a10 x.datas.length c10,.slice a11 x.customs.length c11] 46)=W from HWd.out.symm]
 refine K0.out.mono ?_
 rintro e w1 ⟨rfl,hw,hk⟩
 have HW1:=Hm hw
 have HK1:=Hm (HK0.out.trans hk)
 replace BB:=Hm (BB.out.kept hk (Bx.box S w.heap.size))
 clear q0 q1 q2 q3 q4 q5 q6 q7 q8 q9 q10 q11 q12
 have q0:=BB.out.2.1 0 _ rfl
 have q1:=BB.out.2.1 1 _ rfl
 have q2:=BB.out.2.1 2 _ rfl
 have q3:=BB.out.2.1 3 _ rfl
 have q4:=BB.out.2.1 4 _ rfl
 have q5:=BB.out.2.1 5 _ rfl
 have q6:=BB.out.2.1 6 _ rfl
 have q7:=BB.out.2.1 7 _ rfl
 have q8:=BB.out.2.1 8 _ rfl
 have q9:=BB.out.2.1 9 _ rfl
 have q10:=BB.out.2.1 10 _ rfl
 have q11:=BB.out.2.1 11 _ rfl
 have q12:=BB.out.2.1 12 _ rfl
 clear hw hk K0
 go_wp2
 go_end0
 have HKf:=HK1.out
 rw [HWd.out] at HKf
 obtain ⟨r1,r2⟩:=wr_fin (xs:=xs++((lebU 9 x.elems.length++catE eleE x.elems))) HLT.out HW1.out HKf (by simp)
 exact ⟨rfl,r1,r2⟩
theorem wcnt_10 (p:Nat) (S:Nat→Prop) (xs:List Int) (x:Mod) (a1:Option Addr) (c1:Nat) (a2:Option Addr) (c2:Nat) (a3:Option Addr) (c3:Nat) (a4:Option Addr) (c4:Nat) (a5:Option Addr) (c5:Nat) (a6:Option Addr) (c6:Nat) (a7:Option Addr) (c7:Nat) (a8:Option Addr) (c8:Nat) (a9:Option Addr) (c9:Nat) (a10:Option Addr) (c10:Nat) (a11:Option Addr) (c11:Nat) (w0:World) (w:World) (hS:∀ k,k<w0.heap.size→S k) (hb:Below w0.heap.size w0 w) (hI:Mod.Is 0 w0 x a1 a2 a3 a4 a5 a6 a7 a8 a9 a10 a11) (hG:x.Gd) (hl:xs.length+((lebU 9 x.codes.length++catE codE x.codes)).length≤500000000000) (hW:Wr w p S xs) :
    Calls Tryz.prog 147 #[.pointer (some ⟨p,0,none⟩),.agg #[.slice a1 x.types.length c1,.slice a2 x.imps.length c2,.slice a3 x.funcs.length c3,.slice a4 x.tabs.length c4,.slice a5 x.mems.length c5,.slice a6 x.globs.length c6,.slice a7 x.exps.length c7,.bool x.hasS,.int .i64 x.start,.slice a8 x.elems.length c8,.slice a9 x.codes.length c9,.slice a10 x.datas.length c10,.slice a11 x.customs.length c11],.int .i64 10] w fun e w'=>e=.returned (.tuple #[])∧Wr w' p S (xs++((lebU 9 x.codes.length++catE codE x.codes)))∧Kept S w w':=by
 try simp only [List.length_append,List.length_cons,List.length_nil] at hl
 have HLT:=Hm hW.lt
 obtain ⟨W,hWd⟩:∃ W,W=w.alloc (.cells #[.slice a1 x.types.length c1,.slice a2 x.imps.length c2,.slice a3 x.funcs.length c3,.slice a4 x.tabs.length c4,.slice a5 x.mems.length c5,.slice a6 x.globs.length c6,.slice a7 x.exps.length c7,.bool x.hasS,.int .i64 x.start,.slice a8 x.elems.length c8,.slice a9 x.codes.length c9,.slice a10 x.datas.length c10,.slice a11 x.customs.length c11] 46):=⟨_,rfl⟩
 have hBk:Bk W w.heap.size [.slice a1 x.types.length c1,.slice a2 x.imps.length c2,.slice a3 x.funcs.length c3,.slice a4 x.tabs.length c4,.slice a5 x.mems.length c5,.slice a6 x.globs.length c6,.slice a7 x.exps.length c7,.bool x.hasS,.int .i64 x.start,.slice a8 x.elems.length c8,.slice a9 x.codes.length c9,.slice a10 x.datas.length c10,.slice a11 x.customs.length c11]:=by rw [hWd];exact Bk.new
 have BB:=Hm hBk
 have HW0:Hid (Wr W p (Bx S w.heap.size) xs):=by show Wr _ _ _ _;rw [hWd];exact wr_box hW _
 have HK0:=Hm (Kept.refl (Bx S w.heap.size) W)
 have HWd:=Hm hWd
 have HS:=Hm (fun (k:Nat) (hk:k<w0.heap.size)=>(Or.inl (hS k hk):Bx S w.heap.size k))
 have HB0:Hid (Below w0.heap.size w0 W):=by show Below _ _ _;rw [hWd];exact hb.alloc hb.size _
 have q0:=hBk.2.1 0 _ rfl
 have q1:=hBk.2.1 1 _ rfl
 have q2:=hBk.2.1 2 _ rfl
 have q3:=hBk.2.1 3 _ rfl
 have q4:=hBk.2.1 4 _ rfl
 have q5:=hBk.2.1 5 _ rfl
 have q6:=hBk.2.1 6 _ rfl
 have q7:=hBk.2.1 7 _ rfl
 have q8:=hBk.2.1 8 _ rfl
 have q9:=hBk.2.1 9 _ rfl
 have q10:=hBk.2.1 10 _ rfl
 have q11:=hBk.2.1 11 _ rfl
 have q12:=hBk.2.1 12 _ rfl
 clear hBk hWd hW hS hb
 go_enter Tryz.func147,Tryz.ntmps147
 have K0:=Hm (wvcod_c p (Bx S w.heap.size) xs x.codes a9 c9 w0 W HS.out (kb HS.out HB0.out HK0.out) hI.2.2.2.2.2.2.2.2.1 hG.codes.1 hG.codes.2 (by (try simp only [List.length_append,List.length_cons,List.length_nil]);omega) HW0.out)
 go_wp2_with fail
 rw [show w.alloc (.cells #[.slice a1 x.types.length c1,.slice a2 x.imps.length c2,.slice a3 x.funcs.length c3,.slice a4 x.tabs.length c4,.slice a5 x.mems.length c5,.slice a6 x.globs.length c6,.slice a7 x.exps.length c7,.bool x.hasS,.int .i64 x.start,.slice a8 x.elems.length c8,.slice a9 x.codes.length c9,.slice a10 x.datas.length c10,.slice a11 x.customs.length c11] 46)=W from HWd.out.symm]
 refine K0.out.mono ?_
 rintro e w1 ⟨rfl,hw,hk⟩
 have HW1:=Hm hw
 have HK1:=Hm (HK0.out.trans hk)
 replace BB:=Hm (BB.out.kept hk (Bx.box S w.heap.size))
 clear q0 q1 q2 q3 q4 q5 q6 q7 q8 q9 q10 q11 q12
 have q0:=BB.out.2.1 0 _ rfl
 have q1:=BB.out.2.1 1 _ rfl
 have q2:=BB.out.2.1 2 _ rfl
 have q3:=BB.out.2.1 3 _ rfl
 have q4:=BB.out.2.1 4 _ rfl
 have q5:=BB.out.2.1 5 _ rfl
 have q6:=BB.out.2.1 6 _ rfl
 have q7:=BB.out.2.1 7 _ rfl
 have q8:=BB.out.2.1 8 _ rfl
 have q9:=BB.out.2.1 9 _ rfl
 have q10:=BB.out.2.1 10 _ rfl
 have q11:=BB.out.2.1 11 _ rfl
 have q12:=BB.out.2.1 12 _ rfl
 clear hw hk K0
 go_wp2
 go_end0
 have HKf:=HK1.out
 rw [HWd.out] at HKf
 obtain ⟨r1,r2⟩:=wr_fin (xs:=xs++((lebU 9 x.codes.length++catE codE x.codes))) HLT.out HW1.out HKf (by simp)
 exact ⟨rfl,r1,r2⟩
theorem wcnt_11 (p:Nat) (S:Nat→Prop) (xs:List Int) (x:Mod) (a1:Option Addr) (c1:Nat) (a2:Option Addr) (c2:Nat) (a3:Option Addr) (c3:Nat) (a4:Option Addr) (c4:Nat) (a5:Option Addr) (c5:Nat) (a6:Option Addr) (c6:Nat) (a7:Option Addr) (c7:Nat) (a8:Option Addr) (c8:Nat) (a9:Option Addr) (c9:Nat) (a10:Option Addr) (c10:Nat) (a11:Option Addr) (c11:Nat) (w0:World) (w:World) (hS:∀ k,k<w0.heap.size→S k) (hb:Below w0.heap.size w0 w) (hI:Mod.Is 0 w0 x a1 a2 a3 a4 a5 a6 a7 a8 a9 a10 a11) (hG:x.Gd) (hl:xs.length+((lebU 9 x.datas.length++catE datE x.datas)).length≤500000000000) (hW:Wr w p S xs) :
    Calls Tryz.prog 147 #[.pointer (some ⟨p,0,none⟩),.agg #[.slice a1 x.types.length c1,.slice a2 x.imps.length c2,.slice a3 x.funcs.length c3,.slice a4 x.tabs.length c4,.slice a5 x.mems.length c5,.slice a6 x.globs.length c6,.slice a7 x.exps.length c7,.bool x.hasS,.int .i64 x.start,.slice a8 x.elems.length c8,.slice a9 x.codes.length c9,.slice a10 x.datas.length c10,.slice a11 x.customs.length c11],.int .i64 11] w fun e w'=>e=.returned (.tuple #[])∧Wr w' p S (xs++((lebU 9 x.datas.length++catE datE x.datas)))∧Kept S w w':=by
 try simp only [List.length_append,List.length_cons,List.length_nil] at hl
 have HLT:=Hm hW.lt
 obtain ⟨W,hWd⟩:∃ W,W=w.alloc (.cells #[.slice a1 x.types.length c1,.slice a2 x.imps.length c2,.slice a3 x.funcs.length c3,.slice a4 x.tabs.length c4,.slice a5 x.mems.length c5,.slice a6 x.globs.length c6,.slice a7 x.exps.length c7,.bool x.hasS,.int .i64 x.start,.slice a8 x.elems.length c8,.slice a9 x.codes.length c9,.slice a10 x.datas.length c10,.slice a11 x.customs.length c11] 46):=⟨_,rfl⟩
 have hBk:Bk W w.heap.size [.slice a1 x.types.length c1,.slice a2 x.imps.length c2,.slice a3 x.funcs.length c3,.slice a4 x.tabs.length c4,.slice a5 x.mems.length c5,.slice a6 x.globs.length c6,.slice a7 x.exps.length c7,.bool x.hasS,.int .i64 x.start,.slice a8 x.elems.length c8,.slice a9 x.codes.length c9,.slice a10 x.datas.length c10,.slice a11 x.customs.length c11]:=by rw [hWd];exact Bk.new
 have BB:=Hm hBk
 have HW0:Hid (Wr W p (Bx S w.heap.size) xs):=by show Wr _ _ _ _;rw [hWd];exact wr_box hW _
 have HK0:=Hm (Kept.refl (Bx S w.heap.size) W)
 have HWd:=Hm hWd
 have HS:=Hm (fun (k:Nat) (hk:k<w0.heap.size)=>(Or.inl (hS k hk):Bx S w.heap.size k))
 have HB0:Hid (Below w0.heap.size w0 W):=by show Below _ _ _;rw [hWd];exact hb.alloc hb.size _
 have q0:=hBk.2.1 0 _ rfl
 have q1:=hBk.2.1 1 _ rfl
 have q2:=hBk.2.1 2 _ rfl
 have q3:=hBk.2.1 3 _ rfl
 have q4:=hBk.2.1 4 _ rfl
 have q5:=hBk.2.1 5 _ rfl
 have q6:=hBk.2.1 6 _ rfl
 have q7:=hBk.2.1 7 _ rfl
 have q8:=hBk.2.1 8 _ rfl
 have q9:=hBk.2.1 9 _ rfl
 have q10:=hBk.2.1 10 _ rfl
 have q11:=hBk.2.1 11 _ rfl
 have q12:=hBk.2.1 12 _ rfl
 clear hBk hWd hW hS hb
 go_enter Tryz.func147,Tryz.ntmps147
 have K0:=Hm (wvdat_c p (Bx S w.heap.size) xs x.datas a10 c10 w0 W HS.out (kb HS.out HB0.out HK0.out) hI.2.2.2.2.2.2.2.2.2.1 hG.datas.1 hG.datas.2 (by (try simp only [List.length_append,List.length_cons,List.length_nil]);omega) HW0.out)
 go_wp2_with fail
 rw [show w.alloc (.cells #[.slice a1 x.types.length c1,.slice a2 x.imps.length c2,.slice a3 x.funcs.length c3,.slice a4 x.tabs.length c4,.slice a5 x.mems.length c5,.slice a6 x.globs.length c6,.slice a7 x.exps.length c7,.bool x.hasS,.int .i64 x.start,.slice a8 x.elems.length c8,.slice a9 x.codes.length c9,.slice a10 x.datas.length c10,.slice a11 x.customs.length c11] 46)=W from HWd.out.symm]
 refine K0.out.mono ?_
 rintro e w1 ⟨rfl,hw,hk⟩
 have HW1:=Hm hw
 have HK1:=Hm (HK0.out.trans hk)
 replace BB:=Hm (BB.out.kept hk (Bx.box S w.heap.size))
 clear q0 q1 q2 q3 q4 q5 q6 q7 q8 q9 q10 q11 q12
 have q0:=BB.out.2.1 0 _ rfl
 have q1:=BB.out.2.1 1 _ rfl
 have q2:=BB.out.2.1 2 _ rfl
 have q3:=BB.out.2.1 3 _ rfl
 have q4:=BB.out.2.1 4 _ rfl
 have q5:=BB.out.2.1 5 _ rfl
 have q6:=BB.out.2.1 6 _ rfl
 have q7:=BB.out.2.1 7 _ rfl
 have q8:=BB.out.2.1 8 _ rfl
 have q9:=BB.out.2.1 9 _ rfl
 have q10:=BB.out.2.1 10 _ rfl
 have q11:=BB.out.2.1 11 _ rfl
 have q12:=BB.out.2.1 12 _ rfl
 clear hw hk K0
 go_wp2
 go_end0
 have HKf:=HK1.out
 rw [HWd.out] at HKf
 obtain ⟨r1,r2⟩:=wr_fin (xs:=xs++((lebU 9 x.datas.length++catE datE x.datas))) HLT.out HW1.out HKf (by simp)
 exact ⟨rfl,r1,r2⟩
theorem wcnt_c (p:Nat) (S:Nat→Prop) (xs:List Int) (x:Mod) (a1:Option Addr) (c1:Nat) (a2:Option Addr) (c2:Nat) (a3:Option Addr) (c3:Nat) (a4:Option Addr) (c4:Nat) (a5:Option Addr) (c5:Nat) (a6:Option Addr) (c6:Nat) (a7:Option Addr) (c7:Nat) (a8:Option Addr) (c8:Nat) (a9:Option Addr) (c9:Nat) (a10:Option Addr) (c10:Nat) (a11:Option Addr) (c11:Nat) (n:Int) (w0 w:World) (hS:∀ k,k<w0.heap.size→S k) (hb:Below w0.heap.size w0 w) (hI:Mod.Is 0 w0 x a1 a2 a3 a4 a5 a6 a7 a8 a9 a10 a11) (hG:x.Gd) (hn:1≤n∧n≤11) (hl:xs.length+(cntE x n).length≤500000000000) (hW:Wr w p S xs) :
    Calls Tryz.prog 147 #[.pointer (some ⟨p,0,none⟩),.agg #[.slice a1 x.types.length c1,.slice a2 x.imps.length c2,.slice a3 x.funcs.length c3,.slice a4 x.tabs.length c4,.slice a5 x.mems.length c5,.slice a6 x.globs.length c6,.slice a7 x.exps.length c7,.bool x.hasS,.int .i64 x.start,.slice a8 x.elems.length c8,.slice a9 x.codes.length c9,.slice a10 x.datas.length c10,.slice a11 x.customs.length c11],.int .i64 n] w fun e w'=>e=.returned (.tuple #[])∧Wr w' p S (xs++cntE x n)∧Kept S w w':=by
 have h:n=1∨n=2∨n=3∨n=4∨n=5∨n=6∨n=7∨n=8∨n=9∨n=10∨n=11:=by omega
 rcases h with rfl | rfl | rfl | rfl | rfl | rfl | rfl | rfl | rfl | rfl | rfl
 · exact wcnt_1 p S xs x a1 c1 a2 c2 a3 c3 a4 c4 a5 c5 a6 c6 a7 c7 a8 c8 a9 c9 a10 c10 a11 c11 w0 w hS hb hI hG hl hW
 · exact wcnt_2 p S xs x a1 c1 a2 c2 a3 c3 a4 c4 a5 c5 a6 c6 a7 c7 a8 c8 a9 c9 a10 c10 a11 c11 w0 w hS hb hI hG hl hW
 · exact wcnt_3 p S xs x a1 c1 a2 c2 a3 c3 a4 c4 a5 c5 a6 c6 a7 c7 a8 c8 a9 c9 a10 c10 a11 c11 w0 w hS hb hI hG hl hW
 · exact wcnt_4 p S xs x a1 c1 a2 c2 a3 c3 a4 c4 a5 c5 a6 c6 a7 c7 a8 c8 a9 c9 a10 c10 a11 c11 w0 w hS hb hI hG hl hW
 · exact wcnt_5 p S xs x a1 c1 a2 c2 a3 c3 a4 c4 a5 c5 a6 c6 a7 c7 a8 c8 a9 c9 a10 c10 a11 c11 w0 w hS hb hI hG hl hW
 · exact wcnt_6 p S xs x a1 c1 a2 c2 a3 c3 a4 c4 a5 c5 a6 c6 a7 c7 a8 c8 a9 c9 a10 c10 a11 c11 w0 w hS hb hI hG hl hW
 · exact wcnt_7 p S xs x a1 c1 a2 c2 a3 c3 a4 c4 a5 c5 a6 c6 a7 c7 a8 c8 a9 c9 a10 c10 a11 c11 w0 w hS hb hI hG hl hW
 · exact wcnt_8 p S xs x a1 c1 a2 c2 a3 c3 a4 c4 a5 c5 a6 c6 a7 c7 a8 c8 a9 c9 a10 c10 a11 c11 w0 w hS hb hI hG hl hW
 · exact wcnt_9 p S xs x a1 c1 a2 c2 a3 c3 a4 c4 a5 c5 a6 c6 a7 c7 a8 c8 a9 c9 a10 c10 a11 c11 w0 w hS hb hI hG hl hW
 · exact wcnt_10 p S xs x a1 c1 a2 c2 a3 c3 a4 c4 a5 c5 a6 c6 a7 c7 a8 c8 a9 c9 a10 c10 a11 c11 w0 w hS hb hI hG hl hW
 · exact wcnt_11 p S xs x a1 c1 a2 c2 a3 c3 a4 c4 a5 c5 a6 c6 a7 c7 a8 c8 a9 c9 a10 c10 a11 c11 w0 w hS hb hI hG hl hW
end Go.Proofs.YtdbmolambolmgaaGreat
