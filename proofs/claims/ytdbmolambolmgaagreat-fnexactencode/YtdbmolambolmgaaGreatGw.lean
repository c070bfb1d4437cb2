import Derived.Test.YtdbmolambolmgaaGreatGv
set_option linter.all false
set_option maxHeartbeats 16000000
set_option maxRecDepth 100000
namespace Go.Proofs.YtdbmolambolmgaaGreat
open Go.RowKit Go.Sort
set_option maxRecDepth 100000
theorem wimp_0 (p:Nat) (S:Nat→Prop) (xs:List Int) (md nm:ByteArray) (ty:Int) (l:Limits) (g:GType) (w:World) (h0:0≤ty) (h1:ty≤4294967295) (hl:xs.length+(nmE md++nmE nm++[(0)%256]++lebU 9 ty).length≤500000000000) (hW:Wr w p S xs) :
    Calls Tryz.prog 190 #[.pointer (some ⟨p,0,none⟩),.agg #[.string md,.string nm,.int .i64 0,.int .i64 ty,.int .i64 l.min,.int .i64 l.max,.bool l.has,.int .i64 g.ty,.bool g.mu]] w fun e w'=>e=.returned (.tuple #[])∧Wr w' p S (xs++(nmE md++nmE nm++[(0)%256]++lebU 9 ty))∧Kept S w w':=by
 try simp only [List.length_append,List.length_cons,List.length_nil] at hl
 have HLT:=Hm hW.lt
 obtain ⟨W,hWd⟩:∃ W,W=w.alloc (.cells #[.string md,.string nm,.int .i64 0,.int .i64 ty,.int .i64 l.min,.int .i64 l.max,.bool l.has,.int .i64 g.ty,.bool g.mu] 103):=⟨_,rfl⟩
 have hBk:Bk W w.heap.size [.string md,.string nm,.int .i64 0,.int .i64 ty,.int .i64 l.min,.int .i64 l.max,.bool l.has,.int .i64 g.ty,.bool g.mu]:=by rw [hWd];exact Bk.new
 have BB:=Hm hBk
 have HW0:Hid (Wr W p (Bx S w.heap.size) xs):=by show Wr _ _ _ _;rw [hWd];exact wr_box hW _
 have HK0:=Hm (Kept.refl (Bx S w.heap.size) W)
 have HWd:=Hm hWd
 have q0:=hBk.2.1 0 _ rfl
 have q1:=hBk.2.1 1 _ rfl
 have q2:=hBk.2.1 2 _ rfl
 have q3:=hBk.2.1 3 _ rfl
 have q4:=hBk.2.1 4 _ rfl
 have q5:=hBk.2.1 5 _ rfl
 have q6:=hBk.2.1 6 _ rfl
 have q7:=hBk.2.1 7 _ rfl
 have q8:=hBk.2.1 8 _ rfl
 clear hBk hWd hW
 go_enter Tryz.func190,Tryz.ntmps190
 have K0:=Hm (wname_c p (Bx S w.heap.size) xs md W (by (try simp only [List.length_append,List.length_cons,List.length_nil]);omega) HW0.out)
 go_wp2_with fail
 rw [show w.alloc (.cells #[.string md,.string nm,.int .i64 0,.int .i64 ty,.int .i64 l.min,.int .i64 l.max,.bool l.has,.int .i64 g.ty,.bool g.mu] 103)=W from HWd.out.symm]
 refine K0.out.mono ?_
 rintro e w1 ⟨rfl,hw,hk⟩
 have HW1:=Hm hw
 have HK1:=Hm (HK0.out.trans hk)
 replace BB:=Hm (BB.out.kept hk (Bx.box S w.heap.size))
 clear q0 q1 q2 q3 q4 q5 q6 q7 q8
 have q0:=BB.out.2.1 0 _ rfl
 have q1:=BB.out.2.1 1 _ rfl
 have q2:=BB.out.2.1 2 _ rfl
 have q3:=BB.out.2.1 3 _ rfl
 have q4:=BB.out.2.1 4 _ rfl
 have q5:=BB.out.2.1 5 _ rfl
 have q6:=BB.out.2.1 6 _ rfl
 have q7:=BB.out.2.1 7 _ rfl
 have q8:=BB.out.2.1 8 _ rfl
 clear hw hk K0
 have K1:=Hm (wname_c p (Bx S w.heap.size) (xs++nmE md) nm w1 (by (try simp only [List.length_append,List.length_cons,List.length_nil]);omega) HW1.out)
 go_wp2_with fail
 refine K1.out.mono ?_
 rintro e w2 ⟨rfl,hw,hk⟩
 have HW2:=Hm hw
 have HK2:=Hm (HK1.out.trans hk)
 replace BB:=Hm (BB.out.kept hk (Bx.box S w.heap.size))
 clear q0 q1 q2 q3 q4 q5 q6 q7 q8
 have q0:=BB.out.2.1 0 _ rfl
 have q1:=BB.out.2.1 1 _ rfl
 have q2:=BB.out.2.1 2 _ rfl
 have q3:=BB.out.2.1 3 _ rfl
 have q4:=BB.out.2.1 4 _ rfl
 have q5:=BB.out.2.1 5 _ rfl
 have q6:=BB.out.2.1 6 _ rfl
 have q7:=BB.out.2.1 7 _ rfl
 have q8:=BB.out.2.1 8 _ rfl
 clear hw hk K1
 have K2:=Hm (wone_c p (Bx S w.heap.size) ((xs++nmE md)++nmE nm) (0) w2 (by (try simp only [List.length_append,List.length_cons,List.length_nil]);omega) HW2.out)
 go_wp2_with fail
 refine K2.out.mono ?_
 rintro e w3 ⟨rfl,hw,hk⟩
 have HW3:=Hm hw
 have HK3:=Hm (HK2.out.trans hk)
 replace BB:=Hm (BB.out.kept hk (Bx.box S w.heap.size))
 clear q0 q1 q2 q3 q4 q5 q6 q7 q8
 have q0:=BB.out.2.1 0 _ rfl
 have q1:=BB.out.2.1 1 _ rfl
 have q2:=BB.out.2.1 2 _ rfl
 have q3:=BB.out.2.1 3 _ rfl
 have q4:=BB.out.2.1 4 _ rfl
 have q5:=BB.out.2.1 5 _ rfl
 have q6:=BB.out.2.1 6 _ rfl
 have q7:=BB.out.2.1 7 _ rfl
 have q8:=BB.out.2.1 8 _ rfl
 clear hw hk K2
 have K3:=Hm (wu32_c p (Bx S w.heap.size) (((xs++nmE md)++nmE nm)++[(0)%256]) (ty) w3 (by omega) (by omega) (by (try simp only [List.length_append,List.length_cons,List.length_nil]);omega) HW3.out)
 go_wp2_with fail
 refine K3.out.mono ?_
 rintro e w4 ⟨rfl,hw,hk⟩
 have HW4:=Hm hw
 have HK4:=Hm (HK3.out.trans hk)
 replace BB:=Hm (BB.out.kept hk (Bx.box S w.heap.size))
 clear q0 q1 q2 q3 q4 q5 q6 q7 q8
 have q0:=BB.out.2.1 0 _ rfl
 have q1:=BB.out.2.1 1 _ rfl
 have q2:=BB.out.2.1 2 _ rfl
 have q3:=BB.out.2.1 3 _ rfl
 have q4:=BB.out.2.1 4 _ rfl
 have q5:=BB.out.2.1 5 _ rfl
 have q6:=BB.out.2.1 6 _ rfl
 have q7:=BB.out.2.1 7 _ rfl
 have q8:=BB.out.2.1 8 _ rfl
 clear hw hk K3
 go_wp2
 go_end0
 have HKf:=HK4.out
 rw [HWd.out] at HKf
 obtain ⟨r1,r2⟩:=wr_fin (xs:=xs++(nmE md++nmE nm++[(0)%256]++lebU 9 ty)) HLT.out HW4.out HKf (by simp)
 exact ⟨rfl,r1,r2⟩
theorem wimp_1 (p:Nat) (S:Nat→Prop) (xs:List Int) (md nm:ByteArray) (ty:Int) (l:Limits) (g:GType) (w:World) (h:limB l=true) (hl:xs.length+(nmE md++nmE nm++[(1)%256]++([112]++limE l)).length≤500000000000) (hW:Wr w p S xs) :
    Calls Tryz.prog 190 #[.pointer (some ⟨p,0,none⟩),.agg #[.string md,.string nm,.int .i64 1,.int .i64 ty,.int .i64 l.min,.int .i64 l.max,.bool l.has,.int .i64 g.ty,.bool g.mu]] w fun e w'=>e=.returned (.tuple #[])∧Wr w' p S (xs++(nmE md++nmE nm++[(1)%256]++([112]++limE l)))∧Kept S w w':=by
 try simp only [List.length_append,List.length_cons,List.length_nil] at hl
 have HLT:=Hm hW.lt
 obtain ⟨W,hWd⟩:∃ W,W=w.alloc (.cells #[.string md,.string nm,.int .i64 1,.int .i64 ty,.int .i64 l.min,.int .i64 l.max,.bool l.has,.int .i64 g.ty,.bool g.mu] 103):=⟨_,rfl⟩
 have hBk:Bk W w.heap.size [.string md,.string nm,.int .i64 1,.int .i64 ty,.int .i64 l.min,.int .i64 l.max,.bool l.has,.int .i64 g.ty,.bool g.mu]:=by rw [hWd];exact Bk.new
 have BB:=Hm hBk
 have HW0:Hid (Wr W p (Bx S w.heap.size) xs):=by show Wr _ _ _ _;rw [hWd];exact wr_box hW _
 have HK0:=Hm (Kept.refl (Bx S w.heap.size) W)
 have HWd:=Hm hWd
 have q0:=hBk.2.1 0 _ rfl
 have q1:=hBk.2.1 1 _ rfl
 have q2:=hBk.2.1 2 _ rfl
 have q3:=hBk.2.1 3 _ rfl
 have q4:=hBk.2.1 4 _ rfl
 have q5:=hBk.2.1 5 _ rfl
 have q6:=hBk.2.1 6 _ rfl
 have q7:=hBk.2.1 7 _ rfl
 have q8:=hBk.2.1 8 _ rfl
 clear hBk hWd hW
 go_enter Tryz.func190,Tryz.ntmps190
 have K0:=Hm (wname_c p (Bx S w.heap.size) xs md W (by (try simp only [List.length_append,List.length_cons,List.length_nil]);omega) HW0.out)
 go_wp2_with fail
 rw [show w.alloc (.cells #[.string md,.string nm,.int .i64 1,.int .i64 ty,.int .i64 l.min,.int .i64 l.max,.bool l.has,.int .i64 g.ty,.bool g.mu] 103)=W from HWd.out.symm]
 refine K0.out.mono ?_
 rintro e w1 ⟨rfl,hw,hk⟩
 have HW1:=Hm hw
 have HK1:=Hm (HK0.out.trans hk)
 replace BB:=Hm (BB.out.kept hk (Bx.box S w.heap.size))
 clear q0 q1 q2 q3 q4 q5 q6 q7 q8
 have q0:=BB.out.2.1 0 _ rfl
 have q1:=BB.out.2.1 1 _ rfl
 have q2:=BB.out.2.1 2 _ rfl
 have q3:=BB.out.2.1 3 _ rfl
 have q4:=BB.out.2.1 4 _ rfl
 have q5:=BB.out.2.1 5 _ rfl
 have q6:=BB.out.2.1 6 _ rfl
 have q7:=BB.out.2.1 7 _ rfl
 have q8:=BB.out.2.1 8 _ rfl
 clear hw hk K0
 have K1:=Hm (wname_c p (Bx S w.heap.size) (xs++nmE md) nm w1 (by (try simp only [List.length_append,List.length_cons,List.length_nil]);omega) HW1.out)
 go_wp2_with fail
 refine K1.out.mono ?_
 rintro e w2 ⟨rfl,hw,hk⟩
 have HW2:=Hm hw
 have HK2:=Hm (HK1.out.trans hk)
 replace BB:=Hm (BB.out.kept hk (Bx.box S w.heap.size))
 clear q0 q1 q2 q3 q4 q5 q6 q7 q8
 have q0:=BB.out.2.1 0 _ rfl
 have q1:=BB.out.2.1 1 _ rfl
 have q2:=BB.out.2.1 2 _ rfl
 have q3:=BB.out.2.1 3 _ rfl
 have q4:=BB.out.2.1 4 _ rfl
 have q5:=BB.out.2.1 5 _ rfl
 have q6:=BB.out.2.1 6 _ rfl
 have q7:=BB.out.2.1 7 _ rfl
 have q8:=BB.out.2.1 8 _ rfl
 clear hw hk K1
 have K2:=Hm (wone_c p (Bx S w.heap.size) ((xs++nmE md)++nmE nm) (1) w2 (by (try simp only [List.length_append,List.length_cons,List.length_nil]);omega) HW2.out)
 go_wp2_with fail
 refine K2.out.mono ?_
 rintro e w3 ⟨rfl,hw,hk⟩
 have HW3:=Hm hw
 have HK3:=Hm (HK2.out.trans hk)
 replace BB:=Hm (BB.out.kept hk (Bx.box S w.heap.size))
 clear q0 q1 q2 q3 q4 q5 q6 q7 q8
 have q0:=BB.out.2.1 0 _ rfl
 have q1:=BB.out.2.1 1 _ rfl
 have q2:=BB.out.2.1 2 _ rfl
 have q3:=BB.out.2.1 3 _ rfl
 have q4:=BB.out.2.1 4 _ rfl
 have q5:=BB.out.2.1 5 _ rfl
 have q6:=BB.out.2.1 6 _ rfl
 have q7:=BB.out.2.1 7 _ rfl
 have q8:=BB.out.2.1 8 _ rfl
 clear hw hk K2
 have K3:=Hm (wtab_c p (Bx S w.heap.size) (((xs++nmE md)++nmE nm)++[(1)%256]) l w3 h (by (try simp only [List.length_append,List.length_cons,List.length_nil]);omega) HW3.out)
 go_wp2_with fail
 refine K3.out.mono ?_
 rintro e w4 ⟨rfl,hw,hk⟩
 have HW4:=Hm hw
 have HK4:=Hm (HK3.out.trans hk)
 replace BB:=Hm (BB.out.kept hk (Bx.box S w.heap.size))
 clear q0 q1 q2 q3 q4 q5 q6 q7 q8
 have q0:=BB.out.2.1 0 _ rfl
 have q1:=BB.out.2.1 1 _ rfl
 have q2:=BB.out.2.1 2 _ rfl
 have q3:=BB.out.2.1 3 _ rfl
 have q4:=BB.out.2.1 4 _ rfl
 have q5:=BB.out.2.1 5 _ rfl
 have q6:=BB.out.2.1 6 _ rfl
 have q7:=BB.out.2.1 7 _ rfl
 have q8:=BB.out.2.1 8 _ rfl
 clear hw hk K3
 go_wp2
 go_end0
 have HKf:=HK4.out
 rw [HWd.out] at HKf
 obtain ⟨r1,r2⟩:=wr_fin (xs:=xs++(nmE md++nmE nm++[(1)%256]++([112]++limE l))) HLT.out HW4.out HKf (by simp)
 exact ⟨rfl,r1,r2⟩
theorem wimp_2 (p:Nat) (S:Nat→Prop) (xs:List Int) (md nm:ByteArray) (ty:Int) (l:Limits) (g:GType) (w:World) (h:limB l=true) (hl:xs.length+(nmE md++nmE nm++[(2)%256]++limE l).length≤500000000000) (hW:Wr w p S xs) :
    Calls Tryz.prog 190 #[.pointer (some ⟨p,0,none⟩),.agg #[.string md,.string nm,.int .i64 2,.int .i64 ty,.int .i64 l.min,.int .i64 l.max,.bool l.has,.int .i64 g.ty,.bool g.mu]] w fun e w'=>e=.returned (.tuple #[])∧Wr w' p S (xs++(nmE md++nmE nm++[(2)%256]++limE l))∧Kept S w w':=by
 try simp only [List.length_append,List.length_cons,List.length_nil] at hl
 have HLT:=Hm hW.lt
 obtain ⟨W,hWd⟩:∃ W,W=w.alloc (.cells #[.string md,.string nm,.int .i64 2,.int .i64 ty,.int .i64 l.min,.int .i64 l.max,.bool l.has,.int .i64 g.ty,.bool g.mu] 103):=⟨_,rfl⟩
 have hBk:Bk W w.heap.size [.string md,.string nm,.int .i64 2,.int .i64 ty,.int .i64 l.min,.int .i64 l.max,.bool l.has,.int .i64 g.ty,.bool g.mu]:=by rw [hWd];exact Bk.new
 have BB:=Hm hBk
 have HW0:Hid (Wr W p (Bx S w.heap.size) xs):=by show Wr _ _ _ _;rw [hWd];exact wr_box hW _
 have HK0:=Hm (Kept.refl (Bx S w.heap.size) W)
 have HWd:=Hm hWd
 have q0:=hBk.2.1 0 _ rfl
 have q1:=hBk.2.1 1 _ rfl
 have q2:=hBk.2.1 2 _ rfl
 have q3:=hBk.2.1 3 _ rfl
 have q4:=hBk.2.1 4 _ rfl
 have q5:=hBk.2.1 5 _ rfl
 have q6:=hBk.2.1 6 _ rfl
 have q7:=hBk.2.1 7 _ rfl
 have q8:=hBk.2.1 8 _ rfl
 clear hBk hWd hW
 go_enter Tryz.func190,Tryz.ntmps190
 have K0:=Hm (wname_c p (Bx S w.heap.size) xs md W (by (try simp only [List.length_append,List.length_cons,List.length_nil]);omega) HW0.out)
 go_wp2_with fail
 rw [show w.alloc (.cells #[.string md,.string nm,.int .i64 2,.int .i64 ty,.int .i64 l.min,.int .i64 l.max,.bool l.has,.int .i64 g.ty,.bool g.mu] 103)=W from HWd.out.symm]
 refine K0.out.mono ?_
 rintro e w1 ⟨rfl,hw,hk⟩
 have HW1:=Hm hw
 have HK1:=Hm (HK0.out.trans hk)
 replace BB:=Hm (BB.out.kept hk (Bx.box S w.heap.size))
 clear q0 q1 q2 q3 q4 q5 q6 q7 q8
 have q0:=BB.out.2.1 0 _ rfl
 have q1:=BB.out.2.1 1 _ rfl
 have q2:=BB.out.2.1 2 _ rfl
 have q3:=BB.out.2.1 3 _ rfl
 have q4:=BB.out.2.1 4 _ rfl
 have q5:=BB.out.2.1 5 _ rfl
 have q6:=BB.out.2.1 6 _ rfl
 have q7:=BB.out.2.1 7 _ rfl
 have q8:=BB.out.2.1 8 _ rfl
 clear hw hk K0
 have K1:=Hm (wname_c p (Bx S w.heap.size) (xs++nmE md) nm w1 (by (try simp only [List.length_append,List.length_cons,List.length_nil]);omega) HW1.out)
 go_wp2_with fail
 refine K1.out.mono ?_
 rintro e w2 ⟨rfl,hw,hk⟩
 have HW2:=Hm hw
 have HK2:=Hm (HK1.out.trans hk)
 replace BB:=Hm (BB.out.kept hk (Bx.box S w.heap.size))
 clear q0 q1 q2 q3 q4 q5 q6 q7 q8
 have q0:=BB.out.2.1 0 _ rfl
 have q1:=BB.out.2.1 1 _ rfl
 have q2:=BB.out.2.1 2 _ rfl
 have q3:=BB.out.2.1 3 _ rfl
 have q4:=BB.out.2.1 4 _ rfl
 have q5:=BB.out.2.1 5 _ rfl
 have q6:=BB.out.2.1 6 _ rfl
 have q7:=BB.out.2.1 7 _ rfl
 have q8:=BB.out.2.1 8 _ rfl
 clear hw hk K1
 have K2:=Hm (wone_c p (Bx S w.heap.size) ((xs++nmE md)++nmE nm) (2) w2 (by (try simp only [List.length_append,List.length_cons,List.length_nil]);omega) HW2.out)
 go_wp2_with fail
 refine K2.out.mono ?_
 rintro e w3 ⟨rfl,hw,hk⟩
 have HW3:=Hm hw
 have HK3:=Hm (HK2.out.trans hk)
 replace BB:=Hm (BB.out.kept hk (Bx.box S w.heap.size))
 clear q0 q1 q2 q3 q4 q5 q6 q7 q8
 have q0:=BB.out.2.1 0 _ rfl
 have q1:=BB.out.2.1 1 _ rfl
 have q2:=BB.out.2.1 2 _ rfl
 have q3:=BB.out.2.1 3 _ rfl
 have q4:=BB.out.2.1 4 _ rfl
 have q5:=BB.out.2.1 5 _ rfl
 have q6:=BB.out.2.1 6 _ rfl
 have q7:=BB.out.2.1 7 _ rfl
 have q8:=BB.out.2.1 8 _ rfl
 clear hw hk K2
 have K3:=Hm (wlim_c p (Bx S w.heap.size) (((xs++nmE md)++nmE nm)++[(2)%256]) l w3 h (by (try simp only [List.length_append,List.length_cons,List.length_nil]);omega) HW3.out)
 go_wp2_with fail
 refine K3.out.mono ?_
 rintro e w4 ⟨rfl,hw,hk⟩
 have HW4:=Hm hw
 have HK4:=Hm (HK3.out.trans hk)
 replace BB:=Hm (BB.out.kept hk (Bx.box S w.heap.size))
 clear q0 q1 q2 q3 q4 q5 q6 q7 q8
 have q0:=BB.out.2.1 0 _ rfl
 have q1:=BB.out.2.1 1 _ rfl
 have q2:=BB.out.2.1 2 _ rfl
 have q3:=BB.out.2.1 3 _ rfl
 have q4:=BB.out.2.1 4 _ rfl
 have q5:=BB.out.2.1 5 _ rfl
 have q6:=BB.out.2.1 6 _ rfl
 have q7:=BB.out.2.1 7 _ rfl
 have q8:=BB.out.2.1 8 _ rfl
 clear hw hk K3
 go_wp2
 go_end0
 have HKf:=HK4.out
 rw [HWd.out] at HKf
 obtain ⟨r1,r2⟩:=wr_fin (xs:=xs++(nmE md++nmE nm++[(2)%256]++limE l)) HLT.out HW4.out HKf (by simp)
 exact ⟨rfl,r1,r2⟩
theorem wimp_3 (p:Nat) (S:Nat→Prop) (xs:List Int) (md nm:ByteArray) (ty:Int) (l:Limits) (g:GType) (w:World) (hl:xs.length+(nmE md++nmE nm++[(3)%256]++([g.ty%256]++flB g.mu)).length≤500000000000) (hW:Wr w p S xs) :
    Calls Tryz.prog 190 #[.pointer (some ⟨p,0,none⟩),.agg #[.string md,.string nm,.int .i64 3,.int .i64 ty,.int .i64 l.min,.int .i64 l.max,.bool l.has,.int .i64 g.ty,.bool g.mu]] w fun e w'=>e=.returned (.tuple #[])∧Wr w' p S (xs++(nmE md++nmE nm++[(3)%256]++([g.ty%256]++flB g.mu)))∧Kept S w w':=by
 try simp only [List.length_append,List.length_cons,List.length_nil] at hl
 have HLT:=Hm hW.lt
 obtain ⟨W,hWd⟩:∃ W,W=w.alloc (.cells #[.string md,.string nm,.int .i64 3,.int .i64 ty,.int .i64 l.min,.int .i64 l.max,.bool l.has,.int .i64 g.ty,.bool g.mu] 103):=⟨_,rfl⟩
 have hBk:Bk W w.heap.size [.string md,.string nm,.int .i64 3,.int .i64 ty,.int .i64 l.min,.int .i64 l.max,.bool l.has,.int .i64 g.ty,.bool g.mu]:=by rw [hWd];exact Bk.new
 have BB:=Hm hBk
 have HW0:Hid (Wr W p (Bx S w.heap.size) xs):=by show Wr _ _ _ _;rw [hWd];exact wr_box hW _
 have HK0:=Hm (Kept.refl (Bx S w.heap.size) W)
 have HWd:=Hm hWd
 have q0:=hBk.2.1 0 _ rfl
 have q1:=hBk.2.1 1 _ rfl
 have q2:=hBk.2.1 2 _ rfl
 have q3:=hBk.2.1 3 _ rfl
 have q4:=hBk.2.1 4 _ rfl
 have q5:=hBk.2.1 5 _ rfl
 have q6:=hBk.2.1 6 _ rfl
 have q7:=hBk.2.1 7 _ rfl
 have q8:=hBk.2.1 8 _ rfl
 clear hBk hWd hW
 go_enter Tryz.func190,Tryz.ntmps190
 have K0:=Hm (wname_c p (Bx S w.heap.size) xs md W (by (try simp only [List.length_append,List.length_cons,List.length_nil]);omega) HW0.out)
 go_wp2_with fail
 rw [show w.alloc (.cells #[.string md,.string nm,.int .i64 3,.int .i64 ty,.int .i64 l.min,.int .i64 l.max,.bool l.has,.int .i64 g.ty,.bool g.mu] 103)=W from HWd.out.symm]
 refine K0.out.mono ?_
 rintro e w1 ⟨rfl,hw,hk⟩
 have HW1:=Hm hw
 have HK1:=Hm (HK0.out.trans hk)
 replace BB:=Hm (BB.out.kept hk (Bx.box S w.heap.size))
 clear q0 q1 q2 q3 q4 q5 q6 q7 q8
 have q0:=BB.out.2.1 0 _ rfl
 have q1:=BB.out.2.1 1 _ rfl
 have q2:=BB.out.2.1 2 _ rfl
 have q3:=BB.out.2.1 3 _ rfl
 have q4:=BB.out.2.1 4 _ rfl
 have q5:=BB.out.2.1 5 _ rfl
 have q6:=BB.out.2.1 6 _ rfl
 have q7:=BB.out.2.1 7 _ rfl
 have q8:=BB.out.2.1 8 _ rfl
 clear hw hk K0
 have K1:=Hm (wname_c p (Bx S w.heap.size) (xs++nmE md) nm w1 (by (try simp only [List.length_append,List.length_cons,List.length_nil]);omega) HW1.out)
 go_wp2_with fail
 refine K1.out.mono ?_
 rintro e w2 ⟨rfl,hw,hk⟩
 have HW2:=Hm hw
 have HK2:=Hm (HK1.out.trans hk)
 replace BB:=Hm (BB.out.kept hk (Bx.box S w.heap.size))
 clear q0 q1 q2 q3 q4 q5 q6 q7 q8
 have q0:=BB.out.2.1 0 _ rfl
 have q1:=BB.out.2.1 1 _ rfl
 have q2:=BB.out.2.1 2 _ rfl
 have q3:=BB.out.2.1 3 _ rfl
 have q4:=BB.out.2.1 4 _ rfl
 have q5:=BB.out.2.1 5 _ rfl
 have q6:=BB.out.2.1 6 _ rfl
 have q7:=BB.out.2.1 7 _ rfl
 have q8:=BB.out.2.1 8 _ rfl
 clear hw hk K1
 have K2:=Hm (wone_c p (Bx S w.heap.size) ((xs++nmE md)++nmE nm) (3) w2 (by (try simp only [List.length_append,List.length_cons,List.length_nil]);omega) HW2.out)
 go_wp2_with fail
 refine K2.out.mono ?_
 rintro e w3 ⟨rfl,hw,hk⟩
 have HW3:=Hm hw
 have HK3:=Hm (HK2.out.trans hk)
 replace BB:=Hm (BB.out.kept hk (Bx.box S w.heap.size))
 clear q0 q1 q2 q3 q4 q5 q6 q7 q8
 have q0:=BB.out.2.1 0 _ rfl
 have q1:=BB.out.2.1 1 _ rfl
 have q2:=BB.out.2.1 2 _ rfl
 have q3:=BB.out.2.1 3 _ rfl
 have q4:=BB.out.2.1 4 _ rfl
 have q5:=BB.out.2.1 5 _ rfl
 have q6:=BB.out.2.1 6 _ rfl
 have q7:=BB.out.2.1 7 _ rfl
 have q8:=BB.out.2.1 8 _ rfl
 clear hw hk K2
 have K3:=Hm (wgt_c p (Bx S w.heap.size) (((xs++nmE md)++nmE nm)++[(3)%256]) g w3 (by (try simp only [List.length_append,List.length_cons,List.length_nil]);omega) HW3.out)
 go_wp2_with fail
 refine K3.out.mono ?_
 rintro e w4 ⟨rfl,hw,hk⟩
 have HW4:=Hm hw
 have HK4:=Hm (HK3.out.trans hk)
 replace BB:=Hm (BB.out.kept hk (Bx.box S w.heap.size))
 clear q0 q1 q2 q3 q4 q5 q6 q7 q8
 have q0:=BB.out.2.1 0 _ rfl
 have q1:=BB.out.2.1 1 _ rfl
 have q2:=BB.out.2.1 2 _ rfl
 have q3:=BB.out.2.1 3 _ rfl
 have q4:=BB.out.2.1 4 _ rfl
 have q5:=BB.out.2.1 5 _ rfl
 have q6:=BB.out.2.1 6 _ rfl
 have q7:=BB.out.2.1 7 _ rfl
 have q8:=BB.out.2.1 8 _ rfl
 clear hw hk K3
 go_wp2
 go_end0
 have HKf:=HK4.out
 rw [HWd.out] at HKf
 obtain ⟨r1,r2⟩:=wr_fin (xs:=xs++(nmE md++nmE nm++[(3)%256]++([g.ty%256]++flB g.mu))) HLT.out HW4.out HKf (by simp)
 exact ⟨rfl,r1,r2⟩
def impE (x:Imp):List Int:=nmE x.mod++nmE x.nm++[x.kind%256]++(if x.kind=0 then lebU 9 x.ty else if x.kind=1 then [112]++limE x.lim else if x.kind=2 then limE x.lim else gtE x.gl)
theorem wimp_c (p:Nat) (S:Nat→Prop) (xs:List Int) (x:Imp) (w:World) (h:impK x=true) (hl:xs.length+(impE x).length≤500000000000) (hW:Wr w p S xs) :
    Calls Tryz.prog 190 #[.pointer (some ⟨p,0,none⟩),.agg #[.string x.mod,.string x.nm,.int .i64 x.kind,.int .i64 x.ty,.int .i64 x.lim.min,.int .i64 x.lim.max,.bool x.lim.has,.int .i64 x.gl.ty,.bool x.gl.mu]] w fun e w'=>e=.returned (.tuple #[])∧Wr w' p S (xs++impE x)∧Kept S w w':=by
 obtain ⟨md,nm,kind,ty,l,g⟩:=x
 simp only [impK] at h
 by_cases h0:kind=0
 · subst h0
   simp [u32B] at h
   exact wimp_0 p S xs md nm ty l g w (by omega) (by omega) (by simpa [impE] using hl) hW
 by_cases h1:kind=1
 · subst h1
   simp at h
   exact wimp_1 p S xs md nm ty l g w h.1.2 (by simpa [impE] using hl) hW
 by_cases h2:kind=2
 · subst h2
   simp at h
   exact wimp_2 p S xs md nm ty l g w h.1.2 (by simpa [impE] using hl) hW
 by_cases h3:kind=3
 · subst h3
   exact wimp_3 p S xs md nm ty l g w (by simpa [impE,gtE] using hl) hW
 · simp [h0,h1,h2,h3] at h
theorem wlist_c (p:Nat) (S:Nat→Prop) (xs:List Int) (l:List In) (a:Option Addr) (c:Nat) (w0 w:World) (hS:∀ k,k<w0.heap.size→S k) (hb:Below w0.heap.size w0 w) (hL:In.Ls 0 w0 a l) (hn:l.length≤1048576) (hg:∀ i,i<l.length→gd (l.getD i I0)=true∧0≤(l.getD i I0).v∧(l.getD i I0).v≤18446744073709551615∧(l.getD i I0).l.length≤1048576) (hl:xs.length+(catE encI l).length≤500000000000) (hW:Wr w p S xs) :
    Calls Tryz.prog 228 #[.pointer (some ⟨p,0,none⟩),.slice a l.length c] w fun e w'=>e=.returned (.tuple #[])∧Wr w' p S (xs++catE encI l)∧Kept S w w':=by
 have HS:=Hm hS
 have HB:=Hm hb
 have HG:=Hm hg
 have HLs:=Hm hL
 have HW0:=Hm hW
 clear hS hb hg hL hW
 go_enter Tryz.func228,Tryz.ntmps228
 go_wp2_with fail
 go_loopw [8] (fun i wr=>∃ k:Nat,k≤l.length∧i=.int .i64 k∧Wr wr p S (xs++catE encI (l.take k))∧Kept S w wr) (fun i _=>l.length-(intOf i).toNat)
 case atStart=>exact ⟨0,Nat.zero_le _,rfl,by simpa [catE] using HW0.out,Kept.refl _ _⟩
 case round =>
  obtain ⟨k,hk,rfl,hw,hkp⟩:=hrel
  clear HW0
  by_cases hlt:k<l.length
  · have hki:(k:Int)<(l.length:Int):=by omega
    have hbr:=kb HS.out HB.out hkp
    rcases HLs.out with hx | ⟨b,o,ea,_,hc⟩
    · subst hx;simp at hlt
    have hxk:=hc k hlt
    subst ea
    obtain ⟨g0,g1,g2,g3⟩:=HG.out k hlt
    have HSt:=Hm (catE_step encI I0 l k hlt)
    have hle:=catE_le encI l k
    have hle2:=catE_le encI l (k+1)
    rw [HSt.out,List.length_append] at hle2
    generalize hx:l.getD k I0=x at *
    obtain ⟨a1,c1,⟨q0,q1,q2,q3,q4⟩,hi⟩:=hxk
    have lb:b<w0.heap.size:=World.block_lt_of_cell? w0 _ q0
    have q0:=(hbr.cell (p:=⟨b,o+k*5,none⟩) lb).trans q0
    have q1:=(hbr.cell (p:=⟨b,o+k*5+1,none⟩) lb).trans q1
    have q2:=(hbr.cell (p:=⟨b,o+k*5+2,none⟩) lb).trans q2
    have q3:=(hbr.cell (p:=⟨b,o+k*5+3,none⟩) lb).trans q3
    have q4:=(hbr.cell (p:=⟨b,o+k*5+4,none⟩) lb).trans q4
    generalize hpre:xs++catE encI (l.take k)=pre at *
    have hpl:pre.length+(encI x).length≤500000000000:=by rw [← hpre,List.length_append];omega
    have HPre:=Hm hpre
    have KI:=Hm (fun (ob:Obj)=>wins_c p S pre x a1 c1 (wr.alloc ob) g0 g1 g2 g3 (fun w' hk'=>(HI.has (hi.up (up_below (kb HS.out (hbr.alloc hbr.size ob) hk'))))) (by omega) (hw.keep ((Below.refl _ _).alloc (Nat.le_refl _) ob)))
    have HKP:=Hm hkp
    have HLt:=Hm hw.lt
    clear hw hkp hc hx hpre hle hle2 hi hbr lb g0 g1 g2 g3 HG HLs
    go_wp2_with fail
    refine (KI.out _).mono ?_
    rintro e w2 ⟨rfl,hw2,hk2⟩
    have HW2:Hid (Wr w2 p S (xs++catE encI (l.take (k+1)))):=by
     show Wr _ _ _ _
     rw [HSt.out,← List.append_assoc,HPre.out];exact hw2
    have HK2:=Hm (HKP.out.trans ((Kept.of_below ((Below.refl _ _).alloc (Nat.le_refl _) _) HLt.out).trans hk2))
    clear hw2 hk2 KI q0 q1 q2 q3 q4
    go_wp2
    go_roundw
    case rel=>exact ⟨k+1,by omega,by go_num,HW2.out,HK2.out⟩
    case measure=>simp [intOf];omega
  · have e:k=l.length:=by omega
    subst e
    rw [List.take_length] at hw
    have HW2:=Hm hw
    have HK2:=Hm hkp
    clear hw hkp HG HLs
    go_wp2
    go_end0
    exact ⟨rfl,HW2.out,HK2.out⟩
end Go.Proofs.YtdbmolambolmgaaGreat
