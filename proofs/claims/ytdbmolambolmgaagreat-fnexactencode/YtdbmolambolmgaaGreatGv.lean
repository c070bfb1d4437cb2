import Derived.Test.YtdbmolambolmgaaGreatGi
import Derived.Test.YtdbmolambolmgaaGreatGt
import Derived.Test.YtdbmolambolmgaaGreatGu
import Derived.Maps.AppendAt
set_option linter.all false
set_option maxHeartbeats 16000000
set_option maxRecDepth 100000
namespace Go.Proofs.YtdbmolambolmgaaGreat
open Go.RowKit Go.Sort
set_option maxRecDepth 100000
theorem Bk.kept {S:Nat→Prop} {w w':World} {g:Nat} {cs:List Value} (hb:Bk w g cs) (h:Kept S w w') (hg:S g):Bk w' g cs :=
 ⟨Nat.lt_of_lt_of_le hb.1 h.size,fun j v hv=>(h.cell hg).trans (hb.2.1 j v hv),fun j=>(h.frozen hg).trans (hb.2.2 j)⟩
def flB (b:Bool):List Int:=if b then [1] else [0]
def limE (l:Limits):List Int:=flB l.has++(lebU 9 l.min++(if l.has then lebU 9 l.max else []))
def gtE (g:GType):List Int:=[g.ty%256]++flB g.mu
def grpE (g:Grp):List Int:=lebU 9 g.n++[g.ty%256]
theorem wflag_c (p:Nat) (S:Nat→Prop) (xs:List Int) (b:Bool) (w:World) (hl:xs.length≤1099511627776) (hW:Wr w p S xs) :
    Calls Tryz.prog 227 #[.pointer (some ⟨p,0,none⟩),.bool b] w fun e w'=>e=.returned (.tuple #[])∧Wr w' p S (xs++flB b)∧Kept S w w':=by
 have K:=Hm (fun x=>wone_c p S xs x w hl hW)
 clear hW
 cases b
 · go_enter Tryz.func227,Tryz.ntmps227
   go_wp2_with fail
   refine (K.out _).mono ?_
   rintro e w1 ⟨rfl,h1,h2⟩
   have H1:=Hm h1
   have H2:=Hm h2
   clear h1 h2
   go_wp2
   go_end0
   exact ⟨rfl,H1.out,H2.out⟩
 · go_enter Tryz.func227,Tryz.ntmps227
   go_wp2_with fail
   refine (K.out _).mono ?_
   rintro e w1 ⟨rfl,h1,h2⟩
   have H1:=Hm h1
   have H2:=Hm h2
   clear h1 h2
   go_wp2
   go_end0
   exact ⟨rfl,H1.out,H2.out⟩
theorem flB_len (b:Bool):(flB b).length=1:=by cases b <;> rfl
theorem wlim_true (p:Nat) (S:Nat→Prop) (xs:List Int) (mn mx:Int) (w:World) (h0:0≤mn) (h1:mn≤4294967295) (h2:0≤mx) (h3:mx≤4294967295) (hl:xs.length+(flB true++(lebU 9 mn++lebU 9 mx)).length≤500000000000) (hW:Wr w p S xs) :
    Calls Tryz.prog 195 #[.pointer (some ⟨p,0,none⟩),.agg #[.int .i64 mn,.int .i64 mx,.bool true]] w fun e w'=>e=.returned (.tuple #[])∧Wr w' p S (xs++(flB true++(lebU 9 mn++lebU 9 mx)))∧Kept S w w':=by
 have e1:=flB_len true
 rw [List.length_append,List.length_append,e1] at hl
 try simp only [List.length_append,List.length_cons,List.length_nil] at hl
 have HLT:=Hm hW.lt
 obtain ⟨W,hWd⟩:∃ W,W=w.alloc (.cells #[.int .i64 mn,.int .i64 mx,.bool true] 99):=⟨_,rfl⟩
 have hBk:Bk W w.heap.size [.int .i64 mn,.int .i64 mx,.bool true]:=by rw [hWd];exact Bk.new
 have BB:=Hm hBk
 have HW0:Hid (Wr W p (Bx S w.heap.size) xs):=by show Wr _ _ _ _;rw [hWd];exact wr_box hW _
 have HK0:=Hm (Kept.refl (Bx S w.heap.size) W)
 have HWd:=Hm hWd
 have q0:=hBk.2.1 0 _ rfl
 have q1:=hBk.2.1 1 _ rfl
 have q2:=hBk.2.1 2 _ rfl
 clear hBk hWd hW
 go_enter Tryz.func195,Tryz.ntmps195
 have K0:=Hm (wflag_c p (Bx S w.heap.size) xs true W (by (try simp only [List.length_append,List.length_cons,List.length_nil]);omega) HW0.out)
 go_wp2_with fail
 rw [show w.alloc (.cells #[.int .i64 mn,.int .i64 mx,.bool true] 99)=W from HWd.out.symm]
 refine K0.out.mono ?_
 rintro e w1 ⟨rfl,hw,hk⟩
 have HW1:=Hm hw
 have HK1:=Hm (HK0.out.trans hk)
 replace BB:=Hm (BB.out.kept hk (Bx.box S w.heap.size))
 clear q0 q1 q2
 have q0:=BB.out.2.1 0 _ rfl
 have q1:=BB.out.2.1 1 _ rfl
 have q2:=BB.out.2.1 2 _ rfl
 clear hw hk K0
 have K1:=Hm (wu32_c p (Bx S w.heap.size) (xs++flB true) (mn) w1 (by omega) (by omega) (by (try simp only [List.length_append,List.length_cons,List.length_nil]);omega) HW1.out)
 go_wp2_with fail
 refine K1.out.mono ?_
 rintro e w2 ⟨rfl,hw,hk⟩
 have HW2:=Hm hw
 have HK2:=Hm (HK1.out.trans hk)
 replace BB:=Hm (BB.out.kept hk (Bx.box S w.heap.size))
 clear q0 q1 q2
 have q0:=BB.out.2.1 0 _ rfl
 have q1:=BB.out.2.1 1 _ rfl
 have q2:=BB.out.2.1 2 _ rfl
 clear hw hk K1
 have K2:=Hm (wu32_c p (Bx S w.heap.size) ((xs++flB true)++lebU 9 (mn)) (mx) w2 (by omega) (by omega) (by (try simp only [List.length_append,List.length_cons,List.length_nil]);omega) HW2.out)
 go_wp2_with fail
 refine K2.out.mono ?_
 rintro e w3 ⟨rfl,hw,hk⟩
 have HW3:=Hm hw
 have HK3:=Hm (HK2.out.trans hk)
 replace BB:=Hm (BB.out.kept hk (Bx.box S w.heap.size))
 clear q0 q1 q2
 have q0:=BB.out.2.1 0 _ rfl
 have q1:=BB.out.2.1 1 _ rfl
 have q2:=BB.out.2.1 2 _ rfl
 clear hw hk K2
 go_wp2
 go_end0
 have HKf:=HK3.out
 rw [HWd.out] at HKf
 obtain ⟨r1,r2⟩:=wr_fin (xs:=xs++(flB true++(lebU 9 mn++lebU 9 mx))) HLT.out HW3.out HKf (by simp)
 exact ⟨rfl,r1,r2⟩
theorem wlim_false (p:Nat) (S:Nat→Prop) (xs:List Int) (mn mx:Int) (w:World) (h0:0≤mn) (h1:mn≤4294967295) (h2:0≤mx) (h3:mx≤4294967295) (hl:xs.length+(flB false++(lebU 9 mn++[])).length≤500000000000) (hW:Wr w p S xs) :
    Calls Tryz.prog 195 #[.pointer (some ⟨p,0,none⟩),.agg #[.int .i64 mn,.int .i64 mx,.bool false]] w fun e w'=>e=.returned (.tuple #[])∧Wr w' p S (xs++(flB false++(lebU 9 mn++[])))∧Kept S w w':=by
 have e1:=flB_len false
 rw [List.length_append,List.length_append,e1] at hl
 try simp only [List.length_append,List.length_cons,List.length_nil] at hl
 have HLT:=Hm hW.lt
 obtain ⟨W,hWd⟩:∃ W,W=w.alloc (.cells #[.int .i64 mn,.int .i64 mx,.bool false] 99):=⟨_,rfl⟩
 have hBk:Bk W w.heap.size [.int .i64 mn,.int .i64 mx,.bool false]:=by rw [hWd];exact Bk.new
 have BB:=Hm hBk
 have HW0:Hid (Wr W p (Bx S w.heap.size) xs):=by show Wr _ _ _ _;rw [hWd];exact wr_box hW _
 have HK0:=Hm (Kept.refl (Bx S w.heap.size) W)
 have HWd:=Hm hWd
 have q0:=hBk.2.1 0 _ rfl
 have q1:=hBk.2.1 1 _ rfl
 have q2:=hBk.2.1 2 _ rfl
 clear hBk hWd hW
 go_enter Tryz.func195,Tryz.ntmps195
 have K0:=Hm (wflag_c p (Bx S w.heap.size) xs false W (by (try simp only [List.length_append,List.length_cons,List.length_nil]);omega) HW0.out)
 go_wp2_with fail
 rw [show w.alloc (.cells #[.int .i64 mn,.int .i64 mx,.bool false] 99)=W from HWd.out.symm]
 refine K0.out.mono ?_
 rintro e w1 ⟨rfl,hw,hk⟩
 have HW1:=Hm hw
 have HK1:=Hm (HK0.out.trans hk)
 replace BB:=Hm (BB.out.kept hk (Bx.box S w.heap.size))
 clear q0 q1 q2
 have q0:=BB.out.2.1 0 _ rfl
 have q1:=BB.out.2.1 1 _ rfl
 have q2:=BB.out.2.1 2 _ rfl
 clear hw hk K0
 have K1:=Hm (wu32_c p (Bx S w.heap.size) (xs++flB false) (mn) w1 (by omega) (by omega) (by (try simp only [List.length_append,List.length_cons,List.length_nil]);omega) HW1.out)
 go_wp2_with fail
 refine K1.out.mono ?_
 rintro e w2 ⟨rfl,hw,hk⟩
 have HW2:=Hm hw
 have HK2:=Hm (HK1.out.trans hk)
 replace BB:=Hm (BB.out.kept hk (Bx.box S w.heap.size))
 clear q0 q1 q2
 have q0:=BB.out.2.1 0 _ rfl
 have q1:=BB.out.2.1 1 _ rfl
 have q2:=BB.out.2.1 2 _ rfl
 clear hw hk K1
 go_wp2
 go_end0
 have HKf:=HK2.out
 rw [HWd.out] at HKf
 obtain ⟨r1,r2⟩:=wr_fin (xs:=xs++(flB false++(lebU 9 mn++[]))) HLT.out HW2.out HKf (by simp)
 exact ⟨rfl,r1,r2⟩
theorem wlim_c (p:Nat) (S:Nat→Prop) (xs:List Int) (l:Limits) (w:World) (h:limB l=true) (hl:xs.length+(limE l).length≤500000000000) (hW:Wr w p S xs) :
    Calls Tryz.prog 195 #[.pointer (some ⟨p,0,none⟩),.agg #[.int .i64 l.min,.int .i64 l.max,.bool l.has]] w fun e w'=>e=.returned (.tuple #[])∧Wr w' p S (xs++limE l)∧Kept S w w':=by
 obtain ⟨mn,mx,has⟩:=l
 simp [limB,u32B] at h
 cases has
 · exact wlim_false p S xs mn mx w (by omega) (by omega) (by omega) (by omega) hl hW
 · exact wlim_true p S xs mn mx w (by omega) (by omega) (by omega) (by omega) hl hW
theorem wgt_c (p:Nat) (S:Nat→Prop) (xs:List Int) (g:GType) (w:World) (hl:xs.length+([g.ty%256]++flB g.mu).length≤500000000000) (hW:Wr w p S xs) :
    Calls Tryz.prog 225 #[.pointer (some ⟨p,0,none⟩),.agg #[.int .i64 g.ty,.bool g.mu]] w fun e w'=>e=.returned (.tuple #[])∧Wr w' p S (xs++([g.ty%256]++flB g.mu))∧Kept S w w':=by
 try simp only [List.length_append,List.length_cons,List.length_nil] at hl
 have HLT:=Hm hW.lt
 obtain ⟨W,hWd⟩:∃ W,W=w.alloc (.cells #[.int .i64 g.ty,.bool g.mu] 101):=⟨_,rfl⟩
 have hBk:Bk W w.heap.size [.int .i64 g.ty,.bool g.mu]:=by rw [hWd];exact Bk.new
 have BB:=Hm hBk
 have HW0:Hid (Wr W p (Bx S w.heap.size) xs):=by show Wr _ _ _ _;rw [hWd];exact wr_box hW _
 have HK0:=Hm (Kept.refl (Bx S w.heap.size) W)
 have HWd:=Hm hWd
 have q0:=hBk.2.1 0 _ rfl
 have q1:=hBk.2.1 1 _ rfl
 clear hBk hWd hW
 go_enter Tryz.func225,Tryz.ntmps225
 have K0:=Hm (wone_c p (Bx S w.heap.size) xs (g.ty) W (by (try simp only [List.length_append,List.length_cons,List.length_nil]);omega) HW0.out)
 go_wp2_with fail
 rw [show w.alloc (.cells #[.int .i64 g.ty,.bool g.mu] 101)=W from HWd.out.symm]
 refine K0.out.mono ?_
 rintro e w1 ⟨rfl,hw,hk⟩
 have HW1:=Hm hw
 have HK1:=Hm (HK0.out.trans hk)
 replace BB:=Hm (BB.out.kept hk (Bx.box S w.heap.size))
 clear q0 q1
 have q0:=BB.out.2.1 0 _ rfl
 have q1:=BB.out.2.1 1 _ rfl
 clear hw hk K0
 have K1:=Hm (wflag_c p (Bx S w.heap.size) (xs++[(g.ty)%256]) g.mu w1 (by (try simp only [List.length_append,List.length_cons,List.length_nil]);omega) HW1.out)
 go_wp2_with fail
 refine K1.out.mono ?_
 rintro e w2 ⟨rfl,hw,hk⟩
 have HW2:=Hm hw
 have HK2:=Hm (HK1.out.trans hk)
 replace BB:=Hm (BB.out.kept hk (Bx.box S w.heap.size))
 clear q0 q1
 have q0:=BB.out.2.1 0 _ rfl
 have q1:=BB.out.2.1 1 _ rfl
 clear hw hk K1
 go_wp2
 go_end0
 have HKf:=HK2.out
 rw [HWd.out] at HKf
 obtain ⟨r1,r2⟩:=wr_fin (xs:=xs++([g.ty%256]++flB g.mu)) HLT.out HW2.out HKf (by simp)
 exact ⟨rfl,r1,r2⟩
theorem wgrp_c (p:Nat) (S:Nat→Prop) (xs:List Int) (g:Grp) (w:World) (h0:0≤g.n) (h1:g.n≤4294967295) (hl:xs.length+(lebU 9 g.n++[g.ty%256]).length≤500000000000) (hW:Wr w p S xs) :
    Calls Tryz.prog 230 #[.pointer (some ⟨p,0,none⟩),.agg #[.int .i64 g.n,.int .i64 g.ty]] w fun e w'=>e=.returned (.tuple #[])∧Wr w' p S (xs++(lebU 9 g.n++[g.ty%256]))∧Kept S w w':=by
 try simp only [List.length_append,List.length_cons,List.length_nil] at hl
 have HLT:=Hm hW.lt
 obtain ⟨W,hWd⟩:∃ W,W=w.alloc (.cells #[.int .i64 g.n,.int .i64 g.ty] 191):=⟨_,rfl⟩
 have hBk:Bk W w.heap.size [.int .i64 g.n,.int .i64 g.ty]:=by rw [hWd];exact Bk.new
 have BB:=Hm hBk
 have HW0:Hid (Wr W p (Bx S w.heap.size) xs):=by show Wr _ _ _ _;rw [hWd];exact wr_box hW _
 have HK0:=Hm (Kept.refl (Bx S w.heap.size) W)
 have HWd:=Hm hWd
 have q0:=hBk.2.1 0 _ rfl
 have q1:=hBk.2.1 1 _ rfl
 clear hBk hWd hW
 go_enter Tryz.func230,Tryz.ntmps230
 have K0:=Hm (wu32_c p (Bx S w.heap.size) xs (g.n) W (by omega) (by omega) (by (try simp only [List.length_append,List.length_cons,List.length_nil]);omega) HW0.out)
 go_wp2_with fail
 rw [show w.alloc (.cells #[.int .i64 g.n,.int .i64 g.ty] 191)=W from HWd.out.symm]
 refine K0.out.mono ?_
 rintro e w1 ⟨rfl,hw,hk⟩
 have HW1:=Hm hw
 have HK1:=Hm (HK0.out.trans hk)
 replace BB:=Hm (BB.out.kept hk (Bx.box S w.heap.size))
 clear q0 q1
 have q0:=BB.out.2.1 0 _ rfl
 have q1:=BB.out.2.1 1 _ rfl
 clear hw hk K0
 have K1:=Hm (wone_c p (Bx S w.heap.size) (xs++lebU 9 (g.n)) (g.ty) w1 (by (try simp only [List.length_append,List.length_cons,List.length_nil]);omega) HW1.out)
 go_wp2_with fail
 refine K1.out.mono ?_
 rintro e w2 ⟨rfl,hw,hk⟩
 have HW2:=Hm hw
 have HK2:=Hm (HK1.out.trans hk)
 replace BB:=Hm (BB.out.kept hk (Bx.box S w.heap.size))
 clear q0 q1
 have q0:=BB.out.2.1 0 _ rfl
 have q1:=BB.out.2.1 1 _ rfl
 clear hw hk K1
 go_wp2
 go_end0
 have HKf:=HK2.out
 rw [HWd.out] at HKf
 obtain ⟨r1,r2⟩:=wr_fin (xs:=xs++(lebU 9 g.n++[g.ty%256])) HLT.out HW2.out HKf (by simp)
 exact ⟨rfl,r1,r2⟩
theorem wtab_c (p:Nat) (S:Nat→Prop) (xs:List Int) (l:Limits) (w:World) (h:limB l=true) (hl:xs.length+([112]++limE l).length≤500000000000) (hW:Wr w p S xs) :
    Calls Tryz.prog 194 #[.pointer (some ⟨p,0,none⟩),.agg #[.int .i64 l.min,.int .i64 l.max,.bool l.has]] w fun e w'=>e=.returned (.tuple #[])∧Wr w' p S (xs++([112]++limE l))∧Kept S w w':=by
 try simp only [List.length_append,List.length_cons,List.length_nil] at hl
 have HLT:=Hm hW.lt
 obtain ⟨W,hWd⟩:∃ W,W=w.alloc (.cells #[.int .i64 l.min,.int .i64 l.max,.bool l.has] 99):=⟨_,rfl⟩
 have hBk:Bk W w.heap.size [.int .i64 l.min,.int .i64 l.max,.bool l.has]:=by rw [hWd];exact Bk.new
 have BB:=Hm hBk
 have HW0:Hid (Wr W p (Bx S w.heap.size) xs):=by show Wr _ _ _ _;rw [hWd];exact wr_box hW _
 have HK0:=Hm (Kept.refl (Bx S w.heap.size) W)
 have HWd:=Hm hWd
 have q0:=hBk.2.1 0 _ rfl
 have q1:=hBk.2.1 1 _ rfl
 have q2:=hBk.2.1 2 _ rfl
 clear hBk hWd hW
 go_enter Tryz.func194,Tryz.ntmps194
 have K0:=Hm (wone_c p (Bx S w.heap.size) xs (112) W (by (try simp only [List.length_append,List.length_cons,List.length_nil]);omega) HW0.out)
 go_wp2_with fail
 rw [show w.alloc (.cells #[.int .i64 l.min,.int .i64 l.max,.bool l.has] 99)=W from HWd.out.symm]
 refine K0.out.mono ?_
 rintro e w1 ⟨rfl,hw,hk⟩
 have HW1:=Hm hw
 have HK1:=Hm (HK0.out.trans hk)
 replace BB:=Hm (BB.out.kept hk (Bx.box S w.heap.size))
 clear q0 q1 q2
 have q0:=BB.out.2.1 0 _ rfl
 have q1:=BB.out.2.1 1 _ rfl
 have q2:=BB.out.2.1 2 _ rfl
 clear hw hk K0
 have K1:=Hm (wlim_c p (Bx S w.heap.size) (xs++[(112)%256]) l w1 h (by (try simp only [List.length_append,List.length_cons,List.length_nil]);omega) HW1.out)
 go_wp2_with fail
 refine K1.out.mono ?_
 rintro e w2 ⟨rfl,hw,hk⟩
 have HW2:=Hm hw
 have HK2:=Hm (HK1.out.trans hk)
 replace BB:=Hm (BB.out.kept hk (Bx.box S w.heap.size))
 clear q0 q1 q2
 have q0:=BB.out.2.1 0 _ rfl
 have q1:=BB.out.2.1 1 _ rfl
 have q2:=BB.out.2.1 2 _ rfl
 clear hw hk K1
 go_wp2
 go_end0
 have HKf:=HK2.out
 rw [HWd.out] at HKf
 obtain ⟨r1,r2⟩:=wr_fin (xs:=xs++([112]++limE l)) HLT.out HW2.out HKf (by simp)
 exact ⟨rfl,r1,r2⟩
open Go.RowKit Go.Sort
theorem wpList_append_any {P:Program} {w:World} {ops:Array Oper} {rest:List Oper} {o:Oper} {a:Act} {Q:Exit→Act→World→Prop} (hgd:o.guard=none) (s x:Operand) (t:TypeId)
    (ho:o.op=.call { callee:=.builtin .append,args:=#[s,x],argTypes:=#[t,t] })
    (base:Nat) (e:TypeId) (i:TypeInfo) (z:Value) (size bytes:Nat) (ht:P.underlying t=some (.slice e)) (hi:P.info? e=some i) (hz:i.zero=some z)
    (hsize:i.size=size) (hby:i.bytes=bytes) (hzs:z.cells.size=size) (hsz:0<size)
    (v:Value) (n:Nat) (xs:List Value) (hs:a.eval s=v) (hown:w.ownsRow base e size v n xs)
    (a0:Option Addr) (m c:Nat) (news:List Value) (hx:a.eval x=.slice a0 m c) (hl:news.length=m*size) (hnews:SrcC w a0 news) (h1:∀ u ∈ news,u.oneCell'=true)
    (h63:n+m≤maxLen) (hbytes:(n+m)*bytes≤140737488355328) (hbase:base≤w.heap.size)
    (h:∀ v' w',w'.ownsRow base e size v' (n+m) (xs++news)→w.grownBy w' v.ownBlock→(v'.ownBlock=v.ownBlock∨v'.ownBlock=some w.heap.size)→wpList P ops Q rest (a.put o.dst v') w'):wpList P ops Q (o::rest) a w:=by
 refine wpList_plain hgd fun K hK=>?_
 rcases hnews with ⟨rfl,rfl⟩ | ⟨ad,rfl,hn⟩
 · have hm:m=0:=by
     rcases Nat.mul_eq_zero.1 hl.symm with h | h
     · exact h
     · omega
   subst hm
   have hr:=run_append_none_any (P:=P) (w:=w) base t o.type e i size ht hi v n xs hown c
   unfold Oper.wp execOp
   simp only [ho,resolve,invoke,builtin,Sem.run_bind,Sem.run_pure,Result.andThen_ok,List.map_toArray,List.map_cons,List.map_nil,hs,hx,hr]
   exact hK _ _ (h v w (by simpa using hown) (World.grownBy.refl _ _) (.inl rfl))
 · obtain ⟨v',w',hr,h2,h3,h4,h5⟩:=run_append_own_at (P:=P) w base t o.type e i z size bytes ht hi hz hsize hby hzs hsz v n xs hown ad m c news hl hn h1 h63 hbytes hbase
   unfold Oper.wp execOp
   simp only [ho,resolve,invoke,builtin,Sem.run_bind,Sem.run_pure,Result.andThen_ok,List.map_toArray,List.map_cons,List.map_nil,hs,hx,hr]
   exact hK _ _ (h v' w' h2 h3 h5)
def szE (ys:List Int):List Int:=lebU 9 ys.length++ys
theorem has_src {w:World} {a:Option Addr} {ys:List Int} (h:By.Has w a ys) (hn:a=none→ys=[]):SrcC w a (U ys):=by
 rcases h with h | ⟨b,o,rfl,hc⟩
 · subst h
   cases a with
   | none=>exact .inl ⟨rfl,rfl⟩
   | some ad=>exact .inr ⟨ad,rfl,fun j u hu=>by simp [U] at hu⟩
 · refine .inr ⟨_,rfl,fun j u hu=>?_⟩
   have hj:j<ys.length:=by
    rcases Nat.lt_or_ge j ys.length with h | h
    · exact h
    · rw [List.getElem?_eq_none (by simp [U];omega)] at hu;cases hu
   rw [show (⟨b,o,none⟩:Addr).add j=⟨b,o+j,none⟩ by unfold Addr.add;split <;> simp_all,hc j hj]
   simp [U,hj] at hu
   rw [← hu]
   simp [List.getD,hj]
theorem wsized_c (p:Nat) (S:Nat→Prop) (xs ys:List Int) (a:Option Addr) (c:Nat) (w:World) (hH:∀ w',Kept S w w'→By.Has w' a ys) (hn:a=none→ys=[]) (hl:xs.length+(szE ys).length≤500000000000) (hW:Wr w p S xs) :
    Calls Tryz.prog 149 #[.pointer (some ⟨p,0,none⟩),.slice a ys.length c] w fun e w'=>e=.returned (.tuple #[])∧Wr w' p S (xs++szE ys)∧Kept S w w':=by
 obtain ⟨i0,hi,hz0,hz1,hz2⟩:=info_parts Tryz.info5
 simp only [szE,List.length_append] at hl
 have KU:=Hm (wu32_c p S xs ys.length w (by omega) (by omega) (by omega) hW)
 have HH:=Hm hH
 clear hW hH
 go_enter Tryz.func149,Tryz.ntmps149
 go_wp2_with fail
 refine KU.out.mono ?_
 rintro e w1 ⟨rfl,hw1,hk1⟩
 have HK1:=Hm hk1
 have HSC:=Hm (has_src (HH.out w1 hk1) hn)
 generalize hL:xs++lebU 9 ys.length=pre at hw1
 have hpl:pre.length+ys.length≤500000000000:=by rw [← hL,List.length_append];omega
 have HL:=Hm hL
 obtain ⟨v,c0,f0,own,hp,hr,hS⟩:=hw1
 have lt:p<w1.heap.size:=World.block_lt_of_cell? w1 _ c0
 obtain ⟨va,vc,rfl⟩:=ownE_slice own
 have HP:=Hm (fun (w2:World) (v':Value) (h2:w2.ownsRow (p-1) 5 1 v' (pre.length+ys.length) (U pre++U ys)) (h3:w1.grownBy w2 (Value.slice va pre.length vc).ownBlock) (h4:v'.ownBlock=(Value.slice va pre.length vc).ownBlock∨v'.ownBlock=some w1.heap.size)=>wr_pushed (ys:=ys) c0 f0 own hp hr hS (Below.refl _ _) h2 h3 h4)
 have OW:=Hm own
 have hlU:(U ys).length=ys.length*1:=by simp
 clear hk1 hL hp hr hS KU HH own hl
 go_wp2_with (at_builtin;refine wpList_append_any rfl _ _ 50 rfl (p-1) 5 i0 (.int .u8 0) 1 1 Tryz.underlying50 hi hz0 hz1 hz2 rfl (by decide) (.slice va pre.length vc) pre.length (U pre) rfl OW.out a ys.length c (U ys) rfl hlU HSC.out (oneU _) (by unfold maxLen;omega) (by omega) (by omega) ?_;intro v2 w2 own2 gr2 hloc;have HQ:=Hm (HP.out _ _ own2 gr2 hloc);have d0:=HQ.out.2.2.1;have df:=HQ.out.2.2.2;obtain ⟨v2a,v2c,rfl⟩:=ownE_slice own2;clear own2 gr2 hloc c0 f0)
 go_end0
 refine ⟨rfl,?_,HK1.out.trans HQ.out.2.1⟩
 have h:=HQ.out.1
 rw [show xs++szE ys=pre++ys by rw [← HL.out,szE,List.append_assoc]]
 exact h
open Go.RowKit Go.Sort
theorem kb {S:Nat→Prop} {w0 w w':World} (hS:∀ k,k<w0.heap.size→S k) (hb:Below w0.heap.size w0 w) (hk:Kept S w w'):Below w0.heap.size w0 w':=hb.trans (hk.weak hS).below
def catE {α:Type} (f:α→List Int) (l:List α):List Int:=(l.map f).flatten
theorem catE_step {α:Type} (f:α→List Int) (z:α) (l:List α) (k:Nat) (h:k<l.length):catE f (l.take (k+1))=catE f (l.take k)++f (l.getD k z):=by
 rw [List.take_add_one,List.getElem?_eq_getElem h,show l.getD k z=l[k] by simp [List.getD,h]]
 simp only [catE,Option.toList,List.map_append,List.map_cons,List.map_nil,List.flatten_append,List.flatten_cons,List.flatten_nil,List.append_nil]
theorem catE_le {α:Type} (f:α→List Int) (l:List α) (k:Nat):(catE f (l.take k)).length≤(catE f l).length:=by
 conv=>rhs;rw [← List.take_append_drop k l]
 simp only [catE,List.map_append,List.flatten_append,List.length_append]
 omega
def nmE (s:ByteArray):List Int:=szE (bytesOf s)
theorem wname_c (p:Nat) (S:Nat→Prop) (xs:List Int) (s:ByteArray) (w:World) (hl:xs.length+(nmE s).length≤500000000000) (hW:Wr w p S xs) :
    Calls Tryz.prog 150 #[.pointer (some ⟨p,0,none⟩),.string s] w fun e w'=>e=.returned (.tuple #[])∧Wr w' p S (xs++nmE s)∧Kept S w w':=by
 have hcv:=run_bytes_of_string (P:=Tryz.prog) w 9 50 5 s Tryz.underlying9 Tryz.underlying50 Tryz.underlying5
 have KS:=Hm (fun (cc:Nat) (f:Nat × Nat) =>
  (show Calls Tryz.prog 149 #[.pointer (some ⟨p,0,none⟩),.slice (some ⟨w.heap.size,0,none⟩) s.size cc] (w.drew.alloc (.cells (bytesRow s cc) 5 f)) fun e w'=>e=.returned (.tuple #[])∧Wr w' p S (xs++nmE s)∧Kept S w w' by
   have hbW:Below w.heap.size w (w.drew.alloc (.cells (bytesRow s cc) 5 f)):=((Below.refl _ _).drew).alloc (Nat.le_refl _) _
   have hr:=bytesRow_cells s cc w 5 f
   have h:=wsized_c p (fun k=>S k∨(w.heap.size≤k∧k<(w.drew.alloc (.cells (bytesRow s cc) 5 f)).heap.size)) xs (bytesOf s) (some ⟨w.heap.size,0,none⟩) cc (w.drew.alloc (.cells (bytesRow s cc) 5 f)) (fun w' hk=>.inr ⟨_,_,rfl,fun i hi=>(hk.cell (.inr ⟨Nat.le_refl _,by simp⟩)).trans (hr i hi)⟩) (fun h=>by cases h) hl (hW.on hbW)
   rw [bytes_len] at h
   refine h.mono fun e w' ⟨h1,h2,h3⟩=>⟨h1,h2.weak fun k hk=>.inl hk,(Kept.of_below hbW hW.lt).trans (h3.weak fun k hk=>.inl hk)⟩))
 clear hW
 go_enter Tryz.func150,Tryz.ntmps150
 go_wp2_with fail
 refine (KS.out _ _).mono ?_
 rintro e w1 ⟨rfl,h1,h2⟩
 have H1:=Hm h1
 have H2:=Hm h2
 clear h1 h2
 go_wp2
 go_end0
 exact ⟨rfl,H1.out,H2.out⟩
def expE (x:Exp):List Int:=nmE x.nm++[x.kind%256]++lebU 9 x.ix
theorem wexp_c (p:Nat) (S:Nat→Prop) (xs:List Int) (x:Exp) (w:World) (h0:0≤x.ix) (h1:x.ix≤4294967295) (hl:xs.length+(nmE x.nm++[x.kind%256]++lebU 9 x.ix).length≤500000000000) (hW:Wr w p S xs) :
    Calls Tryz.prog 199 #[.pointer (some ⟨p,0,none⟩),.agg #[.string x.nm,.int .i64 x.kind,.int .i64 x.ix]] w fun e w'=>e=.returned (.tuple #[])∧Wr w' p S (xs++(nmE x.nm++[x.kind%256]++lebU 9 x.ix))∧Kept S w w':=by
 try simp only [List.length_append,List.length_cons,List.length_nil] at hl
 have HLT:=Hm hW.lt
 obtain ⟨W,hWd⟩:∃ W,W=w.alloc (.cells #[.string x.nm,.int .i64 x.kind,.int .i64 x.ix] 114):=⟨_,rfl⟩
 have hBk:Bk W w.heap.size [.string x.nm,.int .i64 x.kind,.int .i64 x.ix]:=by rw [hWd];exact Bk.new
 have BB:=Hm hBk
 have HW0:Hid (Wr W p (Bx S w.heap.size) xs):=by show Wr _ _ _ _;rw [hWd];exact wr_box hW _
 have HK0:=Hm (Kept.refl (Bx S w.heap.size) W)
 have HWd:=Hm hWd
 have q0:=hBk.2.1 0 _ rfl
 have q1:=hBk.2.1 1 _ rfl
 have q2:=hBk.2.1 2 _ rfl
 clear hBk hWd hW
 go_enter Tryz.func199,Tryz.ntmps199
 have K0:=Hm (wname_c p (Bx S w.heap.size) xs x.nm W (by (try simp only [List.length_append,List.length_cons,List.length_nil]);omega) HW0.out)
 go_wp2_with fail
 rw [show w.alloc (.cells #[.string x.nm,.int .i64 x.kind,.int .i64 x.ix] 114)=W from HWd.out.symm]
 refine K0.out.mono ?_
 rintro e w1 ⟨rfl,hw,hk⟩
 have HW1:=Hm hw
 have HK1:=Hm (HK0.out.trans hk)
 replace BB:=Hm (BB.out.kept hk (Bx.box S w.heap.size))
 clear q0 q1 q2
 have q0:=BB.out.2.1 0 _ rfl
 have q1:=BB.out.2.1 1 _ rfl
 have q2:=BB.out.2.1 2 _ rfl
 clear hw hk K0
 have K1:=Hm (wone_c p (Bx S w.heap.size) (xs++nmE x.nm) (x.kind) w1 (by (try simp only [List.length_append,List.length_cons,List.length_nil]);omega) HW1.out)
 go_wp2_with fail
 refine K1.out.mono ?_
 rintro e w2 ⟨rfl,hw,hk⟩
 have HW2:=Hm hw
 have HK2:=Hm (HK1.out.trans hk)
 replace BB:=Hm (BB.out.kept hk (Bx.box S w.heap.size))
 clear q0 q1 q2
 have q0:=BB.out.2.1 0 _ rfl
 have q1:=BB.out.2.1 1 _ rfl
 have q2:=BB.out.2.1 2 _ rfl
 clear hw hk K1
 have K2:=Hm (wu32_c p (Bx S w.heap.size) ((xs++nmE x.nm)++[(x.kind)%256]) (x.ix) w2 (by omega) (by omega) (by (try simp only [List.length_append,List.length_cons,List.length_nil]);omega) HW2.out)
 go_wp2_with fail
 refine K2.out.mono ?_
 rintro e w3 ⟨rfl,hw,hk⟩
 have HW3:=Hm hw
 have HK3:=Hm (HK2.out.trans hk)
 replace BB:=Hm (BB.out.kept hk (Bx.box S w.heap.size))
 clear q0 q1 q2
 have q0:=BB.out.2.1 0 _ rfl
 have q1:=BB.out.2.1 1 _ rfl
 have q2:=BB.out.2.1 2 _ rfl
 clear hw hk K2
 go_wp2
 go_end0
 have HKf:=HK3.out
 rw [HWd.out] at HKf
 obtain ⟨r1,r2⟩:=wr_fin (xs:=xs++(nmE x.nm++[x.kind%256]++lebU 9 x.ix)) HLT.out HW3.out HKf (by simp)
 exact ⟨rfl,r1,r2⟩
end Go.Proofs.YtdbmolambolmgaaGreat
