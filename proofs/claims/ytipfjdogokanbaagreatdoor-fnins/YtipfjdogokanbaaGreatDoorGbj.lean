import Derived.Test.YtipfjdogokanbaaGreatDoorGaa
import Derived.Test.YtipfjdogokanbaaGreatDoorGau
import Derived.Test.YtipfjdogokanbaaGreatDoorGbi
import Derived.Deep.RegionHeld3
import Derived.Maps.AppendAt
import Derived.Test.YtipfjdogokanbaaGreatDoorGaf
import Derived.Test.YtipfjdogokanbaaGreatDoorGbg
set_option linter.all false
set_option maxHeartbeats 400000000
set_option maxRecDepth 100000
set_option linter.all false
namespace Go.Proofs.YtipfjdogokanbaaGreatDoor.Ed
open Go.RowKit Go.Sort
theorem s5_x (op a b v:Int)(l:List Int)(la:Option Addr)(lc:Nat)(w:World)(kk_:Int)(hk_:kk_=0\/kk_=1\/kk_=6)(hf:Qd (Qb op)=kk_) :
    Calls Tryz.prog 22 #[inV ⟨op,a,b,v,l⟩ la lc] w λe w'=>∃ u,e=.returned u/\Out w w' u (op%256::QM (kk_) ⟨op,a,b,v,l⟩):=by
 obtain ⟨i0,hi,hz0,hz1,hz2⟩:=info_parts Tryz.info5;have HF:=Hm (Qr op);rw [hf] at HF;obtain ⟨W,hW⟩:∃ W,W=(w.alloc (.cells #[.int .i64 op,.int .i64 a,.int .i64 b,.int .u64 v,.slice la l.length lc] 26)).alloc (.cells #[.int .u8 (op%256)] 5):=⟨_,rfl⟩;obtain ⟨hC,hO,hB⟩:=two_new w (.int .i64 op) (.int .i64 a) (.int .i64 b) (.int .u64 v) (.slice la l.length lc) (op%256) 26;rw [<- hW] at hC hO hB
 rcases hk_ with rfl|rfl|rfl
 . have HW:=Hm hW;obtain ⟨⟨c0,c1,c2,c3,c4⟩,cf⟩:=id hC;have HO:=Hm hO;have HB:=Hm hB;clear hf hC hO hB hW cf
   go_enter Tryz.func22,Tryz.ntmps22
   go_wp2_with fail
   rw [<- HW.o]
   refine (HF.o _).mono ?_
   rintro e w1 ⟨rfl,rfl⟩;clear HF HW
   go_wp2_with fail
   go_ret
   exact ⟨_,rfl,JZ (W0:=W) HO.o HB.o (by simp [QM]) (by simp [QM,U])⟩
 . have hws:w.heap.size+2=W.heap.size:=by rw [hW];simp
   have HW:=Hm hW;obtain ⟨⟨c0,c1,c2,c3,c4⟩,cf⟩:=id hC;have HO:=Hm hO;have HB:=Hm hB;clear hf hC hO hB hW cf
   go_enter Tryz.func22,Tryz.ntmps22
   go_wp2_with fail
   rw [<- HW.o]
   refine (HF.o _).mono ?_
   rintro e w1 ⟨rfl,rfl⟩;clear HF HW
   go_wp2_with (at_builtin;refine wpList_append_own _ rfl _ _ 22 rfl (w.heap.size+1) 5 i0 (.int .u8 0) 1 1 Tryz.underlying22 hi hz0 hz1 hz2 rfl (by decide) _ _ _ rfl (HO.o.alloc _) ⟨W.heap.size,0,none⟩ 1 1 [.int .u8 (a%256)] rfl rfl (cell_one_new _ _ _) (oneB _) (by unfold maxLen;omega) (by omega) (by simp;omega) ?_;intro x1 wx1 ox1 gx1 nx1;have Ox1:=Hm ox1;have Bx1:=Hm (((Below.refl w.heap.size W).alloc (by omega) _).grown gx1 (by first|omega|(simp;omega)) (λj hj=>by have:=((HO.o).lt j hj).1;omega));have zx1:=Bx1.o.size;clear ox1 gx1 nx1)
   go_ret
   exact ⟨_,rfl,JZ (W0:=W) Ox1.o (HB.o.trans Bx1.o) (by simp [QM];try omega) (by simp [QM,U])⟩
 . have hws:w.heap.size+2=W.heap.size:=by rw [hW];simp
   have HW:=Hm hW;obtain ⟨⟨c0,c1,c2,c3,c4⟩,cf⟩:=id hC;have HO:=Hm hO;have HB:=Hm hB;clear hf hC hO hB hW cf
   go_enter Tryz.func22,Tryz.ntmps22
   go_wp2_with fail
   rw [<- HW.o]
   refine (HF.o _).mono ?_
   rintro e w1 ⟨rfl,rfl⟩;clear HF HW
   go_wp2_with (at_builtin;refine wpList_append_own _ rfl _ _ 22 rfl (w.heap.size+1) 5 i0 (.int .u8 0) 1 1 Tryz.underlying22 hi hz0 hz1 hz2 rfl (by decide) _ _ _ rfl (HO.o.alloc _) ⟨W.heap.size,0,none⟩ 1 1 [.int .u8 (0)] rfl rfl (cell_one_new _ _ _) (oneB _) (by unfold maxLen;omega) (by omega) (by simp;omega) ?_;intro x1 wx1 ox1 gx1 nx1;have Ox1:=Hm ox1;have Bx1:=Hm (((Below.refl w.heap.size W).alloc (by omega) _).grown gx1 (by first|omega|(simp;omega)) (λj hj=>by have:=((HO.o).lt j hj).1;omega));have zx1:=Bx1.o.size;clear ox1 gx1 nx1)
   go_ret
   exact ⟨_,rfl,JZ (W0:=W) Ox1.o (HB.o.trans Bx1.o) (by simp [QM];try omega) (by simp [QM,U])⟩
def s5_0:=λop a b v l la lc w hf=>s5_x op a b v l la lc w (0) (.inl rfl) hf
def s5_1:=λop a b v l la lc w hf=>s5_x op a b v l la lc w (1) (.inr (.inl rfl)) hf
def s5_6:=λop a b v l la lc w hf=>s5_x op a b v l la lc w (6) (.inr (.inr (rfl))) hf
end Go.Proofs.YtipfjdogokanbaaGreatDoor.Ed
namespace Go.Proofs.YtipfjdogokanbaaGreatDoor.Ed
open Go.RowKit Go.Sort
theorem s5_y (op a b v:Int)(l:List Int)(la:Option Addr)(lc:Nat)(w:World)(kk_:Int)(hk_:kk_=2\/kk_=4)(hf:Qd (Qb op)=kk_)(ha:0<=a)(ha1:a<=4294967295) :
    Calls Tryz.prog 22 #[inV ⟨op,a,b,v,l⟩ la lc] w λe w'=>∃ u,e=.returned u/\Out w w' u (op%256::QM (kk_) ⟨op,a,b,v,l⟩):=by
 obtain ⟨i0,hi,hz0,hz1,hz2⟩:=info_parts Tryz.info5;have HF:=Hm (Qr op);rw [hf] at HF;obtain ⟨W,hW⟩:∃ W,W=(w.alloc (.cells #[.int .i64 op,.int .i64 a,.int .i64 b,.int .u64 v,.slice la l.length lc] 26)).alloc (.cells #[.int .u8 (op%256)] 5):=⟨_,rfl⟩;obtain ⟨hC,hO,hB⟩:=two_new w (.int .i64 op) (.int .i64 a) (.int .i64 b) (.int .u64 v) (.slice la l.length lc) (op%256) 26;rw [<- hW] at hC hO hB;have hws:w.heap.size+2=W.heap.size:=by rw [hW];simp
 have hwa:IntKind.u64.wrap a=a:=by rw [IntKind.wrap_u64];omega
 have KP:=Hm (JF a W ha (by omega));have hyl:=Jc 9 a;obtain ⟨hl0,hl1⟩:=hyl;have hlU:(U (QH 9 a)).length=(QH 9 a).length*1:=by simp
 have HW:=Hm hW;obtain ⟨⟨c0,c1,c2,c3,c4⟩,cf⟩:=id hC;have HO:=Hm hO;have HB:=Hm hB;clear hf hC hO hB hW cf
 go_enter Tryz.func22,Tryz.ntmps22
 go_wp2_with fail
 rcases hk_ with rfl|rfl
 . rw [<- HW.o]
   refine (HF.o _).mono ?_
   rintro e w1 ⟨rfl,rfl⟩;clear HF HW
   go_wp2_with (first
    |(go_at_call 63;refine (KP.o).mono ?_;rintro e w2 ⟨v2,rfl,ho2,hb2⟩;obtain ⟨g,gc,rfl,hg,hg'⟩:=By.Q1 ho2 hl0;have O2:=Hm (Qx HO.o hb2 (Nat.le_refl _));have S2:=Hm (Q9 ho2);have B2:=Hm hb2;have z2:=hb2.size;clear ho2 hb2 hg hg')
    | (at_builtin;refine wpList_append_own _ rfl _ _ 22 rfl (w.heap.size+1) 5 i0 (.int .u8 0) 1 1 Tryz.underlying22 hi hz0 hz1 hz2 rfl (by decide) _ _ _ rfl O2.o ⟨g,0,none⟩ (QH 9 a).length gc (U (QH 9 a)) rfl hlU S2.o (XV _) (by unfold maxLen;omega) (by omega) (by omega) ?_;intro x1 wx1 ox1 gx1 nx1;have Ox1:=Hm ox1;have Bx1:=Hm ((B2.o.mono (show w.heap.size<=W.heap.size by omega)).grown gx1 (by first | omega | (simp;omega)) (fun j hj=>by have:=((O2.o).lt j hj).1;omega));have zx1:=Bx1.o.size;clear ox1 gx1 nx1))
   go_ret
   exact ⟨_,rfl,JZ (W0:=W) Ox1.o (HB.o.trans Bx1.o) (by simp [QM];try omega) (by simp [QM,U])⟩
 . rw [<- HW.o]
   refine (HF.o _).mono ?_
   rintro e w1 ⟨rfl,rfl⟩;clear HF HW
   go_wp2_with (first
    |(go_at_call 63;refine (KP.o).mono ?_;rintro e w2 ⟨v2,rfl,ho2,hb2⟩;obtain ⟨g,gc,rfl,hg,hg'⟩:=By.Q1 ho2 hl0;have O2:=Hm (Qx HO.o hb2 (Nat.le_refl _));have S2:=Hm (Q9 ho2);have B2:=Hm hb2;have z2:=hb2.size;clear ho2 hb2 hg hg')
    |(at_builtin;refine wpList_append_own _ rfl _ _ 22 rfl (w.heap.size+1) 5 i0 (.int .u8 0) 1 1 Tryz.underlying22 hi hz0 hz1 hz2 rfl (by decide) _ _ _ rfl O2.o ⟨g,0,none⟩ (QH 9 a).length gc (U (QH 9 a)) rfl hlU S2.o (XV _) (by unfold maxLen;omega) (by omega) (by omega) ?_;intro x1 wx1 ox1 gx1 nx1;have Ox1:=Hm ox1;have Bx1:=Hm ((B2.o.mono (show w.heap.size<=W.heap.size by omega)).grown gx1 (by first|omega|(simp;omega)) (λj hj=>by have:=((O2.o).lt j hj).1;omega));have zx1:=Bx1.o.size;clear ox1 gx1 nx1)
    | (at_builtin;refine wpList_append_own _ rfl _ _ 22 rfl (w.heap.size+1) 5 i0 (.int .u8 0) 1 1 Tryz.underlying22 hi hz0 hz1 hz2 rfl (by decide) _ _ _ rfl (Ox1.o.alloc _) ⟨wx1.heap.size,0,none⟩ 1 1 [.int .u8 0] rfl rfl (cell_one_new _ _ _) (oneB _) (by unfold maxLen;omega) (by omega) (by have:=Bx1.o.size;simp;omega) ?_;intro x2 wx2 ox2 gx2 nx2;have Ox2:=Hm ox2;have Bx2:=Hm ((Bx1.o.alloc (by have:=Bx1.o.size;omega) _).grown gx2 (by first | omega | (simp;omega)) (fun j hj=>by have:=((Ox1.o).lt j hj).1;omega));have zx2:=Bx2.o.size;clear ox2 gx2 nx2))
   go_ret
   exact ⟨_,rfl,JZ (W0:=W) Ox2.o (HB.o.trans Bx2.o) (by simp [QM];try omega) (by simp [QM,U])⟩
def s5_2:=λop a b v l la lc w hf ha ha1=>s5_y op a b v l la lc w (2) (.inl rfl) hf ha ha1
def s5_4:=λop a b v l la lc w hf ha ha1=>s5_y op a b v l la lc w (4) (.inr (rfl)) hf ha ha1
theorem s5_7 (op a b v:Int)(l:List Int)(la:Option Addr)(lc:Nat)(w:World)(hf:Qd (Qb op)=7)(hv:0<=v)(hv1:v<=4294967295) :
    Calls Tryz.prog 22 #[inV ⟨op,a,b,v,l⟩ la lc] w λe w'=>∃ u,e=.returned u/\Out w w' u (op%256::QM (7) ⟨op,a,b,v,l⟩):=by
 obtain ⟨i0,hi,hz0,hz1,hz2⟩:=info_parts Tryz.info5;have HF:=Hm (Qr op);rw [hf] at HF;obtain ⟨W,hW⟩:∃ W,W=(w.alloc (.cells #[.int .i64 op,.int .i64 a,.int .i64 b,.int .u64 v,.slice la l.length lc] 26)).alloc (.cells #[.int .u8 (op%256)] 5):=⟨_,rfl⟩;obtain ⟨hC,hO,hB⟩:=two_new w (.int .i64 op) (.int .i64 a) (.int .i64 b) (.int .u64 v) (.slice la l.length lc) (op%256) 26;rw [<- hW] at hC hO hB;have hws:w.heap.size+2=W.heap.size:=by rw [hW];simp
 have hs32:wrap32 v=s32 v:=by unfold wrap32 s32;split<;>omega
 have KS:=Hm (signed32 v W hv hv1);rw [hs32] at KS;clear hs32;have KP:=Hm (specPutS_any (s32 v) W (by unfold s32;split<;>omega) (by unfold s32;split<;>omega));have hyl:=lebS_len 9 (s32 v);obtain ⟨hl0,hl1⟩:=hyl;have hlU:(U (Jn 9 (s32 v))).length=(Jn 9 (s32 v)).length*1:=by simp
 have HW:=Hm hW;obtain ⟨⟨c0,c1,c2,c3,c4⟩,cf⟩:=id hC;have HO:=Hm hO;have HB:=Hm hB;clear hf hC hO hB hW cf
 go_enter Tryz.func22,Tryz.ntmps22
 go_wp2_with fail
 rw [<- HW.o]
 refine (HF.o _).mono ?_
 rintro e w1 ⟨rfl,rfl⟩;clear HF HW
 go_wp2_with (first
  |(go_at_call 66;refine (KS.o).mono ?_;rintro e w2 ⟨rfl,rfl⟩)
  |(go_at_call 65;refine (KP.o).mono ?_;rintro e w2 ⟨v2,rfl,ho2,hb2⟩;obtain ⟨g,gc,rfl,hg,hg'⟩:=By.Q1 ho2 hl0;have O2:=Hm (Qx HO.o hb2 (Nat.le_refl _));have S2:=Hm (Q9 ho2);have B2:=Hm hb2;have z2:=hb2.size;clear ho2 hb2 hg hg')
  | (at_builtin;refine wpList_append_own _ rfl _ _ 22 rfl (w.heap.size+1) 5 i0 (.int .u8 0) 1 1 Tryz.underlying22 hi hz0 hz1 hz2 rfl (by decide) _ _ _ rfl O2.o ⟨g,0,none⟩ (Jn 9 (s32 v)).length gc (U (Jn 9 (s32 v))) rfl hlU S2.o (XV _) (by unfold maxLen;omega) (by omega) (by omega) ?_;intro x1 wx1 ox1 gx1 nx1;have Ox1:=Hm ox1;have Bx1:=Hm ((B2.o.mono (show w.heap.size<=W.heap.size by omega)).grown gx1 (by first | omega | (simp;omega)) (fun j hj=>by have:=((O2.o).lt j hj).1;omega));have zx1:=Bx1.o.size;clear ox1 gx1 nx1))
 go_ret
 exact ⟨_,rfl,JZ (W0:=W) Ox1.o (HB.o.trans Bx1.o) (by simp [QM];try omega) (by simp [QM,U])⟩
end Go.Proofs.YtipfjdogokanbaaGreatDoor.Ed
namespace Go.Proofs.YtipfjdogokanbaaGreatDoor.Ed
open Go.RowKit Go.Sort
theorem s5_z (op a b v:Int)(l:List Int)(la:Option Addr)(lc:Nat)(w:World)(kk_:Int)(hk_:kk_=8\/kk_=9\/kk_=10)(hf:Qd (Qb op)=kk_)(hv:0<=v)(hv1:v<=18446744073709551615) :
    Calls Tryz.prog 22 #[inV ⟨op,a,b,v,l⟩ la lc] w λe w'=>∃ u,e=.returned u/\Out w w' u (op%256::QM (kk_) ⟨op,a,b,v,l⟩):=by
 obtain ⟨i0,hi,hz0,hz1,hz2⟩:=info_parts Tryz.info5;have HF:=Hm (Qr op);rw [hf] at HF;obtain ⟨W,hW⟩:∃ W,W=(w.alloc (.cells #[.int .i64 op,.int .i64 a,.int .i64 b,.int .u64 v,.slice la l.length lc] 26)).alloc (.cells #[.int .u8 (op%256)] 5):=⟨_,rfl⟩;obtain ⟨hC,hO,hB⟩:=two_new w (.int .i64 op) (.int .i64 a) (.int .i64 b) (.int .u64 v) (.slice la l.length lc) (op%256) 26;rw [<- hW] at hC hO hB;have hws:w.heap.size+2=W.heap.size:=by rw [hW];simp
 rcases hk_ with rfl|rfl|rfl
 . have KP:=Hm (specPutS_any (wrap64 v) W (by unfold wrap64;omega) (by unfold wrap64;omega));have hyl:=lebS_len 9 (wrap64 v);obtain ⟨hl0,hl1⟩:=hyl;have hlU:(U (Jn 9 (wrap64 v))).length=(Jn 9 (wrap64 v)).length*1:=by simp
   have HW:=Hm hW;obtain ⟨⟨c0,c1,c2,c3,c4⟩,cf⟩:=id hC;have HO:=Hm hO;have HB:=Hm hB;clear hf hC hO hB hW cf
   go_enter Tryz.func22,Tryz.ntmps22
   go_wp2_with fail
   rw [<- HW.o]
   refine (HF.o _).mono ?_
   rintro e w1 ⟨rfl,rfl⟩;clear HF HW
   go_wp2_with (first
    |(go_at_call 65;refine (KP.o).mono ?_;rintro e w2 ⟨v2,rfl,ho2,hb2⟩;obtain ⟨g,gc,rfl,hg,hg'⟩:=By.Q1 ho2 hl0;have O2:=Hm (Qx HO.o hb2 (Nat.le_refl _));have S2:=Hm (Q9 ho2);have B2:=Hm hb2;have z2:=hb2.size;clear ho2 hb2 hg hg')
    | (at_builtin;refine wpList_append_own _ rfl _ _ 22 rfl (w.heap.size+1) 5 i0 (.int .u8 0) 1 1 Tryz.underlying22 hi hz0 hz1 hz2 rfl (by decide) _ _ _ rfl O2.o ⟨g,0,none⟩ (Jn 9 (wrap64 v)).length gc (U (Jn 9 (wrap64 v))) rfl hlU S2.o (XV _) (by unfold maxLen;omega) (by omega) (by omega) ?_;intro x1 wx1 ox1 gx1 nx1;have Ox1:=Hm ox1;have Bx1:=Hm ((B2.o.mono (show w.heap.size<=W.heap.size by omega)).grown gx1 (by first | omega | (simp;omega)) (fun j hj=>by have:=((O2.o).lt j hj).1;omega));have zx1:=Bx1.o.size;clear ox1 gx1 nx1))
   go_ret
   exact ⟨_,rfl,JZ (W0:=W) Ox1.o (HB.o.trans Bx1.o) (by simp [QM];try omega) (by simp [QM,U])⟩
 . have KP:=Hm (sfix_c v 4 W (by omega) hv hv1);have hyl:=(show 1<=(fx 4 v).length/\(fx 4 v).length<=10 by rw [Xd];omega);obtain ⟨hl0,hl1⟩:=hyl;have hlU:(U (fx 4 v)).length=(fx 4 v).length*1:=by simp
   have HW:=Hm hW;obtain ⟨⟨c0,c1,c2,c3,c4⟩,cf⟩:=id hC;have HO:=Hm hO;have HB:=Hm hB;clear hf hC hO hB hW cf
   go_enter Tryz.func22,Tryz.ntmps22
   go_wp2_with fail
   rw [<- HW.o]
   refine (HF.o _).mono ?_
   rintro e w1 ⟨rfl,rfl⟩;clear HF HW
   go_wp2_with (first
    |(go_at_call 67;refine (KP.o).mono ?_;rintro e w2 ⟨v2,rfl,ho2,hb2⟩;obtain ⟨g,gc,rfl,hg,hg'⟩:=By.Q1 ho2 hl0;have O2:=Hm (Qx HO.o hb2 (Nat.le_refl _));have S2:=Hm (Q9 ho2);have B2:=Hm hb2;have z2:=hb2.size;clear ho2 hb2 hg hg')
    | (at_builtin;refine wpList_append_own _ rfl _ _ 22 rfl (w.heap.size+1) 5 i0 (.int .u8 0) 1 1 Tryz.underlying22 hi hz0 hz1 hz2 rfl (by decide) _ _ _ rfl O2.o ⟨g,0,none⟩ (fx 4 v).length gc (U (fx 4 v)) rfl hlU S2.o (XV _) (by unfold maxLen;omega) (by omega) (by omega) ?_;intro x1 wx1 ox1 gx1 nx1;have Ox1:=Hm ox1;have Bx1:=Hm ((B2.o.mono (show w.heap.size<=W.heap.size by omega)).grown gx1 (by first | omega | (simp;omega)) (fun j hj=>by have:=((O2.o).lt j hj).1;omega));have zx1:=Bx1.o.size;clear ox1 gx1 nx1))
   go_ret
   exact ⟨_,rfl,JZ (W0:=W) Ox1.o (HB.o.trans Bx1.o) (by simp [QM];try omega) (by simp [QM,U])⟩
 . have KP:=Hm (sfix_c v 8 W (by omega) hv hv1);have hyl:=(show 1<=(fx 8 v).length/\(fx 8 v).length<=10 by rw [Xd];omega);obtain ⟨hl0,hl1⟩:=hyl;have hlU:(U (fx 8 v)).length=(fx 8 v).length*1:=by simp
   have HW:=Hm hW;obtain ⟨⟨c0,c1,c2,c3,c4⟩,cf⟩:=id hC;have HO:=Hm hO;have HB:=Hm hB;clear hf hC hO hB hW cf
   go_enter Tryz.func22,Tryz.ntmps22
   go_wp2_with fail
   rw [<- HW.o]
   refine (HF.o _).mono ?_
   rintro e w1 ⟨rfl,rfl⟩;clear HF HW
   go_wp2_with (first
    |(go_at_call 67;refine (KP.o).mono ?_;rintro e w2 ⟨v2,rfl,ho2,hb2⟩;obtain ⟨g,gc,rfl,hg,hg'⟩:=By.Q1 ho2 hl0;have O2:=Hm (Qx HO.o hb2 (Nat.le_refl _));have S2:=Hm (Q9 ho2);have B2:=Hm hb2;have z2:=hb2.size;clear ho2 hb2 hg hg')
    | (at_builtin;refine wpList_append_own _ rfl _ _ 22 rfl (w.heap.size+1) 5 i0 (.int .u8 0) 1 1 Tryz.underlying22 hi hz0 hz1 hz2 rfl (by decide) _ _ _ rfl O2.o ⟨g,0,none⟩ (fx 8 v).length gc (U (fx 8 v)) rfl hlU S2.o (XV _) (by unfold maxLen;omega) (by omega) (by omega) ?_;intro x1 wx1 ox1 gx1 nx1;have Ox1:=Hm ox1;have Bx1:=Hm ((B2.o.mono (show w.heap.size<=W.heap.size by omega)).grown gx1 (by first | omega | (simp;omega)) (fun j hj=>by have:=((O2.o).lt j hj).1;omega));have zx1:=Bx1.o.size;clear ox1 gx1 nx1))
   go_ret
   exact ⟨_,rfl,JZ (W0:=W) Ox1.o (HB.o.trans Bx1.o) (by simp [QM];try omega) (by simp [QM,U])⟩
def s5_8:=λop a b v l la lc w hf hv hv1=>s5_z op a b v l la lc w (8) (.inl rfl) hf hv hv1
def s5_9:=λop a b v l la lc w hf hv hv1=>s5_z op a b v l la lc w (9) (.inr (.inl rfl)) hf hv hv1
def s5_10:=λop a b v l la lc w hf hv hv1=>s5_z op a b v l la lc w (10) (.inr (.inr (rfl))) hf hv hv1
end Go.Proofs.YtipfjdogokanbaaGreatDoor.Ed
namespace Go.Proofs.YtipfjdogokanbaaGreatDoor.Ed
open Go.RowKit Go.Sort
theorem s5_5 (op a b v:Int)(l:List Int)(la:Option Addr)(lc:Nat)(w:World)(hf:Qd (Qb op)=5)(ha:0<=a)(ha1:a<=4294967295)(hb:0<=b)(hb1:b<=4294967295) :
    Calls Tryz.prog 22 #[inV ⟨op,a,b,v,l⟩ la lc] w λe w'=>∃ u,e=.returned u/\Out w w' u (op%256::QM (5) ⟨op,a,b,v,l⟩):=by
 obtain ⟨i0,hi,hz0,hz1,hz2⟩:=info_parts Tryz.info5;have HF:=Hm (Qr op);rw [hf] at HF;obtain ⟨W,hW⟩:∃ W,W=(w.alloc (.cells #[.int .i64 op,.int .i64 a,.int .i64 b,.int .u64 v,.slice la l.length lc] 26)).alloc (.cells #[.int .u8 (op%256)] 5):=⟨_,rfl⟩;obtain ⟨hC,hO,hB⟩:=two_new w (.int .i64 op) (.int .i64 a) (.int .i64 b) (.int .u64 v) (.slice la l.length lc) (op%256) 26;rw [<- hW] at hC hO hB;have hws:w.heap.size+2=W.heap.size:=by rw [hW];simp
 have hwa:IntKind.u64.wrap a=a:=by rw [IntKind.wrap_u64];omega
 have hwb:IntKind.u64.wrap b=b:=by rw [IntKind.wrap_u64];omega
 have KA:=Hm (λW=>JF a W ha (by omega));have KB:=Hm (λW=>JF b W hb (by omega));have hla:=Jc 9 a;have hlb:=Jc 9 b;have HW:=Hm hW;obtain ⟨⟨c0,c1,c2,c3,c4⟩,cf⟩:=id hC;have HC:=Hm hC;have HO:=Hm hO;have HB:=Hm hB;clear hf hC hO hB hW cf
 go_enter Tryz.func22,Tryz.ntmps22
 go_wp2_with fail
 rw [<- HW.o]
 refine (HF.o _).mono ?_
 rintro e w1 ⟨rfl,rfl⟩;clear HF HW;have R:=Hm (show W.grownBy W.drew (some (w.heap.size+1)) from ⟨rfl,rfl,rfl,Nat.le_refl _,λ_ _ _=>rfl⟩);have OC:=Hm (show W.drew.ownsRow (w.heap.size+1) 5 1 (.slice (some ⟨w.heap.size+1,0,none⟩) 1 1) 1 (U [op%256]) from HO.o);have k1:W.drew.cell? ⟨w.heap.size,1,none⟩=some (.int .i64 a):=c1;have k2:W.drew.cell? ⟨w.heap.size,2,none⟩=some (.int .i64 b):=c2;have k4:W.drew.cell? ⟨w.heap.size,4,none⟩=some (.slice la l.length lc):=c4
 go_wp2_with fail
 go_region_held3 (λw'=>w'.cell? ⟨w.heap.size,1,none⟩=some (.int .i64 a)/\w'.cell? ⟨w.heap.size,2,none⟩=some (.int .i64 b)/\w'.cell? ⟨w.heap.size,4,none⟩=some (.slice la l.length lc)) (exact ⟨k1,k2,k4⟩)
  (first
   | (refine QG rfl (.tmp 51) (.tmp 55) 22 rfl (w.heap.size+1) 5 i0 (.int .u8 0) 1 1 Tryz.underlying22 hi hz0 hz1 hz2 rfl (by decide) (.slice (some ⟨w.heap.size+1,0,none⟩) 1 1) 1 (U [op%256]) (by simp [Act.eval,Act.put]) OC.o ⟨gA,0,none⟩ (QH 9 a).length gcA (U (QH 9 a)) (by simp [Act.eval,Act.put]) (by simp) (Q9 (Gu WA.o RA.o hqA.o)) (XV _) (by simp only [maxLen];omega) (by omega) (by have:=R.o.size;omega) ?_
      intro vx wx ox gx lx
      have st:=Hm (show World.grownBy _ wx (some (w.heap.size+1)) from gx);replace R:=Hm (Qa R.o st.o)
      (try replace RB:=Hm (Qa RB.o st.o))
      have OX:=Hm ox;clear OC;have bx:=Hm (Xi HC.o R.o (by omega));have k1:wx.cell? ⟨w.heap.size,1,none⟩=some (.int .i64 a):=bx.o.1.2.1;have k2:wx.cell? ⟨w.heap.size,2,none⟩=some (.int .i64 b):=bx.o.1.2.2.1;have k4:wx.cell? ⟨w.heap.size,4,none⟩=some (.slice la l.length lc):=bx.o.1.2.2.2.2;clear ox gx lx st bx)
   | (refine QG rfl (.tmp 56) (.tmp 60) 22 rfl (w.heap.size+1) 5 i0 (.int .u8 0) 1 1 Tryz.underlying22 hi hz0 hz1 hz2 rfl (by decide) vx (1+(QH 9 a).length) (U [op%256]++U (QH 9 a)) (by simp [Act.eval,Act.put]) OX.o ⟨gB,0,none⟩ (QH 9 b).length gcB (U (QH 9 b)) (by simp [Act.eval,Act.put]) (by simp) (Q9 (Gu WB.o RB.o hqB.o)) (XV _) (by simp only [maxLen];omega) (by omega) (by have:=R.o.size;omega) ?_
      intro vy wy oy gy ly
      have OY:=Hm oy;have bx:=Hm (Xi HC.o R.o (by omega));have hgy:=Hm (fun o:Nat=>World.cell?_of_block (a:=⟨w.heap.size,o,none⟩) (gy.block w.heap.size (World.block_lt_of_cell? _ _ bx.o.1.1) (fun e=>by have:=(OX.o.lt _ e.symm).1;omega)));have k1:wy.cell? ⟨w.heap.size,1,none⟩=some (.int .i64 a):=(hgy.o 1).trans bx.o.1.2.1;have k2:wy.cell? ⟨w.heap.size,2,none⟩=some (.int .i64 b):=(hgy.o 2).trans bx.o.1.2.2.1;have k4:wy.cell? ⟨w.heap.size,4,none⟩=some (.slice la l.length lc):=(hgy.o 4).trans bx.o.1.2.2.2.2;have BY:=Hm ((HB.o.trans (QU R.o (show w.heap.size<=w.heap.size+1 by omega) (by show w.heap.size<=W.heap.size;omega))).grown gy (by have:=R.o.size;omega) (fun j hj=>by have:=(OX.o.lt j hj).1;omega));clear oy gy ly hgy bx)
   | (go_at_call_of 63 (Value.int IntKind.u64 a)
      refine (KA.o _).mono ?_
      rintro e wn ⟨vn,rfl,hon,hbn⟩;obtain ⟨gA,gcA,rfl,hgA,hgA'⟩:=By.Q1 hon hla.1;have st:=Hm (XZ hbn (some (w.heap.size+1)));have hz:=R.o.size;replace R:=Hm (Qa R.o st.o)
      (try replace RA:=Hm (Qa RA.o st.o))
      (try replace RB:=Hm (Qa RB.o st.o))
      (try replace OX:=Hm (Qx OX.o hbn (Nat.le_refl _)))
      (try replace OC:=Hm (Qx OC.o hbn (Nat.le_refl _)))
      have WA:=Hm hon;have RA:=Hm (World.grownBy.refl wn (some (w.heap.size+1)));have hqA:Hid (gA≠w.heap.size+1):=by show _≠_;omega
      have bx:=Hm (Xi HC.o R.o (by omega));have k1:wn.cell? ⟨w.heap.size,1,none⟩=some (.int .i64 a):=bx.o.1.2.1;have k2:wn.cell? ⟨w.heap.size,2,none⟩=some (.int .i64 b):=bx.o.1.2.2.1;have k4:wn.cell? ⟨w.heap.size,4,none⟩=some (.slice la l.length lc):=bx.o.1.2.2.2.2;clear hon hbn st bx hz hgA hgA')
   | (go_at_call_of 63 (Value.int IntKind.u64 b)
      refine (KB.o _).mono ?_
      rintro e wn ⟨vn,rfl,hon,hbn⟩;obtain ⟨gB,gcB,rfl,hgB,hgB'⟩:=By.Q1 hon hlb.1;have st:=Hm (XZ hbn (some (w.heap.size+1)));have hz:=R.o.size;replace R:=Hm (Qa R.o st.o)
      (try replace RA:=Hm (Qa RA.o st.o))
      (try replace RB:=Hm (Qa RB.o st.o))
      (try replace OX:=Hm (Qx OX.o hbn (Nat.le_refl _)))
      (try replace OC:=Hm (Qx OC.o hbn (Nat.le_refl _)))
      have WB:=Hm hon;have RB:=Hm (World.grownBy.refl wn (some (w.heap.size+1)));have hqB:Hid (gB≠w.heap.size+1):=by show _≠_;omega
      have bx:=Hm (Xi HC.o R.o (by omega));have k1:wn.cell? ⟨w.heap.size,1,none⟩=some (.int .i64 a):=bx.o.1.2.1;have k2:wn.cell? ⟨w.heap.size,2,none⟩=some (.int .i64 b):=bx.o.1.2.2.1;have k4:wn.cell? ⟨w.heap.size,4,none⟩=some (.slice la l.length lc):=bx.o.1.2.2.2.2;clear hon hbn st bx hz hgB hgB'))
 all_goals
  go_wp2_with fail
  go_ret
  exact ⟨_,rfl,JZ (W0:=W) OY.o BY.o (by simp [QM];try omega) (by simp [QM,U])⟩
end Go.Proofs.YtipfjdogokanbaaGreatDoor.Ed
namespace Go.Proofs.YtipfjdogokanbaaGreatDoor.Ed
open Go.RowKit Go.Sort
theorem s5_3 (op a b v:Int)(l:List Int)(la:Option Addr)(lc:Nat)(w:World)(hf:Qd (Qb op)=3)(ha:0<=a)(ha1:a<=4294967295)(hn:l.length<=1048576)(hu:∀ i,i<l.length->0<=l.getD i 0/\l.getD i 0<=4294967295)(hH:Has w la l) :
    Calls Tryz.prog 22 #[inV ⟨op,a,b,v,l⟩ la lc] w λe w'=>∃ u,e=.returned u/\Out w w' u (op%256::QM (3) ⟨op,a,b,v,l⟩):=by
 obtain ⟨i0,hi,hz0,hz1,hz2⟩:=info_parts Tryz.info5;have HF:=Hm (Qr op);rw [hf] at HF;obtain ⟨W,hW⟩:∃ W,W=(w.alloc (.cells #[.int .i64 op,.int .i64 a,.int .i64 b,.int .u64 v,.slice la l.length lc] 26)).alloc (.cells #[.int .u8 (op%256)] 5):=⟨_,rfl⟩;obtain ⟨hC,hO,hB⟩:=two_new w (.int .i64 op) (.int .i64 a) (.int .i64 b) (.int .u64 v) (.slice la l.length lc) (op%256) 26;rw [<- hW] at hC hO hB;have hws:w.heap.size+2=W.heap.size:=by rw [hW];simp
 have hwa:IntKind.u64.wrap a=a:=by rw [IntKind.wrap_u64];omega
 have KA:Hid (∀ W',W.grownBy W' (some (w.heap.size+1))->_):=λW' hg=>snums_c l la lc W' hn hu (has_on hH hB hg);have KB:=Hm (λW=>JF a W ha (by omega))
 have hla:1<=(QH 9 l.length++Jm l).length/\(QH 9 l.length++Jm l).length<=20971520:=by
  have:=Jc 9 l.length
  have:=nums_len l
  simp only [List.length_append];omega
 have hlb:=Jc 9 a;clear hH hu;have HW:=Hm hW;obtain ⟨⟨c0,c1,c2,c3,c4⟩,cf⟩:=id hC;have HC:=Hm hC;have HO:=Hm hO;have HB:=Hm hB;clear hf hC hO hB hW cf
 go_enter Tryz.func22,Tryz.ntmps22
 go_wp2_with fail
 rw [<- HW.o]
 refine (HF.o _).mono ?_
 rintro e w1 ⟨rfl,rfl⟩;clear HF HW;have R:=Hm (show W.grownBy W.drew (some (w.heap.size+1)) from ⟨rfl,rfl,rfl,Nat.le_refl _,λ_ _ _=>rfl⟩);have OC:=Hm (show W.drew.ownsRow (w.heap.size+1) 5 1 (.slice (some ⟨w.heap.size+1,0,none⟩) 1 1) 1 (U [op%256]) from HO.o);have k1:W.drew.cell? ⟨w.heap.size,1,none⟩=some (.int .i64 a):=c1;have k2:W.drew.cell? ⟨w.heap.size,2,none⟩=some (.int .i64 b):=c2;have k4:W.drew.cell? ⟨w.heap.size,4,none⟩=some (.slice la l.length lc):=c4
 go_wp2_with fail
 go_region_held3 (λw'=>w'.cell? ⟨w.heap.size,1,none⟩=some (.int .i64 a)/\w'.cell? ⟨w.heap.size,2,none⟩=some (.int .i64 b)/\w'.cell? ⟨w.heap.size,4,none⟩=some (.slice la l.length lc)) (exact ⟨k1,k2,k4⟩)
  (first
   | (refine QG rfl (.tmp 29) (.tmp 32) 22 rfl (w.heap.size+1) 5 i0 (.int .u8 0) 1 1 Tryz.underlying22 hi hz0 hz1 hz2 rfl (by decide) (.slice (some ⟨w.heap.size+1,0,none⟩) 1 1) 1 (U [op%256]) (by simp [Act.eval,Act.put]) OC.o ⟨gA,0,none⟩ (QH 9 l.length++Jm l).length gcA (U (QH 9 l.length++Jm l)) (by simp [Act.eval,Act.put]) (by simp) (Q9 (Gu WA.o RA.o hqA.o)) (XV _) (by simp only [maxLen];omega) (by omega) (by have:=R.o.size;omega) ?_
      intro vx wx ox gx lx
      have st:=Hm (show World.grownBy _ wx (some (w.heap.size+1)) from gx);replace R:=Hm (Qa R.o st.o)
      (try replace RB:=Hm (Qa RB.o st.o))
      have OX:=Hm ox;clear OC;have bx:=Hm (Xi HC.o R.o (by omega));have k1:wx.cell? ⟨w.heap.size,1,none⟩=some (.int .i64 a):=bx.o.1.2.1;have k2:wx.cell? ⟨w.heap.size,2,none⟩=some (.int .i64 b):=bx.o.1.2.2.1;have k4:wx.cell? ⟨w.heap.size,4,none⟩=some (.slice la l.length lc):=bx.o.1.2.2.2.2;clear ox gx lx st bx)
   | (refine QG rfl (.tmp 33) (.tmp 37) 22 rfl (w.heap.size+1) 5 i0 (.int .u8 0) 1 1 Tryz.underlying22 hi hz0 hz1 hz2 rfl (by decide) vx (1+(QH 9 l.length++Jm l).length) (U [op%256]++U (QH 9 l.length++Jm l)) (by simp [Act.eval,Act.put]) OX.o ⟨gB,0,none⟩ (QH 9 a).length gcB (U (QH 9 a)) (by simp [Act.eval,Act.put]) (by simp) (Q9 (Gu WB.o RB.o hqB.o)) (XV _) (by simp only [maxLen];omega) (by omega) (by have:=R.o.size;omega) ?_
      intro vy wy oy gy ly
      have OY:=Hm oy;have bx:=Hm (Xi HC.o R.o (by omega));have hgy:=Hm (fun o:Nat=>World.cell?_of_block (a:=⟨w.heap.size,o,none⟩) (gy.block w.heap.size (World.block_lt_of_cell? _ _ bx.o.1.1) (fun e=>by have:=(OX.o.lt _ e.symm).1;omega)));have k1:wy.cell? ⟨w.heap.size,1,none⟩=some (.int .i64 a):=(hgy.o 1).trans bx.o.1.2.1;have k2:wy.cell? ⟨w.heap.size,2,none⟩=some (.int .i64 b):=(hgy.o 2).trans bx.o.1.2.2.1;have k4:wy.cell? ⟨w.heap.size,4,none⟩=some (.slice la l.length lc):=(hgy.o 4).trans bx.o.1.2.2.2.2;have BY:=Hm ((HB.o.trans (QU R.o (show w.heap.size<=w.heap.size+1 by omega) (by show w.heap.size<=W.heap.size;omega))).grown gy (by have:=R.o.size;omega) (fun j hj=>by have:=(OX.o.lt j hj).1;omega));clear oy gy ly hgy bx)
   | (go_at_call 64
      refine (KA.o _ R.o).mono ?_
      rintro e wn ⟨vn,rfl,hon,hbn⟩;obtain ⟨gA,gcA,rfl,hgA,hgA'⟩:=By.Q1 hon hla.1;have st:=Hm (XZ hbn (some (w.heap.size+1)));have hz:=R.o.size;replace R:=Hm (Qa R.o st.o)
      (try replace RA:=Hm (Qa RA.o st.o))
      (try replace RB:=Hm (Qa RB.o st.o))
      (try replace OX:=Hm (Qx OX.o hbn (Nat.le_refl _)))
      (try replace OC:=Hm (Qx OC.o hbn (Nat.le_refl _)))
      have WA:=Hm hon;have RA:=Hm (World.grownBy.refl wn (some (w.heap.size+1)));have hqA:Hid (gA≠w.heap.size+1):=by show _≠_;omega
      have bx:=Hm (Xi HC.o R.o (by omega));have k1:wn.cell? ⟨w.heap.size,1,none⟩=some (.int .i64 a):=bx.o.1.2.1;have k2:wn.cell? ⟨w.heap.size,2,none⟩=some (.int .i64 b):=bx.o.1.2.2.1;have k4:wn.cell? ⟨w.heap.size,4,none⟩=some (.slice la l.length lc):=bx.o.1.2.2.2.2;clear hon hbn st bx hz hgA hgA')
   | (go_at_call 63
      refine (KB.o _).mono ?_
      rintro e wn ⟨vn,rfl,hon,hbn⟩;obtain ⟨gB,gcB,rfl,hgB,hgB'⟩:=By.Q1 hon hlb.1;have st:=Hm (XZ hbn (some (w.heap.size+1)));have hz:=R.o.size;replace R:=Hm (Qa R.o st.o)
      (try replace RA:=Hm (Qa RA.o st.o))
      (try replace RB:=Hm (Qa RB.o st.o))
      (try replace OX:=Hm (Qx OX.o hbn (Nat.le_refl _)))
      (try replace OC:=Hm (Qx OC.o hbn (Nat.le_refl _)))
      have WB:=Hm hon;have RB:=Hm (World.grownBy.refl wn (some (w.heap.size+1)));have hqB:Hid (gB≠w.heap.size+1):=by show _≠_;omega
      have bx:=Hm (Xi HC.o R.o (by omega));have k1:wn.cell? ⟨w.heap.size,1,none⟩=some (.int .i64 a):=bx.o.1.2.1;have k2:wn.cell? ⟨w.heap.size,2,none⟩=some (.int .i64 b):=bx.o.1.2.2.1;have k4:wn.cell? ⟨w.heap.size,4,none⟩=some (.slice la l.length lc):=bx.o.1.2.2.2.2;clear hon hbn st bx hz hgB hgB'))
 all_goals
  go_wp2_with fail
  go_ret
  exact ⟨_,rfl,JZ (W0:=W) OY.o BY.o (by simp [QM];try omega) (by simp [QM,U])⟩
end Go.Proofs.YtipfjdogokanbaaGreatDoor.Ed
set_option linter.all false
namespace Go.Proofs.YtipfjdogokanbaaGreatDoor.Ed
open Go.RowKit Go.Sort
theorem leb_se (s:Nat)(ba:Option Addr)(bc:BC)(bs:List Int)(p:Nat)(er at_:Int)(w:World)(h:Sr w s ba bc bs p er at_)(hn:er≠0) :
    Calls Tryz.prog 92 #[.pointer (some ⟨s,0,none⟩),.int .i64 32,.bool false] w λe w'=>e=.returned (.int .u64 0)/\w=w':=by
 have c3:=h.c3;have hne:(er==0)=false:=by simpa using hn
 clear h hn
 go_enter Tryz.func92,Tryz.ntmps92
 go_wp2
 refine wp_loop_rounds 1 ?_
 rw [rounds_succ]
 go_wp2
 go_ret
 exact ⟨rfl,rfl⟩
theorem u32_se (s:Nat)(ba:Option Addr)(bc:BC)(bs:List Int)(p:Nat)(er at_:Int)(w:World)(h:Sr w s ba bc bs p er at_)(hn:er≠0) :
    Calls Tryz.prog 90 #[.pointer (some ⟨s,0,none⟩)] w λe w'=>e=.returned (.int .i64 0)/\w=w':=by
 have K:=Hm (leb_se s ba bc bs p er at_ w h hn);clear h hn
 go_enter Tryz.func90,Tryz.ntmps90
 go_wp2_with fail
 refine (K.o).mono ?_
 rintro e w1 ⟨rfl,rfl⟩
 go_wp2_with fail
 go_ret
 exact ⟨rfl,rfl⟩
theorem u32_sc (s:Nat)(ba:Option Addr)(bc:BC)(bs:List Int)(p:Nat)(w:World)(h:Sr w s ba bc bs p 0 0)(hA:Qt bs)(hl:bs.length<=1099511627776) :
    Calls Tryz.prog 90 #[.pointer (some ⟨s,0,none⟩)] w (SpP (Qp false 32 bs p) (λv=>.int .i64 v) isI w s ba bc bs):=by
 have K:=Hm (lebU_sc s ba bc bs p w h hA hl);have hbd:=λv p1=>numU_bd (p:=p) (p1:=p1) (v:=v) hA;generalize Qp false 32 bs p=M at *
 cases M with
 |bad er a =>
  clear hbd h
  go_enter Tryz.func90,Tryz.ntmps90
  go_wp2_with fail
  refine (K.o).mono ?_
  rintro e w1 ⟨hg,u,p',rfl,⟨v,rfl,v0,v1⟩,hs⟩;have HG:=Hm hg;have HS:=Hm hs;clear hg hs K
  go_wp2_with fail
  go_ret
  exact ⟨HG.o,_,_,rfl,⟨_,rfl⟩,HS.o⟩
 |ok v p1 =>
  obtain ⟨v0,v1⟩:=hbd v p1 rfl;have hw:wrap64 v=v:=by unfold wrap64;omega
  clear hbd h
  go_enter Tryz.func90,Tryz.ntmps90
  go_wp2_with fail
  refine (K.o).mono ?_
  rintro e w1 ⟨hg,rfl,hs⟩;have HG:=Hm hg;have HS:=Hm hs;clear hg hs K
  go_wp2_with fail
  go_ret
  exact ⟨HG.o,rfl,HS.o⟩
theorem one_se (s:Nat)(ba:Option Addr)(bc:BC)(bs:List Int)(p:Nat)(er at_:Int)(w:World)(h:Sr w s ba bc bs p er at_)(hn:er≠0) :
    Calls Tryz.prog 91 #[.pointer (some ⟨s,0,none⟩),.int .u8 0,.int .u8 0] w λe w'=>e=.returned (.int .i64 0)/\w=w':=by
 have K:=Hm (byte_se s ba bc bs p er at_ w h hn);have c3:=h.c3;have hne:(er==0)=false:=by simpa using hn
 clear h hn
 go_enter Tryz.func91,Tryz.ntmps91
 go_wp2_with fail
 refine (K.o).mono ?_
 rintro e w1 ⟨rfl,rfl⟩
 go_wp2_with fail
 go_ret
 exact ⟨rfl,rfl⟩
theorem nz_take0 (bs:List Int)(p:Nat):∀ er a,Qy bs p=.bad er a->er≠0:=by
 intro er a e
 unfold Qy at e
 split at e
 . cases e;decide
 . cases e
theorem one_sc (s:Nat)(ba:Option Addr)(bc:BC)(bs:List Int)(p:Nat)(w:World)(h:Sr w s ba bc bs p 0 0)(hA:Qt bs)(hl:bs.length<=1099511627776) :
    Calls Tryz.prog 91 #[.pointer (some ⟨s,0,none⟩),.int .u8 0,.int .u8 0] w (SpP (JA bs p) (λ_=>.int .i64 0) isI w s ba bc bs):=by
 have K:=Hm (Xe s ba bc bs p w h hl);have hbd:=λv p1=>XF (p:=p) (p1:=p1) (v:=v) hA;have hnz:=nz_take0 bs p;unfold JA;generalize Qy bs p=M at *
 cases M with
 |bad er a =>
  have hne:(er==0)=false:=by simpa using hnz er a rfl
  clear hbd h hnz
  go_enter Tryz.func91,Tryz.ntmps91
  go_wp2_with fail
  refine (K.o).mono ?_
  rintro e w1 ⟨hg,u,p',rfl,rfl,hs⟩;have HG:=Hm hg;have HS:=Hm hs;have e3:=hs.c3;clear hg hs K
  go_wp2_with fail
  go_ret
  exact ⟨HG.o,_,_,rfl,⟨_,rfl⟩,HS.o⟩
 |ok v p1 =>
  obtain ⟨v0,v1⟩:=hbd v p1 rfl
  show Calls _ _ _ _ (SpP (if v=0 then .ok () p1 else .bad 8 p1) _ _ _ _ _ _ _)
  clear hbd h hnz
  by_cases hv:v=0
  . subst hv;rw [if_pos rfl]
    go_enter Tryz.func91,Tryz.ntmps91
    go_wp2_with fail
    refine (K.o).mono ?_
    rintro e w1 ⟨hg,rfl,hs⟩;have HG:=Hm hg;have HS:=Hm hs;have e3:=hs.c3;clear hg hs K
    go_wp2_with fail
    go_ret
    exact ⟨HG.o,rfl,HS.o⟩
  . rw [if_neg hv];have hv2:0<v:=by omega
    clear hv
    go_enter Tryz.func91,Tryz.ntmps91
    go_wp2_with fail
    refine (K.o).mono ?_
    rintro e w1 ⟨hg,rfl,hs⟩;have HG:=Hm hg;have e3:=hs.c3;have e1:=hs.c1;have KF:=Hm (QY s ba bc bs p1 8 p1 w1 hs);clear hg hs K
    go_wp2_with fail
    refine (KF.o).mono ?_
    rintro e w2 ⟨rfl,hs2,hg2⟩;have HG2:=Hm (Qa HG.o hg2);have HS2:=Hm hs2;clear hs2 hg2 KF
    go_wp2_with fail
    go_ret
    exact ⟨HG2.o,_,_,rfl,⟨_,rfl⟩,HS2.o⟩
theorem tell_se (s:Nat)(ba:Option Addr)(bc:BC)(bs:List Int)(p:Nat)(er at_:Int)(w1 w2 w3 w4:Int)(w:World)(h:Sr w s ba bc bs p er at_)(hn:er≠0) :
    Calls Tryz.prog 89 #[.pointer (some ⟨s,0,none⟩),.int .i64 w1,.int .i64 w2,.int .i64 w3,.int .i64 w4] w λe w'=>e=.returned (.tuple #[])/\w=w':=by
 have c3:=h.c3;have hne:(er==0)=false:=by simpa using hn
 clear h hn
 go_enter Tryz.func89,Tryz.ntmps89
 go_wp2
 go_end0
 exact ⟨rfl,rfl⟩
end Go.Proofs.YtipfjdogokanbaaGreatDoor.Ed
namespace Go.Proofs.YtipfjdogokanbaaGreatDoor.Ed
open Go.RowKit Go.Sort
theorem Tryz.info188:(Tryz.prog.info? 188).map (λi=>(i.zero,i.size,i.bytes))=some (some (.agg #[.int .i64 0,.int .i64 0,.int .i64 0,.int .i64 0,.int .i64 0,.int .i64 0]),6,48):=by kernel_rfl
theorem six_new (w:World)(a b c d e f:Value)(t:TypeId):∀ j u,[a,b,c,d,e,f][j]?=some u->(w.alloc (.cells #[a,b,c,d,e,f] t)).cell? ((⟨w.heap.size,0,none⟩:Addr).add j)=some u:=by
 intro j u hu
 have hadd:(⟨w.heap.size,0,none⟩:Addr).add j=⟨w.heap.size,j,none⟩:=by unfold Addr.add;split<;>simp_all
 rw [hadd]
 exact Qi rfl (by simpa using hu)
theorem six_one (a b c d e f:Int):∀ u ∈ [Value.int .i64 a,.int .i64 b,.int .i64 c,.int .i64 d,.int .i64 e,.int .i64 f],u.oneCell'=true:=by
 intro u hu
 simp at hu
 rcases hu with rfl|rfl|rfl|rfl|rfl|rfl<;>rfl
theorem ownN_slice {w:World}{B e sz:Nat}{v:Value}{n:Nat}{zs:List Value}(h:w.ownsRow B e sz v n zs):∃ a c,v=.slice a n c:=by
 rcases h.2 with ⟨e,h0⟩|⟨g,cap,cur,hv,_⟩
 . rw [h0];exact ⟨_,_,e⟩
 . exact ⟨_,_,hv⟩
theorem told_all {w w5:World}{s:Nat}{ba:Option Addr}{bc:BC}{bs:List Int}{p:Nat}{v:Value}{o:Obj}(h:Sr w s ba bc bs p 0 0)(hg:((w.alloc o).drew).grownBy w5 (Value.slice none 0 0).ownBlock):Sr (w5.setCell ⟨s,18,none⟩ v) s ba ⟨bc.n,v⟩ bs p 0 0/\w.grownBy (w5.setCell ⟨s,18,none⟩ v) (some s)/\(∃ u,w5.cell? ⟨s,18,none⟩=some u)/\w5.frozen? ⟨s,18,none⟩=false:=by
 have hg':w.grownBy w5 none:=⟨hg.os,hg.tape,hg.output,Nat.le_trans (by show w.heap.size<=(w.alloc o).heap.size;simp) hg.size,λk hk _=>(hg.block k (by show k<(w.alloc o).heap.size;simp;omega) (by simp [Value.ownBlock])).trans (QC w o k hk)⟩;have h1:=h.grown hg' (by simp) (by simp)
 refine ⟨⟨Qc h1.c0 (by decide),Qc h1.c1 (by decide),Qc h1.c2 (by decide),Qc h1.c3 (by decide),Qc h1.c4 (by decide),Qh h1.ev,Qc h1.c19 (by decide),λi=>by rw [World.frozen?_setCell];exact h1.fz i,Sr.has_set h1.has h1.ne _ _,h1.ne,h1.le⟩,?_,⟨_,h1.ev⟩,h1.fz 18⟩
 exact Qa (show w.grownBy w5 (some s) from ⟨hg'.os,hg'.tape,hg'.output,hg'.size,λk hk _=>hg'.block k hk (by simp)⟩) (QW w5 s 18 v)
theorem tell_sc (s:Nat)(ba:Option Addr)(bc:BC)(bs:List Int)(p:Nat)(w1 w2 w3 w4:Int)(w:World)(h:Sr w s ba bc bs p 0 0)(hev0:bc.ev=.slice none 0 0) :
    Calls Tryz.prog 89 #[.pointer (some ⟨s,0,none⟩),.int .i64 w1,.int .i64 w2,.int .i64 w3,.int .i64 w4] w λe w'=>∃ v,e=.returned (.tuple #[])/\Sr w' s ba ⟨bc.n,v⟩ bs p 0 0/\w.grownBy w' (some s):=by
 have hev:w.cell? ⟨s,18,none⟩=some (.slice none 0 0):=by rw [<- hev0];exact h.ev
 obtain ⟨i0,hi,hz0,hz1,hz2⟩:=info_parts Tryz.info188;have c1:=h.c1;have c3:=h.c3;have c19:=h.c19;have hlt:=h.lt;have H:=Hm h;have kd:∀ o,(w.alloc o).cell? ⟨s,18,none⟩=some (.slice none 0 0):=λo=>JJ hev;clear h hev0
 go_enter Tryz.func89,Tryz.ntmps89
 go_wp2_with fail
 go_region_law (first
     | (refine QG rfl (.tmp 19) (.tmp 33) 83 rfl (s+1) 188 i0 (.agg #[.int .i64 0,.int .i64 0,.int .i64 0,.int .i64 0,.int .i64 0,.int .i64 0]) 6 48 Tryz.underlying83 hi hz0 hz1 hz2 rfl (by decide) (.slice none 0 0) 0 [] (by simp [Act.eval,Act.put]) (World.ownsRow_nil _ _ _ _) ⟨w.heap.size,0,none⟩ 1 1 [.int .i64 w1,.int .i64 0,.int .i64 w2,.int .i64 w3,.int .i64 w4,.int .i64 p] (by simp [Act.eval,Act.put]) (by simp) (six_new w _ _ _ _ _ _ _) (six_one _ _ _ _ _ _) (by simp only [maxLen];omega) (by omega) (by show s+1<=(w.alloc _).heap.size;simp;omega) ?_
        intro v2 w5 own2 gr2 hloc
        have HQ:=Hm (told_all (v:=v2) H.o gr2);obtain ⟨u18,d18⟩:=HQ.o.2.2.1;have e18:=HQ.o.2.2.2;obtain ⟨va,vc,rfl⟩:=ownN_slice own2;clear own2 gr2 hloc))
 all_goals
  go_wp2_with fail
  go_end0
  exact ⟨_,rfl,HQ.o.1,HQ.o.2.1⟩
end Go.Proofs.YtipfjdogokanbaaGreatDoor.Ed
namespace Go.Proofs.YtipfjdogokanbaaGreatDoor.Ed
open Go.RowKit Go.Sort
theorem P2_8 (k:Nat):By.P2 (8*(k:Int))=2 ^ (8*k):=by unfold By.P2;rw [show (8*(k:Int)).toNat=8*k by omega]
theorem fix_sc (s:Nat)(ba:Option Addr)(bc:BC)(bs:List Int)(p n:Nat)(w:World)(h:Sr w s ba bc bs p 0 0)(hA:Qt bs)(hl:bs.length<=1099511627776)(hn:n<=8) :
    Calls Tryz.prog 93 #[.pointer (some ⟨s,0,none⟩),.int .i64 (n:Int)] w (SpP (JN bs p n) (λv=>.int .u64 v) (λu=>∃ v:Int,u=.int .u64 v) w s ba bc bs):=by
 have HS:=Hm h;have HA:=Hm hA;clear h hA
 go_enter Tryz.func93,Tryz.ntmps93
 go_wp2_with fail
 go_loopw [5,6] (λx i wr=>∃ (k:Nat) (v:Int),k<=n/\i=.int .i64 (k:Int)/\x=.int .u64 v/\w.grownBy wr (some s)/\((v=Gr bs p k/\Sr wr s ba bc bs (p+k) 0 0)\/(∃ er a p',er≠0/\JN bs p n=.bad er a/\Sr wr s ba bc bs p' er a))) (λ_ i _=>n-(intOf i).toNat)
 case atStart=>exact ⟨0,0,Nat.zero_le _,rfl,rfl,World.grownBy.refl _ _,.inl ⟨rfl,HS.o⟩⟩
 case round =>
  obtain ⟨k,v,hk,rfl,rfl,hg,hst⟩:=hrel;have HG:=Hm hg;clear hg HS
  by_cases hlt:k<n
  . have hki:(k:Int)<(n:Int):=by omega
    have hk7:(k:Int)<=7:=by omega
    rcases hst with ⟨hv,hs⟩|⟨er,a,p',hne,hM,hs⟩
    . have KT:=Hm (Xe s ba bc bs (p+k) wr hs hl);clear hs
      by_cases hpk:bs.length<=p+k
      . have htm:Qy bs (p+k)=.bad 2 bs.length:=by unfold Qy;rw [if_pos hpk]
        rw [htm] at KT;have HM:Hid (JN bs p n=.bad 2 bs.length):=by show _=_;unfold JN;rw [if_neg (by omega)]
        clear htm hv
        go_wp2_with (first
         |(go_at_call 36;refine (KT.o).mono ?_;rintro e w1 ⟨hg1,u,p',rfl,rfl,hs1⟩;have HS1:=Hm hs1;have HG1:=Hm (Qa HG.o hg1);clear hg1 hs1)
         | (go_at_call 101;refine (By.Qm _ _ (by omega) (by omega)).mono ?_;rintro e w3 ⟨rfl,rfl⟩))
        go_roundw
        case rel=>exact ⟨k+1,_,by omega,by go_num,rfl,HG1.o,.inr ⟨2,_,_,by decide,HM.o,HS1.o⟩⟩
        case measure=>simp [intOf];omega
      . have htm:Qy bs (p+k)=.ok (bs.getD (p+k) 0) (p+k+1):=by unfold Qy;rw [if_neg hpk]
        rw [htm] at KT;obtain ⟨hb0,hb1⟩:=HA.o (p+k);obtain ⟨s0,s1⟩:=sumB_bd bs HA.o p k;have hs2:=sumB_bd bs HA.o p (k+1)
        have HV:Hid (IntKind.u64.wrap (v+IntKind.u64.wrap (bs.getD (p+k) 0*By.P2 (8*(k:Int))))=Gr bs p (k+1)):=by
         have h3:(2:Int) ^ (8*(k+1))<=18446744073709551616:=by
          have h2:k=0\/k=1\/k=2\/k=3\/k=4\/k=5\/k=6\/k=7:=by omega
          rcases h2 with rfl|rfl|rfl|rfl|rfl|rfl|rfl|rfl<;>decide
         show _=_
         simp only [Gr] at hs2⊢
         rw [P2_8,hv,IntKind.wrap_u64,IntKind.wrap_u64];generalize bs.getD (p+k) 0*2 ^ (8*k)=t at *
         omega
        generalize bs.getD (p+k) 0=y at *;clear htm hv s0 s1 hs2
        go_wp2_with (first
         |(go_at_call 36;refine (KT.o).mono ?_;rintro e w1 ⟨hg1,rfl,hs1⟩;have HS1:=Hm hs1;have HG1:=Hm (Qa HG.o hg1);clear hg1 hs1)
         | (go_at_call 101;refine (By.Qm _ _ (by omega) (by omega)).mono ?_;rintro e w3 ⟨rfl,rfl⟩))
        go_roundw
        case rel=>exact ⟨k+1,_,by omega,by go_num,rfl,HG1.o,.inl ⟨HV.o,HS1.o⟩⟩
        case measure=>simp [intOf];omega
    . have KT:=Hm (byte_se s ba bc bs p' er a wr hs hne);have HM:=Hm hM;have HS1:=Hm hs;clear hs hM
      go_wp2_with (first
       |(go_at_call 36;refine (KT.o).mono ?_;rintro e w1 ⟨rfl,rfl⟩)
       | (go_at_call 101;refine (By.Qm _ _ (by omega) (by omega)).mono ?_;rintro e w3 ⟨rfl,rfl⟩))
      go_roundw
      case rel=>exact ⟨k+1,_,by omega,by go_num,rfl,HG.o,.inr ⟨er,a,p',hne,HM.o,HS1.o⟩⟩
      case measure=>simp [intOf];omega
  . have e:k=n:=by omega
    subst e;have HST:=Hm hst;clear hst
    go_wp2_with fail
    go_ret
    refine ⟨HG.o,?_⟩
    rcases HST.o with ⟨hv,hs⟩|⟨er,a,p',hne,hM,hs⟩
    . have:JN bs p k=.ok (Gr bs p k) (p+k):=by unfold JN;rw [if_pos hs.le]
      rw [this]
      exact ⟨by rw [<- hv];rfl,hs⟩
    . rw [hM]
      exact ⟨_,_,rfl,⟨_,rfl⟩,hs⟩
end Go.Proofs.YtipfjdogokanbaaGreatDoor.Ed
set_option linter.all false
namespace Go.Proofs.YtipfjdogokanbaaGreatDoor.Ed
open Go.RowKit Go.Sort
theorem slow32 (x:Int)(w:World)(h0:0<=x)(h1:x<=18446744073709551615):Calls Tryz.prog 44 #[.int .u64 x,.int .i64 32] w λe w'=>e=.returned (.int .u64 (x%4294967296))/\w=w':=by
 have hp:By.P2 32=4294967296:=by decide
 go_enter Tryz.func44,Tryz.ntmps44
 go_wp2_with (go_at_call 101;refine (By.Qm _ _ (by omega) (by omega)).mono ?_;rintro e w' ⟨rfl,rfl⟩)
 go_ret
 exact ⟨rfl,rfl⟩
def SiP (M:Rs In)(w:World)(s:Nat)(ba:Option Addr)(n:Nat)(bs:List Int)(e:Ending)(w':World):Prop :=
 w.grownBy w' (some s)/\∃ x la lc,e=.returned (inV x la lc)/\(match M with
  |.bad er a=>er≠0/\∃ p' ev,Sr w' s ba ⟨n,ev⟩ bs p' er a
  | .ok x' p'=>x=x'/\w'.ownsRow w.heap.size 2 1 (.slice la x.l.length lc) x.l.length (I x.l)/\∃ ev,Sr w' s ba ⟨n,ev⟩ bs p' 0 0)
theorem Sr.far {W:World}{s X:Nat}{ba:Option Addr}{bc:BC}{bs:List Int}{p:Nat}{er at_:Int}(h:Sr W s ba bc bs p er at_)(hX:s<X)(o:Nat)(v:Value):Sr (W.setCell ⟨X,o,none⟩ v) s ba bc bs p er at_ :=
 h.grown (QW W X o v) (by simp;omega) (λk hk=>by simp at hk;omega)
theorem QT {w W:World}{s X:Nat}(h:w.grownBy W (some s))(hX:w.heap.size<=X)(o:Nat)(v:Value):w.grownBy (W.setCell ⟨X,o,none⟩ v) (some s) :=
 grown_past h (QW W X o v) (λk hk=>by simp at hk;omega)
theorem QZ {w W:World}{s:Nat}{ba:Option Addr}{bc:BC}{bs:List Int}{p:Nat}{er at_:Int}{v0 v1 v2 v3 v4:Value}(hR:Sr W s ba bc bs p er at_)(hG:w.grownBy W (some s))(hs:s<w.heap.size) :
    w.grownBy (((((W.setCell ⟨w.heap.size,0,none⟩ v0).setCell ⟨w.heap.size,1,none⟩ v1).setCell ⟨w.heap.size,2,none⟩ v2).setCell ⟨w.heap.size,3,none⟩ v3).setCell ⟨w.heap.size,4,none⟩ v4) (some s)/\Sr (((((W.setCell ⟨w.heap.size,0,none⟩ v0).setCell ⟨w.heap.size,1,none⟩ v1).setCell ⟨w.heap.size,2,none⟩ v2).setCell ⟨w.heap.size,3,none⟩ v3).setCell ⟨w.heap.size,4,none⟩ v4) s ba bc bs p er at_ :=
 ⟨QT (QT (QT (QT (QT hG (Nat.le_refl _) _ _) (Nat.le_refl _) _ _) (Nat.le_refl _) _ _) (Nat.le_refl _) _ _) (Nat.le_refl _) _ _,((((hR.far hs _ _).far hs _ _).far hs _ _).far hs _ _).far hs _ _⟩
end Go.Proofs.YtipfjdogokanbaaGreatDoor.Ed
