import Derived.Test.YtdbmolambolmgaaGreatHc
import Derived.Test.YtdbmolambolmgaaGreatHb
set_option linter.all false
set_option maxHeartbeats 16000000
set_option maxRecDepth 100000
namespace Go.Proofs.YtdbmolambolmgaaGreat
open Go.RowKit Go.Sort
set_option maxRecDepth 100000
theorem wu8 (x:Int):IntKind.u8.wrap x=x%256:=by simp [IntKind.wrap,IntKind.bits,IntKind.signed]
theorem sgt_b (ty:Int) (mu:Bool) (f:Int) (hf:f=if mu then 1 else 0) (w:World):Calls Tryz.prog 142 #[.agg #[.int .i64 ty,.bool mu]] w fun e w'=>∃ u,e=.returned u∧Out w w' u [ty%256,f]:=by
 have KF:=Hm (fun W=>sflag_c mu W)
 rw [← hf] at KF
 obtain ⟨W,hW⟩:∃ W,W=w.alloc (.cells #[.int .i64 ty,.bool mu] 101):=⟨_,rfl⟩
 have hBk:Bk W w.heap.size [.int .i64 ty,.bool mu]:=by rw [hW];exact Bk.new
 have bW:Below w.heap.size w W:=by rw [hW];exact (Below.refl _ _).alloc (Nat.le_refl _) _
 have q0:=hBk.2.1 0 _ rfl
 have q1:=hBk.2.1 1 _ rfl
 have k0:W.drew.cell? ⟨w.heap.size,0,none⟩=some (.int .i64 ty):=q0
 have k1:W.drew.cell? ⟨w.heap.size,1,none⟩=some (.bool mu):=q1
 have HW:=Hm hW
 have HBW:=Hm bW
 have HWr:=Hm (wu8 ty)
 clear hW bW hBk hf
 go_enter Tryz.func142,Tryz.ntmps142
 go_wp2_with fail
 rw [show w.alloc (.cells #[.int .i64 ty,.bool mu] 101)=W from HW.out.symm]
 clear HW
 go_region_law
  (go_simp
   refine (KF.out _).mono ?_
   rintro e w1 ⟨rfl,rfl⟩)
 all_goals
  go_wp2_with fail
  go_ret
  refine ⟨_,rfl,?_,HBW.out.drew.alloc HBW.out.size _⟩
  have ho:=World.ownsRow_lit (size:=1) (e:=5) W.drew #[.int .u8 (IntKind.u8.wrap ty),.int .u8 f] 2 HBW.out.size (by decide) rfl
  rw [HWr.out] at ho
  try rw [HWr.out]
  exact ho
theorem s5gt_c (g:GType) (w:World):Calls Tryz.prog 142 #[.agg #[.int .i64 g.ty,.bool g.mu]] w fun e w'=>∃ u,e=.returned u∧Out w w' u (gtE g):=by
 obtain ⟨ty,mu⟩:=g
 cases mu
 · exact sgt_b ty false 0 rfl w
 · exact sgt_b ty true 1 rfl w
theorem Bk.grown {w w':World} {g g0:Nat} {cs:List Value} (h:Bk w g cs) (hg:w.grownBy w' (some g0)) (hne:g≠g0):Bk w' g cs:=by
 have e:w'.heap[g]?=w.heap[g]?:=hg.block g h.1 (fun e=>hne (by simpa using e))
 exact ⟨Nat.lt_of_lt_of_le h.1 hg.size,fun j v hv=>(World.cell?_of_block (a:=⟨g,j,none⟩) e).trans (h.2.1 j v hv),fun j=>(World.frozen?_of_block (a:=⟨g,j,none⟩) e).trans (h.2.2 j)⟩
theorem lim_on {w W w1 w2:World} {g:Nat} {cs:List Value} (hB:Below w.heap.size w W) (hK:Bk W w.heap.size cs) (hs:W.heap.size=w.heap.size+1) (h1:Below W.heap.size W w1) (hg:W.heap.size≤g) (gr:w1.grownBy w2 (some g)):Below w.heap.size w w2∧Bk w2 w.heap.size cs:=by
 have hz:=h1.size
 exact ⟨(hB.trans (h1.mono (by omega))).grown gr (by omega) (fun k hk=>by simp at hk;omega),(hK.below h1 (by omega)).grown gr (by omega)⟩
theorem slim_true (mn mx:Int) (w:World) (h0:0≤mn) (h1:mn≤4294967295) (h2:0≤mx) (h3:mx≤4294967295) :
    Calls Tryz.prog 141 #[.agg #[.int .i64 mn,.int .i64 mx,.bool true]] w fun e w'=>∃ u,e=.returned u∧Out w w' u ([1]++lebU 9 mn++lebU 9 mx):=by
 obtain ⟨i0,hi,hz0,hz1,hz2⟩:=info_parts Tryz.info5
 have KF:=Hm (fun W=>sflag_c true W)
 simp only [if_true,Bool.false_eq_true,if_false] at KF
 have hwa:IntKind.u64.wrap mn=mn:=by rw [IntKind.wrap_u64];omega
 have hwb:IntKind.u64.wrap mx=mx:=by rw [IntKind.wrap_u64];omega
 have KA:=Hm (fun W=>specPutU_any mn W h0 (by omega))
 have KB:=Hm (fun W=>specPutU_any mx W h2 (by omega))
 have hla:=lebU_len 9 mn
 have hlb:=lebU_len 9 mx
 generalize lebU 9 mn=LA at *
 generalize lebU 9 mx=LB at *
 obtain ⟨W,hW⟩:∃ W,W=w.alloc (.cells #[.int .i64 mn,.int .i64 mx,.bool true] 99):=⟨_,rfl⟩
 have hBk:Bk W w.heap.size [.int .i64 mn,.int .i64 mx,.bool true]:=by rw [hW];exact Bk.new
 have bW:Below w.heap.size w W:=by rw [hW];exact (Below.refl _ _).alloc (Nat.le_refl _) _
 have HsW:Hid (W.heap.size=w.heap.size+1):=by show _=_;rw [hW];simp
 have BK:=Hm hBk
 have q0:=hBk.2.1 0 _ rfl
 have q2:=hBk.2.1 2 _ rfl
 have k0:W.drew.cell? ⟨w.heap.size,0,none⟩=some (.int .i64 mn):=q0
 have k2:W.drew.cell? ⟨w.heap.size,2,none⟩=some (.bool true):=q2
 have m0:∀ o,(W.alloc o).cell? ⟨w.heap.size,0,none⟩=some (.int .i64 mn):=fun o=>(hBk.keep ((Below.refl W.heap.size W).alloc (Nat.le_refl _) o)).2.1 0 _ rfl
 have n0:∀ o,(W.alloc o).drew.cell? ⟨w.heap.size,0,none⟩=some (.int .i64 mn):=m0
 have HW:=Hm hW
 have HBW:=Hm bW
 clear hW bW hBk h0 h1 h2 h3
 go_enter Tryz.func141,Tryz.ntmps141
 go_wp2_with fail
 rw [show w.alloc (.cells #[.int .i64 mn,.int .i64 mx,.bool true] 99)=W from HW.out.symm]
 clear HW
 go_region_law (first
  | (refine step_append_src rfl (.tmp 7) (.tmp 11) 50 rfl w.heap.size 5 i0 (.int .u8 0) 1 1 Tryz.underlying50 hi hz0 hz1 hz2 rfl (by decide) (.slice (some ⟨W.heap.size,0,none⟩) 1 1) 1 (U [1]) (by simp [Act.eval,Act.put]) OX.out ⟨gA,0,none⟩ LA.length gcA (U LA) (by simp [Act.eval,Act.put]) (by simp) SX.out (oneU _) (by simp only [maxLen];omega) (by omega) ZX.out ?_
     intro v2 w2 own2 gr2 hloc
     have O2:=Hm own2
     have B2:=Hm (BX.out _ gr2)
     clear own2 gr2 hloc)
  | (refine step_append_src rfl (.tmp 7) (.tmp 11) 50 rfl w.heap.size 5 i0 (.int .u8 0) 1 1 Tryz.underlying50 hi hz0 hz1 hz2 rfl (by decide) (.slice (some ⟨w1.heap.size,0,none⟩) 1 1) 1 (U [1]) (by simp [Act.eval,Act.put]) OY.out ⟨gA,0,none⟩ LA.length gcA (U LA) (by simp [Act.eval,Act.put]) (by simp) (SY.out _) (oneU _) (by simp only [maxLen];omega) (by omega) (ZY.out _) ?_
     intro v2 w2 own2 gr2 hloc
     have O2:=Hm own2
     have B2:=Hm (BY.out _ _ gr2)
     clear own2 gr2 hloc)
  | (go_simp
     go_at_call 184
     refine (KF.out _).mono ?_
     rintro e w1 ⟨rfl,rfl⟩)
  | (go_simp
     go_at_call 77
     refine (KA.out _).mono ?_
     rintro e w1 ⟨vn,rfl,hon,hbn⟩
     obtain ⟨gA,gcA,rfl,hgA,hgA'⟩:=By.own_split hon hla.1
     first
      | (have O':w1.ownsRow w.heap.size 5 1 (.slice (some ⟨W.heap.size,0,none⟩) 1 1) 1 (U [1]):=ownE_keep (World.ownsRow_lit (size:=1) (e:=5) W.drew #[.int .u8 1] 1 HBW.out.size (by decide) rfl) hbn (Nat.le_refl _)
         have hb1:Below W.heap.size W w1:=((Below.refl W.heap.size W).drew.alloc (Nat.le_refl _) _).trans (hbn.mono (by show W.heap.size≤_;simp))
         have OX:=Hm O'
         have SX:=Hm (own_src hon)
         have ZX:Hid (w.heap.size≤w1.heap.size):=Nat.le_trans HBW.out.size hb1.size
         have BX:=Hm (fun (w2:World) (gr:w1.grownBy w2 (some W.heap.size))=>lim_on HBW.out BK.out HsW.out hb1 (Nat.le_refl _) gr)
         clear O' hon hbn hb1 hgA hgA')
      | (have hb1:Below W.heap.size W w1:=(Below.refl W.heap.size W).drew.trans hbn
         have OY:=Hm (World.ownsRow_lit (size:=1) (e:=5) w1 #[.int .u8 1] 1 (show w.heap.size≤w1.heap.size from Nat.le_trans HBW.out.size hb1.size) (by decide) rfl)
         have SY:=Hm (fun ob=>own_src (ownE_keep hon ((Below.refl w1.heap.size w1).alloc (Nat.le_refl _) ob) (Nat.le_refl _)))
         have ZY:Hid (∀ ob,w.heap.size≤(w1.alloc ob).heap.size):=fun ob=>by simp;have:=HBW.out.size;have:=hb1.size;omega
         have BY:=Hm (fun (ob:Obj) (w2:World) (gr:(w1.alloc ob).grownBy w2 (some w1.heap.size))=>lim_on HBW.out BK.out HsW.out (hb1.alloc hb1.size ob) hb1.size gr)
         clear hon hbn hb1 hgA hgA')))
 all_goals
  have q0:=B2.out.2.2.1 0 _ rfl
  have q1:=B2.out.2.2.1 1 _ rfl
  have q2:=B2.out.2.2.1 2 _ rfl
  clear k0 k2 m0 n0
  obtain ⟨va,vc,rfl⟩:=ownE_slice O2.out
  go_wp2_with fail
  refine (KB.out _).mono ?_
  rintro e w3 ⟨v3,rfl,ho3,hb3⟩
  obtain ⟨gB,gcB,rfl,hgB,hgB'⟩:=By.own_split ho3 hlb.1
  have O3:=Hm (ownE_keep O2.out hb3 (Nat.le_refl _))
  have B3:=Hm (B2.out.1.trans (hb3.mono B2.out.1.size))
  have S3:Hid (SrcC w3 (some ⟨gB,0,none⟩) (U LB)):=.inr ⟨_,rfl,own_src ho3⟩
  have hz3:=B3.out.size
  clear ho3 hb3 hgB hgB' q0 q1 q2
  go_wp2_with (at_builtin;refine wpList_append_any rfl _ _ 50 rfl w.heap.size 5 i0 (.int .u8 0) 1 1 Tryz.underlying50 hi hz0 hz1 hz2 rfl (by decide) _ (1+LA.length) (U [1]++U LA) rfl O3.out (some ⟨gB,0,none⟩) LB.length gcB (U LB) rfl (by simp) S3.out (oneU _) (by unfold maxLen;omega) (by omega) (by omega) ?_;intro v4 w4 own4 gr4 hloc;have O4:=Hm own4;have B4:=Hm (below_own B3.out hz3 O3.out gr4);clear own4 gr4 hloc)
  go_ret
  refine ⟨_,rfl,?_,B4.out⟩
  have h:=O4.out
  simpa [U,Nat.add_comm,Nat.add_left_comm,Nat.add_assoc] using h
theorem slim_false (mn mx:Int) (w:World) (h0:0≤mn) (h1:mn≤4294967295) (h2:0≤mx) (h3:mx≤4294967295) :
    Calls Tryz.prog 141 #[.agg #[.int .i64 mn,.int .i64 mx,.bool false]] w fun e w'=>∃ u,e=.returned u∧Out w w' u ([0]++lebU 9 mn):=by
 obtain ⟨i0,hi,hz0,hz1,hz2⟩:=info_parts Tryz.info5
 have KF:=Hm (fun W=>sflag_c false W)
 simp only [if_true,Bool.false_eq_true,if_false] at KF
 have hwa:IntKind.u64.wrap mn=mn:=by rw [IntKind.wrap_u64];omega
 have hwb:IntKind.u64.wrap mx=mx:=by rw [IntKind.wrap_u64];omega
 have KA:=Hm (fun W=>specPutU_any mn W h0 (by omega))
 have KB:=Hm (fun W=>specPutU_any mx W h2 (by omega))
 have hla:=lebU_len 9 mn
 have hlb:=lebU_len 9 mx
 generalize lebU 9 mn=LA at *
 generalize lebU 9 mx=LB at *
 obtain ⟨W,hW⟩:∃ W,W=w.alloc (.cells #[.int .i64 mn,.int .i64 mx,.bool false] 99):=⟨_,rfl⟩
 have hBk:Bk W w.heap.size [.int .i64 mn,.int .i64 mx,.bool false]:=by rw [hW];exact Bk.new
 have bW:Below w.heap.size w W:=by rw [hW];exact (Below.refl _ _).alloc (Nat.le_refl _) _
 have HsW:Hid (W.heap.size=w.heap.size+1):=by show _=_;rw [hW];simp
 have BK:=Hm hBk
 have q0:=hBk.2.1 0 _ rfl
 have q2:=hBk.2.1 2 _ rfl
 have k0:W.drew.cell? ⟨w.heap.size,0,none⟩=some (.int .i64 mn):=q0
 have k2:W.drew.cell? ⟨w.heap.size,2,none⟩=some (.bool false):=q2
 have m0:∀ o,(W.alloc o).cell? ⟨w.heap.size,0,none⟩=some (.int .i64 mn):=fun o=>(hBk.keep ((Below.refl W.heap.size W).alloc (Nat.le_refl _) o)).2.1 0 _ rfl
 have n0:∀ o,(W.alloc o).drew.cell? ⟨w.heap.size,0,none⟩=some (.int .i64 mn):=m0
 have HW:=Hm hW
 have HBW:=Hm bW
 clear hW bW hBk h0 h1 h2 h3
 go_enter Tryz.func141,Tryz.ntmps141
 go_wp2_with fail
 rw [show w.alloc (.cells #[.int .i64 mn,.int .i64 mx,.bool false] 99)=W from HW.out.symm]
 clear HW
 go_region_law (first
  | (refine step_append_src rfl (.tmp 7) (.tmp 11) 50 rfl w.heap.size 5 i0 (.int .u8 0) 1 1 Tryz.underlying50 hi hz0 hz1 hz2 rfl (by decide) (.slice (some ⟨W.heap.size,0,none⟩) 1 1) 1 (U [0]) (by simp [Act.eval,Act.put]) OX.out ⟨gA,0,none⟩ LA.length gcA (U LA) (by simp [Act.eval,Act.put]) (by simp) SX.out (oneU _) (by simp only [maxLen];omega) (by omega) ZX.out ?_
     intro v2 w2 own2 gr2 hloc
     have O2:=Hm own2
     have B2:=Hm (BX.out _ gr2)
     clear own2 gr2 hloc)
  | (refine step_append_src rfl (.tmp 7) (.tmp 11) 50 rfl w.heap.size 5 i0 (.int .u8 0) 1 1 Tryz.underlying50 hi hz0 hz1 hz2 rfl (by decide) (.slice (some ⟨w1.heap.size,0,none⟩) 1 1) 1 (U [0]) (by simp [Act.eval,Act.put]) OY.out ⟨gA,0,none⟩ LA.length gcA (U LA) (by simp [Act.eval,Act.put]) (by simp) (SY.out _) (oneU _) (by simp only [maxLen];omega) (by omega) (ZY.out _) ?_
     intro v2 w2 own2 gr2 hloc
     have O2:=Hm own2
     have B2:=Hm (BY.out _ _ gr2)
     clear own2 gr2 hloc)
  | (go_simp
     go_at_call 184
     refine (KF.out _).mono ?_
     rintro e w1 ⟨rfl,rfl⟩)
  | (go_simp
     go_at_call 77
     refine (KA.out _).mono ?_
     rintro e w1 ⟨vn,rfl,hon,hbn⟩
     obtain ⟨gA,gcA,rfl,hgA,hgA'⟩:=By.own_split hon hla.1
     first
      | (have O':w1.ownsRow w.heap.size 5 1 (.slice (some ⟨W.heap.size,0,none⟩) 1 1) 1 (U [0]):=ownE_keep (World.ownsRow_lit (size:=1) (e:=5) W.drew #[.int .u8 0] 1 HBW.out.size (by decide) rfl) hbn (Nat.le_refl _)
         have hb1:Below W.heap.size W w1:=((Below.refl W.heap.size W).drew.alloc (Nat.le_refl _) _).trans (hbn.mono (by show W.heap.size≤_;simp))
         have OX:=Hm O'
         have SX:=Hm (own_src hon)
         have ZX:Hid (w.heap.size≤w1.heap.size):=Nat.le_trans HBW.out.size hb1.size
         have BX:=Hm (fun (w2:World) (gr:w1.grownBy w2 (some W.heap.size))=>lim_on HBW.out BK.out HsW.out hb1 (Nat.le_refl _) gr)
         clear O' hon hbn hb1 hgA hgA')
      | (have hb1:Below W.heap.size W w1:=(Below.refl W.heap.size W).drew.trans hbn
         have OY:=Hm (World.ownsRow_lit (size:=1) (e:=5) w1 #[.int .u8 0] 1 (show w.heap.size≤w1.heap.size from Nat.le_trans HBW.out.size hb1.size) (by decide) rfl)
         have SY:=Hm (fun ob=>own_src (ownE_keep hon ((Below.refl w1.heap.size w1).alloc (Nat.le_refl _) ob) (Nat.le_refl _)))
         have ZY:Hid (∀ ob,w.heap.size≤(w1.alloc ob).heap.size):=fun ob=>by simp;have:=HBW.out.size;have:=hb1.size;omega
         have BY:=Hm (fun (ob:Obj) (w2:World) (gr:(w1.alloc ob).grownBy w2 (some w1.heap.size))=>lim_on HBW.out BK.out HsW.out (hb1.alloc hb1.size ob) hb1.size gr)
         clear hon hbn hb1 hgA hgA')))
 all_goals
  have q0:=B2.out.2.2.1 0 _ rfl
  have q1:=B2.out.2.2.1 1 _ rfl
  have q2:=B2.out.2.2.1 2 _ rfl
  clear k0 k2 m0 n0
  obtain ⟨va,vc,rfl⟩:=ownE_slice O2.out
  go_wp2_with fail
  go_ret
  refine ⟨_,rfl,?_,B2.out.1⟩
  have h:=O2.out
  simpa [U,Nat.add_comm,Nat.add_left_comm,Nat.add_assoc] using h
theorem s5lim_c (l:Limits) (w:World) (h:limB l=true):Calls Tryz.prog 141 #[.agg #[.int .i64 l.min,.int .i64 l.max,.bool l.has]] w fun e w'=>∃ u,e=.returned u∧Out w w' u (limE l):=by
 obtain ⟨mn,mx,has⟩:=l
 simp only [limB,Bool.and_eq_true,u32B_iff] at h
 obtain ⟨⟨⟨h0,h1⟩,h2,h3⟩,h4⟩:=h
 cases has
 · have:=slim_false mn mx w h0 (by omega) h2 (by omega)
   simpa [limE,flB] using this
 · have:=slim_true mn mx w h0 (by omega) h2 (by omega)
   simpa [limE,flB] using this
open Go.RowKit Go.Sort
theorem s5sec_c (n:Int) (body:List Int) (a:Option Addr) (c:Nat) (w:World) (hsrc:∀ w',Below w.heap.size w w'→SrcC w' a (U body)) (hl:body.length≤400000000000) :
    Calls Tryz.prog 79 #[.int .i64 n,.slice a body.length c] w fun e w'=>∃ u,e=.returned u∧Out w w' u ([n%256]++szE body):=by
 obtain ⟨i0,hi,hz0,hz1,hz2⟩:=info_parts Tryz.info5
 have HS:=Hm hsrc
 have hwb:IntKind.u64.wrap (body.length:Int)=(body.length:Int):=by rw [IntKind.wrap_u64];omega
 have hw8:IntKind.u8.wrap n=n%256:=wu8 n
 have KA:=Hm (fun W=>specPutU_any body.length W (by omega) (by omega))
 have hla:=lebU_len 9 body.length
 have HE:Hid (szE body=lebU 9 body.length++body):=by show _=_;rw [szE]
 generalize lebU 9 (body.length:Int)=LA at *
 clear hsrc
 go_enter Tryz.func79,Tryz.ntmps79
 go_wp2_with fail
 refine (KA.out _).mono ?_
 rintro e w1 ⟨vn,rfl,hon,hbn⟩
 obtain ⟨gA,gcA,rfl,hgA,hgA'⟩:=By.own_split hon hla.1
 have hb1:Below w.heap.size w w1:=((Below.refl w.heap.size w).alloc (Nat.le_refl _) _).trans (hbn.mono (by simp))
 have O1:=Hm (ownE_keep (World.ownsRow_lit (size:=1) (e:=5) w #[.int .u8 (n%256)] 1 (Nat.le_refl _) (by decide) rfl) hbn (Nat.le_refl _))
 have S1:Hid (SrcC w1 (some ⟨gA,0,none⟩) (U LA)):=.inr ⟨_,rfl,own_src hon⟩
 have B1:=Hm hb1
 have hz:=hb1.size
 clear hon hbn hb1 hgA hgA' KA
 go_wp2_with (first
  | (at_builtin;refine wpList_append_any rfl _ _ 50 rfl w.heap.size 5 i0 (.int .u8 0) 1 1 Tryz.underlying50 hi hz0 hz1 hz2 rfl (by decide) _ 1 (U [n%256]) rfl O1.out (some ⟨gA,0,none⟩) LA.length gcA (U LA) rfl (by simp) S1.out (oneU _) (by unfold maxLen;omega) (by omega) (by omega) ?_;intro v2 w2 own2 gr2 hloc;have O2:=Hm own2;have B2:=Hm (below_own B1.out hz O1.out gr2);have S2:=Hm (HS.out _ B2.out);have hz2':=B2.out.size;clear own2 gr2 hloc O1)
  | (at_builtin;refine wpList_append_any rfl _ _ 50 rfl w.heap.size 5 i0 (.int .u8 0) 1 1 Tryz.underlying50 hi hz0 hz1 hz2 rfl (by decide) v2 (1+LA.length) (U [n%256]++U LA) rfl O2.out a body.length c (U body) rfl (by simp) S2.out (oneU _) (by unfold maxLen;omega) (by omega) (by omega) ?_;intro v3 w3 own3 gr3 hloc;have O3:=Hm own3;have B3:=Hm (below_own B2.out hz2' O2.out gr3);clear own3 gr3 hloc))
 go_ret
 refine ⟨_,rfl,?_,B3.out⟩
 rw [HE.out]
 have h:=O3.out
 simpa [U,Nat.add_comm,Nat.add_left_comm,Nat.add_assoc] using h
end Go.Proofs.YtdbmolambolmgaaGreat
