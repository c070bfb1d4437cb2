import Derived.Test.YthicgblefhgbeaaE9
set_option linter.all false
set_option linter.unusedVariables false
namespace Go.Proofs.Ythicgblefhgbeaa
open Go.RowKit Go.Sort
set_option maxRecDepth 100000
set_option maxHeartbeats 4000000 in
theorem s5_0 (op a b v : Int) (l : List Int) (la : Option Addr) (lc : Nat) (w : World) (hf : formR (rowOf op) = 0) :
    Calls Try.prog 33 #[inV ⟨op, a, b, v, l⟩ la lc] w fun e w' => ∃ u, e = .returned u ∧ Out w w' u (op % 256 :: encF (0) ⟨op, a, b, v, l⟩) := by
  obtain ⟨i0, hi, hz0, hz1, hz2⟩ := info_parts Try.info5
  have HF := Hid.mk' (sform_c op)
  rw [hf] at HF
  obtain ⟨W, hW⟩ : ∃ W, W = (w.alloc (.cells #[.int .i64 op, .int .i64 a, .int .i64 b, .int .u64 v, .slice la l.length lc] 36)).alloc (.cells #[.int .u8 (op % 256)] 5) := ⟨_, rfl⟩
  obtain ⟨hC, hO, hB⟩ := two_new w (.int .i64 op) (.int .i64 a) (.int .i64 b) (.int .u64 v) (.slice la l.length lc) (op % 256) 36
  rw [← hW] at hC hO hB
  have hws : w.heap.size + 2 = W.heap.size := by rw [hW]; simp
  have HW := Hid.mk' hW
  obtain ⟨⟨c0, c1, c2, c3, c4⟩, cf⟩ := id hC
  have HC := Hid.mk' hC
  have HO := Hid.mk' hO
  have HB := Hid.mk' hB
  clear hf hC hO hB hW cf
  go_enter Try.func33, Try.ntmps33
  go_wp2_with fail
  rw [show (w.alloc (.cells #[.int .i64 op, .int .i64 a, .int .i64 b, .int .u64 v, .slice la l.length lc] 36)).alloc (.cells #[.int .u8 (op % 256)] 5) = W from HW.out.symm]
  refine (HF.out _).mono ?_
  rintro e w1 ⟨rfl, rfl⟩
  clear HF HW
  go_wp2_with fail
  go_ret
  exact ⟨_, rfl, out_fin (W0 := W) HO.out HB.out (by simp [encF]) (by simp [encF, U])⟩
set_option maxHeartbeats 4000000 in
theorem s5_1 (op a b v : Int) (l : List Int) (la : Option Addr) (lc : Nat) (w : World) (hf : formR (rowOf op) = 1) :
    Calls Try.prog 33 #[inV ⟨op, a, b, v, l⟩ la lc] w fun e w' => ∃ u, e = .returned u ∧ Out w w' u (op % 256 :: encF (1) ⟨op, a, b, v, l⟩) := by
  obtain ⟨i0, hi, hz0, hz1, hz2⟩ := info_parts Try.info5
  have HF := Hid.mk' (sform_c op)
  rw [hf] at HF
  obtain ⟨W, hW⟩ : ∃ W, W = (w.alloc (.cells #[.int .i64 op, .int .i64 a, .int .i64 b, .int .u64 v, .slice la l.length lc] 36)).alloc (.cells #[.int .u8 (op % 256)] 5) := ⟨_, rfl⟩
  obtain ⟨hC, hO, hB⟩ := two_new w (.int .i64 op) (.int .i64 a) (.int .i64 b) (.int .u64 v) (.slice la l.length lc) (op % 256) 36
  rw [← hW] at hC hO hB
  have hws : w.heap.size + 2 = W.heap.size := by rw [hW]; simp
  have HW := Hid.mk' hW
  obtain ⟨⟨c0, c1, c2, c3, c4⟩, cf⟩ := id hC
  have HC := Hid.mk' hC
  have HO := Hid.mk' hO
  have HB := Hid.mk' hB
  clear hf hC hO hB hW cf
  go_enter Try.func33, Try.ntmps33
  go_wp2_with fail
  rw [show (w.alloc (.cells #[.int .i64 op, .int .i64 a, .int .i64 b, .int .u64 v, .slice la l.length lc] 36)).alloc (.cells #[.int .u8 (op % 256)] 5) = W from HW.out.symm]
  refine (HF.out _).mono ?_
  rintro e w1 ⟨rfl, rfl⟩
  clear HF HW
  go_wp2_with (at_builtin; refine wpList_append_own _ rfl _ _ 34 rfl (w.heap.size + 1) 5 i0 (.int .u8 0) 1 1 Try.underlying34 hi hz0 hz1 hz2 rfl (by decide) _ _ _ rfl (HO.out.alloc _) ⟨W.heap.size, 0, none⟩ 1 1 [.int .u8 (a % 256)] rfl rfl (cell_one_new _ _ _) (oneB _) (by unfold maxLen; omega) (by omega) (by simp; omega) ?_; intro x1 wx1 ox1 gx1 nx1; have Ox1 := Hid.mk' ox1; have Bx1 := Hid.mk' (((Below.refl w.heap.size W).alloc (by omega) _).grown gx1 (by first | omega | (simp; omega)) (fun j hj => by have := ((HO.out).lt j hj).1; omega)); have zx1 := Bx1.out.size; clear ox1 gx1 nx1)
  go_ret
  exact ⟨_, rfl, out_fin (W0 := W) Ox1.out (HB.out.trans Bx1.out) (by simp [encF]; try omega) (by simp [encF, U])⟩
set_option maxHeartbeats 4000000 in
theorem s5_6 (op a b v : Int) (l : List Int) (la : Option Addr) (lc : Nat) (w : World) (hf : formR (rowOf op) = 6) :
    Calls Try.prog 33 #[inV ⟨op, a, b, v, l⟩ la lc] w fun e w' => ∃ u, e = .returned u ∧ Out w w' u (op % 256 :: encF (6) ⟨op, a, b, v, l⟩) := by
  obtain ⟨i0, hi, hz0, hz1, hz2⟩ := info_parts Try.info5
  have HF := Hid.mk' (sform_c op)
  rw [hf] at HF
  obtain ⟨W, hW⟩ : ∃ W, W = (w.alloc (.cells #[.int .i64 op, .int .i64 a, .int .i64 b, .int .u64 v, .slice la l.length lc] 36)).alloc (.cells #[.int .u8 (op % 256)] 5) := ⟨_, rfl⟩
  obtain ⟨hC, hO, hB⟩ := two_new w (.int .i64 op) (.int .i64 a) (.int .i64 b) (.int .u64 v) (.slice la l.length lc) (op % 256) 36
  rw [← hW] at hC hO hB
  have hws : w.heap.size + 2 = W.heap.size := by rw [hW]; simp
  have HW := Hid.mk' hW
  obtain ⟨⟨c0, c1, c2, c3, c4⟩, cf⟩ := id hC
  have HC := Hid.mk' hC
  have HO := Hid.mk' hO
  have HB := Hid.mk' hB
  clear hf hC hO hB hW cf
  go_enter Try.func33, Try.ntmps33
  go_wp2_with fail
  rw [show (w.alloc (.cells #[.int .i64 op, .int .i64 a, .int .i64 b, .int .u64 v, .slice la l.length lc] 36)).alloc (.cells #[.int .u8 (op % 256)] 5) = W from HW.out.symm]
  refine (HF.out _).mono ?_
  rintro e w1 ⟨rfl, rfl⟩
  clear HF HW
  go_wp2_with (at_builtin; refine wpList_append_own _ rfl _ _ 34 rfl (w.heap.size + 1) 5 i0 (.int .u8 0) 1 1 Try.underlying34 hi hz0 hz1 hz2 rfl (by decide) _ _ _ rfl (HO.out.alloc _) ⟨W.heap.size, 0, none⟩ 1 1 [.int .u8 (0)] rfl rfl (cell_one_new _ _ _) (oneB _) (by unfold maxLen; omega) (by omega) (by simp; omega) ?_; intro x1 wx1 ox1 gx1 nx1; have Ox1 := Hid.mk' ox1; have Bx1 := Hid.mk' (((Below.refl w.heap.size W).alloc (by omega) _).grown gx1 (by first | omega | (simp; omega)) (fun j hj => by have := ((HO.out).lt j hj).1; omega)); have zx1 := Bx1.out.size; clear ox1 gx1 nx1)
  go_ret
  exact ⟨_, rfl, out_fin (W0 := W) Ox1.out (HB.out.trans Bx1.out) (by simp [encF]; try omega) (by simp [encF, U])⟩
set_option maxHeartbeats 4000000 in
theorem s5_2 (op a b v : Int) (l : List Int) (la : Option Addr) (lc : Nat) (w : World) (hf : formR (rowOf op) = 2) (ha : 0 ≤ a) (ha1 : a ≤ 4294967295) :
    Calls Try.prog 33 #[inV ⟨op, a, b, v, l⟩ la lc] w fun e w' => ∃ u, e = .returned u ∧ Out w w' u (op % 256 :: encF (2) ⟨op, a, b, v, l⟩) := by
  obtain ⟨i0, hi, hz0, hz1, hz2⟩ := info_parts Try.info5
  have HF := Hid.mk' (sform_c op)
  rw [hf] at HF
  obtain ⟨W, hW⟩ : ∃ W, W = (w.alloc (.cells #[.int .i64 op, .int .i64 a, .int .i64 b, .int .u64 v, .slice la l.length lc] 36)).alloc (.cells #[.int .u8 (op % 256)] 5) := ⟨_, rfl⟩
  obtain ⟨hC, hO, hB⟩ := two_new w (.int .i64 op) (.int .i64 a) (.int .i64 b) (.int .u64 v) (.slice la l.length lc) (op % 256) 36
  rw [← hW] at hC hO hB
  have hws : w.heap.size + 2 = W.heap.size := by rw [hW]; simp
  have hwa : IntKind.u64.wrap a = a := by rw [IntKind.wrap_u64]; omega
  have KP := Hid.mk' (specPutU_any a W ha (by omega))
  have hyl := lebU_len 9 a
  obtain ⟨hl0, hl1⟩ := hyl
  have hlU : (U (lebU 9 a)).length = (lebU 9 a).length * 1 := by simp
  have HW := Hid.mk' hW
  obtain ⟨⟨c0, c1, c2, c3, c4⟩, cf⟩ := id hC
  have HC := Hid.mk' hC
  have HO := Hid.mk' hO
  have HB := Hid.mk' hB
  clear hf hC hO hB hW cf
  go_enter Try.func33, Try.ntmps33
  go_wp2_with fail
  rw [show (w.alloc (.cells #[.int .i64 op, .int .i64 a, .int .i64 b, .int .u64 v, .slice la l.length lc] 36)).alloc (.cells #[.int .u8 (op % 256)] 5) = W from HW.out.symm]
  refine (HF.out _).mono ?_
  rintro e w1 ⟨rfl, rfl⟩
  clear HF HW
  go_wp2_with (first
    | (go_at_call 54; refine (KP.out).mono ?_; rintro e w2 ⟨v2, rfl, ho2, hb2⟩; obtain ⟨g, gc, rfl, hg, hg'⟩ := By.own_split ho2 hl0; have O2 := Hid.mk' (ownE_keep HO.out hb2 (Nat.le_refl _)); have S2 := Hid.mk' (own_src ho2); have B2 := Hid.mk' hb2; have z2 := hb2.size; clear ho2 hb2 hg hg')
    | (at_builtin; refine wpList_append_own _ rfl _ _ 34 rfl (w.heap.size + 1) 5 i0 (.int .u8 0) 1 1 Try.underlying34 hi hz0 hz1 hz2 rfl (by decide) _ _ _ rfl O2.out ⟨g, 0, none⟩ (lebU 9 a).length gc (U (lebU 9 a)) rfl hlU S2.out (oneU _) (by unfold maxLen; omega) (by omega) (by omega) ?_; intro x1 wx1 ox1 gx1 nx1; have Ox1 := Hid.mk' ox1; have Bx1 := Hid.mk' ((B2.out.mono (show w.heap.size ≤ W.heap.size by omega)).grown gx1 (by first | omega | (simp; omega)) (fun j hj => by have := ((O2.out).lt j hj).1; omega)); have zx1 := Bx1.out.size; clear ox1 gx1 nx1))
  go_ret
  exact ⟨_, rfl, out_fin (W0 := W) Ox1.out (HB.out.trans Bx1.out) (by simp [encF]; try omega) (by simp [encF, U])⟩
end Go.Proofs.Ythicgblefhgbeaa

set_option linter.unusedVariables false
namespace Go.Proofs.Ythicgblefhgbeaa
open Go.RowKit Go.Sort
set_option maxRecDepth 100000
set_option maxHeartbeats 4000000 in
theorem s5_4 (op a b v : Int) (l : List Int) (la : Option Addr) (lc : Nat) (w : World) (hf : formR (rowOf op) = 4) (ha : 0 ≤ a) (ha1 : a ≤ 4294967295) :
    Calls Try.prog 33 #[inV ⟨op, a, b, v, l⟩ la lc] w fun e w' => ∃ u, e = .returned u ∧ Out w w' u (op % 256 :: encF (4) ⟨op, a, b, v, l⟩) := by
  obtain ⟨i0, hi, hz0, hz1, hz2⟩ := info_parts Try.info5
  have HF := Hid.mk' (sform_c op)
  rw [hf] at HF
  obtain ⟨W, hW⟩ : ∃ W, W = (w.alloc (.cells #[.int .i64 op, .int .i64 a, .int .i64 b, .int .u64 v, .slice la l.length lc] 36)).alloc (.cells #[.int .u8 (op % 256)] 5) := ⟨_, rfl⟩
  obtain ⟨hC, hO, hB⟩ := two_new w (.int .i64 op) (.int .i64 a) (.int .i64 b) (.int .u64 v) (.slice la l.length lc) (op % 256) 36
  rw [← hW] at hC hO hB
  have hws : w.heap.size + 2 = W.heap.size := by rw [hW]; simp
  have hwa : IntKind.u64.wrap a = a := by rw [IntKind.wrap_u64]; omega
  have KP := Hid.mk' (specPutU_any a W ha (by omega))
  have hyl := lebU_len 9 a
  obtain ⟨hl0, hl1⟩ := hyl
  have hlU : (U (lebU 9 a)).length = (lebU 9 a).length * 1 := by simp
  have HW := Hid.mk' hW
  obtain ⟨⟨c0, c1, c2, c3, c4⟩, cf⟩ := id hC
  have HC := Hid.mk' hC
  have HO := Hid.mk' hO
  have HB := Hid.mk' hB
  clear hf hC hO hB hW cf
  go_enter Try.func33, Try.ntmps33
  go_wp2_with fail
  rw [show (w.alloc (.cells #[.int .i64 op, .int .i64 a, .int .i64 b, .int .u64 v, .slice la l.length lc] 36)).alloc (.cells #[.int .u8 (op % 256)] 5) = W from HW.out.symm]
  refine (HF.out _).mono ?_
  rintro e w1 ⟨rfl, rfl⟩
  clear HF HW
  go_wp2_with (first
    | (go_at_call 54; refine (KP.out).mono ?_; rintro e w2 ⟨v2, rfl, ho2, hb2⟩; obtain ⟨g, gc, rfl, hg, hg'⟩ := By.own_split ho2 hl0; have O2 := Hid.mk' (ownE_keep HO.out hb2 (Nat.le_refl _)); have S2 := Hid.mk' (own_src ho2); have B2 := Hid.mk' hb2; have z2 := hb2.size; clear ho2 hb2 hg hg')
    | (at_builtin; refine wpList_append_own _ rfl _ _ 34 rfl (w.heap.size + 1) 5 i0 (.int .u8 0) 1 1 Try.underlying34 hi hz0 hz1 hz2 rfl (by decide) _ _ _ rfl O2.out ⟨g, 0, none⟩ (lebU 9 a).length gc (U (lebU 9 a)) rfl hlU S2.out (oneU _) (by unfold maxLen; omega) (by omega) (by omega) ?_; intro x1 wx1 ox1 gx1 nx1; have Ox1 := Hid.mk' ox1; have Bx1 := Hid.mk' ((B2.out.mono (show w.heap.size ≤ W.heap.size by omega)).grown gx1 (by first | omega | (simp; omega)) (fun j hj => by have := ((O2.out).lt j hj).1; omega)); have zx1 := Bx1.out.size; clear ox1 gx1 nx1)
    | (at_builtin; refine wpList_append_own _ rfl _ _ 34 rfl (w.heap.size + 1) 5 i0 (.int .u8 0) 1 1 Try.underlying34 hi hz0 hz1 hz2 rfl (by decide) _ _ _ rfl (Ox1.out.alloc _) ⟨wx1.heap.size, 0, none⟩ 1 1 [.int .u8 0] rfl rfl (cell_one_new _ _ _) (oneB _) (by unfold maxLen; omega) (by omega) (by have := Bx1.out.size; simp; omega) ?_; intro x2 wx2 ox2 gx2 nx2; have Ox2 := Hid.mk' ox2; have Bx2 := Hid.mk' ((Bx1.out.alloc (by have := Bx1.out.size; omega) _).grown gx2 (by first | omega | (simp; omega)) (fun j hj => by have := ((Ox1.out).lt j hj).1; omega)); have zx2 := Bx2.out.size; clear ox2 gx2 nx2))
  go_ret
  exact ⟨_, rfl, out_fin (W0 := W) Ox2.out (HB.out.trans Bx2.out) (by simp [encF]; try omega) (by simp [encF, U])⟩
set_option maxHeartbeats 4000000 in
theorem s5_8 (op a b v : Int) (l : List Int) (la : Option Addr) (lc : Nat) (w : World) (hf : formR (rowOf op) = 8) (hv : 0 ≤ v) (hv1 : v ≤ 18446744073709551615) :
    Calls Try.prog 33 #[inV ⟨op, a, b, v, l⟩ la lc] w fun e w' => ∃ u, e = .returned u ∧ Out w w' u (op % 256 :: encF (8) ⟨op, a, b, v, l⟩) := by
  obtain ⟨i0, hi, hz0, hz1, hz2⟩ := info_parts Try.info5
  have HF := Hid.mk' (sform_c op)
  rw [hf] at HF
  obtain ⟨W, hW⟩ : ∃ W, W = (w.alloc (.cells #[.int .i64 op, .int .i64 a, .int .i64 b, .int .u64 v, .slice la l.length lc] 36)).alloc (.cells #[.int .u8 (op % 256)] 5) := ⟨_, rfl⟩
  obtain ⟨hC, hO, hB⟩ := two_new w (.int .i64 op) (.int .i64 a) (.int .i64 b) (.int .u64 v) (.slice la l.length lc) (op % 256) 36
  rw [← hW] at hC hO hB
  have hws : w.heap.size + 2 = W.heap.size := by rw [hW]; simp
  have KP := Hid.mk' (specPutS_any (wrap64 v) W (by unfold wrap64; omega) (by unfold wrap64; omega))
  have hyl := lebS_len 9 (wrap64 v)
  obtain ⟨hl0, hl1⟩ := hyl
  have hlU : (U (lebS 9 (wrap64 v))).length = (lebS 9 (wrap64 v)).length * 1 := by simp
  have HW := Hid.mk' hW
  obtain ⟨⟨c0, c1, c2, c3, c4⟩, cf⟩ := id hC
  have HC := Hid.mk' hC
  have HO := Hid.mk' hO
  have HB := Hid.mk' hB
  clear hf hC hO hB hW cf
  go_enter Try.func33, Try.ntmps33
  go_wp2_with fail
  rw [show (w.alloc (.cells #[.int .i64 op, .int .i64 a, .int .i64 b, .int .u64 v, .slice la l.length lc] 36)).alloc (.cells #[.int .u8 (op % 256)] 5) = W from HW.out.symm]
  refine (HF.out _).mono ?_
  rintro e w1 ⟨rfl, rfl⟩
  clear HF HW
  go_wp2_with (first
    | (go_at_call 56; refine (KP.out).mono ?_; rintro e w2 ⟨v2, rfl, ho2, hb2⟩; obtain ⟨g, gc, rfl, hg, hg'⟩ := By.own_split ho2 hl0; have O2 := Hid.mk' (ownE_keep HO.out hb2 (Nat.le_refl _)); have S2 := Hid.mk' (own_src ho2); have B2 := Hid.mk' hb2; have z2 := hb2.size; clear ho2 hb2 hg hg')
    | (at_builtin; refine wpList_append_own _ rfl _ _ 34 rfl (w.heap.size + 1) 5 i0 (.int .u8 0) 1 1 Try.underlying34 hi hz0 hz1 hz2 rfl (by decide) _ _ _ rfl O2.out ⟨g, 0, none⟩ (lebS 9 (wrap64 v)).length gc (U (lebS 9 (wrap64 v))) rfl hlU S2.out (oneU _) (by unfold maxLen; omega) (by omega) (by omega) ?_; intro x1 wx1 ox1 gx1 nx1; have Ox1 := Hid.mk' ox1; have Bx1 := Hid.mk' ((B2.out.mono (show w.heap.size ≤ W.heap.size by omega)).grown gx1 (by first | omega | (simp; omega)) (fun j hj => by have := ((O2.out).lt j hj).1; omega)); have zx1 := Bx1.out.size; clear ox1 gx1 nx1))
  go_ret
  exact ⟨_, rfl, out_fin (W0 := W) Ox1.out (HB.out.trans Bx1.out) (by simp [encF]; try omega) (by simp [encF, U])⟩
set_option maxHeartbeats 4000000 in
theorem s5_7 (op a b v : Int) (l : List Int) (la : Option Addr) (lc : Nat) (w : World) (hf : formR (rowOf op) = 7) (hv : 0 ≤ v) (hv1 : v ≤ 4294967295) :
    Calls Try.prog 33 #[inV ⟨op, a, b, v, l⟩ la lc] w fun e w' => ∃ u, e = .returned u ∧ Out w w' u (op % 256 :: encF (7) ⟨op, a, b, v, l⟩) := by
  obtain ⟨i0, hi, hz0, hz1, hz2⟩ := info_parts Try.info5
  have HF := Hid.mk' (sform_c op)
  rw [hf] at HF
  obtain ⟨W, hW⟩ : ∃ W, W = (w.alloc (.cells #[.int .i64 op, .int .i64 a, .int .i64 b, .int .u64 v, .slice la l.length lc] 36)).alloc (.cells #[.int .u8 (op % 256)] 5) := ⟨_, rfl⟩
  obtain ⟨hC, hO, hB⟩ := two_new w (.int .i64 op) (.int .i64 a) (.int .i64 b) (.int .u64 v) (.slice la l.length lc) (op % 256) 36
  rw [← hW] at hC hO hB
  have hws : w.heap.size + 2 = W.heap.size := by rw [hW]; simp
  have hs32 : wrap32 v = s32 v := by unfold wrap32 s32; split <;> omega
  have KS := Hid.mk' (signed32 v W hv hv1)
  rw [hs32] at KS
  clear hs32
  have KP := Hid.mk' (specPutS_any (s32 v) W (by unfold s32; split <;> omega) (by unfold s32; split <;> omega))
  have hyl := lebS_len 9 (s32 v)
  obtain ⟨hl0, hl1⟩ := hyl
  have hlU : (U (lebS 9 (s32 v))).length = (lebS 9 (s32 v)).length * 1 := by simp
  have HW := Hid.mk' hW
  obtain ⟨⟨c0, c1, c2, c3, c4⟩, cf⟩ := id hC
  have HC := Hid.mk' hC
  have HO := Hid.mk' hO
  have HB := Hid.mk' hB
  clear hf hC hO hB hW cf
  go_enter Try.func33, Try.ntmps33
  go_wp2_with fail
  rw [show (w.alloc (.cells #[.int .i64 op, .int .i64 a, .int .i64 b, .int .u64 v, .slice la l.length lc] 36)).alloc (.cells #[.int .u8 (op % 256)] 5) = W from HW.out.symm]
  refine (HF.out _).mono ?_
  rintro e w1 ⟨rfl, rfl⟩
  clear HF HW
  go_wp2_with (first
    | (go_at_call 57; refine (KS.out).mono ?_; rintro e w2 ⟨rfl, rfl⟩)
    | (go_at_call 56; refine (KP.out).mono ?_; rintro e w2 ⟨v2, rfl, ho2, hb2⟩; obtain ⟨g, gc, rfl, hg, hg'⟩ := By.own_split ho2 hl0; have O2 := Hid.mk' (ownE_keep HO.out hb2 (Nat.le_refl _)); have S2 := Hid.mk' (own_src ho2); have B2 := Hid.mk' hb2; have z2 := hb2.size; clear ho2 hb2 hg hg')
    | (at_builtin; refine wpList_append_own _ rfl _ _ 34 rfl (w.heap.size + 1) 5 i0 (.int .u8 0) 1 1 Try.underlying34 hi hz0 hz1 hz2 rfl (by decide) _ _ _ rfl O2.out ⟨g, 0, none⟩ (lebS 9 (s32 v)).length gc (U (lebS 9 (s32 v))) rfl hlU S2.out (oneU _) (by unfold maxLen; omega) (by omega) (by omega) ?_; intro x1 wx1 ox1 gx1 nx1; have Ox1 := Hid.mk' ox1; have Bx1 := Hid.mk' ((B2.out.mono (show w.heap.size ≤ W.heap.size by omega)).grown gx1 (by first | omega | (simp; omega)) (fun j hj => by have := ((O2.out).lt j hj).1; omega)); have zx1 := Bx1.out.size; clear ox1 gx1 nx1))
  go_ret
  exact ⟨_, rfl, out_fin (W0 := W) Ox1.out (HB.out.trans Bx1.out) (by simp [encF]; try omega) (by simp [encF, U])⟩
end Go.Proofs.Ythicgblefhgbeaa

set_option linter.unusedVariables false
namespace Go.Proofs.Ythicgblefhgbeaa
open Go.RowKit Go.Sort
set_option maxRecDepth 100000
set_option maxHeartbeats 4000000 in
theorem s5_9 (op a b v : Int) (l : List Int) (la : Option Addr) (lc : Nat) (w : World) (hf : formR (rowOf op) = 9) (hv : 0 ≤ v) (hv1 : v ≤ 18446744073709551615) :
    Calls Try.prog 33 #[inV ⟨op, a, b, v, l⟩ la lc] w fun e w' => ∃ u, e = .returned u ∧ Out w w' u (op % 256 :: encF (9) ⟨op, a, b, v, l⟩) := by
  obtain ⟨i0, hi, hz0, hz1, hz2⟩ := info_parts Try.info5
  have HF := Hid.mk' (sform_c op)
  rw [hf] at HF
  obtain ⟨W, hW⟩ : ∃ W, W = (w.alloc (.cells #[.int .i64 op, .int .i64 a, .int .i64 b, .int .u64 v, .slice la l.length lc] 36)).alloc (.cells #[.int .u8 (op % 256)] 5) := ⟨_, rfl⟩
  obtain ⟨hC, hO, hB⟩ := two_new w (.int .i64 op) (.int .i64 a) (.int .i64 b) (.int .u64 v) (.slice la l.length lc) (op % 256) 36
  rw [← hW] at hC hO hB
  have hws : w.heap.size + 2 = W.heap.size := by rw [hW]; simp
  have KP := Hid.mk' (sfix_c v 4 W (by omega) hv hv1)
  have hyl := (show 1 ≤ (fx 4 v).length ∧ (fx 4 v).length ≤ 10 by rw [fx_len]; omega)
  obtain ⟨hl0, hl1⟩ := hyl
  have hlU : (U (fx 4 v)).length = (fx 4 v).length * 1 := by simp
  have HW := Hid.mk' hW
  obtain ⟨⟨c0, c1, c2, c3, c4⟩, cf⟩ := id hC
  have HC := Hid.mk' hC
  have HO := Hid.mk' hO
  have HB := Hid.mk' hB
  clear hf hC hO hB hW cf
  go_enter Try.func33, Try.ntmps33
  go_wp2_with fail
  rw [show (w.alloc (.cells #[.int .i64 op, .int .i64 a, .int .i64 b, .int .u64 v, .slice la l.length lc] 36)).alloc (.cells #[.int .u8 (op % 256)] 5) = W from HW.out.symm]
  refine (HF.out _).mono ?_
  rintro e w1 ⟨rfl, rfl⟩
  clear HF HW
  go_wp2_with (first
    | (go_at_call 58; refine (KP.out).mono ?_; rintro e w2 ⟨v2, rfl, ho2, hb2⟩; obtain ⟨g, gc, rfl, hg, hg'⟩ := By.own_split ho2 hl0; have O2 := Hid.mk' (ownE_keep HO.out hb2 (Nat.le_refl _)); have S2 := Hid.mk' (own_src ho2); have B2 := Hid.mk' hb2; have z2 := hb2.size; clear ho2 hb2 hg hg')
    | (at_builtin; refine wpList_append_own _ rfl _ _ 34 rfl (w.heap.size + 1) 5 i0 (.int .u8 0) 1 1 Try.underlying34 hi hz0 hz1 hz2 rfl (by decide) _ _ _ rfl O2.out ⟨g, 0, none⟩ (fx 4 v).length gc (U (fx 4 v)) rfl hlU S2.out (oneU _) (by unfold maxLen; omega) (by omega) (by omega) ?_; intro x1 wx1 ox1 gx1 nx1; have Ox1 := Hid.mk' ox1; have Bx1 := Hid.mk' ((B2.out.mono (show w.heap.size ≤ W.heap.size by omega)).grown gx1 (by first | omega | (simp; omega)) (fun j hj => by have := ((O2.out).lt j hj).1; omega)); have zx1 := Bx1.out.size; clear ox1 gx1 nx1))
  go_ret
  exact ⟨_, rfl, out_fin (W0 := W) Ox1.out (HB.out.trans Bx1.out) (by simp [encF]; try omega) (by simp [encF, U])⟩
set_option maxHeartbeats 4000000 in
theorem s5_10 (op a b v : Int) (l : List Int) (la : Option Addr) (lc : Nat) (w : World) (hf : formR (rowOf op) = 10) (hv : 0 ≤ v) (hv1 : v ≤ 18446744073709551615) :
    Calls Try.prog 33 #[inV ⟨op, a, b, v, l⟩ la lc] w fun e w' => ∃ u, e = .returned u ∧ Out w w' u (op % 256 :: encF (10) ⟨op, a, b, v, l⟩) := by
  obtain ⟨i0, hi, hz0, hz1, hz2⟩ := info_parts Try.info5
  have HF := Hid.mk' (sform_c op)
  rw [hf] at HF
  obtain ⟨W, hW⟩ : ∃ W, W = (w.alloc (.cells #[.int .i64 op, .int .i64 a, .int .i64 b, .int .u64 v, .slice la l.length lc] 36)).alloc (.cells #[.int .u8 (op % 256)] 5) := ⟨_, rfl⟩
  obtain ⟨hC, hO, hB⟩ := two_new w (.int .i64 op) (.int .i64 a) (.int .i64 b) (.int .u64 v) (.slice la l.length lc) (op % 256) 36
  rw [← hW] at hC hO hB
  have hws : w.heap.size + 2 = W.heap.size := by rw [hW]; simp
  have KP := Hid.mk' (sfix_c v 8 W (by omega) hv hv1)
  have hyl := (show 1 ≤ (fx 8 v).length ∧ (fx 8 v).length ≤ 10 by rw [fx_len]; omega)
  obtain ⟨hl0, hl1⟩ := hyl
  have hlU : (U (fx 8 v)).length = (fx 8 v).length * 1 := by simp
  have HW := Hid.mk' hW
  obtain ⟨⟨c0, c1, c2, c3, c4⟩, cf⟩ := id hC
  have HC := Hid.mk' hC
  have HO := Hid.mk' hO
  have HB := Hid.mk' hB
  clear hf hC hO hB hW cf
  go_enter Try.func33, Try.ntmps33
  go_wp2_with fail
  rw [show (w.alloc (.cells #[.int .i64 op, .int .i64 a, .int .i64 b, .int .u64 v, .slice la l.length lc] 36)).alloc (.cells #[.int .u8 (op % 256)] 5) = W from HW.out.symm]
  refine (HF.out _).mono ?_
  rintro e w1 ⟨rfl, rfl⟩
  clear HF HW
  go_wp2_with (first
    | (go_at_call 58; refine (KP.out).mono ?_; rintro e w2 ⟨v2, rfl, ho2, hb2⟩; obtain ⟨g, gc, rfl, hg, hg'⟩ := By.own_split ho2 hl0; have O2 := Hid.mk' (ownE_keep HO.out hb2 (Nat.le_refl _)); have S2 := Hid.mk' (own_src ho2); have B2 := Hid.mk' hb2; have z2 := hb2.size; clear ho2 hb2 hg hg')
    | (at_builtin; refine wpList_append_own _ rfl _ _ 34 rfl (w.heap.size + 1) 5 i0 (.int .u8 0) 1 1 Try.underlying34 hi hz0 hz1 hz2 rfl (by decide) _ _ _ rfl O2.out ⟨g, 0, none⟩ (fx 8 v).length gc (U (fx 8 v)) rfl hlU S2.out (oneU _) (by unfold maxLen; omega) (by omega) (by omega) ?_; intro x1 wx1 ox1 gx1 nx1; have Ox1 := Hid.mk' ox1; have Bx1 := Hid.mk' ((B2.out.mono (show w.heap.size ≤ W.heap.size by omega)).grown gx1 (by first | omega | (simp; omega)) (fun j hj => by have := ((O2.out).lt j hj).1; omega)); have zx1 := Bx1.out.size; clear ox1 gx1 nx1))
  go_ret
  exact ⟨_, rfl, out_fin (W0 := W) Ox1.out (HB.out.trans Bx1.out) (by simp [encF]; try omega) (by simp [encF, U])⟩
end Go.Proofs.Ythicgblefhgbeaa

set_option linter.unusedVariables false
namespace Go.Proofs.Ythicgblefhgbeaa
open Go.RowKit Go.Sort
set_option maxRecDepth 100000
set_option maxHeartbeats 4000000 in
theorem s5_5 (op a b v : Int) (l : List Int) (la : Option Addr) (lc : Nat) (w : World) (hf : formR (rowOf op) = 5) (ha : 0 ≤ a) (ha1 : a ≤ 4294967295) (hb : 0 ≤ b) (hb1 : b ≤ 4294967295) :
    Calls Try.prog 33 #[inV ⟨op, a, b, v, l⟩ la lc] w fun e w' => ∃ u, e = .returned u ∧ Out w w' u (op % 256 :: encF (5) ⟨op, a, b, v, l⟩) := by
  obtain ⟨i0, hi, hz0, hz1, hz2⟩ := info_parts Try.info5
  have HF := Hid.mk' (sform_c op)
  rw [hf] at HF
  obtain ⟨W, hW⟩ : ∃ W, W = (w.alloc (.cells #[.int .i64 op, .int .i64 a, .int .i64 b, .int .u64 v, .slice la l.length lc] 36)).alloc (.cells #[.int .u8 (op % 256)] 5) := ⟨_, rfl⟩
  obtain ⟨hC, hO, hB⟩ := two_new w (.int .i64 op) (.int .i64 a) (.int .i64 b) (.int .u64 v) (.slice la l.length lc) (op % 256) 36
  rw [← hW] at hC hO hB
  have hws : w.heap.size + 2 = W.heap.size := by rw [hW]; simp
  have hwa : IntKind.u64.wrap a = a := by rw [IntKind.wrap_u64]; omega
  have hwb : IntKind.u64.wrap b = b := by rw [IntKind.wrap_u64]; omega
  have KA := Hid.mk' (fun W => specPutU_any a W ha (by omega))
  have KB := Hid.mk' (fun W => specPutU_any b W hb (by omega))
  have hla := lebU_len 9 a
  have hlb := lebU_len 9 b
  have HW := Hid.mk' hW
  obtain ⟨⟨c0, c1, c2, c3, c4⟩, cf⟩ := id hC
  have HC := Hid.mk' hC
  have HO := Hid.mk' hO
  have HB := Hid.mk' hB
  clear hf hC hO hB hW cf
  go_enter Try.func33, Try.ntmps33
  go_wp2_with fail
  rw [show (w.alloc (.cells #[.int .i64 op, .int .i64 a, .int .i64 b, .int .u64 v, .slice la l.length lc] 36)).alloc (.cells #[.int .u8 (op % 256)] 5) = W from HW.out.symm]
  refine (HF.out _).mono ?_
  rintro e w1 ⟨rfl, rfl⟩
  clear HF HW
  have R := Hid.mk' (show W.grownBy W.drew (some (w.heap.size + 1)) from ⟨rfl, rfl, rfl, Nat.le_refl _, fun _ _ _ => rfl⟩)
  have OC := Hid.mk' (show W.drew.ownsRow (w.heap.size + 1) 5 1 (.slice (some ⟨w.heap.size + 1, 0, none⟩) 1 1) 1 (U [op % 256]) from HO.out)
  have k1 : W.drew.cell? ⟨w.heap.size, 1, none⟩ = some (.int .i64 a) := c1
  have k2 : W.drew.cell? ⟨w.heap.size, 2, none⟩ = some (.int .i64 b) := c2
  have k4 : W.drew.cell? ⟨w.heap.size, 4, none⟩ = some (.slice la l.length lc) := c4
  go_wp2_with fail
  go_region_held3 (fun w' => w'.cell? ⟨w.heap.size, 1, none⟩ = some (.int .i64 a) ∧ w'.cell? ⟨w.heap.size, 2, none⟩ = some (.int .i64 b) ∧ w'.cell? ⟨w.heap.size, 4, none⟩ = some (.slice la l.length lc)) (exact ⟨k1, k2, k4⟩)
    (first
      | (refine step_append_src rfl (.tmp 51) (.tmp 55) 34 rfl (w.heap.size + 1) 5 i0 (.int .u8 0) 1 1 Try.underlying34 hi hz0 hz1 hz2 rfl (by decide) (.slice (some ⟨w.heap.size + 1, 0, none⟩) 1 1) 1 (U [op % 256]) (by simp [Act.eval, Act.put]) OC.out ⟨gA, 0, none⟩ (lebU 9 a).length gcA (U (lebU 9 a)) (by simp [Act.eval, Act.put]) (by simp) (own_src (own_grownE WA.out RA.out hqA.out)) (oneU _) (by simp only [maxLen]; omega) (by omega) (by have := R.out.size; omega) ?_
         intro vx wx ox gx lx
         have st := Hid.mk' (show World.grownBy _ wx (some (w.heap.size + 1)) from gx)
         replace R := Hid.mk' (grown_trans R.out st.out)
         (try replace RB := Hid.mk' (grown_trans RB.out st.out))
         have OX := Hid.mk' ox
         clear OC
         have bx := Hid.mk' (grown_c5 HC.out R.out (by omega))
         have k1 : wx.cell? ⟨w.heap.size, 1, none⟩ = some (.int .i64 a) := bx.out.1.2.1
         have k2 : wx.cell? ⟨w.heap.size, 2, none⟩ = some (.int .i64 b) := bx.out.1.2.2.1
         have k4 : wx.cell? ⟨w.heap.size, 4, none⟩ = some (.slice la l.length lc) := bx.out.1.2.2.2.2
         clear ox gx lx st bx)
      | (refine step_append_src rfl (.tmp 56) (.tmp 60) 34 rfl (w.heap.size + 1) 5 i0 (.int .u8 0) 1 1 Try.underlying34 hi hz0 hz1 hz2 rfl (by decide) vx (1 + (lebU 9 a).length) (U [op % 256] ++ U (lebU 9 a)) (by simp [Act.eval, Act.put]) OX.out ⟨gB, 0, none⟩ (lebU 9 b).length gcB (U (lebU 9 b)) (by simp [Act.eval, Act.put]) (by simp) (own_src (own_grownE WB.out RB.out hqB.out)) (oneU _) (by simp only [maxLen]; omega) (by omega) (by have := R.out.size; omega) ?_
         intro vy wy oy gy ly
         have OY := Hid.mk' oy
         have bx := Hid.mk' (grown_c5 HC.out R.out (by omega))
         have hgy := Hid.mk' (fun o : Nat => World.cell?_of_block (a := ⟨w.heap.size, o, none⟩) (gy.block w.heap.size (World.block_lt_of_cell? _ _ bx.out.1.1) (fun e => by have := (OX.out.lt _ e.symm).1; omega)))
         have k1 : wy.cell? ⟨w.heap.size, 1, none⟩ = some (.int .i64 a) := (hgy.out 1).trans bx.out.1.2.1
         have k2 : wy.cell? ⟨w.heap.size, 2, none⟩ = some (.int .i64 b) := (hgy.out 2).trans bx.out.1.2.2.1
         have k4 : wy.cell? ⟨w.heap.size, 4, none⟩ = some (.slice la l.length lc) := (hgy.out 4).trans bx.out.1.2.2.2.2
         have BY := Hid.mk' ((HB.out.trans (grown_below R.out (show w.heap.size ≤ w.heap.size + 1 by omega) (by show w.heap.size ≤ W.heap.size; omega))).grown gy (by have := R.out.size; omega) (fun j hj => by have := (OX.out.lt j hj).1; omega))
         clear oy gy ly hgy bx)
      | (go_at_call_of 54 (Value.int IntKind.u64 a)
         refine (KA.out _).mono ?_
         rintro e wn ⟨vn, rfl, hon, hbn⟩
         obtain ⟨gA, gcA, rfl, hgA, hgA'⟩ := By.own_split hon hla.1
         have st := Hid.mk' (below_grown hbn (some (w.heap.size + 1)))
         have hz := R.out.size
         replace R := Hid.mk' (grown_trans R.out st.out)
         (try replace RA := Hid.mk' (grown_trans RA.out st.out))
         (try replace RB := Hid.mk' (grown_trans RB.out st.out))
         (try replace OX := Hid.mk' (ownE_keep OX.out hbn (Nat.le_refl _)))
         (try replace OC := Hid.mk' (ownE_keep OC.out hbn (Nat.le_refl _)))
         have WA := Hid.mk' hon
         have RA := Hid.mk' (World.grownBy.refl wn (some (w.heap.size + 1)))
         have hqA : Hid (gA ≠ w.heap.size + 1) := by show _ ≠ _; omega
         have bx := Hid.mk' (grown_c5 HC.out R.out (by omega))
         have k1 : wn.cell? ⟨w.heap.size, 1, none⟩ = some (.int .i64 a) := bx.out.1.2.1
         have k2 : wn.cell? ⟨w.heap.size, 2, none⟩ = some (.int .i64 b) := bx.out.1.2.2.1
         have k4 : wn.cell? ⟨w.heap.size, 4, none⟩ = some (.slice la l.length lc) := bx.out.1.2.2.2.2
         clear hon hbn st bx hz hgA hgA')
      | (go_at_call_of 54 (Value.int IntKind.u64 b)
         refine (KB.out _).mono ?_
         rintro e wn ⟨vn, rfl, hon, hbn⟩
         obtain ⟨gB, gcB, rfl, hgB, hgB'⟩ := By.own_split hon hlb.1
         have st := Hid.mk' (below_grown hbn (some (w.heap.size + 1)))
         have hz := R.out.size
         replace R := Hid.mk' (grown_trans R.out st.out)
         (try replace RA := Hid.mk' (grown_trans RA.out st.out))
         (try replace RB := Hid.mk' (grown_trans RB.out st.out))
         (try replace OX := Hid.mk' (ownE_keep OX.out hbn (Nat.le_refl _)))
         (try replace OC := Hid.mk' (ownE_keep OC.out hbn (Nat.le_refl _)))
         have WB := Hid.mk' hon
         have RB := Hid.mk' (World.grownBy.refl wn (some (w.heap.size + 1)))
         have hqB : Hid (gB ≠ w.heap.size + 1) := by show _ ≠ _; omega
         have bx := Hid.mk' (grown_c5 HC.out R.out (by omega))
         have k1 : wn.cell? ⟨w.heap.size, 1, none⟩ = some (.int .i64 a) := bx.out.1.2.1
         have k2 : wn.cell? ⟨w.heap.size, 2, none⟩ = some (.int .i64 b) := bx.out.1.2.2.1
         have k4 : wn.cell? ⟨w.heap.size, 4, none⟩ = some (.slice la l.length lc) := bx.out.1.2.2.2.2
         clear hon hbn st bx hz hgB hgB'))
  all_goals
    go_wp2_with fail
    go_ret
    exact ⟨_, rfl, out_fin (W0 := W) OY.out BY.out (by simp [encF]; try omega) (by simp [encF, U])⟩
end Go.Proofs.Ythicgblefhgbeaa

set_option linter.unusedVariables false
namespace Go.Proofs.Ythicgblefhgbeaa
open Go.RowKit Go.Sort
set_option maxRecDepth 100000
set_option maxHeartbeats 4000000 in
theorem s5_3 (op a b v : Int) (l : List Int) (la : Option Addr) (lc : Nat) (w : World) (hf : formR (rowOf op) = 3) (ha : 0 ≤ a) (ha1 : a ≤ 4294967295) (hn : l.length ≤ 1048576) (hu : ∀ i, i < l.length → 0 ≤ l.getD i 0 ∧ l.getD i 0 ≤ 4294967295) (hH : Has w la l) :
    Calls Try.prog 33 #[inV ⟨op, a, b, v, l⟩ la lc] w fun e w' => ∃ u, e = .returned u ∧ Out w w' u (op % 256 :: encF (3) ⟨op, a, b, v, l⟩) := by
  obtain ⟨i0, hi, hz0, hz1, hz2⟩ := info_parts Try.info5
  have HF := Hid.mk' (sform_c op)
  rw [hf] at HF
  obtain ⟨W, hW⟩ : ∃ W, W = (w.alloc (.cells #[.int .i64 op, .int .i64 a, .int .i64 b, .int .u64 v, .slice la l.length lc] 36)).alloc (.cells #[.int .u8 (op % 256)] 5) := ⟨_, rfl⟩
  obtain ⟨hC, hO, hB⟩ := two_new w (.int .i64 op) (.int .i64 a) (.int .i64 b) (.int .u64 v) (.slice la l.length lc) (op % 256) 36
  rw [← hW] at hC hO hB
  have hws : w.heap.size + 2 = W.heap.size := by rw [hW]; simp
  have hwa : IntKind.u64.wrap a = a := by rw [IntKind.wrap_u64]; omega
  have KA : Hid (∀ W', W.grownBy W' (some (w.heap.size + 1)) → _) := fun W' hg => snums_c l la lc W' hn hu (has_on hH hB hg)
  have KB := Hid.mk' (fun W => specPutU_any a W ha (by omega))
  have hla : 1 ≤ (lebU 9 l.length ++ nums l).length ∧ (lebU 9 l.length ++ nums l).length ≤ 20971520 := by
    have := lebU_len 9 l.length
    have := nums_len l
    simp only [List.length_append]; omega
  have hlb := lebU_len 9 a
  clear hH hu
  have HW := Hid.mk' hW
  obtain ⟨⟨c0, c1, c2, c3, c4⟩, cf⟩ := id hC
  have HC := Hid.mk' hC
  have HO := Hid.mk' hO
  have HB := Hid.mk' hB
  clear hf hC hO hB hW cf
  go_enter Try.func33, Try.ntmps33
  go_wp2_with fail
  rw [show (w.alloc (.cells #[.int .i64 op, .int .i64 a, .int .i64 b, .int .u64 v, .slice la l.length lc] 36)).alloc (.cells #[.int .u8 (op % 256)] 5) = W from HW.out.symm]
  refine (HF.out _).mono ?_
  rintro e w1 ⟨rfl, rfl⟩
  clear HF HW
  have R := Hid.mk' (show W.grownBy W.drew (some (w.heap.size + 1)) from ⟨rfl, rfl, rfl, Nat.le_refl _, fun _ _ _ => rfl⟩)
  have OC := Hid.mk' (show W.drew.ownsRow (w.heap.size + 1) 5 1 (.slice (some ⟨w.heap.size + 1, 0, none⟩) 1 1) 1 (U [op % 256]) from HO.out)
  have k1 : W.drew.cell? ⟨w.heap.size, 1, none⟩ = some (.int .i64 a) := c1
  have k2 : W.drew.cell? ⟨w.heap.size, 2, none⟩ = some (.int .i64 b) := c2
  have k4 : W.drew.cell? ⟨w.heap.size, 4, none⟩ = some (.slice la l.length lc) := c4
  go_wp2_with fail
  go_region_held3 (fun w' => w'.cell? ⟨w.heap.size, 1, none⟩ = some (.int .i64 a) ∧ w'.cell? ⟨w.heap.size, 2, none⟩ = some (.int .i64 b) ∧ w'.cell? ⟨w.heap.size, 4, none⟩ = some (.slice la l.length lc)) (exact ⟨k1, k2, k4⟩)
    (first
      | (refine step_append_src rfl (.tmp 29) (.tmp 32) 34 rfl (w.heap.size + 1) 5 i0 (.int .u8 0) 1 1 Try.underlying34 hi hz0 hz1 hz2 rfl (by decide) (.slice (some ⟨w.heap.size + 1, 0, none⟩) 1 1) 1 (U [op % 256]) (by simp [Act.eval, Act.put]) OC.out ⟨gA, 0, none⟩ (lebU 9 l.length ++ nums l).length gcA (U (lebU 9 l.length ++ nums l)) (by simp [Act.eval, Act.put]) (by simp) (own_src (own_grownE WA.out RA.out hqA.out)) (oneU _) (by simp only [maxLen]; omega) (by omega) (by have := R.out.size; omega) ?_
         intro vx wx ox gx lx
         have st := Hid.mk' (show World.grownBy _ wx (some (w.heap.size + 1)) from gx)
         replace R := Hid.mk' (grown_trans R.out st.out)
         (try replace RB := Hid.mk' (grown_trans RB.out st.out))
         have OX := Hid.mk' ox
         clear OC
         have bx := Hid.mk' (grown_c5 HC.out R.out (by omega))
         have k1 : wx.cell? ⟨w.heap.size, 1, none⟩ = some (.int .i64 a) := bx.out.1.2.1
         have k2 : wx.cell? ⟨w.heap.size, 2, none⟩ = some (.int .i64 b) := bx.out.1.2.2.1
         have k4 : wx.cell? ⟨w.heap.size, 4, none⟩ = some (.slice la l.length lc) := bx.out.1.2.2.2.2
         clear ox gx lx st bx)
      | (refine step_append_src rfl (.tmp 33) (.tmp 37) 34 rfl (w.heap.size + 1) 5 i0 (.int .u8 0) 1 1 Try.underlying34 hi hz0 hz1 hz2 rfl (by decide) vx (1 + (lebU 9 l.length ++ nums l).length) (U [op % 256] ++ U (lebU 9 l.length ++ nums l)) (by simp [Act.eval, Act.put]) OX.out ⟨gB, 0, none⟩ (lebU 9 a).length gcB (U (lebU 9 a)) (by simp [Act.eval, Act.put]) (by simp) (own_src (own_grownE WB.out RB.out hqB.out)) (oneU _) (by simp only [maxLen]; omega) (by omega) (by have := R.out.size; omega) ?_
         intro vy wy oy gy ly
         have OY := Hid.mk' oy
         have bx := Hid.mk' (grown_c5 HC.out R.out (by omega))
         have hgy := Hid.mk' (fun o : Nat => World.cell?_of_block (a := ⟨w.heap.size, o, none⟩) (gy.block w.heap.size (World.block_lt_of_cell? _ _ bx.out.1.1) (fun e => by have := (OX.out.lt _ e.symm).1; omega)))
         have k1 : wy.cell? ⟨w.heap.size, 1, none⟩ = some (.int .i64 a) := (hgy.out 1).trans bx.out.1.2.1
         have k2 : wy.cell? ⟨w.heap.size, 2, none⟩ = some (.int .i64 b) := (hgy.out 2).trans bx.out.1.2.2.1
         have k4 : wy.cell? ⟨w.heap.size, 4, none⟩ = some (.slice la l.length lc) := (hgy.out 4).trans bx.out.1.2.2.2.2
         have BY := Hid.mk' ((HB.out.trans (grown_below R.out (show w.heap.size ≤ w.heap.size + 1 by omega) (by show w.heap.size ≤ W.heap.size; omega))).grown gy (by have := R.out.size; omega) (fun j hj => by have := (OX.out.lt j hj).1; omega))
         clear oy gy ly hgy bx)
      | (go_at_call 55
         refine (KA.out _ R.out).mono ?_
         rintro e wn ⟨vn, rfl, hon, hbn⟩
         obtain ⟨gA, gcA, rfl, hgA, hgA'⟩ := By.own_split hon hla.1
         have st := Hid.mk' (below_grown hbn (some (w.heap.size + 1)))
         have hz := R.out.size
         replace R := Hid.mk' (grown_trans R.out st.out)
         (try replace RA := Hid.mk' (grown_trans RA.out st.out))
         (try replace RB := Hid.mk' (grown_trans RB.out st.out))
         (try replace OX := Hid.mk' (ownE_keep OX.out hbn (Nat.le_refl _)))
         (try replace OC := Hid.mk' (ownE_keep OC.out hbn (Nat.le_refl _)))
         have WA := Hid.mk' hon
         have RA := Hid.mk' (World.grownBy.refl wn (some (w.heap.size + 1)))
         have hqA : Hid (gA ≠ w.heap.size + 1) := by show _ ≠ _; omega
         have bx := Hid.mk' (grown_c5 HC.out R.out (by omega))
         have k1 : wn.cell? ⟨w.heap.size, 1, none⟩ = some (.int .i64 a) := bx.out.1.2.1
         have k2 : wn.cell? ⟨w.heap.size, 2, none⟩ = some (.int .i64 b) := bx.out.1.2.2.1
         have k4 : wn.cell? ⟨w.heap.size, 4, none⟩ = some (.slice la l.length lc) := bx.out.1.2.2.2.2
         clear hon hbn st bx hz hgA hgA')
      | (go_at_call 54
         refine (KB.out _).mono ?_
         rintro e wn ⟨vn, rfl, hon, hbn⟩
         obtain ⟨gB, gcB, rfl, hgB, hgB'⟩ := By.own_split hon hlb.1
         have st := Hid.mk' (below_grown hbn (some (w.heap.size + 1)))
         have hz := R.out.size
         replace R := Hid.mk' (grown_trans R.out st.out)
         (try replace RA := Hid.mk' (grown_trans RA.out st.out))
         (try replace RB := Hid.mk' (grown_trans RB.out st.out))
         (try replace OX := Hid.mk' (ownE_keep OX.out hbn (Nat.le_refl _)))
         (try replace OC := Hid.mk' (ownE_keep OC.out hbn (Nat.le_refl _)))
         have WB := Hid.mk' hon
         have RB := Hid.mk' (World.grownBy.refl wn (some (w.heap.size + 1)))
         have hqB : Hid (gB ≠ w.heap.size + 1) := by show _ ≠ _; omega
         have bx := Hid.mk' (grown_c5 HC.out R.out (by omega))
         have k1 : wn.cell? ⟨w.heap.size, 1, none⟩ = some (.int .i64 a) := bx.out.1.2.1
         have k2 : wn.cell? ⟨w.heap.size, 2, none⟩ = some (.int .i64 b) := bx.out.1.2.2.1
         have k4 : wn.cell? ⟨w.heap.size, 4, none⟩ = some (.slice la l.length lc) := bx.out.1.2.2.2.2
         clear hon hbn st bx hz hgB hgB'))
  all_goals
    go_wp2_with fail
    go_ret
    exact ⟨_, rfl, out_fin (W0 := W) OY.out BY.out (by simp [encF]; try omega) (by simp [encF, U])⟩
end Go.Proofs.Ythicgblefhgbeaa
