import Derived.Test.YtjiaainhieeepaaDoorSpecD
import Derived.Test.YtjiaainhieeepaaDoorSpec1
import Derived.Laws.BitsAllLaws
set_option linter.unusedVariables false
namespace Go.Proofs.YtjiaainhieeepaaDoor
open Go.RowKit
set_option maxHeartbeats 1000000 in
theorem sbin64_0 (a b : Int) (w : World) (ha0 : 0 ≤ a) (ha : a ≤ 18446744073709551615) (hb0 : 0 ≤ b) (hb : b ≤ 18446744073709551615) :
    Calls Tryd.prog 26 #[.int .i64 0, .int .u64 a, .int .u64 b, .int .i64 64] w fun e w' => e = .returned (RV true (binR true 0 a b).1 (binR true 0 a b).2) ∧ Below w.heap.size w w' := by
  go_enter Tryd.func26, Tryd.ntmps26
  go_wp2_with (first | (go_at_call 11; refine (low64 _ _).mono ?_; rintro e w' ⟨rfl, rfl⟩))
  refine (val_eq _ (binR true 0 a b).2 _ ?heq).mono ?_
  case heq => simp only [binR, Mo]; (try simp only [IntKind.wrap_u64]); first | rfl | (simp; done) | (simp; omega)
  rintro e w1 ⟨rfl, hb⟩
  obtain ⟨hc0, hc1, hc2, hf0, hf1, hf2, hb'⟩ := res_cells1 hb
  have HB := Hid.mk' hb'
  clear hb hb'
  go_wp2
  exact bodyPost_ret (v := RV true 0 (binR true 0 a b).2) (by simp [results, Tryd.results26, go_sem, hc0, hc1, hc2]) rfl ⟨rfl, below_set3 HB.out⟩
set_option maxHeartbeats 1000000 in
theorem sbin64_1 (a b : Int) (w : World) (ha0 : 0 ≤ a) (ha : a ≤ 18446744073709551615) (hb0 : 0 ≤ b) (hb : b ≤ 18446744073709551615) :
    Calls Tryd.prog 26 #[.int .i64 1, .int .u64 a, .int .u64 b, .int .i64 64] w fun e w' => e = .returned (RV true (binR true 1 a b).1 (binR true 1 a b).2) ∧ Below w.heap.size w w' := by
  go_enter Tryd.func26, Tryd.ntmps26
  go_wp2_with (first | (go_at_call 11; refine (low64 _ _).mono ?_; rintro e w' ⟨rfl, rfl⟩))
  refine (val_eq _ (binR true 1 a b).2 _ ?heq).mono ?_
  case heq => simp only [binR, Mo]; (try simp only [IntKind.wrap_u64]); first | rfl | (simp; done) | (simp; omega)
  rintro e w1 ⟨rfl, hb⟩
  obtain ⟨hc0, hc1, hc2, hf0, hf1, hf2, hb'⟩ := res_cells1 hb
  have HB := Hid.mk' hb'
  clear hb hb'
  go_wp2
  exact bodyPost_ret (v := RV true 0 (binR true 1 a b).2) (by simp [results, Tryd.results26, go_sem, hc0, hc1, hc2]) rfl ⟨rfl, below_set3 HB.out⟩
set_option maxHeartbeats 1000000 in
theorem sbin64_2 (a b : Int) (w : World) (ha0 : 0 ≤ a) (ha : a ≤ 18446744073709551615) (hb0 : 0 ≤ b) (hb : b ≤ 18446744073709551615) :
    Calls Tryd.prog 26 #[.int .i64 2, .int .u64 a, .int .u64 b, .int .i64 64] w fun e w' => e = .returned (RV true (binR true 2 a b).1 (binR true 2 a b).2) ∧ Below w.heap.size w w' := by
  go_enter Tryd.func26, Tryd.ntmps26
  go_wp2_with (first | (go_at_call 11; refine (low64 _ _).mono ?_; rintro e w' ⟨rfl, rfl⟩))
  refine (val_eq _ (binR true 2 a b).2 _ ?heq).mono ?_
  case heq => simp only [binR, Mo]; (try simp only [IntKind.wrap_u64]); first | rfl | (simp; done) | (simp; omega)
  rintro e w1 ⟨rfl, hb⟩
  obtain ⟨hc0, hc1, hc2, hf0, hf1, hf2, hb'⟩ := res_cells1 hb
  have HB := Hid.mk' hb'
  clear hb hb'
  go_wp2
  exact bodyPost_ret (v := RV true 0 (binR true 2 a b).2) (by simp [results, Tryd.results26, go_sem, hc0, hc1, hc2]) rfl ⟨rfl, below_set3 HB.out⟩
set_option maxHeartbeats 1000000 in
theorem sbin64_3 (a b : Int) (w : World) (ha0 : 0 ≤ a) (ha : a ≤ 18446744073709551615) (hb0 : 0 ≤ b) (hb : b ≤ 18446744073709551615) :
    Calls Tryd.prog 26 #[.int .i64 3, .int .u64 a, .int .u64 b, .int .i64 64] w fun e w' => e = .returned (RV true (binR true 3 a b).1 (binR true 3 a b).2) ∧ Below w.heap.size w w' := by
  go_enter Tryd.func26, Tryd.ntmps26
  go_wp2_with fail
  refine (sdiv64_0 a b _ ha0 ha hb0 hb).mono ?_
  rintro e w1 ⟨rfl, hb⟩
  obtain ⟨hc0, hc1, hc2, hf0, hf1, hf2, hb'⟩ := res_cells1 hb
  have HB := Hid.mk' hb'
  clear hb hb'
  go_wp2
  exact bodyPost_ret (v := RV true (binR true 3 a b).1 (binR true 3 a b).2) (by simp [results, Tryd.results26, go_sem, hc0, hc1, hc2]) rfl ⟨rfl, below_set3 HB.out⟩
set_option maxHeartbeats 1000000 in
theorem sbin64_4 (a b : Int) (w : World) (ha0 : 0 ≤ a) (ha : a ≤ 18446744073709551615) (hb0 : 0 ≤ b) (hb : b ≤ 18446744073709551615) :
    Calls Tryd.prog 26 #[.int .i64 4, .int .u64 a, .int .u64 b, .int .i64 64] w fun e w' => e = .returned (RV true (binR true 4 a b).1 (binR true 4 a b).2) ∧ Below w.heap.size w w' := by
  go_enter Tryd.func26, Tryd.ntmps26
  go_wp2_with fail
  refine (sdiv64_1 a b _ ha0 ha hb0 hb).mono ?_
  rintro e w1 ⟨rfl, hb⟩
  obtain ⟨hc0, hc1, hc2, hf0, hf1, hf2, hb'⟩ := res_cells1 hb
  have HB := Hid.mk' hb'
  clear hb hb'
  go_wp2
  exact bodyPost_ret (v := RV true (binR true 4 a b).1 (binR true 4 a b).2) (by simp [results, Tryd.results26, go_sem, hc0, hc1, hc2]) rfl ⟨rfl, below_set3 HB.out⟩
set_option maxHeartbeats 1000000 in
theorem sbin64_5 (a b : Int) (w : World) (ha0 : 0 ≤ a) (ha : a ≤ 18446744073709551615) (hb0 : 0 ≤ b) (hb : b ≤ 18446744073709551615) :
    Calls Tryd.prog 26 #[.int .i64 5, .int .u64 a, .int .u64 b, .int .i64 64] w fun e w' => e = .returned (RV true (binR true 5 a b).1 (binR true 5 a b).2) ∧ Below w.heap.size w w' := by
  go_enter Tryd.func26, Tryd.ntmps26
  go_wp2_with fail
  refine (sdiv64_2 a b _ ha0 ha hb0 hb).mono ?_
  rintro e w1 ⟨rfl, hb⟩
  obtain ⟨hc0, hc1, hc2, hf0, hf1, hf2, hb'⟩ := res_cells1 hb
  have HB := Hid.mk' hb'
  clear hb hb'
  go_wp2
  exact bodyPost_ret (v := RV true (binR true 5 a b).1 (binR true 5 a b).2) (by simp [results, Tryd.results26, go_sem, hc0, hc1, hc2]) rfl ⟨rfl, below_set3 HB.out⟩
set_option maxHeartbeats 1000000 in
theorem sbin64_6 (a b : Int) (w : World) (ha0 : 0 ≤ a) (ha : a ≤ 18446744073709551615) (hb0 : 0 ≤ b) (hb : b ≤ 18446744073709551615) :
    Calls Tryd.prog 26 #[.int .i64 6, .int .u64 a, .int .u64 b, .int .i64 64] w fun e w' => e = .returned (RV true (binR true 6 a b).1 (binR true 6 a b).2) ∧ Below w.heap.size w w' := by
  go_enter Tryd.func26, Tryd.ntmps26
  go_wp2_with fail
  refine (sdiv64_3 a b _ ha0 ha hb0 hb).mono ?_
  rintro e w1 ⟨rfl, hb⟩
  obtain ⟨hc0, hc1, hc2, hf0, hf1, hf2, hb'⟩ := res_cells1 hb
  have HB := Hid.mk' hb'
  clear hb hb'
  go_wp2
  exact bodyPost_ret (v := RV true (binR true 6 a b).1 (binR true 6 a b).2) (by simp [results, Tryd.results26, go_sem, hc0, hc1, hc2]) rfl ⟨rfl, below_set3 HB.out⟩
set_option maxHeartbeats 1000000 in
theorem sbin64_7 (a b : Int) (w : World) (ha0 : 0 ≤ a) (ha : a ≤ 18446744073709551615) (hb0 : 0 ≤ b) (hb : b ≤ 18446744073709551615) :
    Calls Tryd.prog 26 #[.int .i64 7, .int .u64 a, .int .u64 b, .int .i64 64] w fun e w' => e = .returned (RV true (binR true 7 a b).1 (binR true 7 a b).2) ∧ Below w.heap.size w w' := by
  go_enter Tryd.func26, Tryd.ntmps26
  go_wp2_with fail
  refine (val_eq _ (binR true 7 a b).2 _ ?heq).mono ?_
  case heq => rw [u64_and a b ha0 (by omega) hb0 (by omega)]; rfl
  rintro e w1 ⟨rfl, hb⟩
  obtain ⟨hc0, hc1, hc2, hf0, hf1, hf2, hb'⟩ := res_cells1 hb
  have HB := Hid.mk' hb'
  clear hb hb'
  go_wp2
  exact bodyPost_ret (v := RV true 0 (binR true 7 a b).2) (by simp [results, Tryd.results26, go_sem, hc0, hc1, hc2]) rfl ⟨rfl, below_set3 HB.out⟩
set_option maxHeartbeats 1000000 in
theorem sbin64_8 (a b : Int) (w : World) (ha0 : 0 ≤ a) (ha : a ≤ 18446744073709551615) (hb0 : 0 ≤ b) (hb : b ≤ 18446744073709551615) :
    Calls Tryd.prog 26 #[.int .i64 8, .int .u64 a, .int .u64 b, .int .i64 64] w fun e w' => e = .returned (RV true (binR true 8 a b).1 (binR true 8 a b).2) ∧ Below w.heap.size w w' := by
  go_enter Tryd.func26, Tryd.ntmps26
  go_wp2_with fail
  refine (val_eq _ (binR true 8 a b).2 _ ?heq).mono ?_
  case heq => rw [u64_or a b ha0 (by omega) hb0 (by omega)]; rfl
  rintro e w1 ⟨rfl, hb⟩
  obtain ⟨hc0, hc1, hc2, hf0, hf1, hf2, hb'⟩ := res_cells1 hb
  have HB := Hid.mk' hb'
  clear hb hb'
  go_wp2
  exact bodyPost_ret (v := RV true 0 (binR true 8 a b).2) (by simp [results, Tryd.results26, go_sem, hc0, hc1, hc2]) rfl ⟨rfl, below_set3 HB.out⟩
set_option maxHeartbeats 1000000 in
theorem sbin64_9 (a b : Int) (w : World) (ha0 : 0 ≤ a) (ha : a ≤ 18446744073709551615) (hb0 : 0 ≤ b) (hb : b ≤ 18446744073709551615) :
    Calls Tryd.prog 26 #[.int .i64 9, .int .u64 a, .int .u64 b, .int .i64 64] w fun e w' => e = .returned (RV true (binR true 9 a b).1 (binR true 9 a b).2) ∧ Below w.heap.size w w' := by
  go_enter Tryd.func26, Tryd.ntmps26
  go_wp2_with fail
  refine (val_eq _ (binR true 9 a b).2 _ ?heq).mono ?_
  case heq => rw [u64_xor a b ha0 (by omega) hb0 (by omega)]; rfl
  rintro e w1 ⟨rfl, hb⟩
  obtain ⟨hc0, hc1, hc2, hf0, hf1, hf2, hb'⟩ := res_cells1 hb
  have HB := Hid.mk' hb'
  clear hb hb'
  go_wp2
  exact bodyPost_ret (v := RV true 0 (binR true 9 a b).2) (by simp [results, Tryd.results26, go_sem, hc0, hc1, hc2]) rfl ⟨rfl, below_set3 HB.out⟩
set_option maxHeartbeats 1000000 in
theorem sbin64_10 (a b : Int) (w : World) (ha0 : 0 ≤ a) (ha : a ≤ 18446744073709551615) (hb0 : 0 ≤ b) (hb : b ≤ 18446744073709551615) :
    Calls Tryd.prog 26 #[.int .i64 10, .int .u64 a, .int .u64 b, .int .i64 64] w fun e w' => e = .returned (RV true (binR true 10 a b).1 (binR true 10 a b).2) ∧ Below w.heap.size w w' := by
  have hs0 : 0 ≤ b % 64 := by omega
  have hs1 : b % 64 ≤ 63 := by omega
  have hp := P2_pos (b % 64)
  have hp2 := P2_63 (n := b % 64) (by omega)
  go_enter Tryd.func26, Tryd.ntmps26
  go_wp2_with (first | (go_at_call 27; refine (pow_any _ _ (by omega) (by omega)).mono ?_; rintro e w' ⟨rfl, rfl⟩) | (go_at_call 11; refine (low64 _ _).mono ?_; rintro e w' ⟨rfl, rfl⟩))
  refine (val_eq _ (binR true 10 a b).2 _ ?heq).mono ?_
  case heq => simp only [binR, Mo, Nn]; simp only [IntKind.wrap_u64, P2]; first | rfl | (simp; done) | (simp; omega)
  rintro e w1 ⟨rfl, hb⟩
  obtain ⟨hc0, hc1, hc2, hf0, hf1, hf2, hb'⟩ := res_cells1 hb
  have HB := Hid.mk' hb'
  clear hb hb'
  go_wp2
  exact bodyPost_ret (v := RV true 0 (binR true 10 a b).2) (by simp [results, Tryd.results26, go_sem, hc0, hc1, hc2]) rfl ⟨rfl, below_set3 HB.out⟩
set_option maxHeartbeats 1000000 in
theorem sbin64_11 (a b : Int) (w : World) (ha0 : 0 ≤ a) (ha : a ≤ 18446744073709551615) (hb0 : 0 ≤ b) (hb : b ≤ 18446744073709551615) :
    Calls Tryd.prog 26 #[.int .i64 11, .int .u64 a, .int .u64 b, .int .i64 64] w fun e w' => e = .returned (RV true (binR true 11 a b).1 (binR true 11 a b).2) ∧ Below w.heap.size w w' := by
  have hs0 : 0 ≤ b % 64 := by omega
  have hs1 : b % 64 ≤ 63 := by omega
  have hp := P2_pos (b % 64)
  have hp2 := P2_63 (n := b % 64) (by omega)
  go_enter Tryd.func26, Tryd.ntmps26
  go_wp2_with (first | (go_at_call 15; refine (signed64 _ _ (by omega) (by omega)).mono ?_; rintro e w' ⟨rfl, rfl⟩) | (go_at_call 11; refine (low64 _ _).mono ?_; rintro e w' ⟨rfl, rfl⟩))
  refine (val_eq _ (binR true 11 a b).2 _ ?heq).mono ?_
  case heq => simp only [binR, Mo, Nn, sg]; simp only [IntKind.wrap_u64]; first | rfl | (simp; done) | (simp; omega)
  rintro e w1 ⟨rfl, hb⟩
  obtain ⟨hc0, hc1, hc2, hf0, hf1, hf2, hb'⟩ := res_cells1 hb
  have HB := Hid.mk' hb'
  clear hb hb'
  go_wp2
  exact bodyPost_ret (v := RV true 0 (binR true 11 a b).2) (by simp [results, Tryd.results26, go_sem, hc0, hc1, hc2]) rfl ⟨rfl, below_set3 HB.out⟩
set_option maxHeartbeats 1000000 in
theorem sbin64_12 (a b : Int) (w : World) (ha0 : 0 ≤ a) (ha : a ≤ 18446744073709551615) (hb0 : 0 ≤ b) (hb : b ≤ 18446744073709551615) :
    Calls Tryd.prog 26 #[.int .i64 12, .int .u64 a, .int .u64 b, .int .i64 64] w fun e w' => e = .returned (RV true (binR true 12 a b).1 (binR true 12 a b).2) ∧ Below w.heap.size w w' := by
  have hs0 : 0 ≤ b % 64 := by omega
  have hs1 : b % 64 ≤ 63 := by omega
  have hp := P2_pos (b % 64)
  have hp2 := P2_63 (n := b % 64) (by omega)
  go_enter Tryd.func26, Tryd.ntmps26
  go_wp2_with (first | (go_at_call 27; refine (pow_any _ _ (by omega) (by omega)).mono ?_; rintro e w' ⟨rfl, rfl⟩) | (go_at_call 11; refine (low64 _ _).mono ?_; rintro e w' ⟨rfl, rfl⟩))
  refine (val_eq _ (binR true 12 a b).2 _ ?heq).mono ?_
  case heq => simp only [binR, Nn, P2]; first | rfl | (simp; done)
  rintro e w1 ⟨rfl, hb⟩
  obtain ⟨hc0, hc1, hc2, hf0, hf1, hf2, hb'⟩ := res_cells1 hb
  have HB := Hid.mk' hb'
  clear hb hb'
  go_wp2
  exact bodyPost_ret (v := RV true 0 (binR true 12 a b).2) (by simp [results, Tryd.results26, go_sem, hc0, hc1, hc2]) rfl ⟨rfl, below_set3 HB.out⟩
set_option maxHeartbeats 1000000 in
theorem sbin64_13 (a b : Int) (w : World) (ha0 : 0 ≤ a) (ha : a ≤ 18446744073709551615) (hb0 : 0 ≤ b) (hb : b ≤ 18446744073709551615) :
    Calls Tryd.prog 26 #[.int .i64 13, .int .u64 a, .int .u64 b, .int .i64 64] w fun e w' => e = .returned (RV true (binR true 13 a b).1 (binR true 13 a b).2) ∧ Below w.heap.size w w' := by
  have hs0 : 0 ≤ b % 64 := by omega
  have hs1 : b % 64 ≤ 63 := by omega
  have hp := P2_pos (b % 64)
  have hp2 := P2_63 (n := b % 64) (by omega)
  go_enter Tryd.func26, Tryd.ntmps26
  go_wp2_with (first | (go_at_call 79; refine (sturn64 _ _ _ (by omega) (by omega) (by omega) (by omega)).mono ?_; rintro e w' ⟨rfl, rfl⟩))
  refine (val_eq _ (binR true 13 a b).2 _ ?heq).mono ?_
  case heq => rfl
  rintro e w1 ⟨rfl, hb⟩
  obtain ⟨hc0, hc1, hc2, hf0, hf1, hf2, hb'⟩ := res_cells1 hb
  have HB := Hid.mk' hb'
  clear hb hb'
  go_wp2
  exact bodyPost_ret (v := RV true 0 (binR true 13 a b).2) (by simp [results, Tryd.results26, go_sem, hc0, hc1, hc2]) rfl ⟨rfl, below_set3 HB.out⟩
set_option maxHeartbeats 1000000 in
theorem sbin64_14 (a b : Int) (w : World) (ha0 : 0 ≤ a) (ha : a ≤ 18446744073709551615) (hb0 : 0 ≤ b) (hb : b ≤ 18446744073709551615) :
    Calls Tryd.prog 26 #[.int .i64 14, .int .u64 a, .int .u64 b, .int .i64 64] w fun e w' => e = .returned (RV true (binR true 14 a b).1 (binR true 14 a b).2) ∧ Below w.heap.size w w' := by
  have hs0 : 0 ≤ b % 64 := by omega
  have hs1 : b % 64 ≤ 63 := by omega
  have hp := P2_pos (b % 64)
  have hp2 := P2_63 (n := b % 64) (by omega)
  go_enter Tryd.func26, Tryd.ntmps26
  go_wp2_with (first | (go_at_call 79; refine (sturn64 _ _ _ (by omega) (by omega) (by omega) (by omega)).mono ?_; rintro e w' ⟨rfl, rfl⟩))
  refine (val_eq _ (binR true 14 a b).2 _ ?heq).mono ?_
  case heq => exact congrArg (fun z : Int => rot true z.toNat a) (show _ = (64 - b % 64) % 64 by omega)
  rintro e w1 ⟨rfl, hb⟩
  obtain ⟨hc0, hc1, hc2, hf0, hf1, hf2, hb'⟩ := res_cells1 hb
  have HB := Hid.mk' hb'
  clear hb hb'
  go_wp2
  exact bodyPost_ret (v := RV true 0 (binR true 14 a b).2) (by simp [results, Tryd.results26, go_sem, hc0, hc1, hc2]) rfl ⟨rfl, below_set3 HB.out⟩
set_option maxHeartbeats 1000000 in
theorem sbin32_0 (a b : Int) (w : World) (ha0 : 0 ≤ a) (ha : a ≤ 4294967295) (hb0 : 0 ≤ b) (hb : b ≤ 4294967295) :
    Calls Tryd.prog 26 #[.int .i64 0, .int .u64 a, .int .u64 b, .int .i64 32] w fun e w' => e = .returned (RV true (binR false 0 a b).1 (binR false 0 a b).2) ∧ Below w.heap.size w w' := by
  go_enter Tryd.func26, Tryd.ntmps26
  go_wp2_with (first | (go_at_call 11; refine (low32 _ _ (by first | omega | exact (u64w _).1) (by first | omega | exact (u64w _).2)).mono ?_; rintro e w' ⟨rfl, rfl⟩))
  refine (val_eq _ (binR false 0 a b).2 _ ?heq).mono ?_
  case heq => simp only [binR, Mo]; (try simp only [IntKind.wrap_u64]); first | rfl | (simp; done) | (simp; omega)
  rintro e w1 ⟨rfl, hb⟩
  obtain ⟨hc0, hc1, hc2, hf0, hf1, hf2, hb'⟩ := res_cells1 hb
  have HB := Hid.mk' hb'
  clear hb hb'
  go_wp2
  exact bodyPost_ret (v := RV true 0 (binR false 0 a b).2) (by simp [results, Tryd.results26, go_sem, hc0, hc1, hc2]) rfl ⟨rfl, below_set3 HB.out⟩
set_option maxHeartbeats 1000000 in
theorem sbin32_1 (a b : Int) (w : World) (ha0 : 0 ≤ a) (ha : a ≤ 4294967295) (hb0 : 0 ≤ b) (hb : b ≤ 4294967295) :
    Calls Tryd.prog 26 #[.int .i64 1, .int .u64 a, .int .u64 b, .int .i64 32] w fun e w' => e = .returned (RV true (binR false 1 a b).1 (binR false 1 a b).2) ∧ Below w.heap.size w w' := by
  go_enter Tryd.func26, Tryd.ntmps26
  go_wp2_with (first | (go_at_call 11; refine (low32 _ _ (by first | omega | exact (u64w _).1) (by first | omega | exact (u64w _).2)).mono ?_; rintro e w' ⟨rfl, rfl⟩))
  refine (val_eq _ (binR false 1 a b).2 _ ?heq).mono ?_
  case heq => simp only [binR, Mo]; (try simp only [IntKind.wrap_u64]); first | rfl | (simp; done) | (simp; omega)
  rintro e w1 ⟨rfl, hb⟩
  obtain ⟨hc0, hc1, hc2, hf0, hf1, hf2, hb'⟩ := res_cells1 hb
  have HB := Hid.mk' hb'
  clear hb hb'
  go_wp2
  exact bodyPost_ret (v := RV true 0 (binR false 1 a b).2) (by simp [results, Tryd.results26, go_sem, hc0, hc1, hc2]) rfl ⟨rfl, below_set3 HB.out⟩
set_option maxHeartbeats 1000000 in
theorem sbin32_2 (a b : Int) (w : World) (ha0 : 0 ≤ a) (ha : a ≤ 4294967295) (hb0 : 0 ≤ b) (hb : b ≤ 4294967295) :
    Calls Tryd.prog 26 #[.int .i64 2, .int .u64 a, .int .u64 b, .int .i64 32] w fun e w' => e = .returned (RV true (binR false 2 a b).1 (binR false 2 a b).2) ∧ Below w.heap.size w w' := by
  go_enter Tryd.func26, Tryd.ntmps26
  go_wp2_with (first | (go_at_call 11; refine (low32 _ _ (by first | omega | exact (u64w _).1) (by first | omega | exact (u64w _).2)).mono ?_; rintro e w' ⟨rfl, rfl⟩))
  refine (val_eq _ (binR false 2 a b).2 _ ?heq).mono ?_
  case heq => simp only [binR, Mo]; (try simp only [IntKind.wrap_u64]); first | rfl | (simp; done) | (simp; omega)
  rintro e w1 ⟨rfl, hb⟩
  obtain ⟨hc0, hc1, hc2, hf0, hf1, hf2, hb'⟩ := res_cells1 hb
  have HB := Hid.mk' hb'
  clear hb hb'
  go_wp2
  exact bodyPost_ret (v := RV true 0 (binR false 2 a b).2) (by simp [results, Tryd.results26, go_sem, hc0, hc1, hc2]) rfl ⟨rfl, below_set3 HB.out⟩
set_option maxHeartbeats 1000000 in
theorem sbin32_3 (a b : Int) (w : World) (ha0 : 0 ≤ a) (ha : a ≤ 4294967295) (hb0 : 0 ≤ b) (hb : b ≤ 4294967295) :
    Calls Tryd.prog 26 #[.int .i64 3, .int .u64 a, .int .u64 b, .int .i64 32] w fun e w' => e = .returned (RV true (binR false 3 a b).1 (binR false 3 a b).2) ∧ Below w.heap.size w w' := by
  go_enter Tryd.func26, Tryd.ntmps26
  go_wp2_with fail
  refine (sdiv32_0 a b _ ha0 ha hb0 hb).mono ?_
  rintro e w1 ⟨rfl, hb⟩
  obtain ⟨hc0, hc1, hc2, hf0, hf1, hf2, hb'⟩ := res_cells1 hb
  have HB := Hid.mk' hb'
  clear hb hb'
  go_wp2
  exact bodyPost_ret (v := RV true (binR false 3 a b).1 (binR false 3 a b).2) (by simp [results, Tryd.results26, go_sem, hc0, hc1, hc2]) rfl ⟨rfl, below_set3 HB.out⟩
set_option maxHeartbeats 1000000 in
theorem sbin32_4 (a b : Int) (w : World) (ha0 : 0 ≤ a) (ha : a ≤ 4294967295) (hb0 : 0 ≤ b) (hb : b ≤ 4294967295) :
    Calls Tryd.prog 26 #[.int .i64 4, .int .u64 a, .int .u64 b, .int .i64 32] w fun e w' => e = .returned (RV true (binR false 4 a b).1 (binR false 4 a b).2) ∧ Below w.heap.size w w' := by
  go_enter Tryd.func26, Tryd.ntmps26
  go_wp2_with fail
  refine (sdiv32_1 a b _ ha0 ha hb0 hb).mono ?_
  rintro e w1 ⟨rfl, hb⟩
  obtain ⟨hc0, hc1, hc2, hf0, hf1, hf2, hb'⟩ := res_cells1 hb
  have HB := Hid.mk' hb'
  clear hb hb'
  go_wp2
  exact bodyPost_ret (v := RV true (binR false 4 a b).1 (binR false 4 a b).2) (by simp [results, Tryd.results26, go_sem, hc0, hc1, hc2]) rfl ⟨rfl, below_set3 HB.out⟩
set_option maxHeartbeats 1000000 in
theorem sbin32_5 (a b : Int) (w : World) (ha0 : 0 ≤ a) (ha : a ≤ 4294967295) (hb0 : 0 ≤ b) (hb : b ≤ 4294967295) :
    Calls Tryd.prog 26 #[.int .i64 5, .int .u64 a, .int .u64 b, .int .i64 32] w fun e w' => e = .returned (RV true (binR false 5 a b).1 (binR false 5 a b).2) ∧ Below w.heap.size w w' := by
  go_enter Tryd.func26, Tryd.ntmps26
  go_wp2_with fail
  refine (sdiv32_2 a b _ ha0 ha hb0 hb).mono ?_
  rintro e w1 ⟨rfl, hb⟩
  obtain ⟨hc0, hc1, hc2, hf0, hf1, hf2, hb'⟩ := res_cells1 hb
  have HB := Hid.mk' hb'
  clear hb hb'
  go_wp2
  exact bodyPost_ret (v := RV true (binR false 5 a b).1 (binR false 5 a b).2) (by simp [results, Tryd.results26, go_sem, hc0, hc1, hc2]) rfl ⟨rfl, below_set3 HB.out⟩
set_option maxHeartbeats 1000000 in
theorem sbin32_6 (a b : Int) (w : World) (ha0 : 0 ≤ a) (ha : a ≤ 4294967295) (hb0 : 0 ≤ b) (hb : b ≤ 4294967295) :
    Calls Tryd.prog 26 #[.int .i64 6, .int .u64 a, .int .u64 b, .int .i64 32] w fun e w' => e = .returned (RV true (binR false 6 a b).1 (binR false 6 a b).2) ∧ Below w.heap.size w w' := by
  go_enter Tryd.func26, Tryd.ntmps26
  go_wp2_with fail
  refine (sdiv32_3 a b _ ha0 ha hb0 hb).mono ?_
  rintro e w1 ⟨rfl, hb⟩
  obtain ⟨hc0, hc1, hc2, hf0, hf1, hf2, hb'⟩ := res_cells1 hb
  have HB := Hid.mk' hb'
  clear hb hb'
  go_wp2
  exact bodyPost_ret (v := RV true (binR false 6 a b).1 (binR false 6 a b).2) (by simp [results, Tryd.results26, go_sem, hc0, hc1, hc2]) rfl ⟨rfl, below_set3 HB.out⟩
set_option maxHeartbeats 1000000 in
theorem sbin32_7 (a b : Int) (w : World) (ha0 : 0 ≤ a) (ha : a ≤ 4294967295) (hb0 : 0 ≤ b) (hb : b ≤ 4294967295) :
    Calls Tryd.prog 26 #[.int .i64 7, .int .u64 a, .int .u64 b, .int .i64 32] w fun e w' => e = .returned (RV true (binR false 7 a b).1 (binR false 7 a b).2) ∧ Below w.heap.size w w' := by
  go_enter Tryd.func26, Tryd.ntmps26
  go_wp2_with fail
  refine (val_eq _ (binR false 7 a b).2 _ ?heq).mono ?_
  case heq => rw [u64_and a b ha0 (by omega) hb0 (by omega)]; rfl
  rintro e w1 ⟨rfl, hb⟩
  obtain ⟨hc0, hc1, hc2, hf0, hf1, hf2, hb'⟩ := res_cells1 hb
  have HB := Hid.mk' hb'
  clear hb hb'
  go_wp2
  exact bodyPost_ret (v := RV true 0 (binR false 7 a b).2) (by simp [results, Tryd.results26, go_sem, hc0, hc1, hc2]) rfl ⟨rfl, below_set3 HB.out⟩
set_option maxHeartbeats 1000000 in
theorem sbin32_8 (a b : Int) (w : World) (ha0 : 0 ≤ a) (ha : a ≤ 4294967295) (hb0 : 0 ≤ b) (hb : b ≤ 4294967295) :
    Calls Tryd.prog 26 #[.int .i64 8, .int .u64 a, .int .u64 b, .int .i64 32] w fun e w' => e = .returned (RV true (binR false 8 a b).1 (binR false 8 a b).2) ∧ Below w.heap.size w w' := by
  go_enter Tryd.func26, Tryd.ntmps26
  go_wp2_with fail
  refine (val_eq _ (binR false 8 a b).2 _ ?heq).mono ?_
  case heq => rw [u64_or a b ha0 (by omega) hb0 (by omega)]; rfl
  rintro e w1 ⟨rfl, hb⟩
  obtain ⟨hc0, hc1, hc2, hf0, hf1, hf2, hb'⟩ := res_cells1 hb
  have HB := Hid.mk' hb'
  clear hb hb'
  go_wp2
  exact bodyPost_ret (v := RV true 0 (binR false 8 a b).2) (by simp [results, Tryd.results26, go_sem, hc0, hc1, hc2]) rfl ⟨rfl, below_set3 HB.out⟩
set_option maxHeartbeats 1000000 in
theorem sbin32_9 (a b : Int) (w : World) (ha0 : 0 ≤ a) (ha : a ≤ 4294967295) (hb0 : 0 ≤ b) (hb : b ≤ 4294967295) :
    Calls Tryd.prog 26 #[.int .i64 9, .int .u64 a, .int .u64 b, .int .i64 32] w fun e w' => e = .returned (RV true (binR false 9 a b).1 (binR false 9 a b).2) ∧ Below w.heap.size w w' := by
  go_enter Tryd.func26, Tryd.ntmps26
  go_wp2_with fail
  refine (val_eq _ (binR false 9 a b).2 _ ?heq).mono ?_
  case heq => rw [u64_xor a b ha0 (by omega) hb0 (by omega)]; rfl
  rintro e w1 ⟨rfl, hb⟩
  obtain ⟨hc0, hc1, hc2, hf0, hf1, hf2, hb'⟩ := res_cells1 hb
  have HB := Hid.mk' hb'
  clear hb hb'
  go_wp2
  exact bodyPost_ret (v := RV true 0 (binR false 9 a b).2) (by simp [results, Tryd.results26, go_sem, hc0, hc1, hc2]) rfl ⟨rfl, below_set3 HB.out⟩
set_option maxHeartbeats 1000000 in
theorem sbin32_10 (a b : Int) (w : World) (ha0 : 0 ≤ a) (ha : a ≤ 4294967295) (hb0 : 0 ≤ b) (hb : b ≤ 4294967295) :
    Calls Tryd.prog 26 #[.int .i64 10, .int .u64 a, .int .u64 b, .int .i64 32] w fun e w' => e = .returned (RV true (binR false 10 a b).1 (binR false 10 a b).2) ∧ Below w.heap.size w w' := by
  have hs0 : 0 ≤ b % 32 := by omega
  have hs1 : b % 32 ≤ 31 := by omega
  have hp := P2_pos (b % 32)
  have hp2 := P2_63 (n := b % 32) (by omega)
  go_enter Tryd.func26, Tryd.ntmps26
  go_wp2_with (first | (go_at_call 27; refine (pow_any _ _ (by omega) (by omega)).mono ?_; rintro e w' ⟨rfl, rfl⟩) | (go_at_call 11; refine (low32 _ _ (by first | omega | exact (u64w _).1) (by first | omega | exact (u64w _).2)).mono ?_; rintro e w' ⟨rfl, rfl⟩))
  refine (val_eq _ (binR false 10 a b).2 _ ?heq).mono ?_
  case heq => simp only [binR, Mo, Nn]; simp only [IntKind.wrap_u64, P2]; first | rfl | (simp; done) | (simp; omega)
  rintro e w1 ⟨rfl, hb⟩
  obtain ⟨hc0, hc1, hc2, hf0, hf1, hf2, hb'⟩ := res_cells1 hb
  have HB := Hid.mk' hb'
  clear hb hb'
  go_wp2
  exact bodyPost_ret (v := RV true 0 (binR false 10 a b).2) (by simp [results, Tryd.results26, go_sem, hc0, hc1, hc2]) rfl ⟨rfl, below_set3 HB.out⟩
set_option maxHeartbeats 1000000 in
theorem sbin32_11 (a b : Int) (w : World) (ha0 : 0 ≤ a) (ha : a ≤ 4294967295) (hb0 : 0 ≤ b) (hb : b ≤ 4294967295) :
    Calls Tryd.prog 26 #[.int .i64 11, .int .u64 a, .int .u64 b, .int .i64 32] w fun e w' => e = .returned (RV true (binR false 11 a b).1 (binR false 11 a b).2) ∧ Below w.heap.size w w' := by
  have hs0 : 0 ≤ b % 32 := by omega
  have hs1 : b % 32 ≤ 31 := by omega
  have hp := P2_pos (b % 32)
  have hp2 := P2_63 (n := b % 32) (by omega)
  go_enter Tryd.func26, Tryd.ntmps26
  go_wp2_with (first | (go_at_call 15; refine (signed32 _ _ (by omega) (by omega)).mono ?_; rintro e w' ⟨rfl, rfl⟩) | (go_at_call 11; refine (low32 _ _ (by first | omega | exact (u64w _).1) (by first | omega | exact (u64w _).2)).mono ?_; rintro e w' ⟨rfl, rfl⟩))
  refine (val_eq _ (binR false 11 a b).2 _ ?heq).mono ?_
  case heq => simp only [binR, Mo, Nn, sg]; simp only [IntKind.wrap_u64]; first | rfl | (simp; done) | (simp; omega)
  rintro e w1 ⟨rfl, hb⟩
  obtain ⟨hc0, hc1, hc2, hf0, hf1, hf2, hb'⟩ := res_cells1 hb
  have HB := Hid.mk' hb'
  clear hb hb'
  go_wp2
  exact bodyPost_ret (v := RV true 0 (binR false 11 a b).2) (by simp [results, Tryd.results26, go_sem, hc0, hc1, hc2]) rfl ⟨rfl, below_set3 HB.out⟩
set_option maxHeartbeats 1000000 in
theorem sbin32_12 (a b : Int) (w : World) (ha0 : 0 ≤ a) (ha : a ≤ 4294967295) (hb0 : 0 ≤ b) (hb : b ≤ 4294967295) :
    Calls Tryd.prog 26 #[.int .i64 12, .int .u64 a, .int .u64 b, .int .i64 32] w fun e w' => e = .returned (RV true (binR false 12 a b).1 (binR false 12 a b).2) ∧ Below w.heap.size w w' := by
  have hs0 : 0 ≤ b % 32 := by omega
  have hs1 : b % 32 ≤ 31 := by omega
  have hp := P2_pos (b % 32)
  have hp2 := P2_63 (n := b % 32) (by omega)
  go_enter Tryd.func26, Tryd.ntmps26
  go_wp2_with (first | (go_at_call 27; refine (pow_any _ _ (by omega) (by omega)).mono ?_; rintro e w' ⟨rfl, rfl⟩) | (go_at_call 11; refine (low32 _ _ (by first | omega | exact (u64w _).1) (by first | omega | exact (u64w _).2)).mono ?_; rintro e w' ⟨rfl, rfl⟩))
  refine (val_eq _ (binR false 12 a b).2 _ ?heq).mono ?_
  case heq => simp only [binR, Nn, P2]; first | rfl | (simp; done)
  rintro e w1 ⟨rfl, hb⟩
  obtain ⟨hc0, hc1, hc2, hf0, hf1, hf2, hb'⟩ := res_cells1 hb
  have HB := Hid.mk' hb'
  clear hb hb'
  go_wp2
  exact bodyPost_ret (v := RV true 0 (binR false 12 a b).2) (by simp [results, Tryd.results26, go_sem, hc0, hc1, hc2]) rfl ⟨rfl, below_set3 HB.out⟩
set_option maxHeartbeats 1000000 in
theorem sbin32_13 (a b : Int) (w : World) (ha0 : 0 ≤ a) (ha : a ≤ 4294967295) (hb0 : 0 ≤ b) (hb : b ≤ 4294967295) :
    Calls Tryd.prog 26 #[.int .i64 13, .int .u64 a, .int .u64 b, .int .i64 32] w fun e w' => e = .returned (RV true (binR false 13 a b).1 (binR false 13 a b).2) ∧ Below w.heap.size w w' := by
  have hs0 : 0 ≤ b % 32 := by omega
  have hs1 : b % 32 ≤ 31 := by omega
  have hp := P2_pos (b % 32)
  have hp2 := P2_63 (n := b % 32) (by omega)
  go_enter Tryd.func26, Tryd.ntmps26
  go_wp2_with (first | (go_at_call 79; refine (sturn32 _ _ _ (by omega) (by omega) (by omega) (by omega)).mono ?_; rintro e w' ⟨rfl, rfl⟩))
  refine (val_eq _ (binR false 13 a b).2 _ ?heq).mono ?_
  case heq => rfl
  rintro e w1 ⟨rfl, hb⟩
  obtain ⟨hc0, hc1, hc2, hf0, hf1, hf2, hb'⟩ := res_cells1 hb
  have HB := Hid.mk' hb'
  clear hb hb'
  go_wp2
  exact bodyPost_ret (v := RV true 0 (binR false 13 a b).2) (by simp [results, Tryd.results26, go_sem, hc0, hc1, hc2]) rfl ⟨rfl, below_set3 HB.out⟩
set_option maxHeartbeats 1000000 in
theorem sbin32_14 (a b : Int) (w : World) (ha0 : 0 ≤ a) (ha : a ≤ 4294967295) (hb0 : 0 ≤ b) (hb : b ≤ 4294967295) :
    Calls Tryd.prog 26 #[.int .i64 14, .int .u64 a, .int .u64 b, .int .i64 32] w fun e w' => e = .returned (RV true (binR false 14 a b).1 (binR false 14 a b).2) ∧ Below w.heap.size w w' := by
  have hs0 : 0 ≤ b % 32 := by omega
  have hs1 : b % 32 ≤ 31 := by omega
  have hp := P2_pos (b % 32)
  have hp2 := P2_63 (n := b % 32) (by omega)
  go_enter Tryd.func26, Tryd.ntmps26
  go_wp2_with (first | (go_at_call 79; refine (sturn32 _ _ _ (by omega) (by omega) (by omega) (by omega)).mono ?_; rintro e w' ⟨rfl, rfl⟩))
  refine (val_eq _ (binR false 14 a b).2 _ ?heq).mono ?_
  case heq => exact congrArg (fun z : Int => rot false z.toNat a) (show _ = (32 - b % 32) % 32 by omega)
  rintro e w1 ⟨rfl, hb⟩
  obtain ⟨hc0, hc1, hc2, hf0, hf1, hf2, hb'⟩ := res_cells1 hb
  have HB := Hid.mk' hb'
  clear hb hb'
  go_wp2
  exact bodyPost_ret (v := RV true 0 (binR false 14 a b).2) (by simp [results, Tryd.results26, go_sem, hc0, hc1, hc2]) rfl ⟨rfl, below_set3 HB.out⟩
end Go.Proofs.YtjiaainhieeepaaDoor
