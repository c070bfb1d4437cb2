import Derived.Test.YtjiaainhieeepaaDoorSpec1
import Derived.Laws.BitsAllLaws
set_option linter.unusedVariables false
namespace Go.Proofs.YtjiaainhieeepaaDoor
open Go.RowKit
set_option maxHeartbeats 1000000 in
theorem scmp64_0 (a b : Int) (w : World) (ha0 : 0 ≤ a) (ha : a ≤ 18446744073709551615) (hb0 : 0 ≤ b) (hb : b ≤ 18446744073709551615) :
    Calls Tryd.prog 25 #[.int .i64 0, .int .u64 a, .int .u64 b, .int .i64 64] w fun e w' => e = .returned (RV true 0 (fl (cmpB true 0 a b))) ∧ Below w.heap.size w w' := by
  go_enter Tryd.func25, Tryd.ntmps25
  go_wp2_with (first | (go_at_call 15; refine (signed64 _ _ (by omega) (by omega)).mono ?_; rintro e w' ⟨rfl, rfl⟩))
  refine (bool_eq _ (cmpB true 0 a b) _ rfl).mono ?_
  rintro e w1 ⟨rfl, hb⟩
  obtain ⟨hc0, hc1, hc2, hf0, hf1, hf2, hb'⟩ := res_cells1 hb
  have HB := Hid.mk' hb'
  clear hb hb'
  go_wp2
  exact bodyPost_ret (v := RV true 0 (fl (cmpB true 0 a b))) (by simp [results, Tryd.results25, go_sem, hc0, hc1, hc2]) rfl ⟨rfl, below_set3 HB.out⟩
set_option maxHeartbeats 1000000 in
theorem scmp64_1 (a b : Int) (w : World) (ha0 : 0 ≤ a) (ha : a ≤ 18446744073709551615) (hb0 : 0 ≤ b) (hb : b ≤ 18446744073709551615) :
    Calls Tryd.prog 25 #[.int .i64 1, .int .u64 a, .int .u64 b, .int .i64 64] w fun e w' => e = .returned (RV true 0 (fl (cmpB true 1 a b))) ∧ Below w.heap.size w w' := by
  go_enter Tryd.func25, Tryd.ntmps25
  go_wp2_with (first | (go_at_call 15; refine (signed64 _ _ (by omega) (by omega)).mono ?_; rintro e w' ⟨rfl, rfl⟩))
  refine (bool_eq _ (cmpB true 1 a b) _ rfl).mono ?_
  rintro e w1 ⟨rfl, hb⟩
  obtain ⟨hc0, hc1, hc2, hf0, hf1, hf2, hb'⟩ := res_cells1 hb
  have HB := Hid.mk' hb'
  clear hb hb'
  go_wp2
  exact bodyPost_ret (v := RV true 0 (fl (cmpB true 1 a b))) (by simp [results, Tryd.results25, go_sem, hc0, hc1, hc2]) rfl ⟨rfl, below_set3 HB.out⟩
set_option maxHeartbeats 1000000 in
theorem scmp64_2 (a b : Int) (w : World) (ha0 : 0 ≤ a) (ha : a ≤ 18446744073709551615) (hb0 : 0 ≤ b) (hb : b ≤ 18446744073709551615) :
    Calls Tryd.prog 25 #[.int .i64 2, .int .u64 a, .int .u64 b, .int .i64 64] w fun e w' => e = .returned (RV true 0 (fl (cmpB true 2 a b))) ∧ Below w.heap.size w w' := by
  go_enter Tryd.func25, Tryd.ntmps25
  go_wp2_with (first | (go_at_call 15; refine (signed64 _ _ (by omega) (by omega)).mono ?_; rintro e w' ⟨rfl, rfl⟩))
  refine (bool_eq _ (cmpB true 2 a b) _ rfl).mono ?_
  rintro e w1 ⟨rfl, hb⟩
  obtain ⟨hc0, hc1, hc2, hf0, hf1, hf2, hb'⟩ := res_cells1 hb
  have HB := Hid.mk' hb'
  clear hb hb'
  go_wp2
  exact bodyPost_ret (v := RV true 0 (fl (cmpB true 2 a b))) (by simp [results, Tryd.results25, go_sem, hc0, hc1, hc2]) rfl ⟨rfl, below_set3 HB.out⟩
set_option maxHeartbeats 1000000 in
theorem scmp64_3 (a b : Int) (w : World) (ha0 : 0 ≤ a) (ha : a ≤ 18446744073709551615) (hb0 : 0 ≤ b) (hb : b ≤ 18446744073709551615) :
    Calls Tryd.prog 25 #[.int .i64 3, .int .u64 a, .int .u64 b, .int .i64 64] w fun e w' => e = .returned (RV true 0 (fl (cmpB true 3 a b))) ∧ Below w.heap.size w w' := by
  go_enter Tryd.func25, Tryd.ntmps25
  go_wp2_with (first | (go_at_call 15; refine (signed64 _ _ (by omega) (by omega)).mono ?_; rintro e w' ⟨rfl, rfl⟩))
  refine (bool_eq _ (cmpB true 3 a b) _ rfl).mono ?_
  rintro e w1 ⟨rfl, hb⟩
  obtain ⟨hc0, hc1, hc2, hf0, hf1, hf2, hb'⟩ := res_cells1 hb
  have HB := Hid.mk' hb'
  clear hb hb'
  go_wp2
  exact bodyPost_ret (v := RV true 0 (fl (cmpB true 3 a b))) (by simp [results, Tryd.results25, go_sem, hc0, hc1, hc2]) rfl ⟨rfl, below_set3 HB.out⟩
set_option maxHeartbeats 1000000 in
theorem scmp64_4 (a b : Int) (w : World) (ha0 : 0 ≤ a) (ha : a ≤ 18446744073709551615) (hb0 : 0 ≤ b) (hb : b ≤ 18446744073709551615) :
    Calls Tryd.prog 25 #[.int .i64 4, .int .u64 a, .int .u64 b, .int .i64 64] w fun e w' => e = .returned (RV true 0 (fl (cmpB true 4 a b))) ∧ Below w.heap.size w w' := by
  go_enter Tryd.func25, Tryd.ntmps25
  go_wp2_with (first | (go_at_call 15; refine (signed64 _ _ (by omega) (by omega)).mono ?_; rintro e w' ⟨rfl, rfl⟩))
  refine (bool_eq _ (cmpB true 4 a b) _ rfl).mono ?_
  rintro e w1 ⟨rfl, hb⟩
  obtain ⟨hc0, hc1, hc2, hf0, hf1, hf2, hb'⟩ := res_cells1 hb
  have HB := Hid.mk' hb'
  clear hb hb'
  go_wp2
  exact bodyPost_ret (v := RV true 0 (fl (cmpB true 4 a b))) (by simp [results, Tryd.results25, go_sem, hc0, hc1, hc2]) rfl ⟨rfl, below_set3 HB.out⟩
set_option maxHeartbeats 1000000 in
theorem scmp64_5 (a b : Int) (w : World) (ha0 : 0 ≤ a) (ha : a ≤ 18446744073709551615) (hb0 : 0 ≤ b) (hb : b ≤ 18446744073709551615) :
    Calls Tryd.prog 25 #[.int .i64 5, .int .u64 a, .int .u64 b, .int .i64 64] w fun e w' => e = .returned (RV true 0 (fl (cmpB true 5 a b))) ∧ Below w.heap.size w w' := by
  go_enter Tryd.func25, Tryd.ntmps25
  go_wp2_with (first | (go_at_call 15; refine (signed64 _ _ (by omega) (by omega)).mono ?_; rintro e w' ⟨rfl, rfl⟩))
  refine (bool_eq _ (cmpB true 5 a b) _ rfl).mono ?_
  rintro e w1 ⟨rfl, hb⟩
  obtain ⟨hc0, hc1, hc2, hf0, hf1, hf2, hb'⟩ := res_cells1 hb
  have HB := Hid.mk' hb'
  clear hb hb'
  go_wp2
  exact bodyPost_ret (v := RV true 0 (fl (cmpB true 5 a b))) (by simp [results, Tryd.results25, go_sem, hc0, hc1, hc2]) rfl ⟨rfl, below_set3 HB.out⟩
set_option maxHeartbeats 1000000 in
theorem scmp64_6 (a b : Int) (w : World) (ha0 : 0 ≤ a) (ha : a ≤ 18446744073709551615) (hb0 : 0 ≤ b) (hb : b ≤ 18446744073709551615) :
    Calls Tryd.prog 25 #[.int .i64 6, .int .u64 a, .int .u64 b, .int .i64 64] w fun e w' => e = .returned (RV true 0 (fl (cmpB true 6 a b))) ∧ Below w.heap.size w w' := by
  go_enter Tryd.func25, Tryd.ntmps25
  go_wp2_with (first | (go_at_call 15; refine (signed64 _ _ (by omega) (by omega)).mono ?_; rintro e w' ⟨rfl, rfl⟩))
  refine (bool_eq _ (cmpB true 6 a b) _ rfl).mono ?_
  rintro e w1 ⟨rfl, hb⟩
  obtain ⟨hc0, hc1, hc2, hf0, hf1, hf2, hb'⟩ := res_cells1 hb
  have HB := Hid.mk' hb'
  clear hb hb'
  go_wp2
  exact bodyPost_ret (v := RV true 0 (fl (cmpB true 6 a b))) (by simp [results, Tryd.results25, go_sem, hc0, hc1, hc2]) rfl ⟨rfl, below_set3 HB.out⟩
set_option maxHeartbeats 1000000 in
theorem scmp64_7 (a b : Int) (w : World) (ha0 : 0 ≤ a) (ha : a ≤ 18446744073709551615) (hb0 : 0 ≤ b) (hb : b ≤ 18446744073709551615) :
    Calls Tryd.prog 25 #[.int .i64 7, .int .u64 a, .int .u64 b, .int .i64 64] w fun e w' => e = .returned (RV true 0 (fl (cmpB true 7 a b))) ∧ Below w.heap.size w w' := by
  go_enter Tryd.func25, Tryd.ntmps25
  go_wp2_with (first | (go_at_call 15; refine (signed64 _ _ (by omega) (by omega)).mono ?_; rintro e w' ⟨rfl, rfl⟩))
  refine (bool_eq _ (cmpB true 7 a b) _ rfl).mono ?_
  rintro e w1 ⟨rfl, hb⟩
  obtain ⟨hc0, hc1, hc2, hf0, hf1, hf2, hb'⟩ := res_cells1 hb
  have HB := Hid.mk' hb'
  clear hb hb'
  go_wp2
  exact bodyPost_ret (v := RV true 0 (fl (cmpB true 7 a b))) (by simp [results, Tryd.results25, go_sem, hc0, hc1, hc2]) rfl ⟨rfl, below_set3 HB.out⟩
set_option maxHeartbeats 1000000 in
theorem scmp64_8 (a b : Int) (w : World) (ha0 : 0 ≤ a) (ha : a ≤ 18446744073709551615) (hb0 : 0 ≤ b) (hb : b ≤ 18446744073709551615) :
    Calls Tryd.prog 25 #[.int .i64 8, .int .u64 a, .int .u64 b, .int .i64 64] w fun e w' => e = .returned (RV true 0 (fl (cmpB true 8 a b))) ∧ Below w.heap.size w w' := by
  go_enter Tryd.func25, Tryd.ntmps25
  go_wp2_with (first | (go_at_call 15; refine (signed64 _ _ (by omega) (by omega)).mono ?_; rintro e w' ⟨rfl, rfl⟩))
  refine (bool_eq _ (cmpB true 8 a b) _ rfl).mono ?_
  rintro e w1 ⟨rfl, hb⟩
  obtain ⟨hc0, hc1, hc2, hf0, hf1, hf2, hb'⟩ := res_cells1 hb
  have HB := Hid.mk' hb'
  clear hb hb'
  go_wp2
  exact bodyPost_ret (v := RV true 0 (fl (cmpB true 8 a b))) (by simp [results, Tryd.results25, go_sem, hc0, hc1, hc2]) rfl ⟨rfl, below_set3 HB.out⟩
set_option maxHeartbeats 1000000 in
theorem scmp64_9 (a b : Int) (w : World) (ha0 : 0 ≤ a) (ha : a ≤ 18446744073709551615) (hb0 : 0 ≤ b) (hb : b ≤ 18446744073709551615) :
    Calls Tryd.prog 25 #[.int .i64 9, .int .u64 a, .int .u64 b, .int .i64 64] w fun e w' => e = .returned (RV true 0 (fl (cmpB true 9 a b))) ∧ Below w.heap.size w w' := by
  go_enter Tryd.func25, Tryd.ntmps25
  go_wp2_with (first | (go_at_call 15; refine (signed64 _ _ (by omega) (by omega)).mono ?_; rintro e w' ⟨rfl, rfl⟩))
  refine (bool_eq _ (cmpB true 9 a b) _ rfl).mono ?_
  rintro e w1 ⟨rfl, hb⟩
  obtain ⟨hc0, hc1, hc2, hf0, hf1, hf2, hb'⟩ := res_cells1 hb
  have HB := Hid.mk' hb'
  clear hb hb'
  go_wp2
  exact bodyPost_ret (v := RV true 0 (fl (cmpB true 9 a b))) (by simp [results, Tryd.results25, go_sem, hc0, hc1, hc2]) rfl ⟨rfl, below_set3 HB.out⟩
set_option maxHeartbeats 1000000 in
theorem scmp32_0 (a b : Int) (w : World) (ha0 : 0 ≤ a) (ha : a ≤ 4294967295) (hb0 : 0 ≤ b) (hb : b ≤ 4294967295) :
    Calls Tryd.prog 25 #[.int .i64 0, .int .u64 a, .int .u64 b, .int .i64 32] w fun e w' => e = .returned (RV true 0 (fl (cmpB false 0 a b))) ∧ Below w.heap.size w w' := by
  go_enter Tryd.func25, Tryd.ntmps25
  go_wp2_with (first | (go_at_call 15; refine (signed32 _ _ (by omega) (by omega)).mono ?_; rintro e w' ⟨rfl, rfl⟩))
  refine (bool_eq _ (cmpB false 0 a b) _ rfl).mono ?_
  rintro e w1 ⟨rfl, hb⟩
  obtain ⟨hc0, hc1, hc2, hf0, hf1, hf2, hb'⟩ := res_cells1 hb
  have HB := Hid.mk' hb'
  clear hb hb'
  go_wp2
  exact bodyPost_ret (v := RV true 0 (fl (cmpB false 0 a b))) (by simp [results, Tryd.results25, go_sem, hc0, hc1, hc2]) rfl ⟨rfl, below_set3 HB.out⟩
set_option maxHeartbeats 1000000 in
theorem scmp32_1 (a b : Int) (w : World) (ha0 : 0 ≤ a) (ha : a ≤ 4294967295) (hb0 : 0 ≤ b) (hb : b ≤ 4294967295) :
    Calls Tryd.prog 25 #[.int .i64 1, .int .u64 a, .int .u64 b, .int .i64 32] w fun e w' => e = .returned (RV true 0 (fl (cmpB false 1 a b))) ∧ Below w.heap.size w w' := by
  go_enter Tryd.func25, Tryd.ntmps25
  go_wp2_with (first | (go_at_call 15; refine (signed32 _ _ (by omega) (by omega)).mono ?_; rintro e w' ⟨rfl, rfl⟩))
  refine (bool_eq _ (cmpB false 1 a b) _ rfl).mono ?_
  rintro e w1 ⟨rfl, hb⟩
  obtain ⟨hc0, hc1, hc2, hf0, hf1, hf2, hb'⟩ := res_cells1 hb
  have HB := Hid.mk' hb'
  clear hb hb'
  go_wp2
  exact bodyPost_ret (v := RV true 0 (fl (cmpB false 1 a b))) (by simp [results, Tryd.results25, go_sem, hc0, hc1, hc2]) rfl ⟨rfl, below_set3 HB.out⟩
set_option maxHeartbeats 1000000 in
theorem scmp32_2 (a b : Int) (w : World) (ha0 : 0 ≤ a) (ha : a ≤ 4294967295) (hb0 : 0 ≤ b) (hb : b ≤ 4294967295) :
    Calls Tryd.prog 25 #[.int .i64 2, .int .u64 a, .int .u64 b, .int .i64 32] w fun e w' => e = .returned (RV true 0 (fl (cmpB false 2 a b))) ∧ Below w.heap.size w w' := by
  go_enter Tryd.func25, Tryd.ntmps25
  go_wp2_with (first | (go_at_call 15; refine (signed32 _ _ (by omega) (by omega)).mono ?_; rintro e w' ⟨rfl, rfl⟩))
  refine (bool_eq _ (cmpB false 2 a b) _ rfl).mono ?_
  rintro e w1 ⟨rfl, hb⟩
  obtain ⟨hc0, hc1, hc2, hf0, hf1, hf2, hb'⟩ := res_cells1 hb
  have HB := Hid.mk' hb'
  clear hb hb'
  go_wp2
  exact bodyPost_ret (v := RV true 0 (fl (cmpB false 2 a b))) (by simp [results, Tryd.results25, go_sem, hc0, hc1, hc2]) rfl ⟨rfl, below_set3 HB.out⟩
set_option maxHeartbeats 1000000 in
theorem scmp32_3 (a b : Int) (w : World) (ha0 : 0 ≤ a) (ha : a ≤ 4294967295) (hb0 : 0 ≤ b) (hb : b ≤ 4294967295) :
    Calls Tryd.prog 25 #[.int .i64 3, .int .u64 a, .int .u64 b, .int .i64 32] w fun e w' => e = .returned (RV true 0 (fl (cmpB false 3 a b))) ∧ Below w.heap.size w w' := by
  go_enter Tryd.func25, Tryd.ntmps25
  go_wp2_with (first | (go_at_call 15; refine (signed32 _ _ (by omega) (by omega)).mono ?_; rintro e w' ⟨rfl, rfl⟩))
  refine (bool_eq _ (cmpB false 3 a b) _ rfl).mono ?_
  rintro e w1 ⟨rfl, hb⟩
  obtain ⟨hc0, hc1, hc2, hf0, hf1, hf2, hb'⟩ := res_cells1 hb
  have HB := Hid.mk' hb'
  clear hb hb'
  go_wp2
  exact bodyPost_ret (v := RV true 0 (fl (cmpB false 3 a b))) (by simp [results, Tryd.results25, go_sem, hc0, hc1, hc2]) rfl ⟨rfl, below_set3 HB.out⟩
set_option maxHeartbeats 1000000 in
theorem scmp32_4 (a b : Int) (w : World) (ha0 : 0 ≤ a) (ha : a ≤ 4294967295) (hb0 : 0 ≤ b) (hb : b ≤ 4294967295) :
    Calls Tryd.prog 25 #[.int .i64 4, .int .u64 a, .int .u64 b, .int .i64 32] w fun e w' => e = .returned (RV true 0 (fl (cmpB false 4 a b))) ∧ Below w.heap.size w w' := by
  go_enter Tryd.func25, Tryd.ntmps25
  go_wp2_with (first | (go_at_call 15; refine (signed32 _ _ (by omega) (by omega)).mono ?_; rintro e w' ⟨rfl, rfl⟩))
  refine (bool_eq _ (cmpB false 4 a b) _ rfl).mono ?_
  rintro e w1 ⟨rfl, hb⟩
  obtain ⟨hc0, hc1, hc2, hf0, hf1, hf2, hb'⟩ := res_cells1 hb
  have HB := Hid.mk' hb'
  clear hb hb'
  go_wp2
  exact bodyPost_ret (v := RV true 0 (fl (cmpB false 4 a b))) (by simp [results, Tryd.results25, go_sem, hc0, hc1, hc2]) rfl ⟨rfl, below_set3 HB.out⟩
set_option maxHeartbeats 1000000 in
theorem scmp32_5 (a b : Int) (w : World) (ha0 : 0 ≤ a) (ha : a ≤ 4294967295) (hb0 : 0 ≤ b) (hb : b ≤ 4294967295) :
    Calls Tryd.prog 25 #[.int .i64 5, .int .u64 a, .int .u64 b, .int .i64 32] w fun e w' => e = .returned (RV true 0 (fl (cmpB false 5 a b))) ∧ Below w.heap.size w w' := by
  go_enter Tryd.func25, Tryd.ntmps25
  go_wp2_with (first | (go_at_call 15; refine (signed32 _ _ (by omega) (by omega)).mono ?_; rintro e w' ⟨rfl, rfl⟩))
  refine (bool_eq _ (cmpB false 5 a b) _ rfl).mono ?_
  rintro e w1 ⟨rfl, hb⟩
  obtain ⟨hc0, hc1, hc2, hf0, hf1, hf2, hb'⟩ := res_cells1 hb
  have HB := Hid.mk' hb'
  clear hb hb'
  go_wp2
  exact bodyPost_ret (v := RV true 0 (fl (cmpB false 5 a b))) (by simp [results, Tryd.results25, go_sem, hc0, hc1, hc2]) rfl ⟨rfl, below_set3 HB.out⟩
set_option maxHeartbeats 1000000 in
theorem scmp32_6 (a b : Int) (w : World) (ha0 : 0 ≤ a) (ha : a ≤ 4294967295) (hb0 : 0 ≤ b) (hb : b ≤ 4294967295) :
    Calls Tryd.prog 25 #[.int .i64 6, .int .u64 a, .int .u64 b, .int .i64 32] w fun e w' => e = .returned (RV true 0 (fl (cmpB false 6 a b))) ∧ Below w.heap.size w w' := by
  go_enter Tryd.func25, Tryd.ntmps25
  go_wp2_with (first | (go_at_call 15; refine (signed32 _ _ (by omega) (by omega)).mono ?_; rintro e w' ⟨rfl, rfl⟩))
  refine (bool_eq _ (cmpB false 6 a b) _ rfl).mono ?_
  rintro e w1 ⟨rfl, hb⟩
  obtain ⟨hc0, hc1, hc2, hf0, hf1, hf2, hb'⟩ := res_cells1 hb
  have HB := Hid.mk' hb'
  clear hb hb'
  go_wp2
  exact bodyPost_ret (v := RV true 0 (fl (cmpB false 6 a b))) (by simp [results, Tryd.results25, go_sem, hc0, hc1, hc2]) rfl ⟨rfl, below_set3 HB.out⟩
set_option maxHeartbeats 1000000 in
theorem scmp32_7 (a b : Int) (w : World) (ha0 : 0 ≤ a) (ha : a ≤ 4294967295) (hb0 : 0 ≤ b) (hb : b ≤ 4294967295) :
    Calls Tryd.prog 25 #[.int .i64 7, .int .u64 a, .int .u64 b, .int .i64 32] w fun e w' => e = .returned (RV true 0 (fl (cmpB false 7 a b))) ∧ Below w.heap.size w w' := by
  go_enter Tryd.func25, Tryd.ntmps25
  go_wp2_with (first | (go_at_call 15; refine (signed32 _ _ (by omega) (by omega)).mono ?_; rintro e w' ⟨rfl, rfl⟩))
  refine (bool_eq _ (cmpB false 7 a b) _ rfl).mono ?_
  rintro e w1 ⟨rfl, hb⟩
  obtain ⟨hc0, hc1, hc2, hf0, hf1, hf2, hb'⟩ := res_cells1 hb
  have HB := Hid.mk' hb'
  clear hb hb'
  go_wp2
  exact bodyPost_ret (v := RV true 0 (fl (cmpB false 7 a b))) (by simp [results, Tryd.results25, go_sem, hc0, hc1, hc2]) rfl ⟨rfl, below_set3 HB.out⟩
set_option maxHeartbeats 1000000 in
theorem scmp32_8 (a b : Int) (w : World) (ha0 : 0 ≤ a) (ha : a ≤ 4294967295) (hb0 : 0 ≤ b) (hb : b ≤ 4294967295) :
    Calls Tryd.prog 25 #[.int .i64 8, .int .u64 a, .int .u64 b, .int .i64 32] w fun e w' => e = .returned (RV true 0 (fl (cmpB false 8 a b))) ∧ Below w.heap.size w w' := by
  go_enter Tryd.func25, Tryd.ntmps25
  go_wp2_with (first | (go_at_call 15; refine (signed32 _ _ (by omega) (by omega)).mono ?_; rintro e w' ⟨rfl, rfl⟩))
  refine (bool_eq _ (cmpB false 8 a b) _ rfl).mono ?_
  rintro e w1 ⟨rfl, hb⟩
  obtain ⟨hc0, hc1, hc2, hf0, hf1, hf2, hb'⟩ := res_cells1 hb
  have HB := Hid.mk' hb'
  clear hb hb'
  go_wp2
  exact bodyPost_ret (v := RV true 0 (fl (cmpB false 8 a b))) (by simp [results, Tryd.results25, go_sem, hc0, hc1, hc2]) rfl ⟨rfl, below_set3 HB.out⟩
set_option maxHeartbeats 1000000 in
theorem scmp32_9 (a b : Int) (w : World) (ha0 : 0 ≤ a) (ha : a ≤ 4294967295) (hb0 : 0 ≤ b) (hb : b ≤ 4294967295) :
    Calls Tryd.prog 25 #[.int .i64 9, .int .u64 a, .int .u64 b, .int .i64 32] w fun e w' => e = .returned (RV true 0 (fl (cmpB false 9 a b))) ∧ Below w.heap.size w w' := by
  go_enter Tryd.func25, Tryd.ntmps25
  go_wp2_with (first | (go_at_call 15; refine (signed32 _ _ (by omega) (by omega)).mono ?_; rintro e w' ⟨rfl, rfl⟩))
  refine (bool_eq _ (cmpB false 9 a b) _ rfl).mono ?_
  rintro e w1 ⟨rfl, hb⟩
  obtain ⟨hc0, hc1, hc2, hf0, hf1, hf2, hb'⟩ := res_cells1 hb
  have HB := Hid.mk' hb'
  clear hb hb'
  go_wp2
  exact bodyPost_ret (v := RV true 0 (fl (cmpB false 9 a b))) (by simp [results, Tryd.results25, go_sem, hc0, hc1, hc2]) rfl ⟨rfl, below_set3 HB.out⟩
end Go.Proofs.YtjiaainhieeepaaDoor
