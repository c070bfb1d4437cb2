import Derived.Test.YtjiaainhieeepaaDoorSpec1
import Derived.Laws.BitsAllLaws
set_option linter.unusedVariables false
namespace Go.Proofs.YtjiaainhieeepaaDoor
open Go.RowKit
set_option maxHeartbeats 1000000 in
theorem sdiv64_0z (a b : Int) (w : World) (ha0 : 0 ≤ a) (ha : a ≤ 18446744073709551615) (hb0 : 0 ≤ b) (hb : b ≤ 18446744073709551615) (hz : b = 0) :
    Calls Tryd.prog 78 #[.int .i64 0, .int .u64 a, .int .u64 b, .int .i64 64] w fun e w' => e = .returned (RV true (binR true 3 a b).1 (binR true 3 a b).2) ∧ Below w.heap.size w w' := by
  have e : binR true 3 a b = (2, 0) := by subst hz; rfl
  rw [e]
  clear e
  subst hz
  go_enter Tryd.func78, Tryd.ntmps78
  go_wp2_with fail
  refine (trap_any _ _).mono ?_
  rintro e w1 ⟨rfl, hb⟩
  obtain ⟨hc0, hc1, hc2, hf0, hf1, hf2, hb'⟩ := res_cells1 hb
  have HB := Hid.mk' hb'
  clear hb hb'
  go_wp2
  exact bodyPost_ret (v := RV true 2 0) (by simp [results, Tryd.results78, go_sem, hc0, hc1, hc2]) rfl ⟨rfl, below_set3 HB.out⟩
set_option maxHeartbeats 1000000 in
theorem sdiv64_1z (a b : Int) (w : World) (ha0 : 0 ≤ a) (ha : a ≤ 18446744073709551615) (hb0 : 0 ≤ b) (hb : b ≤ 18446744073709551615) (hz : b = 0) :
    Calls Tryd.prog 78 #[.int .i64 1, .int .u64 a, .int .u64 b, .int .i64 64] w fun e w' => e = .returned (RV true (binR true 4 a b).1 (binR true 4 a b).2) ∧ Below w.heap.size w w' := by
  have e : binR true 4 a b = (2, 0) := by subst hz; rfl
  rw [e]
  clear e
  subst hz
  go_enter Tryd.func78, Tryd.ntmps78
  go_wp2_with fail
  refine (trap_any _ _).mono ?_
  rintro e w1 ⟨rfl, hb⟩
  obtain ⟨hc0, hc1, hc2, hf0, hf1, hf2, hb'⟩ := res_cells1 hb
  have HB := Hid.mk' hb'
  clear hb hb'
  go_wp2
  exact bodyPost_ret (v := RV true 2 0) (by simp [results, Tryd.results78, go_sem, hc0, hc1, hc2]) rfl ⟨rfl, below_set3 HB.out⟩
set_option maxHeartbeats 1000000 in
theorem sdiv64_2z (a b : Int) (w : World) (ha0 : 0 ≤ a) (ha : a ≤ 18446744073709551615) (hb0 : 0 ≤ b) (hb : b ≤ 18446744073709551615) (hz : b = 0) :
    Calls Tryd.prog 78 #[.int .i64 2, .int .u64 a, .int .u64 b, .int .i64 64] w fun e w' => e = .returned (RV true (binR true 5 a b).1 (binR true 5 a b).2) ∧ Below w.heap.size w w' := by
  have e : binR true 5 a b = (2, 0) := by subst hz; rfl
  rw [e]
  clear e
  subst hz
  go_enter Tryd.func78, Tryd.ntmps78
  go_wp2_with fail
  refine (trap_any _ _).mono ?_
  rintro e w1 ⟨rfl, hb⟩
  obtain ⟨hc0, hc1, hc2, hf0, hf1, hf2, hb'⟩ := res_cells1 hb
  have HB := Hid.mk' hb'
  clear hb hb'
  go_wp2
  exact bodyPost_ret (v := RV true 2 0) (by simp [results, Tryd.results78, go_sem, hc0, hc1, hc2]) rfl ⟨rfl, below_set3 HB.out⟩
set_option maxHeartbeats 1000000 in
theorem sdiv64_3z (a b : Int) (w : World) (ha0 : 0 ≤ a) (ha : a ≤ 18446744073709551615) (hb0 : 0 ≤ b) (hb : b ≤ 18446744073709551615) (hz : b = 0) :
    Calls Tryd.prog 78 #[.int .i64 3, .int .u64 a, .int .u64 b, .int .i64 64] w fun e w' => e = .returned (RV true (binR true 6 a b).1 (binR true 6 a b).2) ∧ Below w.heap.size w w' := by
  have e : binR true 6 a b = (2, 0) := by subst hz; rfl
  rw [e]
  clear e
  subst hz
  go_enter Tryd.func78, Tryd.ntmps78
  go_wp2_with fail
  refine (trap_any _ _).mono ?_
  rintro e w1 ⟨rfl, hb⟩
  obtain ⟨hc0, hc1, hc2, hf0, hf1, hf2, hb'⟩ := res_cells1 hb
  have HB := Hid.mk' hb'
  clear hb hb'
  go_wp2
  exact bodyPost_ret (v := RV true 2 0) (by simp [results, Tryd.results78, go_sem, hc0, hc1, hc2]) rfl ⟨rfl, below_set3 HB.out⟩
set_option maxHeartbeats 1000000 in
theorem sdiv64_1a (a b : Int) (w : World) (ha0 : 0 ≤ a) (ha : a ≤ 18446744073709551615) (hb0 : 0 ≤ b) (hb : b ≤ 18446744073709551615) (hz : ¬ b = 0) (hy : ¬ wrap64 b = -1) :
    Calls Tryd.prog 78 #[.int .i64 1, .int .u64 a, .int .u64 b, .int .i64 64] w fun e w' => e = .returned (RV true (binR true 4 a b).1 (binR true 4 a b).2) ∧ Below w.heap.size w w' := by
  have e : binR true 4 a b = (0, a / b) := if_neg hz
  rw [e]
  clear e
  have hz1 : (b == 0) = false := beq_eq_false_iff_ne.2 hz
  have hy1 : (wrap64 b == -1) = false := beq_eq_false_iff_ne.2 hy
  go_enter Tryd.func78, Tryd.ntmps78
  go_wp2_with (first | (go_at_call 15; refine (signed64 _ _ (by omega) (by omega)).mono ?_; rintro e w' ⟨rfl, rfl⟩) | (go_at_call 27; refine (pow_any _ _ (by omega) (by omega)).mono ?_; rintro e w' ⟨rfl, rfl⟩))
  refine (val_eq _ (a / b) _ rfl).mono ?_
  rintro e w1 ⟨rfl, hb⟩
  obtain ⟨hc0, hc1, hc2, hf0, hf1, hf2, hb'⟩ := res_cells1 hb
  have HB := Hid.mk' hb'
  clear hb hb'
  go_wp2
  exact bodyPost_ret (v := RV true 0 (a / b)) (by simp [results, Tryd.results78, go_sem, hc0, hc1, hc2]) rfl ⟨rfl, below_set3 HB.out⟩
set_option maxHeartbeats 1000000 in
theorem sdiv64_1b (a b : Int) (w : World) (ha0 : 0 ≤ a) (ha : a ≤ 18446744073709551615) (hb0 : 0 ≤ b) (hb : b ≤ 18446744073709551615) (hz : ¬ b = 0) (hy : wrap64 b = -1) :
    Calls Tryd.prog 78 #[.int .i64 1, .int .u64 a, .int .u64 b, .int .i64 64] w fun e w' => e = .returned (RV true (binR true 4 a b).1 (binR true 4 a b).2) ∧ Below w.heap.size w w' := by
  have e : binR true 4 a b = (0, a / b) := if_neg hz
  rw [e]
  clear e
  have hz1 : (b == 0) = false := beq_eq_false_iff_ne.2 hz
  have hp : P2 63 = 9223372036854775808 := by decide
  have hy1 : (wrap64 b == -1) = true := by rw [hy]; rfl
  go_enter Tryd.func78, Tryd.ntmps78
  go_wp2_with (first | (go_at_call 15; refine (signed64 _ _ (by omega) (by omega)).mono ?_; rintro e w' ⟨rfl, rfl⟩) | (go_at_call 27; refine (pow_any _ _ (by omega) (by omega)).mono ?_; rintro e w' ⟨rfl, rfl⟩))
  refine (val_eq _ (a / b) _ rfl).mono ?_
  rintro e w1 ⟨rfl, hb⟩
  obtain ⟨hc0, hc1, hc2, hf0, hf1, hf2, hb'⟩ := res_cells1 hb
  have HB := Hid.mk' hb'
  clear hb hb'
  go_wp2
  exact bodyPost_ret (v := RV true 0 (a / b)) (by simp [results, Tryd.results78, go_sem, hc0, hc1, hc2]) rfl ⟨rfl, below_set3 HB.out⟩
set_option maxHeartbeats 1000000 in
theorem sdiv64_3a (a b : Int) (w : World) (ha0 : 0 ≤ a) (ha : a ≤ 18446744073709551615) (hb0 : 0 ≤ b) (hb : b ≤ 18446744073709551615) (hz : ¬ b = 0) (hy : ¬ wrap64 b = -1) :
    Calls Tryd.prog 78 #[.int .i64 3, .int .u64 a, .int .u64 b, .int .i64 64] w fun e w' => e = .returned (RV true (binR true 6 a b).1 (binR true 6 a b).2) ∧ Below w.heap.size w w' := by
  have e : binR true 6 a b = (0, a % b) := if_neg hz
  rw [e]
  clear e
  have hz1 : (b == 0) = false := beq_eq_false_iff_ne.2 hz
  have hy1 : (wrap64 b == -1) = false := beq_eq_false_iff_ne.2 hy
  go_enter Tryd.func78, Tryd.ntmps78
  go_wp2_with (first | (go_at_call 15; refine (signed64 _ _ (by omega) (by omega)).mono ?_; rintro e w' ⟨rfl, rfl⟩) | (go_at_call 27; refine (pow_any _ _ (by omega) (by omega)).mono ?_; rintro e w' ⟨rfl, rfl⟩))
  refine (val_eq _ (a % b) _ rfl).mono ?_
  rintro e w1 ⟨rfl, hb⟩
  obtain ⟨hc0, hc1, hc2, hf0, hf1, hf2, hb'⟩ := res_cells1 hb
  have HB := Hid.mk' hb'
  clear hb hb'
  go_wp2
  exact bodyPost_ret (v := RV true 0 (a % b)) (by simp [results, Tryd.results78, go_sem, hc0, hc1, hc2]) rfl ⟨rfl, below_set3 HB.out⟩
set_option maxHeartbeats 1000000 in
theorem sdiv64_3b (a b : Int) (w : World) (ha0 : 0 ≤ a) (ha : a ≤ 18446744073709551615) (hb0 : 0 ≤ b) (hb : b ≤ 18446744073709551615) (hz : ¬ b = 0) (hy : wrap64 b = -1) :
    Calls Tryd.prog 78 #[.int .i64 3, .int .u64 a, .int .u64 b, .int .i64 64] w fun e w' => e = .returned (RV true (binR true 6 a b).1 (binR true 6 a b).2) ∧ Below w.heap.size w w' := by
  have e : binR true 6 a b = (0, a % b) := if_neg hz
  rw [e]
  clear e
  have hz1 : (b == 0) = false := beq_eq_false_iff_ne.2 hz
  have hp : P2 63 = 9223372036854775808 := by decide
  have hy1 : (wrap64 b == -1) = true := by rw [hy]; rfl
  go_enter Tryd.func78, Tryd.ntmps78
  go_wp2_with (first | (go_at_call 15; refine (signed64 _ _ (by omega) (by omega)).mono ?_; rintro e w' ⟨rfl, rfl⟩) | (go_at_call 27; refine (pow_any _ _ (by omega) (by omega)).mono ?_; rintro e w' ⟨rfl, rfl⟩))
  refine (val_eq _ (a % b) _ rfl).mono ?_
  rintro e w1 ⟨rfl, hb⟩
  obtain ⟨hc0, hc1, hc2, hf0, hf1, hf2, hb'⟩ := res_cells1 hb
  have HB := Hid.mk' hb'
  clear hb hb'
  go_wp2
  exact bodyPost_ret (v := RV true 0 (a % b)) (by simp [results, Tryd.results78, go_sem, hc0, hc1, hc2]) rfl ⟨rfl, below_set3 HB.out⟩
set_option maxHeartbeats 1000000 in
theorem sdiv64_0a (a b : Int) (w : World) (ha0 : 0 ≤ a) (ha : a ≤ 18446744073709551615) (hb0 : 0 ≤ b) (hb : b ≤ 18446744073709551615) (hz : ¬ b = 0) (hy : ¬ wrap64 b = -1) :
    Calls Tryd.prog 78 #[.int .i64 0, .int .u64 a, .int .u64 b, .int .i64 64] w fun e w' => e = .returned (RV true (binR true 3 a b).1 (binR true 3 a b).2) ∧ Below w.heap.size w w' := by
  have e : binR true 3 a b = (0, (wrap64 a).tdiv (wrap64 b) % 18446744073709551616) := by simp only [binR]; rw [if_neg hz, if_neg (by simp only [hf, Mo]; simp only [wrap64] at hy; simp; omega)]; rfl
  rw [e]
  clear e
  have hz1 : (b == 0) = false := beq_eq_false_iff_ne.2 hz
  have hz2 : ¬ wrap64 b = 0 := by simp only [wrap64]; omega
  have hz3 : (wrap64 b == 0) = false := beq_eq_false_iff_ne.2 hz2
  have hy1 : (wrap64 b == -1) = false := beq_eq_false_iff_ne.2 hy
  go_enter Tryd.func78, Tryd.ntmps78
  go_wp2_with (first | (go_at_call 15; refine (signed64 _ _ (by omega) (by omega)).mono ?_; rintro e w' ⟨rfl, rfl⟩) | (go_at_call 27; refine (pow_any _ _ (by omega) (by omega)).mono ?_; rintro e w' ⟨rfl, rfl⟩) | (go_at_call 11; refine (low64 _ _).mono ?_; rintro e w' ⟨rfl, rfl⟩))
  refine (val_eq _ ((wrap64 a).tdiv (wrap64 b) % 18446744073709551616) _ ?heq).mono ?_
  case heq => simp only [IntKind.wrap_u64, wrap64]; omega
  rintro e w1 ⟨rfl, hb⟩
  obtain ⟨hc0, hc1, hc2, hf0, hf1, hf2, hb'⟩ := res_cells1 hb
  have HB := Hid.mk' hb'
  clear hb hb'
  go_wp2
  exact bodyPost_ret (v := RV true 0 ((wrap64 a).tdiv (wrap64 b) % 18446744073709551616)) (by simp [results, Tryd.results78, go_sem, hc0, hc1, hc2]) rfl ⟨rfl, below_set3 HB.out⟩
set_option maxHeartbeats 1000000 in
theorem sdiv64_0b (a b : Int) (w : World) (ha0 : 0 ≤ a) (ha : a ≤ 18446744073709551615) (hb0 : 0 ≤ b) (hb : b ≤ 18446744073709551615) (hz : ¬ b = 0) (hy : wrap64 b = -1) (hm : ¬ a = 9223372036854775808) :
    Calls Tryd.prog 78 #[.int .i64 0, .int .u64 a, .int .u64 b, .int .i64 64] w fun e w' => e = .returned (RV true (binR true 3 a b).1 (binR true 3 a b).2) ∧ Below w.heap.size w w' := by
  have e : binR true 3 a b = (0, (wrap64 a).tdiv (wrap64 b) % 18446744073709551616) := by simp only [binR]; rw [if_neg hz, if_neg (by simp only [hf, Mo]; simp; omega)]; rfl
  rw [e]
  clear e
  have hp : P2 63 = 9223372036854775808 := by decide
  have hz1 : (b == 0) = false := beq_eq_false_iff_ne.2 hz
  have hz2 : ¬ wrap64 b = 0 := by simp only [wrap64]; omega
  have hz3 : (wrap64 b == 0) = false := beq_eq_false_iff_ne.2 hz2
  have hy1 : (wrap64 b == -1) = true := by rw [hy]; rfl
  have hm1 : (a == 9223372036854775808) = false := beq_eq_false_iff_ne.2 hm
  have Hy := Hid.mk' hy
  clear hy
  go_enter Tryd.func78, Tryd.ntmps78
  go_wp2_with (first | (go_at_call 15; refine (signed64 _ _ (by omega) (by omega)).mono ?_; rintro e w' ⟨rfl, rfl⟩) | (go_at_call 27; refine (pow_any _ _ (by omega) (by omega)).mono ?_; rintro e w' ⟨rfl, rfl⟩) | (go_at_call 11; refine (low64 _ _).mono ?_; rintro e w' ⟨rfl, rfl⟩))
  refine (val_eq _ ((wrap64 a).tdiv (wrap64 b) % 18446744073709551616) _ ?heq).mono ?_
  case heq => simp only [IntKind.wrap_u64, wrap64]; omega
  rintro e w1 ⟨rfl, hb⟩
  obtain ⟨hc0, hc1, hc2, hf0, hf1, hf2, hb'⟩ := res_cells1 hb
  have HB := Hid.mk' hb'
  clear hb hb'
  go_wp2
  exact bodyPost_ret (v := RV true 0 ((wrap64 a).tdiv (wrap64 b) % 18446744073709551616)) (by simp [results, Tryd.results78, go_sem, hc0, hc1, hc2]) rfl ⟨rfl, below_set3 HB.out⟩
set_option maxHeartbeats 1000000 in
theorem sdiv64_2a (a b : Int) (w : World) (ha0 : 0 ≤ a) (ha : a ≤ 18446744073709551615) (hb0 : 0 ≤ b) (hb : b ≤ 18446744073709551615) (hz : ¬ b = 0) (hy : ¬ wrap64 b = -1) :
    Calls Tryd.prog 78 #[.int .i64 2, .int .u64 a, .int .u64 b, .int .i64 64] w fun e w' => e = .returned (RV true (binR true 5 a b).1 (binR true 5 a b).2) ∧ Below w.heap.size w w' := by
  have e : binR true 5 a b = (0, (wrap64 a).tmod (wrap64 b) % 18446744073709551616) := if_neg hz
  rw [e]
  clear e
  have hz1 : (b == 0) = false := beq_eq_false_iff_ne.2 hz
  have hz2 : ¬ wrap64 b = 0 := by simp only [wrap64]; omega
  have hz3 : (wrap64 b == 0) = false := beq_eq_false_iff_ne.2 hz2
  have hy1 : (wrap64 b == -1) = false := beq_eq_false_iff_ne.2 hy
  go_enter Tryd.func78, Tryd.ntmps78
  go_wp2_with (first | (go_at_call 15; refine (signed64 _ _ (by omega) (by omega)).mono ?_; rintro e w' ⟨rfl, rfl⟩) | (go_at_call 27; refine (pow_any _ _ (by omega) (by omega)).mono ?_; rintro e w' ⟨rfl, rfl⟩) | (go_at_call 11; refine (low64 _ _).mono ?_; rintro e w' ⟨rfl, rfl⟩))
  refine (val_eq _ ((wrap64 a).tmod (wrap64 b) % 18446744073709551616) _ ?heq).mono ?_
  case heq => first | (simp only [IntKind.wrap_u64]; done) | (simp only [IntKind.wrap_u64]; omega)
  rintro e w1 ⟨rfl, hb⟩
  obtain ⟨hc0, hc1, hc2, hf0, hf1, hf2, hb'⟩ := res_cells1 hb
  have HB := Hid.mk' hb'
  clear hb hb'
  go_wp2
  exact bodyPost_ret (v := RV true 0 ((wrap64 a).tmod (wrap64 b) % 18446744073709551616)) (by simp [results, Tryd.results78, go_sem, hc0, hc1, hc2]) rfl ⟨rfl, below_set3 HB.out⟩
set_option maxHeartbeats 1000000 in
theorem sdiv64_2b (a b : Int) (w : World) (ha0 : 0 ≤ a) (ha : a ≤ 18446744073709551615) (hb0 : 0 ≤ b) (hb : b ≤ 18446744073709551615) (hz : ¬ b = 0) (hy : wrap64 b = -1) (hm : ¬ a = 9223372036854775808) :
    Calls Tryd.prog 78 #[.int .i64 2, .int .u64 a, .int .u64 b, .int .i64 64] w fun e w' => e = .returned (RV true (binR true 5 a b).1 (binR true 5 a b).2) ∧ Below w.heap.size w w' := by
  have e : binR true 5 a b = (0, (wrap64 a).tmod (wrap64 b) % 18446744073709551616) := if_neg hz
  rw [e]
  clear e
  have hp : P2 63 = 9223372036854775808 := by decide
  have hz1 : (b == 0) = false := beq_eq_false_iff_ne.2 hz
  have hz2 : ¬ wrap64 b = 0 := by simp only [wrap64]; omega
  have hz3 : (wrap64 b == 0) = false := beq_eq_false_iff_ne.2 hz2
  have hy1 : (wrap64 b == -1) = true := by rw [hy]; rfl
  have hm1 : (a == 9223372036854775808) = false := beq_eq_false_iff_ne.2 hm
  have Hy := Hid.mk' hy
  clear hy
  go_enter Tryd.func78, Tryd.ntmps78
  go_wp2_with (first | (go_at_call 15; refine (signed64 _ _ (by omega) (by omega)).mono ?_; rintro e w' ⟨rfl, rfl⟩) | (go_at_call 27; refine (pow_any _ _ (by omega) (by omega)).mono ?_; rintro e w' ⟨rfl, rfl⟩) | (go_at_call 11; refine (low64 _ _).mono ?_; rintro e w' ⟨rfl, rfl⟩))
  refine (val_eq _ ((wrap64 a).tmod (wrap64 b) % 18446744073709551616) _ ?heq).mono ?_
  case heq => first | (simp only [IntKind.wrap_u64]; done) | (simp only [IntKind.wrap_u64]; omega)
  rintro e w1 ⟨rfl, hb⟩
  obtain ⟨hc0, hc1, hc2, hf0, hf1, hf2, hb'⟩ := res_cells1 hb
  have HB := Hid.mk' hb'
  clear hb hb'
  go_wp2
  exact bodyPost_ret (v := RV true 0 ((wrap64 a).tmod (wrap64 b) % 18446744073709551616)) (by simp [results, Tryd.results78, go_sem, hc0, hc1, hc2]) rfl ⟨rfl, below_set3 HB.out⟩
set_option maxHeartbeats 1000000 in
theorem sdiv64_0c (a b : Int) (w : World) (ha0 : 0 ≤ a) (ha : a ≤ 18446744073709551615) (hb0 : 0 ≤ b) (hb : b ≤ 18446744073709551615) (hz : ¬ b = 0) (hy : wrap64 b = -1) (hm : a = 9223372036854775808) :
    Calls Tryd.prog 78 #[.int .i64 0, .int .u64 a, .int .u64 b, .int .i64 64] w fun e w' => e = .returned (RV true (binR true 3 a b).1 (binR true 3 a b).2) ∧ Below w.heap.size w w' := by
  have e : binR true 3 a b = (3, 0) := by simp only [binR]; rw [if_neg hz, if_pos (by subst hm; simp only [hf, Mo]; simp only [wrap64] at hy; simp; omega)]
  rw [e]
  clear e
  have hp : P2 63 = 9223372036854775808 := by decide
  have hz1 : (b == 0) = false := beq_eq_false_iff_ne.2 hz
  subst hm
  go_enter Tryd.func78, Tryd.ntmps78
  go_wp2_with (first | (go_at_call 15; refine (signed64 _ _ (by omega) (by omega)).mono ?_; rintro e w' ⟨rfl, rfl⟩) | (go_at_call 27; refine (pow_any _ _ (by omega) (by omega)).mono ?_; rintro e w' ⟨rfl, rfl⟩) | (go_at_call 11; refine (low64 _ _).mono ?_; rintro e w' ⟨rfl, rfl⟩))
  refine (trap_any _ _).mono ?_
  rintro e w1 ⟨rfl, hb⟩
  obtain ⟨hc0, hc1, hc2, hf0, hf1, hf2, hb'⟩ := res_cells1 hb
  have HB := Hid.mk' hb'
  clear hb hb'
  go_wp2
  exact bodyPost_ret (v := RV true 3 0) (by simp [results, Tryd.results78, go_sem, hc0, hc1, hc2]) rfl ⟨rfl, below_set3 HB.out⟩
set_option maxHeartbeats 1000000 in
theorem sdiv64_2c (a b : Int) (w : World) (ha0 : 0 ≤ a) (ha : a ≤ 18446744073709551615) (hb0 : 0 ≤ b) (hb : b ≤ 18446744073709551615) (hz : ¬ b = 0) (hy : wrap64 b = -1) (hm : a = 9223372036854775808) :
    Calls Tryd.prog 78 #[.int .i64 2, .int .u64 a, .int .u64 b, .int .i64 64] w fun e w' => e = .returned (RV true (binR true 5 a b).1 (binR true 5 a b).2) ∧ Below w.heap.size w w' := by
  have e : binR true 5 a b = (0, 0) := by simp only [binR]; rw [if_neg hz]; subst hm; simp only [sg, Mo]; simp [hy, wrap64]
  rw [e]
  clear e
  have hp : P2 63 = 9223372036854775808 := by decide
  have hz1 : (b == 0) = false := beq_eq_false_iff_ne.2 hz
  subst hm
  go_enter Tryd.func78, Tryd.ntmps78
  go_wp2_with (first | (go_at_call 15; refine (signed64 _ _ (by omega) (by omega)).mono ?_; rintro e w' ⟨rfl, rfl⟩) | (go_at_call 27; refine (pow_any _ _ (by omega) (by omega)).mono ?_; rintro e w' ⟨rfl, rfl⟩) | (go_at_call 11; refine (low64 _ _).mono ?_; rintro e w' ⟨rfl, rfl⟩))
  refine (val_eq _ 0 _ rfl).mono ?_
  rintro e w1 ⟨rfl, hb⟩
  obtain ⟨hc0, hc1, hc2, hf0, hf1, hf2, hb'⟩ := res_cells1 hb
  have HB := Hid.mk' hb'
  clear hb hb'
  go_wp2
  exact bodyPost_ret (v := RV true 0 0) (by simp [results, Tryd.results78, go_sem, hc0, hc1, hc2]) rfl ⟨rfl, below_set3 HB.out⟩
theorem sdiv64_0 (a b : Int) (w : World) (ha0 : 0 ≤ a) (ha : a ≤ 18446744073709551615) (hb0 : 0 ≤ b) (hb : b ≤ 18446744073709551615) :
    Calls Tryd.prog 78 #[.int .i64 0, .int .u64 a, .int .u64 b, .int .i64 64] w fun e w' => e = .returned (RV true (binR true 3 a b).1 (binR true 3 a b).2) ∧ Below w.heap.size w w' := by
  by_cases hz : b = 0
  · exact sdiv64_0z a b w ha0 ha hb0 hb hz
  · by_cases hy : wrap64 b = -1
    · by_cases hm : a = 9223372036854775808
      · exact sdiv64_0c a b w ha0 ha hb0 hb hz hy hm
      · exact sdiv64_0b a b w ha0 ha hb0 hb hz hy hm
    · exact sdiv64_0a a b w ha0 ha hb0 hb hz hy
theorem sdiv64_1 (a b : Int) (w : World) (ha0 : 0 ≤ a) (ha : a ≤ 18446744073709551615) (hb0 : 0 ≤ b) (hb : b ≤ 18446744073709551615) :
    Calls Tryd.prog 78 #[.int .i64 1, .int .u64 a, .int .u64 b, .int .i64 64] w fun e w' => e = .returned (RV true (binR true 4 a b).1 (binR true 4 a b).2) ∧ Below w.heap.size w w' := by
  by_cases hz : b = 0
  · exact sdiv64_1z a b w ha0 ha hb0 hb hz
  · by_cases hy : wrap64 b = -1
    · exact sdiv64_1b a b w ha0 ha hb0 hb hz hy
    · exact sdiv64_1a a b w ha0 ha hb0 hb hz hy
theorem sdiv64_2 (a b : Int) (w : World) (ha0 : 0 ≤ a) (ha : a ≤ 18446744073709551615) (hb0 : 0 ≤ b) (hb : b ≤ 18446744073709551615) :
    Calls Tryd.prog 78 #[.int .i64 2, .int .u64 a, .int .u64 b, .int .i64 64] w fun e w' => e = .returned (RV true (binR true 5 a b).1 (binR true 5 a b).2) ∧ Below w.heap.size w w' := by
  by_cases hz : b = 0
  · exact sdiv64_2z a b w ha0 ha hb0 hb hz
  · by_cases hy : wrap64 b = -1
    · by_cases hm : a = 9223372036854775808
      · exact sdiv64_2c a b w ha0 ha hb0 hb hz hy hm
      · exact sdiv64_2b a b w ha0 ha hb0 hb hz hy hm
    · exact sdiv64_2a a b w ha0 ha hb0 hb hz hy
theorem sdiv64_3 (a b : Int) (w : World) (ha0 : 0 ≤ a) (ha : a ≤ 18446744073709551615) (hb0 : 0 ≤ b) (hb : b ≤ 18446744073709551615) :
    Calls Tryd.prog 78 #[.int .i64 3, .int .u64 a, .int .u64 b, .int .i64 64] w fun e w' => e = .returned (RV true (binR true 6 a b).1 (binR true 6 a b).2) ∧ Below w.heap.size w w' := by
  by_cases hz : b = 0
  · exact sdiv64_3z a b w ha0 ha hb0 hb hz
  · by_cases hy : wrap64 b = -1
    · exact sdiv64_3b a b w ha0 ha hb0 hb hz hy
    · exact sdiv64_3a a b w ha0 ha hb0 hb hz hy
set_option maxHeartbeats 1000000 in
theorem sdiv32_0z (a b : Int) (w : World) (ha0 : 0 ≤ a) (ha : a ≤ 4294967295) (hb0 : 0 ≤ b) (hb : b ≤ 4294967295) (hz : b = 0) :
    Calls Tryd.prog 78 #[.int .i64 0, .int .u64 a, .int .u64 b, .int .i64 32] w fun e w' => e = .returned (RV true (binR false 3 a b).1 (binR false 3 a b).2) ∧ Below w.heap.size w w' := by
  have e : binR false 3 a b = (2, 0) := by subst hz; rfl
  rw [e]
  clear e
  subst hz
  go_enter Tryd.func78, Tryd.ntmps78
  go_wp2_with fail
  refine (trap_any _ _).mono ?_
  rintro e w1 ⟨rfl, hb⟩
  obtain ⟨hc0, hc1, hc2, hf0, hf1, hf2, hb'⟩ := res_cells1 hb
  have HB := Hid.mk' hb'
  clear hb hb'
  go_wp2
  exact bodyPost_ret (v := RV true 2 0) (by simp [results, Tryd.results78, go_sem, hc0, hc1, hc2]) rfl ⟨rfl, below_set3 HB.out⟩
set_option maxHeartbeats 1000000 in
theorem sdiv32_1z (a b : Int) (w : World) (ha0 : 0 ≤ a) (ha : a ≤ 4294967295) (hb0 : 0 ≤ b) (hb : b ≤ 4294967295) (hz : b = 0) :
    Calls Tryd.prog 78 #[.int .i64 1, .int .u64 a, .int .u64 b, .int .i64 32] w fun e w' => e = .returned (RV true (binR false 4 a b).1 (binR false 4 a b).2) ∧ Below w.heap.size w w' := by
  have e : binR false 4 a b = (2, 0) := by subst hz; rfl
  rw [e]
  clear e
  subst hz
  go_enter Tryd.func78, Tryd.ntmps78
  go_wp2_with fail
  refine (trap_any _ _).mono ?_
  rintro e w1 ⟨rfl, hb⟩
  obtain ⟨hc0, hc1, hc2, hf0, hf1, hf2, hb'⟩ := res_cells1 hb
  have HB := Hid.mk' hb'
  clear hb hb'
  go_wp2
  exact bodyPost_ret (v := RV true 2 0) (by simp [results, Tryd.results78, go_sem, hc0, hc1, hc2]) rfl ⟨rfl, below_set3 HB.out⟩
set_option maxHeartbeats 1000000 in
theorem sdiv32_2z (a b : Int) (w : World) (ha0 : 0 ≤ a) (ha : a ≤ 4294967295) (hb0 : 0 ≤ b) (hb : b ≤ 4294967295) (hz : b = 0) :
    Calls Tryd.prog 78 #[.int .i64 2, .int .u64 a, .int .u64 b, .int .i64 32] w fun e w' => e = .returned (RV true (binR false 5 a b).1 (binR false 5 a b).2) ∧ Below w.heap.size w w' := by
  have e : binR false 5 a b = (2, 0) := by subst hz; rfl
  rw [e]
  clear e
  subst hz
  go_enter Tryd.func78, Tryd.ntmps78
  go_wp2_with fail
  refine (trap_any _ _).mono ?_
  rintro e w1 ⟨rfl, hb⟩
  obtain ⟨hc0, hc1, hc2, hf0, hf1, hf2, hb'⟩ := res_cells1 hb
  have HB := Hid.mk' hb'
  clear hb hb'
  go_wp2
  exact bodyPost_ret (v := RV true 2 0) (by simp [results, Tryd.results78, go_sem, hc0, hc1, hc2]) rfl ⟨rfl, below_set3 HB.out⟩
set_option maxHeartbeats 1000000 in
theorem sdiv32_3z (a b : Int) (w : World) (ha0 : 0 ≤ a) (ha : a ≤ 4294967295) (hb0 : 0 ≤ b) (hb : b ≤ 4294967295) (hz : b = 0) :
    Calls Tryd.prog 78 #[.int .i64 3, .int .u64 a, .int .u64 b, .int .i64 32] w fun e w' => e = .returned (RV true (binR false 6 a b).1 (binR false 6 a b).2) ∧ Below w.heap.size w w' := by
  have e : binR false 6 a b = (2, 0) := by subst hz; rfl
  rw [e]
  clear e
  subst hz
  go_enter Tryd.func78, Tryd.ntmps78
  go_wp2_with fail
  refine (trap_any _ _).mono ?_
  rintro e w1 ⟨rfl, hb⟩
  obtain ⟨hc0, hc1, hc2, hf0, hf1, hf2, hb'⟩ := res_cells1 hb
  have HB := Hid.mk' hb'
  clear hb hb'
  go_wp2
  exact bodyPost_ret (v := RV true 2 0) (by simp [results, Tryd.results78, go_sem, hc0, hc1, hc2]) rfl ⟨rfl, below_set3 HB.out⟩
set_option maxHeartbeats 1000000 in
theorem sdiv32_1a (a b : Int) (w : World) (ha0 : 0 ≤ a) (ha : a ≤ 4294967295) (hb0 : 0 ≤ b) (hb : b ≤ 4294967295) (hz : ¬ b = 0) (hy : ¬ wrap32 b = -1) :
    Calls Tryd.prog 78 #[.int .i64 1, .int .u64 a, .int .u64 b, .int .i64 32] w fun e w' => e = .returned (RV true (binR false 4 a b).1 (binR false 4 a b).2) ∧ Below w.heap.size w w' := by
  have e : binR false 4 a b = (0, a / b) := if_neg hz
  rw [e]
  clear e
  have hz1 : (b == 0) = false := beq_eq_false_iff_ne.2 hz
  have hy1 : (wrap32 b == -1) = false := beq_eq_false_iff_ne.2 hy
  go_enter Tryd.func78, Tryd.ntmps78
  go_wp2_with (first | (go_at_call 15; refine (signed32 _ _ (by omega) (by omega)).mono ?_; rintro e w' ⟨rfl, rfl⟩) | (go_at_call 27; refine (pow_any _ _ (by omega) (by omega)).mono ?_; rintro e w' ⟨rfl, rfl⟩))
  refine (val_eq _ (a / b) _ rfl).mono ?_
  rintro e w1 ⟨rfl, hb⟩
  obtain ⟨hc0, hc1, hc2, hf0, hf1, hf2, hb'⟩ := res_cells1 hb
  have HB := Hid.mk' hb'
  clear hb hb'
  go_wp2
  exact bodyPost_ret (v := RV true 0 (a / b)) (by simp [results, Tryd.results78, go_sem, hc0, hc1, hc2]) rfl ⟨rfl, below_set3 HB.out⟩
set_option maxHeartbeats 1000000 in
theorem sdiv32_1b (a b : Int) (w : World) (ha0 : 0 ≤ a) (ha : a ≤ 4294967295) (hb0 : 0 ≤ b) (hb : b ≤ 4294967295) (hz : ¬ b = 0) (hy : wrap32 b = -1) :
    Calls Tryd.prog 78 #[.int .i64 1, .int .u64 a, .int .u64 b, .int .i64 32] w fun e w' => e = .returned (RV true (binR false 4 a b).1 (binR false 4 a b).2) ∧ Below w.heap.size w w' := by
  have e : binR false 4 a b = (0, a / b) := if_neg hz
  rw [e]
  clear e
  have hz1 : (b == 0) = false := beq_eq_false_iff_ne.2 hz
  have hp : P2 31 = 2147483648 := by decide
  have hy1 : (wrap32 b == -1) = true := by rw [hy]; rfl
  go_enter Tryd.func78, Tryd.ntmps78
  go_wp2_with (first | (go_at_call 15; refine (signed32 _ _ (by omega) (by omega)).mono ?_; rintro e w' ⟨rfl, rfl⟩) | (go_at_call 27; refine (pow_any _ _ (by omega) (by omega)).mono ?_; rintro e w' ⟨rfl, rfl⟩))
  refine (val_eq _ (a / b) _ rfl).mono ?_
  rintro e w1 ⟨rfl, hb⟩
  obtain ⟨hc0, hc1, hc2, hf0, hf1, hf2, hb'⟩ := res_cells1 hb
  have HB := Hid.mk' hb'
  clear hb hb'
  go_wp2
  exact bodyPost_ret (v := RV true 0 (a / b)) (by simp [results, Tryd.results78, go_sem, hc0, hc1, hc2]) rfl ⟨rfl, below_set3 HB.out⟩
set_option maxHeartbeats 1000000 in
theorem sdiv32_3a (a b : Int) (w : World) (ha0 : 0 ≤ a) (ha : a ≤ 4294967295) (hb0 : 0 ≤ b) (hb : b ≤ 4294967295) (hz : ¬ b = 0) (hy : ¬ wrap32 b = -1) :
    Calls Tryd.prog 78 #[.int .i64 3, .int .u64 a, .int .u64 b, .int .i64 32] w fun e w' => e = .returned (RV true (binR false 6 a b).1 (binR false 6 a b).2) ∧ Below w.heap.size w w' := by
  have e : binR false 6 a b = (0, a % b) := if_neg hz
  rw [e]
  clear e
  have hz1 : (b == 0) = false := beq_eq_false_iff_ne.2 hz
  have hy1 : (wrap32 b == -1) = false := beq_eq_false_iff_ne.2 hy
  go_enter Tryd.func78, Tryd.ntmps78
  go_wp2_with (first | (go_at_call 15; refine (signed32 _ _ (by omega) (by omega)).mono ?_; rintro e w' ⟨rfl, rfl⟩) | (go_at_call 27; refine (pow_any _ _ (by omega) (by omega)).mono ?_; rintro e w' ⟨rfl, rfl⟩))
  refine (val_eq _ (a % b) _ rfl).mono ?_
  rintro e w1 ⟨rfl, hb⟩
  obtain ⟨hc0, hc1, hc2, hf0, hf1, hf2, hb'⟩ := res_cells1 hb
  have HB := Hid.mk' hb'
  clear hb hb'
  go_wp2
  exact bodyPost_ret (v := RV true 0 (a % b)) (by simp [results, Tryd.results78, go_sem, hc0, hc1, hc2]) rfl ⟨rfl, below_set3 HB.out⟩
set_option maxHeartbeats 1000000 in
theorem sdiv32_3b (a b : Int) (w : World) (ha0 : 0 ≤ a) (ha : a ≤ 4294967295) (hb0 : 0 ≤ b) (hb : b ≤ 4294967295) (hz : ¬ b = 0) (hy : wrap32 b = -1) :
    Calls Tryd.prog 78 #[.int .i64 3, .int .u64 a, .int .u64 b, .int .i64 32] w fun e w' => e = .returned (RV true (binR false 6 a b).1 (binR false 6 a b).2) ∧ Below w.heap.size w w' := by
  have e : binR false 6 a b = (0, a % b) := if_neg hz
  rw [e]
  clear e
  have hz1 : (b == 0) = false := beq_eq_false_iff_ne.2 hz
  have hp : P2 31 = 2147483648 := by decide
  have hy1 : (wrap32 b == -1) = true := by rw [hy]; rfl
  go_enter Tryd.func78, Tryd.ntmps78
  go_wp2_with (first | (go_at_call 15; refine (signed32 _ _ (by omega) (by omega)).mono ?_; rintro e w' ⟨rfl, rfl⟩) | (go_at_call 27; refine (pow_any _ _ (by omega) (by omega)).mono ?_; rintro e w' ⟨rfl, rfl⟩))
  refine (val_eq _ (a % b) _ rfl).mono ?_
  rintro e w1 ⟨rfl, hb⟩
  obtain ⟨hc0, hc1, hc2, hf0, hf1, hf2, hb'⟩ := res_cells1 hb
  have HB := Hid.mk' hb'
  clear hb hb'
  go_wp2
  exact bodyPost_ret (v := RV true 0 (a % b)) (by simp [results, Tryd.results78, go_sem, hc0, hc1, hc2]) rfl ⟨rfl, below_set3 HB.out⟩
set_option maxHeartbeats 1000000 in
theorem sdiv32_0a (a b : Int) (w : World) (ha0 : 0 ≤ a) (ha : a ≤ 4294967295) (hb0 : 0 ≤ b) (hb : b ≤ 4294967295) (hz : ¬ b = 0) (hy : ¬ wrap32 b = -1) :
    Calls Tryd.prog 78 #[.int .i64 0, .int .u64 a, .int .u64 b, .int .i64 32] w fun e w' => e = .returned (RV true (binR false 3 a b).1 (binR false 3 a b).2) ∧ Below w.heap.size w w' := by
  have e : binR false 3 a b = (0, (wrap32 a).tdiv (wrap32 b) % 4294967296) := by simp only [binR]; rw [if_neg hz, if_neg (by simp only [hf, Mo]; simp only [wrap32] at hy; simp; omega)]; rfl
  rw [e]
  clear e
  have hz1 : (b == 0) = false := beq_eq_false_iff_ne.2 hz
  have hz2 : ¬ wrap32 b = 0 := by simp only [wrap32]; omega
  have hz3 : (wrap32 b == 0) = false := beq_eq_false_iff_ne.2 hz2
  have hy1 : (wrap32 b == -1) = false := beq_eq_false_iff_ne.2 hy
  go_enter Tryd.func78, Tryd.ntmps78
  go_wp2_with (first | (go_at_call 15; refine (signed32 _ _ (by omega) (by omega)).mono ?_; rintro e w' ⟨rfl, rfl⟩) | (go_at_call 27; refine (pow_any _ _ (by omega) (by omega)).mono ?_; rintro e w' ⟨rfl, rfl⟩) | (go_at_call 11; refine (low32 _ _ (by first | omega | exact (u64w _).1) (by first | omega | exact (u64w _).2)).mono ?_; rintro e w' ⟨rfl, rfl⟩))
  refine (val_eq _ ((wrap32 a).tdiv (wrap32 b) % 4294967296) _ ?heq).mono ?_
  case heq => simp only [IntKind.wrap_u64, wrap64]; omega
  rintro e w1 ⟨rfl, hb⟩
  obtain ⟨hc0, hc1, hc2, hf0, hf1, hf2, hb'⟩ := res_cells1 hb
  have HB := Hid.mk' hb'
  clear hb hb'
  go_wp2
  exact bodyPost_ret (v := RV true 0 ((wrap32 a).tdiv (wrap32 b) % 4294967296)) (by simp [results, Tryd.results78, go_sem, hc0, hc1, hc2]) rfl ⟨rfl, below_set3 HB.out⟩
set_option maxHeartbeats 1000000 in
theorem sdiv32_0b (a b : Int) (w : World) (ha0 : 0 ≤ a) (ha : a ≤ 4294967295) (hb0 : 0 ≤ b) (hb : b ≤ 4294967295) (hz : ¬ b = 0) (hy : wrap32 b = -1) (hm : ¬ a = 2147483648) :
    Calls Tryd.prog 78 #[.int .i64 0, .int .u64 a, .int .u64 b, .int .i64 32] w fun e w' => e = .returned (RV true (binR false 3 a b).1 (binR false 3 a b).2) ∧ Below w.heap.size w w' := by
  have e : binR false 3 a b = (0, (wrap32 a).tdiv (wrap32 b) % 4294967296) := by simp only [binR]; rw [if_neg hz, if_neg (by simp only [hf, Mo]; simp; omega)]; rfl
  rw [e]
  clear e
  have hp : P2 31 = 2147483648 := by decide
  have hz1 : (b == 0) = false := beq_eq_false_iff_ne.2 hz
  have hz2 : ¬ wrap32 b = 0 := by simp only [wrap32]; omega
  have hz3 : (wrap32 b == 0) = false := beq_eq_false_iff_ne.2 hz2
  have hy1 : (wrap32 b == -1) = true := by rw [hy]; rfl
  have hm1 : (a == 2147483648) = false := beq_eq_false_iff_ne.2 hm
  have Hy := Hid.mk' hy
  clear hy
  go_enter Tryd.func78, Tryd.ntmps78
  go_wp2_with (first | (go_at_call 15; refine (signed32 _ _ (by omega) (by omega)).mono ?_; rintro e w' ⟨rfl, rfl⟩) | (go_at_call 27; refine (pow_any _ _ (by omega) (by omega)).mono ?_; rintro e w' ⟨rfl, rfl⟩) | (go_at_call 11; refine (low32 _ _ (by first | omega | exact (u64w _).1) (by first | omega | exact (u64w _).2)).mono ?_; rintro e w' ⟨rfl, rfl⟩))
  refine (val_eq _ ((wrap32 a).tdiv (wrap32 b) % 4294967296) _ ?heq).mono ?_
  case heq => simp only [IntKind.wrap_u64, wrap64]; omega
  rintro e w1 ⟨rfl, hb⟩
  obtain ⟨hc0, hc1, hc2, hf0, hf1, hf2, hb'⟩ := res_cells1 hb
  have HB := Hid.mk' hb'
  clear hb hb'
  go_wp2
  exact bodyPost_ret (v := RV true 0 ((wrap32 a).tdiv (wrap32 b) % 4294967296)) (by simp [results, Tryd.results78, go_sem, hc0, hc1, hc2]) rfl ⟨rfl, below_set3 HB.out⟩
set_option maxHeartbeats 1000000 in
theorem sdiv32_2a (a b : Int) (w : World) (ha0 : 0 ≤ a) (ha : a ≤ 4294967295) (hb0 : 0 ≤ b) (hb : b ≤ 4294967295) (hz : ¬ b = 0) (hy : ¬ wrap32 b = -1) :
    Calls Tryd.prog 78 #[.int .i64 2, .int .u64 a, .int .u64 b, .int .i64 32] w fun e w' => e = .returned (RV true (binR false 5 a b).1 (binR false 5 a b).2) ∧ Below w.heap.size w w' := by
  have e : binR false 5 a b = (0, (wrap32 a).tmod (wrap32 b) % 4294967296) := if_neg hz
  rw [e]
  clear e
  have hz1 : (b == 0) = false := beq_eq_false_iff_ne.2 hz
  have hz2 : ¬ wrap32 b = 0 := by simp only [wrap32]; omega
  have hz3 : (wrap32 b == 0) = false := beq_eq_false_iff_ne.2 hz2
  have hy1 : (wrap32 b == -1) = false := beq_eq_false_iff_ne.2 hy
  go_enter Tryd.func78, Tryd.ntmps78
  go_wp2_with (first | (go_at_call 15; refine (signed32 _ _ (by omega) (by omega)).mono ?_; rintro e w' ⟨rfl, rfl⟩) | (go_at_call 27; refine (pow_any _ _ (by omega) (by omega)).mono ?_; rintro e w' ⟨rfl, rfl⟩) | (go_at_call 11; refine (low32 _ _ (by first | omega | exact (u64w _).1) (by first | omega | exact (u64w _).2)).mono ?_; rintro e w' ⟨rfl, rfl⟩))
  refine (val_eq _ ((wrap32 a).tmod (wrap32 b) % 4294967296) _ ?heq).mono ?_
  case heq => first | (simp only [IntKind.wrap_u64]; done) | (simp only [IntKind.wrap_u64]; omega)
  rintro e w1 ⟨rfl, hb⟩
  obtain ⟨hc0, hc1, hc2, hf0, hf1, hf2, hb'⟩ := res_cells1 hb
  have HB := Hid.mk' hb'
  clear hb hb'
  go_wp2
  exact bodyPost_ret (v := RV true 0 ((wrap32 a).tmod (wrap32 b) % 4294967296)) (by simp [results, Tryd.results78, go_sem, hc0, hc1, hc2]) rfl ⟨rfl, below_set3 HB.out⟩
set_option maxHeartbeats 1000000 in
theorem sdiv32_2b (a b : Int) (w : World) (ha0 : 0 ≤ a) (ha : a ≤ 4294967295) (hb0 : 0 ≤ b) (hb : b ≤ 4294967295) (hz : ¬ b = 0) (hy : wrap32 b = -1) (hm : ¬ a = 2147483648) :
    Calls Tryd.prog 78 #[.int .i64 2, .int .u64 a, .int .u64 b, .int .i64 32] w fun e w' => e = .returned (RV true (binR false 5 a b).1 (binR false 5 a b).2) ∧ Below w.heap.size w w' := by
  have e : binR false 5 a b = (0, (wrap32 a).tmod (wrap32 b) % 4294967296) := if_neg hz
  rw [e]
  clear e
  have hp : P2 31 = 2147483648 := by decide
  have hz1 : (b == 0) = false := beq_eq_false_iff_ne.2 hz
  have hz2 : ¬ wrap32 b = 0 := by simp only [wrap32]; omega
  have hz3 : (wrap32 b == 0) = false := beq_eq_false_iff_ne.2 hz2
  have hy1 : (wrap32 b == -1) = true := by rw [hy]; rfl
  have hm1 : (a == 2147483648) = false := beq_eq_false_iff_ne.2 hm
  have Hy := Hid.mk' hy
  clear hy
  go_enter Tryd.func78, Tryd.ntmps78
  go_wp2_with (first | (go_at_call 15; refine (signed32 _ _ (by omega) (by omega)).mono ?_; rintro e w' ⟨rfl, rfl⟩) | (go_at_call 27; refine (pow_any _ _ (by omega) (by omega)).mono ?_; rintro e w' ⟨rfl, rfl⟩) | (go_at_call 11; refine (low32 _ _ (by first | omega | exact (u64w _).1) (by first | omega | exact (u64w _).2)).mono ?_; rintro e w' ⟨rfl, rfl⟩))
  refine (val_eq _ ((wrap32 a).tmod (wrap32 b) % 4294967296) _ ?heq).mono ?_
  case heq => first | (simp only [IntKind.wrap_u64]; done) | (simp only [IntKind.wrap_u64]; omega)
  rintro e w1 ⟨rfl, hb⟩
  obtain ⟨hc0, hc1, hc2, hf0, hf1, hf2, hb'⟩ := res_cells1 hb
  have HB := Hid.mk' hb'
  clear hb hb'
  go_wp2
  exact bodyPost_ret (v := RV true 0 ((wrap32 a).tmod (wrap32 b) % 4294967296)) (by simp [results, Tryd.results78, go_sem, hc0, hc1, hc2]) rfl ⟨rfl, below_set3 HB.out⟩
set_option maxHeartbeats 1000000 in
theorem sdiv32_0c (a b : Int) (w : World) (ha0 : 0 ≤ a) (ha : a ≤ 4294967295) (hb0 : 0 ≤ b) (hb : b ≤ 4294967295) (hz : ¬ b = 0) (hy : wrap32 b = -1) (hm : a = 2147483648) :
    Calls Tryd.prog 78 #[.int .i64 0, .int .u64 a, .int .u64 b, .int .i64 32] w fun e w' => e = .returned (RV true (binR false 3 a b).1 (binR false 3 a b).2) ∧ Below w.heap.size w w' := by
  have e : binR false 3 a b = (3, 0) := by simp only [binR]; rw [if_neg hz, if_pos (by subst hm; simp only [hf, Mo]; simp only [wrap32] at hy; simp; omega)]
  rw [e]
  clear e
  have hp : P2 31 = 2147483648 := by decide
  have hz1 : (b == 0) = false := beq_eq_false_iff_ne.2 hz
  subst hm
  go_enter Tryd.func78, Tryd.ntmps78
  go_wp2_with (first | (go_at_call 15; refine (signed32 _ _ (by omega) (by omega)).mono ?_; rintro e w' ⟨rfl, rfl⟩) | (go_at_call 27; refine (pow_any _ _ (by omega) (by omega)).mono ?_; rintro e w' ⟨rfl, rfl⟩) | (go_at_call 11; refine (low32 _ _ (by first | omega | exact (u64w _).1) (by first | omega | exact (u64w _).2)).mono ?_; rintro e w' ⟨rfl, rfl⟩))
  refine (trap_any _ _).mono ?_
  rintro e w1 ⟨rfl, hb⟩
  obtain ⟨hc0, hc1, hc2, hf0, hf1, hf2, hb'⟩ := res_cells1 hb
  have HB := Hid.mk' hb'
  clear hb hb'
  go_wp2
  exact bodyPost_ret (v := RV true 3 0) (by simp [results, Tryd.results78, go_sem, hc0, hc1, hc2]) rfl ⟨rfl, below_set3 HB.out⟩
set_option maxHeartbeats 1000000 in
theorem sdiv32_2c (a b : Int) (w : World) (ha0 : 0 ≤ a) (ha : a ≤ 4294967295) (hb0 : 0 ≤ b) (hb : b ≤ 4294967295) (hz : ¬ b = 0) (hy : wrap32 b = -1) (hm : a = 2147483648) :
    Calls Tryd.prog 78 #[.int .i64 2, .int .u64 a, .int .u64 b, .int .i64 32] w fun e w' => e = .returned (RV true (binR false 5 a b).1 (binR false 5 a b).2) ∧ Below w.heap.size w w' := by
  have e : binR false 5 a b = (0, 0) := by simp only [binR]; rw [if_neg hz]; subst hm; simp only [sg, Mo]; simp [hy, wrap32]
  rw [e]
  clear e
  have hp : P2 31 = 2147483648 := by decide
  have hz1 : (b == 0) = false := beq_eq_false_iff_ne.2 hz
  subst hm
  go_enter Tryd.func78, Tryd.ntmps78
  go_wp2_with (first | (go_at_call 15; refine (signed32 _ _ (by omega) (by omega)).mono ?_; rintro e w' ⟨rfl, rfl⟩) | (go_at_call 27; refine (pow_any _ _ (by omega) (by omega)).mono ?_; rintro e w' ⟨rfl, rfl⟩) | (go_at_call 11; refine (low32 _ _ (by first | omega | exact (u64w _).1) (by first | omega | exact (u64w _).2)).mono ?_; rintro e w' ⟨rfl, rfl⟩))
  refine (val_eq _ 0 _ rfl).mono ?_
  rintro e w1 ⟨rfl, hb⟩
  obtain ⟨hc0, hc1, hc2, hf0, hf1, hf2, hb'⟩ := res_cells1 hb
  have HB := Hid.mk' hb'
  clear hb hb'
  go_wp2
  exact bodyPost_ret (v := RV true 0 0) (by simp [results, Tryd.results78, go_sem, hc0, hc1, hc2]) rfl ⟨rfl, below_set3 HB.out⟩
theorem sdiv32_0 (a b : Int) (w : World) (ha0 : 0 ≤ a) (ha : a ≤ 4294967295) (hb0 : 0 ≤ b) (hb : b ≤ 4294967295) :
    Calls Tryd.prog 78 #[.int .i64 0, .int .u64 a, .int .u64 b, .int .i64 32] w fun e w' => e = .returned (RV true (binR false 3 a b).1 (binR false 3 a b).2) ∧ Below w.heap.size w w' := by
  by_cases hz : b = 0
  · exact sdiv32_0z a b w ha0 ha hb0 hb hz
  · by_cases hy : wrap32 b = -1
    · by_cases hm : a = 2147483648
      · exact sdiv32_0c a b w ha0 ha hb0 hb hz hy hm
      · exact sdiv32_0b a b w ha0 ha hb0 hb hz hy hm
    · exact sdiv32_0a a b w ha0 ha hb0 hb hz hy
theorem sdiv32_1 (a b : Int) (w : World) (ha0 : 0 ≤ a) (ha : a ≤ 4294967295) (hb0 : 0 ≤ b) (hb : b ≤ 4294967295) :
    Calls Tryd.prog 78 #[.int .i64 1, .int .u64 a, .int .u64 b, .int .i64 32] w fun e w' => e = .returned (RV true (binR false 4 a b).1 (binR false 4 a b).2) ∧ Below w.heap.size w w' := by
  by_cases hz : b = 0
  · exact sdiv32_1z a b w ha0 ha hb0 hb hz
  · by_cases hy : wrap32 b = -1
    · exact sdiv32_1b a b w ha0 ha hb0 hb hz hy
    · exact sdiv32_1a a b w ha0 ha hb0 hb hz hy
theorem sdiv32_2 (a b : Int) (w : World) (ha0 : 0 ≤ a) (ha : a ≤ 4294967295) (hb0 : 0 ≤ b) (hb : b ≤ 4294967295) :
    Calls Tryd.prog 78 #[.int .i64 2, .int .u64 a, .int .u64 b, .int .i64 32] w fun e w' => e = .returned (RV true (binR false 5 a b).1 (binR false 5 a b).2) ∧ Below w.heap.size w w' := by
  by_cases hz : b = 0
  · exact sdiv32_2z a b w ha0 ha hb0 hb hz
  · by_cases hy : wrap32 b = -1
    · by_cases hm : a = 2147483648
      · exact sdiv32_2c a b w ha0 ha hb0 hb hz hy hm
      · exact sdiv32_2b a b w ha0 ha hb0 hb hz hy hm
    · exact sdiv32_2a a b w ha0 ha hb0 hb hz hy
theorem sdiv32_3 (a b : Int) (w : World) (ha0 : 0 ≤ a) (ha : a ≤ 4294967295) (hb0 : 0 ≤ b) (hb : b ≤ 4294967295) :
    Calls Tryd.prog 78 #[.int .i64 3, .int .u64 a, .int .u64 b, .int .i64 32] w fun e w' => e = .returned (RV true (binR false 6 a b).1 (binR false 6 a b).2) ∧ Below w.heap.size w w' := by
  by_cases hz : b = 0
  · exact sdiv32_3z a b w ha0 ha hb0 hb hz
  · by_cases hy : wrap32 b = -1
    · exact sdiv32_3b a b w ha0 ha hb0 hb hz hy
    · exact sdiv32_3a a b w ha0 ha hb0 hb hz hy
end Go.Proofs.YtjiaainhieeepaaDoor
