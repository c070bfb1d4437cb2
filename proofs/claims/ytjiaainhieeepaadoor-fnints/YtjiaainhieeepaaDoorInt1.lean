import Derived.Test.YtjiaainhieeepaaDoorCnt
set_option linter.unusedVariables false
namespace Go.Proofs.YtjiaainhieeepaaDoor
open Go.RowKit
set_option maxHeartbeats 400000 in
theorem s1_69 (A X : Nat) (w : World) (hA : A < 18446744073709551616) (hx : (A : Int) % 4294967296 = (X : Int)) : Calls Tryd.prog 5 #[.int .i64 69, .int .u64 A] w fun e w' => e = .returned (RV true 0 (fl ((X : Int) == 0))) ∧ Below w.heap.size w w' := by
  have hAi : (A : Int) ≤ 18446744073709551615 := by omega
  have hXi : (X : Int) ≤ 4294967295 := by omega
  go_enter Tryd.func5, Tryd.ntmps5
  go_wp2_with (first | (go_at_call 11; refine (low32 _ _ (by omega) (by omega)).mono ?_; rintro e w' ⟨rfl, rfl⟩))
  refine (bool_eq _ ((X : Int) == 0) _ rfl).mono ?_
  rintro e w1 ⟨rfl, hb⟩
  obtain ⟨hc0, hc1, hc2, hf0, hf1, hf2, hb'⟩ := res_cells1 hb
  have HB := Hid.mk' hb'
  clear hb hb'
  go_wp2
  exact bodyPost_ret (v := RV true 0 (fl ((X : Int) == 0))) (by simp [results, Tryd.results5, go_sem, hc0, hc1, hc2]) rfl ⟨rfl, below_set3 HB.out⟩
set_option maxHeartbeats 400000 in
theorem s1_80 (A X : Nat) (w : World) (hA : A < 18446744073709551616) (hx : (A : Int) % 4294967296 = (X : Int)) : Calls Tryd.prog 5 #[.int .i64 80, .int .u64 A] w fun e w' => e = .returned (RV true 0 (fl ((A : Int) == 0))) ∧ Below w.heap.size w w' := by
  have hAi : (A : Int) ≤ 18446744073709551615 := by omega
  have hXi : (X : Int) ≤ 4294967295 := by omega
  go_enter Tryd.func5, Tryd.ntmps5
  go_wp2_with (first | (go_at_call 11; refine (low64 _ _).mono ?_; rintro e w' ⟨rfl, rfl⟩))
  refine (bool_eq _ ((A : Int) == 0) _ rfl).mono ?_
  rintro e w1 ⟨rfl, hb⟩
  obtain ⟨hc0, hc1, hc2, hf0, hf1, hf2, hb'⟩ := res_cells1 hb
  have HB := Hid.mk' hb'
  clear hb hb'
  go_wp2
  exact bodyPost_ret (v := RV true 0 (fl ((A : Int) == 0))) (by simp [results, Tryd.results5, go_sem, hc0, hc1, hc2]) rfl ⟨rfl, below_set3 HB.out⟩
set_option maxHeartbeats 400000 in
theorem s1_103 (A X : Nat) (w : World) (hA : A < 18446744073709551616) (hx : (A : Int) % 4294967296 = (X : Int)) : Calls Tryd.prog 5 #[.int .i64 103, .int .u64 A] w fun e w' => e = .returned (RV true 0 (((highN 32 32 X : Nat) : Int))) ∧ Below w.heap.size w w' := by
  have hAi : (A : Int) ≤ 18446744073709551615 := by omega
  have hXi : (X : Int) ≤ 4294967295 := by omega
  go_enter Tryd.func5, Tryd.ntmps5
  go_wp2_with (first | (go_at_call 11; refine (low32 _ _ (by omega) (by omega)).mono ?_; rintro e w' ⟨rfl, rfl⟩) | (go_at_call 13; refine (count32 _ _ (by omega)).mono ?_; rintro e w' ⟨rfl, rfl⟩))
  refine (val_eq _ ((highN 32 32 X : Nat) : Int) _ rfl).mono ?_
  rintro e w1 ⟨rfl, hb⟩
  obtain ⟨hc0, hc1, hc2, hf0, hf1, hf2, hb'⟩ := res_cells1 hb
  have HB := Hid.mk' hb'
  clear hb hb'
  go_wp2
  exact bodyPost_ret (v := RV true 0 (((highN 32 32 X : Nat) : Int))) (by simp [results, Tryd.results5, go_sem, hc0, hc1, hc2]) rfl ⟨rfl, below_set3 HB.out⟩
set_option maxHeartbeats 400000 in
theorem s1_104 (A X : Nat) (w : World) (hA : A < 18446744073709551616) (hx : (A : Int) % 4294967296 = (X : Int)) : Calls Tryd.prog 5 #[.int .i64 104, .int .u64 A] w fun e w' => e = .returned (RV true 0 (((lowN 32 32 X : Nat) : Int))) ∧ Below w.heap.size w w' := by
  have hAi : (A : Int) ≤ 18446744073709551615 := by omega
  have hXi : (X : Int) ≤ 4294967295 := by omega
  go_enter Tryd.func5, Tryd.ntmps5
  go_wp2_with (first | (go_at_call 11; refine (low32 _ _ (by omega) (by omega)).mono ?_; rintro e w' ⟨rfl, rfl⟩) | (go_at_call 13; refine (count32 _ _ (by omega)).mono ?_; rintro e w' ⟨rfl, rfl⟩))
  refine (val_eq _ ((lowN 32 32 X : Nat) : Int) _ rfl).mono ?_
  rintro e w1 ⟨rfl, hb⟩
  obtain ⟨hc0, hc1, hc2, hf0, hf1, hf2, hb'⟩ := res_cells1 hb
  have HB := Hid.mk' hb'
  clear hb hb'
  go_wp2
  exact bodyPost_ret (v := RV true 0 (((lowN 32 32 X : Nat) : Int))) (by simp [results, Tryd.results5, go_sem, hc0, hc1, hc2]) rfl ⟨rfl, below_set3 HB.out⟩
set_option maxHeartbeats 400000 in
theorem s1_105 (A X : Nat) (w : World) (hA : A < 18446744073709551616) (hx : (A : Int) % 4294967296 = (X : Int)) : Calls Tryd.prog 5 #[.int .i64 105, .int .u64 A] w fun e w' => e = .returned (RV true 0 (((ones 32 X : Nat) : Int))) ∧ Below w.heap.size w w' := by
  have hAi : (A : Int) ≤ 18446744073709551615 := by omega
  have hXi : (X : Int) ≤ 4294967295 := by omega
  go_enter Tryd.func5, Tryd.ntmps5
  go_wp2_with (first | (go_at_call 11; refine (low32 _ _ (by omega) (by omega)).mono ?_; rintro e w' ⟨rfl, rfl⟩) | (go_at_call 13; refine (count32 _ _ (by omega)).mono ?_; rintro e w' ⟨rfl, rfl⟩))
  refine (val_eq _ ((ones 32 X : Nat) : Int) _ rfl).mono ?_
  rintro e w1 ⟨rfl, hb⟩
  obtain ⟨hc0, hc1, hc2, hf0, hf1, hf2, hb'⟩ := res_cells1 hb
  have HB := Hid.mk' hb'
  clear hb hb'
  go_wp2
  exact bodyPost_ret (v := RV true 0 (((ones 32 X : Nat) : Int))) (by simp [results, Tryd.results5, go_sem, hc0, hc1, hc2]) rfl ⟨rfl, below_set3 HB.out⟩
set_option maxHeartbeats 400000 in
theorem s1_121 (A X : Nat) (w : World) (hA : A < 18446744073709551616) (hx : (A : Int) % 4294967296 = (X : Int)) : Calls Tryd.prog 5 #[.int .i64 121, .int .u64 A] w fun e w' => e = .returned (RV true 0 (((highN 64 64 A : Nat) : Int))) ∧ Below w.heap.size w w' := by
  have hAi : (A : Int) ≤ 18446744073709551615 := by omega
  have hXi : (X : Int) ≤ 4294967295 := by omega
  go_enter Tryd.func5, Tryd.ntmps5
  go_wp2_with (first | (go_at_call 11; refine (low64 _ _).mono ?_; rintro e w' ⟨rfl, rfl⟩) | (go_at_call 13; refine (count64 _ _ (by omega)).mono ?_; rintro e w' ⟨rfl, rfl⟩))
  refine (val_eq _ ((highN 64 64 A : Nat) : Int) _ rfl).mono ?_
  rintro e w1 ⟨rfl, hb⟩
  obtain ⟨hc0, hc1, hc2, hf0, hf1, hf2, hb'⟩ := res_cells1 hb
  have HB := Hid.mk' hb'
  clear hb hb'
  go_wp2
  exact bodyPost_ret (v := RV true 0 (((highN 64 64 A : Nat) : Int))) (by simp [results, Tryd.results5, go_sem, hc0, hc1, hc2]) rfl ⟨rfl, below_set3 HB.out⟩
set_option maxHeartbeats 400000 in
theorem s1_122 (A X : Nat) (w : World) (hA : A < 18446744073709551616) (hx : (A : Int) % 4294967296 = (X : Int)) : Calls Tryd.prog 5 #[.int .i64 122, .int .u64 A] w fun e w' => e = .returned (RV true 0 (((lowN 64 64 A : Nat) : Int))) ∧ Below w.heap.size w w' := by
  have hAi : (A : Int) ≤ 18446744073709551615 := by omega
  have hXi : (X : Int) ≤ 4294967295 := by omega
  go_enter Tryd.func5, Tryd.ntmps5
  go_wp2_with (first | (go_at_call 11; refine (low64 _ _).mono ?_; rintro e w' ⟨rfl, rfl⟩) | (go_at_call 13; refine (count64 _ _ (by omega)).mono ?_; rintro e w' ⟨rfl, rfl⟩))
  refine (val_eq _ ((lowN 64 64 A : Nat) : Int) _ rfl).mono ?_
  rintro e w1 ⟨rfl, hb⟩
  obtain ⟨hc0, hc1, hc2, hf0, hf1, hf2, hb'⟩ := res_cells1 hb
  have HB := Hid.mk' hb'
  clear hb hb'
  go_wp2
  exact bodyPost_ret (v := RV true 0 (((lowN 64 64 A : Nat) : Int))) (by simp [results, Tryd.results5, go_sem, hc0, hc1, hc2]) rfl ⟨rfl, below_set3 HB.out⟩
set_option maxHeartbeats 400000 in
theorem s1_123 (A X : Nat) (w : World) (hA : A < 18446744073709551616) (hx : (A : Int) % 4294967296 = (X : Int)) : Calls Tryd.prog 5 #[.int .i64 123, .int .u64 A] w fun e w' => e = .returned (RV true 0 (((ones 64 A : Nat) : Int))) ∧ Below w.heap.size w w' := by
  have hAi : (A : Int) ≤ 18446744073709551615 := by omega
  have hXi : (X : Int) ≤ 4294967295 := by omega
  go_enter Tryd.func5, Tryd.ntmps5
  go_wp2_with (first | (go_at_call 11; refine (low64 _ _).mono ?_; rintro e w' ⟨rfl, rfl⟩) | (go_at_call 13; refine (count64 _ _ (by omega)).mono ?_; rintro e w' ⟨rfl, rfl⟩))
  refine (val_eq _ ((ones 64 A : Nat) : Int) _ rfl).mono ?_
  rintro e w1 ⟨rfl, hb⟩
  obtain ⟨hc0, hc1, hc2, hf0, hf1, hf2, hb'⟩ := res_cells1 hb
  have HB := Hid.mk' hb'
  clear hb hb'
  go_wp2
  exact bodyPost_ret (v := RV true 0 (((ones 64 A : Nat) : Int))) (by simp [results, Tryd.results5, go_sem, hc0, hc1, hc2]) rfl ⟨rfl, below_set3 HB.out⟩
set_option maxHeartbeats 400000 in
theorem s1_167 (A X : Nat) (w : World) (hA : A < 18446744073709551616) (hx : (A : Int) % 4294967296 = (X : Int)) : Calls Tryd.prog 5 #[.int .i64 167, .int .u64 A] w fun e w' => e = .returned (RV true 0 ((X : Int))) ∧ Below w.heap.size w w' := by
  have hAi : (A : Int) ≤ 18446744073709551615 := by omega
  have hXi : (X : Int) ≤ 4294967295 := by omega
  go_enter Tryd.func5, Tryd.ntmps5
  go_wp2_with (first | (go_at_call 11; refine (low32 _ _ (by omega) (by omega)).mono ?_; rintro e w' ⟨rfl, rfl⟩))
  refine (val_eq _ (X : Int) _ rfl).mono ?_
  rintro e w1 ⟨rfl, hb⟩
  obtain ⟨hc0, hc1, hc2, hf0, hf1, hf2, hb'⟩ := res_cells1 hb
  have HB := Hid.mk' hb'
  clear hb hb'
  go_wp2
  exact bodyPost_ret (v := RV true 0 ((X : Int))) (by simp [results, Tryd.results5, go_sem, hc0, hc1, hc2]) rfl ⟨rfl, below_set3 HB.out⟩
set_option maxHeartbeats 400000 in
theorem s1_173 (A X : Nat) (w : World) (hA : A < 18446744073709551616) (hx : (A : Int) % 4294967296 = (X : Int)) : Calls Tryd.prog 5 #[.int .i64 173, .int .u64 A] w fun e w' => e = .returned (RV true 0 ((X : Int))) ∧ Below w.heap.size w w' := by
  have hAi : (A : Int) ≤ 18446744073709551615 := by omega
  have hXi : (X : Int) ≤ 4294967295 := by omega
  go_enter Tryd.func5, Tryd.ntmps5
  go_wp2_with (first | (go_at_call 11; refine (low32 _ _ (by omega) (by omega)).mono ?_; rintro e w' ⟨rfl, rfl⟩))
  refine (val_eq _ (X : Int) _ rfl).mono ?_
  rintro e w1 ⟨rfl, hb⟩
  obtain ⟨hc0, hc1, hc2, hf0, hf1, hf2, hb'⟩ := res_cells1 hb
  have HB := Hid.mk' hb'
  clear hb hb'
  go_wp2
  exact bodyPost_ret (v := RV true 0 ((X : Int))) (by simp [results, Tryd.results5, go_sem, hc0, hc1, hc2]) rfl ⟨rfl, below_set3 HB.out⟩
set_option maxHeartbeats 400000 in
theorem s1_172 (A X : Nat) (w : World) (hA : A < 18446744073709551616) (hx : (A : Int) % 4294967296 = (X : Int)) : Calls Tryd.prog 5 #[.int .i64 172, .int .u64 A] w fun e w' => e = .returned (RV true 0 (IntKind.u64.wrap (wrap32 (X : Int)))) ∧ Below w.heap.size w w' := by
  have hAi : (A : Int) ≤ 18446744073709551615 := by omega
  have hXi : (X : Int) ≤ 4294967295 := by omega
  go_enter Tryd.func5, Tryd.ntmps5
  go_wp2_with (first | (go_at_call 11; refine (low32 _ _ (by omega) (by omega)).mono ?_; rintro e w' ⟨rfl, rfl⟩) | (go_at_call 15; refine (signed32 _ _ (by omega) (by omega)).mono ?_; rintro e w' ⟨rfl, rfl⟩))
  refine (val_eq _ (IntKind.u64.wrap (wrap32 (X : Int))) _ rfl).mono ?_
  rintro e w1 ⟨rfl, hb⟩
  obtain ⟨hc0, hc1, hc2, hf0, hf1, hf2, hb'⟩ := res_cells1 hb
  have HB := Hid.mk' hb'
  clear hb hb'
  go_wp2
  exact bodyPost_ret (v := RV true 0 (IntKind.u64.wrap (wrap32 (X : Int)))) (by simp [results, Tryd.results5, go_sem, hc0, hc1, hc2]) rfl ⟨rfl, below_set3 HB.out⟩
set_option maxHeartbeats 400000 in
theorem s1_none_lo (op : Int) (A : Nat) (w : World) (hA : A < 18446744073709551616) (q69 : op ≠ 69) (q80 : op ≠ 80) (q103 : op ≠ 103) (q104 : op ≠ 104) (q105 : op ≠ 105) (q121 : op ≠ 121) (q122 : op ≠ 122) (q123 : op ≠ 123) (q167 : op ≠ 167) (q172 : op ≠ 172) (q173 : op ≠ 173) (t0 : ¬ 121 ≤ op) : Calls Tryd.prog 5 #[.int .i64 op, .int .u64 A] w fun e w' => e = .returned (RV false 0 0) ∧ Below w.heap.size w w' := by
  have hAi : (A : Int) ≤ 18446744073709551615 := by omega
  have p69 : (op == 69) = false := beq_eq_false_iff_ne.2 q69
  have p80 : (op == 80) = false := beq_eq_false_iff_ne.2 q80
  have p103 : (op == 103) = false := beq_eq_false_iff_ne.2 q103
  have p104 : (op == 104) = false := beq_eq_false_iff_ne.2 q104
  have p105 : (op == 105) = false := beq_eq_false_iff_ne.2 q105
  have p121 : (op == 121) = false := beq_eq_false_iff_ne.2 q121
  have p122 : (op == 122) = false := beq_eq_false_iff_ne.2 q122
  have p123 : (op == 123) = false := beq_eq_false_iff_ne.2 q123
  have p167 : (op == 167) = false := beq_eq_false_iff_ne.2 q167
  have p172 : (op == 172) = false := beq_eq_false_iff_ne.2 q172
  have p173 : (op == 173) = false := beq_eq_false_iff_ne.2 q173
  clear q69 q80 q103 q104 q105 q121 q122 q123 q167 q172 q173
  go_enter Tryd.func5, Tryd.ntmps5
  go_wp2_with (go_at_call 11; refine (low32 _ _ (by omega) (by omega)).mono ?_; rintro e w' ⟨rfl, rfl⟩)
  exact bodyPost_ret (v := RV false 0 0) (by simp [results, Tryd.results5, go_sem]) rfl ⟨rfl, by repeat (first | exact Below.refl _ _ | refine Below.setCell ?_ (by simp) _ | refine Below.alloc ?_ (by simp) _)⟩
set_option maxHeartbeats 400000 in
theorem s1_none_hi (op : Int) (A : Nat) (w : World) (hA : A < 18446744073709551616) (q69 : op ≠ 69) (q80 : op ≠ 80) (q103 : op ≠ 103) (q104 : op ≠ 104) (q105 : op ≠ 105) (q121 : op ≠ 121) (q122 : op ≠ 122) (q123 : op ≠ 123) (q167 : op ≠ 167) (q172 : op ≠ 172) (q173 : op ≠ 173) (t0 : 121 ≤ op) (t1 : ¬ op ≤ 123) : Calls Tryd.prog 5 #[.int .i64 op, .int .u64 A] w fun e w' => e = .returned (RV false 0 0) ∧ Below w.heap.size w w' := by
  have hAi : (A : Int) ≤ 18446744073709551615 := by omega
  have p69 : (op == 69) = false := beq_eq_false_iff_ne.2 q69
  have p80 : (op == 80) = false := beq_eq_false_iff_ne.2 q80
  have p103 : (op == 103) = false := beq_eq_false_iff_ne.2 q103
  have p104 : (op == 104) = false := beq_eq_false_iff_ne.2 q104
  have p105 : (op == 105) = false := beq_eq_false_iff_ne.2 q105
  have p121 : (op == 121) = false := beq_eq_false_iff_ne.2 q121
  have p122 : (op == 122) = false := beq_eq_false_iff_ne.2 q122
  have p123 : (op == 123) = false := beq_eq_false_iff_ne.2 q123
  have p167 : (op == 167) = false := beq_eq_false_iff_ne.2 q167
  have p172 : (op == 172) = false := beq_eq_false_iff_ne.2 q172
  have p173 : (op == 173) = false := beq_eq_false_iff_ne.2 q173
  clear q69 q80 q103 q104 q105 q121 q122 q123 q167 q172 q173
  go_enter Tryd.func5, Tryd.ntmps5
  go_wp2_with (go_at_call 11; refine (low32 _ _ (by omega) (by omega)).mono ?_; rintro e w' ⟨rfl, rfl⟩)
  exact bodyPost_ret (v := RV false 0 0) (by simp [results, Tryd.results5, go_sem]) rfl ⟨rfl, by repeat (first | exact Below.refl _ _ | refine Below.setCell ?_ (by simp) _ | refine Below.alloc ?_ (by simp) _)⟩
set_option maxHeartbeats 400000 in
theorem i1_wide (op p a x : Int) (K : Bool) (t v : Int) (w : World) (ha0 : 0 ≤ a) (ha : a ≤ 18446744073709551615) (hx : a % 4294967296 = x)
    (hO : ∀ w, Calls Tryd.prog 16 #[.int .i64 op] w fun e w' => e = .returned (.tuple #[.int .i64 p, .bool true]) ∧ w = w')
    (hD : ∀ W, Below w.heap.size w W → Calls Tryd.prog 17 #[.int .i64 p, .int .u64 a] W fun e W' => e = .returned (RV K t v) ∧ Below W.heap.size W W') :
    Calls Tryd.prog 6 #[.int .i64 op, .int .u64 a] w fun e w' => e = .returned (RV K t v) ∧ Below w.heap.size w w' := by
  have HO := Hid.mk' hO
  have HD := Hid.mk' hD
  clear hO hD
  go_enter Tryd.func6, Tryd.ntmps6
  go_wp2_with fail
  refine (HO.out _).mono ?_
  rintro e w0 ⟨rfl, rfl⟩
  go_wp2_with fail
  refine (HD.out _ ?hB).mono ?_
  case hB => exact (Below.refl _ _).alloc (Nat.le_refl _) _
  clear HO HD
  rintro e w1 ⟨rfl, hb⟩
  obtain ⟨hc0, hc1, hc2, hf0, hf1, hf2, hb'⟩ := res_cells1 hb
  have HB := Hid.mk' hb'
  clear hb hb'
  go_wp2
  exact bodyPost_ret (v := RV K t v) (by simp [results, Tryd.results6, go_sem, hc0, hc1, hc2]) rfl ⟨rfl, below_set3 HB.out⟩
set_option maxHeartbeats 400000 in
theorem i1_narrow (op p a x : Int) (K : Bool) (t v : Int) (w : World) (ha0 : 0 ≤ a) (ha : a ≤ 18446744073709551615) (hx : a % 4294967296 = x)
    (hO : ∀ w, Calls Tryd.prog 16 #[.int .i64 op] w fun e w' => e = .returned (.tuple #[.int .i64 p, .bool false]) ∧ w = w')
    (hD : ∀ W, Below w.heap.size w W → Calls Tryd.prog 18 #[.int .i64 p, .int .u32 x] W fun e W' => e = .returned (RV K t v) ∧ Below W.heap.size W W') :
    Calls Tryd.prog 6 #[.int .i64 op, .int .u64 a] w fun e w' => e = .returned (RV K t v) ∧ Below w.heap.size w w' := by
  have HO := Hid.mk' hO
  have HD := Hid.mk' hD
  clear hO hD
  go_enter Tryd.func6, Tryd.ntmps6
  go_wp2_with fail
  refine (HO.out _).mono ?_
  rintro e w0 ⟨rfl, rfl⟩
  go_wp2_with fail
  refine (HD.out _ ?hB).mono ?_
  case hB => exact (Below.refl _ _).alloc (Nat.le_refl _) _
  clear HO HD
  rintro e w1 ⟨rfl, hb⟩
  obtain ⟨hc0, hc1, hc2, hf0, hf1, hf2, hb'⟩ := res_cells1 hb
  have HB := Hid.mk' hb'
  clear hb hb'
  go_wp2
  exact bodyPost_ret (v := RV K t v) (by simp [results, Tryd.results6, go_sem, hc0, hc1, hc2]) rfl ⟨rfl, below_set3 HB.out⟩
/-- Both functions answer alike, in worlds where the library's table lies. -/
def Agree1 (op a : Int) (K : Bool) (t v : Int) : Prop :=
  (∀ w, Tab0 w → 0 < w.heap.size → Calls Tryd.prog 6 #[.int .i64 op, .int .u64 a] w fun e w' => e = .returned (RV K t v) ∧ Below w.heap.size w w') ∧
  (∀ w, Calls Tryd.prog 5 #[.int .i64 op, .int .u64 a] w fun e w' => e = .returned (RV K t v) ∧ Below w.heap.size w w')
theorem wrap32_low (a x : Int) (h : a % 4294967296 = x) : wrap32 x = wrap32 a := by simp only [wrap32]; omega
theorem ag1_69 (A X : Nat) (hA : A < 18446744073709551616) (hx : (A : Int) % 4294967296 = (X : Int)) : Agree1 69 A true 0 (fl ((X : Int) == 0)) :=
  ⟨fun w hT hz => i1_narrow 69 69 A X _ _ _ w (by omega) (by omega) hx (fun w => fold_d 69 w (by decide) (by decide) (by decide) (by decide) (by decide)) (fun W hb => u32_69 X W (by omega) (hT.below hb hz) (Nat.lt_of_lt_of_le hz hb.size)),
   fun w => s1_69 A X w hA hx⟩
theorem ag1_80 (A X : Nat) (hA : A < 18446744073709551616) (hx : (A : Int) % 4294967296 = (X : Int)) : Agree1 80 A true 0 (fl ((A : Int) == 0)) :=
  ⟨fun w hT hz => i1_wide 80 69 A X _ _ _ w (by omega) (by omega) hx (fun w => fold_a 80 w (by decide) (by decide) (by decide) (by decide)) (fun W hb => u64_69 A W (by omega) (hT.below hb hz) (Nat.lt_of_lt_of_le hz hb.size)),
   fun w => s1_80 A X w hA hx⟩
theorem ag1_103 (A X : Nat) (hA : A < 18446744073709551616) (hx : (A : Int) % 4294967296 = (X : Int)) : Agree1 103 A true 0 (((highN 32 32 X : Nat) : Int)) :=
  ⟨fun w hT hz => i1_narrow 103 103 A X _ _ _ w (by omega) (by omega) hx (fun w => fold_d 103 w (by decide) (by decide) (by decide) (by decide) (by decide)) (fun W hb => u32_103 X W (by omega) (hT.below hb hz) (Nat.lt_of_lt_of_le hz hb.size)),
   fun w => s1_103 A X w hA hx⟩
theorem ag1_121 (A X : Nat) (hA : A < 18446744073709551616) (hx : (A : Int) % 4294967296 = (X : Int)) : Agree1 121 A true 0 (((highN 64 64 A : Nat) : Int)) :=
  ⟨fun w hT hz => i1_wide 121 103 A X _ _ _ w (by omega) (by omega) hx (fun w => fold_b 121 w (by decide) (by decide) (by decide) (by decide)) (fun W hb => u64_103 A W (by omega) (hT.below hb hz) (Nat.lt_of_lt_of_le hz hb.size)),
   fun w => s1_121 A X w hA hx⟩
theorem ag1_104 (A X : Nat) (hA : A < 18446744073709551616) (hx : (A : Int) % 4294967296 = (X : Int)) : Agree1 104 A true 0 (((lowN 32 32 X : Nat) : Int)) :=
  ⟨fun w hT hz => i1_narrow 104 104 A X _ _ _ w (by omega) (by omega) hx (fun w => fold_d 104 w (by decide) (by decide) (by decide) (by decide) (by decide)) (fun W hb => u32_104 X W (by omega) (hT.below hb hz) (Nat.lt_of_lt_of_le hz hb.size)),
   fun w => s1_104 A X w hA hx⟩
theorem ag1_122 (A X : Nat) (hA : A < 18446744073709551616) (hx : (A : Int) % 4294967296 = (X : Int)) : Agree1 122 A true 0 (((lowN 64 64 A : Nat) : Int)) :=
  ⟨fun w hT hz => i1_wide 122 104 A X _ _ _ w (by omega) (by omega) hx (fun w => fold_b 122 w (by decide) (by decide) (by decide) (by decide)) (fun W hb => u64_104 A W (by omega) (hT.below hb hz) (Nat.lt_of_lt_of_le hz hb.size)),
   fun w => s1_122 A X w hA hx⟩
theorem ag1_105 (A X : Nat) (hA : A < 18446744073709551616) (hx : (A : Int) % 4294967296 = (X : Int)) : Agree1 105 A true 0 (((ones 32 X : Nat) : Int)) :=
  ⟨fun w hT hz => i1_narrow 105 105 A X _ _ _ w (by omega) (by omega) hx (fun w => fold_d 105 w (by decide) (by decide) (by decide) (by decide) (by decide)) (fun W hb => u32_105 X W (by omega) (hT.below hb hz) (Nat.lt_of_lt_of_le hz hb.size)),
   fun w => s1_105 A X w hA hx⟩
theorem ag1_123 (A X : Nat) (hA : A < 18446744073709551616) (hx : (A : Int) % 4294967296 = (X : Int)) : Agree1 123 A true 0 (((ones 64 A : Nat) : Int)) :=
  ⟨fun w hT hz => i1_wide 123 105 A X _ _ _ w (by omega) (by omega) hx (fun w => fold_b 123 w (by decide) (by decide) (by decide) (by decide)) (fun W hb => u64_105 A W (by omega) (hT.below hb hz) (Nat.lt_of_lt_of_le hz hb.size)),
   fun w => s1_123 A X w hA hx⟩
theorem ag1_167 (A X : Nat) (hA : A < 18446744073709551616) (hx : (A : Int) % 4294967296 = (X : Int)) : Agree1 167 A true 0 ((X : Int)) :=
  ⟨fun w hT hz => i1_wide 167 167 A X _ _ _ w (by omega) (by omega) hx (fun w => fold_c 167 w (by decide) (by decide) (by decide) (by decide) (by decide)) (fun W hb => hx ▸ u64_167 A W (by omega) (hT.below hb hz) (Nat.lt_of_lt_of_le hz hb.size)),
   fun w => s1_167 A X w hA hx⟩
theorem ag1_173 (A X : Nat) (hA : A < 18446744073709551616) (hx : (A : Int) % 4294967296 = (X : Int)) : Agree1 173 A true 0 ((X : Int)) :=
  ⟨fun w hT hz => i1_wide 173 173 A X _ _ _ w (by omega) (by omega) hx (fun w => fold_c 173 w (by decide) (by decide) (by decide) (by decide) (by decide)) (fun W hb => hx ▸ u64_173 A W (by omega) (hT.below hb hz) (Nat.lt_of_lt_of_le hz hb.size)),
   fun w => s1_173 A X w hA hx⟩
theorem ag1_172 (A X : Nat) (hA : A < 18446744073709551616) (hx : (A : Int) % 4294967296 = (X : Int)) : Agree1 172 A true 0 (IntKind.u64.wrap (wrap32 (X : Int))) :=
  ⟨fun w hT hz => i1_wide 172 172 A X _ _ _ w (by omega) (by omega) hx (fun w => fold_c 172 w (by decide) (by decide) (by decide) (by decide) (by decide)) (fun W hb => (wrap32_low _ _ hx).symm ▸ u64_172 A W (by omega) (hT.below hb hz) (Nat.lt_of_lt_of_le hz hb.size)),
   fun w => s1_172 A X w hA hx⟩
theorem agree1 (op : Int) (A : Nat) (hl : -9223372036854775808 ≤ op) (hr : op ≤ 9223372036854775807) (hA : A < 18446744073709551616) : ∃ K t v, Agree1 op A K t v := by
  obtain ⟨X, hx⟩ : ∃ X : Nat, (A : Int) % 4294967296 = (X : Int) := ⟨A % 4294967296, by omega⟩
  by_cases q69 : op = 69
  · subst q69; exact ⟨_, _, _, ag1_69 A X hA hx⟩
  by_cases q80 : op = 80
  · subst q80; exact ⟨_, _, _, ag1_80 A X hA hx⟩
  by_cases q103 : op = 103
  · subst q103; exact ⟨_, _, _, ag1_103 A X hA hx⟩
  by_cases q104 : op = 104
  · subst q104; exact ⟨_, _, _, ag1_104 A X hA hx⟩
  by_cases q105 : op = 105
  · subst q105; exact ⟨_, _, _, ag1_105 A X hA hx⟩
  by_cases q121 : op = 121
  · subst q121; exact ⟨_, _, _, ag1_121 A X hA hx⟩
  by_cases q122 : op = 122
  · subst q122; exact ⟨_, _, _, ag1_122 A X hA hx⟩
  by_cases q123 : op = 123
  · subst q123; exact ⟨_, _, _, ag1_123 A X hA hx⟩
  by_cases q167 : op = 167
  · subst q167; exact ⟨_, _, _, ag1_167 A X hA hx⟩
  by_cases q172 : op = 172
  · subst q172; exact ⟨_, _, _, ag1_172 A X hA hx⟩
  by_cases q173 : op = 173
  · subst q173; exact ⟨_, _, _, ag1_173 A X hA hx⟩
  refine ⟨false, 0, 0, fun w hT hz => ?_, fun w => ?_⟩
  · by_cases h1 : 80 ≤ op ∧ op ≤ 90
    · exact i1_wide op (op - 11) A X _ _ _ w (by omega) (by omega) hx (fun w => fold_a op w hl hr h1.1 h1.2) (fun W _ => un64_none _ _ W (by omega) (by omega) (by omega) (by omega) (by omega) (by omega) (by omega))
    · by_cases h2 : 121 ≤ op ∧ op ≤ 138
      · exact i1_wide op (op - 18) A X _ _ _ w (by omega) (by omega) hx (fun w => fold_b op w hl hr h2.1 h2.2) (fun W _ => un64_none _ _ W (by omega) (by omega) (by omega) (by omega) (by omega) (by omega) (by omega))
      · by_cases h3 : 167 ≤ op
        · exact i1_wide op op A X _ _ _ w (by omega) (by omega) hx (fun w => fold_c op w hl hr h1 h2 h3) (fun W _ => un64_none _ _ W (by omega) (by omega) (by omega) (by omega) (by omega) (by omega) (by omega))
        · exact i1_narrow op op A X _ _ _ w (by omega) (by omega) hx (fun w => fold_d op w hl hr h1 h2 h3) (fun W _ => un32_none _ _ W (by omega) (by omega) (by omega) (by omega) (by omega) (by omega) (by omega))
  · by_cases h : 121 ≤ op
    · exact s1_none_hi op A w hA q69 q80 q103 q104 q105 q121 q122 q123 q167 q172 q173 h (by omega)
    · exact s1_none_lo op A w hA q69 q80 q103 q104 q105 q121 q122 q123 q167 q172 q173 h
end Go.Proofs.YtjiaainhieeepaaDoor
