import Derived.Test.YtjiaainhieeepaaDoorFold
import Derived.Test.YtjiaainhieeepaaDoorOp2
import Derived.Test.YtjiaainhieeepaaDoorSpecC
import Derived.Test.YtjiaainhieeepaaDoorSpecB
set_option linter.unusedVariables false
namespace Go.Proofs.YtjiaainhieeepaaDoor
open Go.RowKit
set_option maxHeartbeats 400000 in
theorem i2_wide (op p a b : Int) (K : Bool) (t v : Int) (w : World) (ha0 : 0 ≤ a) (ha : a ≤ 18446744073709551615) (hb0 : 0 ≤ b) (hb : b ≤ 18446744073709551615)
    (hO : ∀ w, Calls Tryd.prog 16 #[.int .i64 op] w fun e w' => e = .returned (.tuple #[.int .i64 p, .bool true]) ∧ w = w')
    (hD : ∀ w, Calls Tryd.prog 23 #[.int .i64 p, .int .u64 a, .int .u64 b] w fun e w' => e = .returned (RV K t v) ∧ Below w.heap.size w w') :
    Calls Tryd.prog 9 #[.int .i64 op, .int .u64 a, .int .u64 b] w fun e w' => e = .returned (RV K t v) ∧ Below w.heap.size w w' := by
  have HO := Hid.mk' hO
  have HD := Hid.mk' hD
  clear hO hD
  go_enter Tryd.func9, Tryd.ntmps9
  go_wp2_with fail
  refine (HO.out _).mono ?_
  rintro e w0 ⟨rfl, rfl⟩
  go_wp2_with fail
  refine (HD.out _).mono ?_
  clear HO HD
  rintro e w1 ⟨rfl, hb⟩
  obtain ⟨hc0, hc1, hc2, hf0, hf1, hf2, hb'⟩ := res_cells1 hb
  have HB := Hid.mk' hb'
  clear hb hb'
  go_wp2
  exact bodyPost_ret (v := RV K t v) (by simp [results, Tryd.results9, go_sem, hc0, hc1, hc2]) rfl ⟨rfl, below_set3 HB.out⟩
set_option maxHeartbeats 400000 in
theorem i2_narrow (op p a b : Int) (K : Bool) (t v : Int) (w : World) (ha0 : 0 ≤ a) (ha : a ≤ 18446744073709551615) (hb0 : 0 ≤ b) (hb : b ≤ 18446744073709551615)
    (hO : ∀ w, Calls Tryd.prog 16 #[.int .i64 op] w fun e w' => e = .returned (.tuple #[.int .i64 p, .bool false]) ∧ w = w')
    (hD : ∀ w, Calls Tryd.prog 24 #[.int .i64 p, .int .u32 (a % 4294967296), .int .u32 (b % 4294967296)] w fun e w' => e = .returned (RV K t v) ∧ Below w.heap.size w w') :
    Calls Tryd.prog 9 #[.int .i64 op, .int .u64 a, .int .u64 b] w fun e w' => e = .returned (RV K t v) ∧ Below w.heap.size w w' := by
  have HO := Hid.mk' hO
  have HD := Hid.mk' hD
  clear hO hD
  go_enter Tryd.func9, Tryd.ntmps9
  go_wp2_with fail
  refine (HO.out _).mono ?_
  rintro e w0 ⟨rfl, rfl⟩
  go_wp2_with fail
  refine (HD.out _).mono ?_
  clear HO HD
  rintro e w1 ⟨rfl, hb⟩
  obtain ⟨hc0, hc1, hc2, hf0, hf1, hf2, hb'⟩ := res_cells1 hb
  have HB := Hid.mk' hb'
  clear hb hb'
  go_wp2
  exact bodyPost_ret (v := RV K t v) (by simp [results, Tryd.results9, go_sem, hc0, hc1, hc2]) rfl ⟨rfl, below_set3 HB.out⟩
set_option maxHeartbeats 400000 in
theorem s2_c32 (op a b : Int) (K : Bool) (t v : Int) (w : World) (ha0 : 0 ≤ a) (ha : a ≤ 18446744073709551615) (hb0 : 0 ≤ b) (hb : b ≤ 18446744073709551615) (h0 : 70 ≤ op) (h1 : op ≤ 79)
    (hD : ∀ w, Calls Tryd.prog 25 #[.int .i64 (op - 70), .int .u64 (a % 4294967296), .int .u64 (b % 4294967296), .int .i64 32] w fun e w' => e = .returned (RV K t v) ∧ Below w.heap.size w w') :
    Calls Tryd.prog 10 #[.int .i64 op, .int .u64 a, .int .u64 b] w fun e w' => e = .returned (RV K t v) ∧ Below w.heap.size w w' := by
  have HD := Hid.mk' hD
  clear hD
  go_enter Tryd.func10, Tryd.ntmps10
  go_wp2_with (go_at_call 11; refine (low32 _ _ (by omega) (by omega)).mono ?_; rintro e w' ⟨rfl, rfl⟩)
  refine (HD.out _).mono ?_
  clear HD
  rintro e w1 ⟨rfl, hb⟩
  obtain ⟨hc0, hc1, hc2, hf0, hf1, hf2, hb'⟩ := res_cells1 hb
  have HB := Hid.mk' hb'
  clear hb hb'
  go_wp2
  exact bodyPost_ret (v := RV K t v) (by simp [results, Tryd.results10, go_sem, hc0, hc1, hc2]) rfl ⟨rfl, below_set3 HB.out⟩
set_option maxHeartbeats 400000 in
theorem s2_c64 (op a b : Int) (K : Bool) (t v : Int) (w : World) (ha0 : 0 ≤ a) (ha : a ≤ 18446744073709551615) (hb0 : 0 ≤ b) (hb : b ≤ 18446744073709551615) (h0 : 81 ≤ op) (h1 : op ≤ 90)
    (hD : ∀ w, Calls Tryd.prog 25 #[.int .i64 (op - 81), .int .u64 a, .int .u64 b, .int .i64 64] w fun e w' => e = .returned (RV K t v) ∧ Below w.heap.size w w') :
    Calls Tryd.prog 10 #[.int .i64 op, .int .u64 a, .int .u64 b] w fun e w' => e = .returned (RV K t v) ∧ Below w.heap.size w w' := by
  have HD := Hid.mk' hD
  clear hD
  have t0 : 70 ≤ op := by omega
  have t1 : ¬ op ≤ 79 := by omega
  go_enter Tryd.func10, Tryd.ntmps10
  go_wp2_with fail
  refine (HD.out _).mono ?_
  clear HD
  rintro e w1 ⟨rfl, hb⟩
  obtain ⟨hc0, hc1, hc2, hf0, hf1, hf2, hb'⟩ := res_cells1 hb
  have HB := Hid.mk' hb'
  clear hb hb'
  go_wp2
  exact bodyPost_ret (v := RV K t v) (by simp [results, Tryd.results10, go_sem, hc0, hc1, hc2]) rfl ⟨rfl, below_set3 HB.out⟩
set_option maxHeartbeats 400000 in
theorem s2_b32 (op a b : Int) (K : Bool) (t v : Int) (w : World) (ha0 : 0 ≤ a) (ha : a ≤ 18446744073709551615) (hb0 : 0 ≤ b) (hb : b ≤ 18446744073709551615) (h0 : 106 ≤ op) (h1 : op ≤ 120)
    (hD : ∀ w, Calls Tryd.prog 26 #[.int .i64 (op - 106), .int .u64 (a % 4294967296), .int .u64 (b % 4294967296), .int .i64 32] w fun e w' => e = .returned (RV K t v) ∧ Below w.heap.size w w') :
    Calls Tryd.prog 10 #[.int .i64 op, .int .u64 a, .int .u64 b] w fun e w' => e = .returned (RV K t v) ∧ Below w.heap.size w w' := by
  have HD := Hid.mk' hD
  clear hD
  have t0 : 70 ≤ op := by omega
  have t1 : ¬ op ≤ 79 := by omega
  have t2 : 81 ≤ op := by omega
  have t3 : ¬ op ≤ 90 := by omega
  go_enter Tryd.func10, Tryd.ntmps10
  go_wp2_with (go_at_call 11; refine (low32 _ _ (by omega) (by omega)).mono ?_; rintro e w' ⟨rfl, rfl⟩)
  refine (HD.out _).mono ?_
  clear HD
  rintro e w1 ⟨rfl, hb⟩
  obtain ⟨hc0, hc1, hc2, hf0, hf1, hf2, hb'⟩ := res_cells1 hb
  have HB := Hid.mk' hb'
  clear hb hb'
  go_wp2
  exact bodyPost_ret (v := RV K t v) (by simp [results, Tryd.results10, go_sem, hc0, hc1, hc2]) rfl ⟨rfl, below_set3 HB.out⟩
set_option maxHeartbeats 400000 in
theorem s2_b64 (op a b : Int) (K : Bool) (t v : Int) (w : World) (ha0 : 0 ≤ a) (ha : a ≤ 18446744073709551615) (hb0 : 0 ≤ b) (hb : b ≤ 18446744073709551615) (h0 : 124 ≤ op) (h1 : op ≤ 138)
    (hD : ∀ w, Calls Tryd.prog 26 #[.int .i64 (op - 124), .int .u64 a, .int .u64 b, .int .i64 64] w fun e w' => e = .returned (RV K t v) ∧ Below w.heap.size w w') :
    Calls Tryd.prog 10 #[.int .i64 op, .int .u64 a, .int .u64 b] w fun e w' => e = .returned (RV K t v) ∧ Below w.heap.size w w' := by
  have HD := Hid.mk' hD
  clear hD
  have t0 : 70 ≤ op := by omega
  have t1 : ¬ op ≤ 79 := by omega
  have t2 : 81 ≤ op := by omega
  have t3 : ¬ op ≤ 90 := by omega
  have t4 : 106 ≤ op := by omega
  have t5 : ¬ op ≤ 120 := by omega
  go_enter Tryd.func10, Tryd.ntmps10
  go_wp2_with fail
  refine (HD.out _).mono ?_
  clear HD
  rintro e w1 ⟨rfl, hb⟩
  obtain ⟨hc0, hc1, hc2, hf0, hf1, hf2, hb'⟩ := res_cells1 hb
  have HB := Hid.mk' hb'
  clear hb hb'
  go_wp2
  exact bodyPost_ret (v := RV K t v) (by simp [results, Tryd.results10, go_sem, hc0, hc1, hc2]) rfl ⟨rfl, below_set3 HB.out⟩
set_option maxHeartbeats 400000 in
theorem s2_none_lo (op a b : Int) (w : World) (hc : op < 70) : Calls Tryd.prog 10 #[.int .i64 op, .int .u64 a, .int .u64 b] w fun e w' => e = .returned (RV false 0 0) ∧ Below w.heap.size w w' := by
  have t0 : ¬ 70 ≤ op := by omega
  have t1 : ¬ 81 ≤ op := by omega
  have t2 : ¬ 106 ≤ op := by omega
  have t3 : ¬ 124 ≤ op := by omega
  clear hc
  go_enter Tryd.func10, Tryd.ntmps10
  go_wp2
  exact bodyPost_ret (v := RV false 0 0) (by simp [results, Tryd.results10, go_sem]) rfl ⟨rfl, by repeat (first | exact Below.refl _ _ | refine Below.setCell ?_ (by simp) _ | refine Below.alloc ?_ (by simp) _)⟩
set_option maxHeartbeats 400000 in
theorem s2_none_a (op a b : Int) (w : World) (hc : op = 80) : Calls Tryd.prog 10 #[.int .i64 op, .int .u64 a, .int .u64 b] w fun e w' => e = .returned (RV false 0 0) ∧ Below w.heap.size w w' := by
  subst hc
  go_enter Tryd.func10, Tryd.ntmps10
  go_wp2
  exact bodyPost_ret (v := RV false 0 0) (by simp [results, Tryd.results10, go_sem]) rfl ⟨rfl, by repeat (first | exact Below.refl _ _ | refine Below.setCell ?_ (by simp) _ | refine Below.alloc ?_ (by simp) _)⟩
set_option maxHeartbeats 400000 in
theorem s2_none_b (op a b : Int) (w : World) (hc : 90 < op ∧ op < 106) : Calls Tryd.prog 10 #[.int .i64 op, .int .u64 a, .int .u64 b] w fun e w' => e = .returned (RV false 0 0) ∧ Below w.heap.size w w' := by
  have t0 : 70 ≤ op := by omega
  have t1 : ¬ op ≤ 79 := by omega
  have t2 : 81 ≤ op := by omega
  have t3 : ¬ op ≤ 90 := by omega
  have t4 : ¬ 106 ≤ op := by omega
  have t5 : ¬ 124 ≤ op := by omega
  clear hc
  go_enter Tryd.func10, Tryd.ntmps10
  go_wp2
  exact bodyPost_ret (v := RV false 0 0) (by simp [results, Tryd.results10, go_sem]) rfl ⟨rfl, by repeat (first | exact Below.refl _ _ | refine Below.setCell ?_ (by simp) _ | refine Below.alloc ?_ (by simp) _)⟩
set_option maxHeartbeats 400000 in
theorem s2_none_c (op a b : Int) (w : World) (hc : 120 < op ∧ op < 124) : Calls Tryd.prog 10 #[.int .i64 op, .int .u64 a, .int .u64 b] w fun e w' => e = .returned (RV false 0 0) ∧ Below w.heap.size w w' := by
  have t0 : 70 ≤ op := by omega
  have t1 : ¬ op ≤ 79 := by omega
  have t2 : 81 ≤ op := by omega
  have t3 : ¬ op ≤ 90 := by omega
  have t4 : 106 ≤ op := by omega
  have t5 : ¬ op ≤ 120 := by omega
  have t6 : ¬ 124 ≤ op := by omega
  clear hc
  go_enter Tryd.func10, Tryd.ntmps10
  go_wp2
  exact bodyPost_ret (v := RV false 0 0) (by simp [results, Tryd.results10, go_sem]) rfl ⟨rfl, by repeat (first | exact Below.refl _ _ | refine Below.setCell ?_ (by simp) _ | refine Below.alloc ?_ (by simp) _)⟩
set_option maxHeartbeats 400000 in
theorem s2_none_hi (op a b : Int) (w : World) (hc : 138 < op) : Calls Tryd.prog 10 #[.int .i64 op, .int .u64 a, .int .u64 b] w fun e w' => e = .returned (RV false 0 0) ∧ Below w.heap.size w w' := by
  have t0 : 70 ≤ op := by omega
  have t1 : ¬ op ≤ 79 := by omega
  have t2 : 81 ≤ op := by omega
  have t3 : ¬ op ≤ 90 := by omega
  have t4 : 106 ≤ op := by omega
  have t5 : ¬ op ≤ 120 := by omega
  have t6 : 124 ≤ op := by omega
  have t7 : ¬ op ≤ 138 := by omega
  clear hc
  go_enter Tryd.func10, Tryd.ntmps10
  go_wp2
  exact bodyPost_ret (v := RV false 0 0) (by simp [results, Tryd.results10, go_sem]) rfl ⟨rfl, by repeat (first | exact Below.refl _ _ | refine Below.setCell ?_ (by simp) _ | refine Below.alloc ?_ (by simp) _)⟩
theorem s2_none (op a b : Int) (w : World) (h : op < 70 ∨ op = 80 ∨ (90 < op ∧ op < 106) ∨ (120 < op ∧ op < 124) ∨ 138 < op) : Calls Tryd.prog 10 #[.int .i64 op, .int .u64 a, .int .u64 b] w fun e w' => e = .returned (RV false 0 0) ∧ Below w.heap.size w w' := by
  rcases h with h | h | h | h | h
  · exact s2_none_lo op a b w h
  · exact s2_none_a op a b w h
  · exact s2_none_b op a b w h
  · exact s2_none_c op a b w h
  · exact s2_none_hi op a b w h
end Go.Proofs.YtjiaainhieeepaaDoor
