import Derived.Test.YthmppcfhbbjhlaaDoorCel
set_option linter.all false
namespace Go.Proofs.YthmppcfhbbjhlaaDoor
open Go.RowKit Go.Sort

/-- The two formats: narrow and wide. -/
abbrev FVn : Value := .agg #[.int .i64 32, .int .i64 23, .int .i64 (-149), .int .u64 2143289344]
abbrev FVw : Value := .agg #[.int .i64 64, .int .i64 52, .int .i64 (-1074), .int .u64 9221120237041090560]

set_option maxHeartbeats 1000000 in
theorem signBit_n (w : World) : Calls Tryd.prog 36 #[FVn] w fun e w' => e = .returned (.int .u64 2147483648) ∧ Below w.heap.size w w' := by
  go_enter Tryd.func36, Tryd.ntmps36
  go_wp2
  go_ret
  exact ⟨rfl, by repeat (first | exact Below.refl _ _ | refine Below.setCell ?_ (by first | (simp; done) | (simp; omega) | omega) _ | refine Below.alloc ?_ (by first | (simp; done) | (simp; omega)) _ | refine Below.drew ?_)⟩
set_option maxHeartbeats 1000000 in
theorem infinity_n (w : World) : Calls Tryd.prog 77 #[FVn] w fun e w' => e = .returned (.int .u64 2139095040) ∧ Below w.heap.size w w' := by
  go_enter Tryd.func77, Tryd.ntmps77
  go_upto_region 1 with fail
  refine wp_gen (fun wc => C4 wc w.heap.size (.int .i64 32) (.int .i64 23) (.int .i64 (-149)) (.int .u64 2143289344) ∧ Below w.heap.size w wc) ⟨c4_new, (Below.refl _ _).alloc (Nat.le_refl _) _⟩ ?_
  rintro w4 ⟨⟨q0, q1, q2, q3⟩, hw4⟩
  have kq0 := cell_regrown q0
  have kq1 := cell_regrown q1
  have kq2 := cell_regrown q2
  have kq3 := cell_regrown q3
  have cS : ∀ d os, Calls Tryd.prog 36 #[FVn] (grow (redrawn w4 d) os) fun e w'' => e = .returned (.int .u64 2147483648) ∧ ∃ p : Regrown, w'' = grow (redrawn w4 p.d) p.os := fun d os => Calls.regrown_of (signBit_n _)
  have HW := Hid.mk' hw4
  clear hw4
  refine wp_region_quiet_below (by kernel_rfl) (by kernel_rfl) ?_
  repeat (quiet_step (exact cS _ _))
  refine wpQuiet_nil ?_
  intro _ hw'
  obtain ⟨⟨dq, osq⟩, hw''⟩ := hw'
  subst hw''
  have hw5 := HW.out.trans ((below_regrown w4 dq osq).mono HW.out.size)
  show Exit.then _ _ Exit.normal _ (grow (redrawn w4 dq) osq)
  go_wp2
  go_ret
  exact ⟨rfl, hw5⟩
set_option maxHeartbeats 1000000 in
theorem low_n (a : Int) (w : World) : Calls Tryd.prog 35 #[FVn, .int .u64 a] w fun e w' => e = .returned (.int .u64 (bits .and .u64 a 4294967295)) ∧ Below w.heap.size w w' := by
  go_enter Tryd.func35, Tryd.ntmps35
  go_wp2_with fail
  refine (signBit_n _).mono ?_
  rintro e w1 ⟨rfl, hb⟩
  have HB := Hid.mk' (below_box hb)
  clear hb
  go_wp2
  go_ret
  exact ⟨rfl, HB.out⟩
set_option maxHeartbeats 1000000 in
theorem signed_n_t (m : Int) (w : World) : Calls Tryd.prog 84 #[FVn, .bool true, .int .u64 m] w fun e w' => e = .returned (.int .u64 (bits .or .u64 m 2147483648)) ∧ Below w.heap.size w w' := by
  go_enter Tryd.func84, Tryd.ntmps84
  go_wp2_with fail
  refine (signBit_n _).mono ?_
  rintro e w1 ⟨rfl, hb⟩
  have HB := Hid.mk' (below_box hb)
  clear hb
  go_wp2
  go_ret
  exact ⟨rfl, HB.out⟩
set_option maxHeartbeats 1000000 in
theorem signed_n_f (m : Int) (w : World) : Calls Tryd.prog 84 #[FVn, .bool false, .int .u64 m] w fun e w' => e = .returned (.int .u64 m) ∧ Below w.heap.size w w' := by
  go_enter Tryd.func84, Tryd.ntmps84
  go_wp2
  go_ret
  exact ⟨rfl, by repeat (first | exact Below.refl _ _ | refine Below.setCell ?_ (by first | (simp; done) | (simp; omega) | omega) _ | refine Below.alloc ?_ (by first | (simp; done) | (simp; omega)) _ | refine Below.drew ?_)⟩
set_option maxHeartbeats 2000000 in
theorem read_n_nan (a A m : Int) (g : Bool) (w : World) (hm0 : 0 ≤ m) (h1 : 2139095040 < m)
    (KL : ∀ w, Hid (Calls Tryd.prog 35 #[FVn, .int .u64 a] w fun e w' => e = .returned (.int .u64 A) ∧ Below w.heap.size w w'))
    (KG : (bits .and .u64 A 2147483648 != 0) = g) (KM : bits .andNot .u64 A 2147483648 = m) :
    Calls Tryd.prog 33 #[FVn, .int .u64 a] w fun e w' => e = .returned (NV 2 false 0 0 0) ∧ Below w.heap.size w w' := by
  go_enter Tryd.func33, Tryd.ntmps33
  go_wp2_with fail
  refine (KL _).out.mono ?_
  rintro e w1 ⟨rfl, hb⟩
  have cf := Hid.mk' (c4_new.past.keep hb)
  have cr := Hid.mk' (c5_mid.keep hb)
  have HB := Hid.mk' (below2 hb)
  clear hb KL
  obtain ⟨q0, q1, q2, q3⟩ := cf.out
  go_wp2_with fail
  refine (signBit_n _).mono ?_
  rintro e w2 ⟨rfl, hb⟩
  have cf2 := Hid.mk' (cf.out.keep hb)
  have cr2 := Hid.mk' (cr.out.keep hb)
  have HB2 := Hid.mk' (HB.out.trans (hb.mono HB.out.size))
  clear q0 q1 q2 q3 cf cr HB hb w1
  obtain ⟨q0, q1, q2, q3⟩ := cf2.out
  go_wp2_with fail
  refine (signBit_n _).mono ?_
  rintro e w3 ⟨rfl, hb⟩
  have cf := Hid.mk' (cf2.out.keep hb)
  have cr := Hid.mk' (cr2.out.keep hb)
  have HB := Hid.mk' (HB2.out.trans (hb.mono HB2.out.size))
  clear q0 q1 q2 q3 cf2 cr2 HB2 hb w2
  obtain ⟨q0, q1, q2, q3⟩ := cf.out
  go_wp2_with fail
  refine (infinity_n _).mono ?_
  rintro e w4 ⟨rfl, hb⟩
  have cf2 := Hid.mk' (cf.out.keep hb)
  have cr2 := Hid.mk' (cr.out.keep hb)
  have HB2 := Hid.mk' (HB.out.trans (hb.mono HB.out.size))
  clear q0 q1 q2 q3 cf cr HB hb w3
  obtain ⟨q0, q1, q2, q3⟩ := cf2.out
  obtain ⟨⟨r0, r1, r2, r3, r4⟩, v0, v1, v2, v3, v4⟩ := cr2.out
  go_wp2
  exact bodyPost_ret (v := NV 2 false 0 0 0) (by simp [results, Tryd.results33, go_sem, r0, r1, r2, r3, r4]) rfl ⟨rfl, by repeat (first | exact HB2.out | refine Below.setCell ?_ (by first | (simp; done) | (simp; omega) | omega) _)⟩
set_option maxHeartbeats 2000000 in
theorem read_n_inf (a A m : Int) (g : Bool) (w : World) (hm0 : 0 ≤ m) (h1 : m = 2139095040)
    (KL : ∀ w, Hid (Calls Tryd.prog 35 #[FVn, .int .u64 a] w fun e w' => e = .returned (.int .u64 A) ∧ Below w.heap.size w w'))
    (KG : (bits .and .u64 A 2147483648 != 0) = g) (KM : bits .andNot .u64 A 2147483648 = m) :
    Calls Tryd.prog 33 #[FVn, .int .u64 a] w fun e w' => e = .returned (NV 1 g 0 0 0) ∧ Below w.heap.size w w' := by
  go_enter Tryd.func33, Tryd.ntmps33
  go_wp2_with fail
  refine (KL _).out.mono ?_
  rintro e w1 ⟨rfl, hb⟩
  have cf := Hid.mk' (c4_new.past.keep hb)
  have cr := Hid.mk' (c5_mid.keep hb)
  have HB := Hid.mk' (below2 hb)
  clear hb KL
  obtain ⟨q0, q1, q2, q3⟩ := cf.out
  go_wp2_with fail
  refine (signBit_n _).mono ?_
  rintro e w2 ⟨rfl, hb⟩
  have cf2 := Hid.mk' (cf.out.keep hb)
  have cr2 := Hid.mk' (cr.out.keep hb)
  have HB2 := Hid.mk' (HB.out.trans (hb.mono HB.out.size))
  clear q0 q1 q2 q3 cf cr HB hb w1
  obtain ⟨q0, q1, q2, q3⟩ := cf2.out
  go_wp2_with fail
  refine (signBit_n _).mono ?_
  rintro e w3 ⟨rfl, hb⟩
  have cf := Hid.mk' (cf2.out.keep hb)
  have cr := Hid.mk' (cr2.out.keep hb)
  have HB := Hid.mk' (HB2.out.trans (hb.mono HB2.out.size))
  clear q0 q1 q2 q3 cf2 cr2 HB2 hb w2
  obtain ⟨q0, q1, q2, q3⟩ := cf.out
  go_wp2_with fail
  refine (infinity_n _).mono ?_
  rintro e w4 ⟨rfl, hb⟩
  have cf2 := Hid.mk' (cf.out.keep hb)
  have cr2 := Hid.mk' (cr.out.keep hb)
  have HB2 := Hid.mk' (HB.out.trans (hb.mono HB.out.size))
  clear q0 q1 q2 q3 cf cr HB hb w3
  obtain ⟨q0, q1, q2, q3⟩ := cf2.out
  have t1 : ¬ 2139095040 < m := by omega
  go_wp2_with fail
  refine (infinity_n _).mono ?_
  rintro e w5 ⟨rfl, hb⟩
  have cf := Hid.mk' (cf2.out.keep hb)
  have cr := Hid.mk' (cr2.out.keep hb)
  have HB := Hid.mk' (HB2.out.trans (hb.mono HB2.out.size))
  clear q0 q1 q2 q3 cf2 cr2 HB2 hb w4
  obtain ⟨q0, q1, q2, q3⟩ := cf.out
  obtain ⟨⟨r0, r1, r2, r3, r4⟩, v0, v1, v2, v3, v4⟩ := cr.out
  go_wp2
  exact bodyPost_ret (v := NV 1 g 0 0 0) (by simp [results, Tryd.results33, go_sem, r0, r1, r2, r3, r4]) rfl ⟨rfl, by repeat (first | exact HB.out | refine Below.setCell ?_ (by first | (simp; done) | (simp; omega) | omega) _ | refine Below.drew ?_)⟩
set_option maxHeartbeats 2000000 in
theorem read_n_sub (a A m : Int) (g : Bool) (w : World) (hm0 : 0 ≤ m) (h1 : m < 8388608)
    (KL : ∀ w, Hid (Calls Tryd.prog 35 #[FVn, .int .u64 a] w fun e w' => e = .returned (.int .u64 A) ∧ Below w.heap.size w w'))
    (KG : (bits .and .u64 A 2147483648 != 0) = g) (KM : bits .andNot .u64 A 2147483648 = m) :
    Calls Tryd.prog 33 #[FVn, .int .u64 a] w fun e w' => e = .returned (NV 0 g (-149) m 0) ∧ Below w.heap.size w w' := by
  go_enter Tryd.func33, Tryd.ntmps33
  go_wp2_with fail
  refine (KL _).out.mono ?_
  rintro e w1 ⟨rfl, hb⟩
  have cf := Hid.mk' (c4_new.past.keep hb)
  have cr := Hid.mk' (c5_mid.keep hb)
  have HB := Hid.mk' (below2 hb)
  clear hb KL
  obtain ⟨q0, q1, q2, q3⟩ := cf.out
  go_wp2_with fail
  refine (signBit_n _).mono ?_
  rintro e w2 ⟨rfl, hb⟩
  have cf2 := Hid.mk' (cf.out.keep hb)
  have cr2 := Hid.mk' (cr.out.keep hb)
  have HB2 := Hid.mk' (HB.out.trans (hb.mono HB.out.size))
  clear q0 q1 q2 q3 cf cr HB hb w1
  obtain ⟨q0, q1, q2, q3⟩ := cf2.out
  go_wp2_with fail
  refine (signBit_n _).mono ?_
  rintro e w3 ⟨rfl, hb⟩
  have cf := Hid.mk' (cf2.out.keep hb)
  have cr := Hid.mk' (cr2.out.keep hb)
  have HB := Hid.mk' (HB2.out.trans (hb.mono HB2.out.size))
  clear q0 q1 q2 q3 cf2 cr2 HB2 hb w2
  obtain ⟨q0, q1, q2, q3⟩ := cf.out
  go_wp2_with fail
  refine (infinity_n _).mono ?_
  rintro e w4 ⟨rfl, hb⟩
  have cf2 := Hid.mk' (cf.out.keep hb)
  have cr2 := Hid.mk' (cr.out.keep hb)
  have HB2 := Hid.mk' (HB.out.trans (hb.mono HB.out.size))
  clear q0 q1 q2 q3 cf cr HB hb w3
  obtain ⟨q0, q1, q2, q3⟩ := cf2.out
  have t1 : ¬ 2139095040 < m := by omega
  go_wp2_with fail
  refine (infinity_n _).mono ?_
  rintro e w5 ⟨rfl, hb⟩
  have cf := Hid.mk' (cf2.out.keep hb)
  have cr := Hid.mk' (cr2.out.keep hb)
  have HB := Hid.mk' (HB2.out.trans (hb.mono HB2.out.size))
  clear q0 q1 q2 q3 cf2 cr2 HB2 hb w4
  obtain ⟨q0, q1, q2, q3⟩ := cf.out
  obtain ⟨⟨r0, r1, r2, r3, r4⟩, v0, v1, v2, v3, v4⟩ := cr.out
  have t2 : (m == 2139095040) = false := beq_eq_false_iff_ne.2 (by omega)
  go_wp2
  exact bodyPost_ret (v := NV 0 g (-149) m 0) (by simp [results, Tryd.results33, go_sem, r0, r1, r2, r3, r4]) rfl ⟨rfl, by repeat (first | exact HB.out | refine Below.setCell ?_ (by first | (simp; done) | (simp; omega) | omega) _ | refine Below.drew ?_)⟩
set_option maxHeartbeats 2000000 in
theorem read_n_nor (a A m : Int) (g : Bool) (w : World) (hm0 : 0 ≤ m) (h1 : 8388608 ≤ m) (h2 : m < 2139095040)
    (KL : ∀ w, Hid (Calls Tryd.prog 35 #[FVn, .int .u64 a] w fun e w' => e = .returned (.int .u64 A) ∧ Below w.heap.size w w'))
    (KG : (bits .and .u64 A 2147483648 != 0) = g) (KM : bits .andNot .u64 A 2147483648 = m) :
    Calls Tryd.prog 33 #[FVn, .int .u64 a] w fun e w' => e = .returned (NV 0 g (m / 8388608 - 1 + (-149)) (bits .or .u64 (bits .and .u64 m 8388607) 8388608) 0) ∧ Below w.heap.size w w' := by
  go_enter Tryd.func33, Tryd.ntmps33
  go_wp2_with fail
  refine (KL _).out.mono ?_
  rintro e w1 ⟨rfl, hb⟩
  have cf := Hid.mk' (c4_new.past.keep hb)
  have cr := Hid.mk' (c5_mid.keep hb)
  have HB := Hid.mk' (below2 hb)
  clear hb KL
  obtain ⟨q0, q1, q2, q3⟩ := cf.out
  go_wp2_with fail
  refine (signBit_n _).mono ?_
  rintro e w2 ⟨rfl, hb⟩
  have cf2 := Hid.mk' (cf.out.keep hb)
  have cr2 := Hid.mk' (cr.out.keep hb)
  have HB2 := Hid.mk' (HB.out.trans (hb.mono HB.out.size))
  clear q0 q1 q2 q3 cf cr HB hb w1
  obtain ⟨q0, q1, q2, q3⟩ := cf2.out
  go_wp2_with fail
  refine (signBit_n _).mono ?_
  rintro e w3 ⟨rfl, hb⟩
  have cf := Hid.mk' (cf2.out.keep hb)
  have cr := Hid.mk' (cr2.out.keep hb)
  have HB := Hid.mk' (HB2.out.trans (hb.mono HB2.out.size))
  clear q0 q1 q2 q3 cf2 cr2 HB2 hb w2
  obtain ⟨q0, q1, q2, q3⟩ := cf.out
  go_wp2_with fail
  refine (infinity_n _).mono ?_
  rintro e w4 ⟨rfl, hb⟩
  have cf2 := Hid.mk' (cf.out.keep hb)
  have cr2 := Hid.mk' (cr.out.keep hb)
  have HB2 := Hid.mk' (HB.out.trans (hb.mono HB.out.size))
  clear q0 q1 q2 q3 cf cr HB hb w3
  obtain ⟨q0, q1, q2, q3⟩ := cf2.out
  have t1 : ¬ 2139095040 < m := by omega
  go_wp2_with fail
  refine (infinity_n _).mono ?_
  rintro e w5 ⟨rfl, hb⟩
  have cf := Hid.mk' (cf2.out.keep hb)
  have cr := Hid.mk' (cr2.out.keep hb)
  have HB := Hid.mk' (HB2.out.trans (hb.mono HB2.out.size))
  clear q0 q1 q2 q3 cf2 cr2 HB2 hb w4
  obtain ⟨q0, q1, q2, q3⟩ := cf.out
  obtain ⟨⟨r0, r1, r2, r3, r4⟩, v0, v1, v2, v3, v4⟩ := cr.out
  have t2 : (m == 2139095040) = false := beq_eq_false_iff_ne.2 (by omega)
  have t3 : ¬ m < 8388608 := by omega
  go_wp2
  go_region
  go_wp2
  exact bodyPost_ret (v := NV 0 g (m / 8388608 - 1 + (-149)) (bits .or .u64 (bits .and .u64 m 8388607) 8388608) 0) (by simp [results, Tryd.results33, go_sem, r0, r1, r2, r3, r4]) rfl ⟨rfl, by repeat (first | exact HB.out | refine Below.setCell ?_ (by first | (simp; done) | (simp; omega) | omega) _ | refine Below.drew ?_)⟩
set_option maxHeartbeats 1000000 in
theorem signBit_w (w : World) : Calls Tryd.prog 36 #[FVw] w fun e w' => e = .returned (.int .u64 9223372036854775808) ∧ Below w.heap.size w w' := by
  go_enter Tryd.func36, Tryd.ntmps36
  go_wp2
  go_ret
  exact ⟨rfl, by repeat (first | exact Below.refl _ _ | refine Below.setCell ?_ (by first | (simp; done) | (simp; omega) | omega) _ | refine Below.alloc ?_ (by first | (simp; done) | (simp; omega)) _ | refine Below.drew ?_)⟩
set_option maxHeartbeats 1000000 in
theorem infinity_w (w : World) : Calls Tryd.prog 77 #[FVw] w fun e w' => e = .returned (.int .u64 9218868437227405312) ∧ Below w.heap.size w w' := by
  go_enter Tryd.func77, Tryd.ntmps77
  go_upto_region 1 with fail
  refine wp_gen (fun wc => C4 wc w.heap.size (.int .i64 64) (.int .i64 52) (.int .i64 (-1074)) (.int .u64 9221120237041090560) ∧ Below w.heap.size w wc) ⟨c4_new, (Below.refl _ _).alloc (Nat.le_refl _) _⟩ ?_
  rintro w4 ⟨⟨q0, q1, q2, q3⟩, hw4⟩
  have kq0 := cell_regrown q0
  have kq1 := cell_regrown q1
  have kq2 := cell_regrown q2
  have kq3 := cell_regrown q3
  have cS : ∀ d os, Calls Tryd.prog 36 #[FVw] (grow (redrawn w4 d) os) fun e w'' => e = .returned (.int .u64 9223372036854775808) ∧ ∃ p : Regrown, w'' = grow (redrawn w4 p.d) p.os := fun d os => Calls.regrown_of (signBit_w _)
  have HW := Hid.mk' hw4
  clear hw4
  refine wp_region_quiet_below (by kernel_rfl) (by kernel_rfl) ?_
  repeat (quiet_step (exact cS _ _))
  refine wpQuiet_nil ?_
  intro _ hw'
  obtain ⟨⟨dq, osq⟩, hw''⟩ := hw'
  subst hw''
  have hw5 := HW.out.trans ((below_regrown w4 dq osq).mono HW.out.size)
  show Exit.then _ _ Exit.normal _ (grow (redrawn w4 dq) osq)
  go_wp2
  go_ret
  exact ⟨rfl, hw5⟩
set_option maxHeartbeats 1000000 in
theorem low_w (a : Int) (w : World) : Calls Tryd.prog 35 #[FVw, .int .u64 a] w fun e w' => e = .returned (.int .u64 (bits .and .u64 a 18446744073709551615)) ∧ Below w.heap.size w w' := by
  go_enter Tryd.func35, Tryd.ntmps35
  go_wp2_with fail
  refine (signBit_w _).mono ?_
  rintro e w1 ⟨rfl, hb⟩
  have HB := Hid.mk' (below_box hb)
  clear hb
  go_wp2
  go_ret
  exact ⟨rfl, HB.out⟩
set_option maxHeartbeats 1000000 in
theorem signed_w_t (m : Int) (w : World) : Calls Tryd.prog 84 #[FVw, .bool true, .int .u64 m] w fun e w' => e = .returned (.int .u64 (bits .or .u64 m 9223372036854775808)) ∧ Below w.heap.size w w' := by
  go_enter Tryd.func84, Tryd.ntmps84
  go_wp2_with fail
  refine (signBit_w _).mono ?_
  rintro e w1 ⟨rfl, hb⟩
  have HB := Hid.mk' (below_box hb)
  clear hb
  go_wp2
  go_ret
  exact ⟨rfl, HB.out⟩
set_option maxHeartbeats 1000000 in
theorem signed_w_f (m : Int) (w : World) : Calls Tryd.prog 84 #[FVw, .bool false, .int .u64 m] w fun e w' => e = .returned (.int .u64 m) ∧ Below w.heap.size w w' := by
  go_enter Tryd.func84, Tryd.ntmps84
  go_wp2
  go_ret
  exact ⟨rfl, by repeat (first | exact Below.refl _ _ | refine Below.setCell ?_ (by first | (simp; done) | (simp; omega) | omega) _ | refine Below.alloc ?_ (by first | (simp; done) | (simp; omega)) _ | refine Below.drew ?_)⟩
set_option maxHeartbeats 2000000 in
theorem read_w_nan (a A m : Int) (g : Bool) (w : World) (hm0 : 0 ≤ m) (h1 : 9218868437227405312 < m)
    (KL : ∀ w, Hid (Calls Tryd.prog 35 #[FVw, .int .u64 a] w fun e w' => e = .returned (.int .u64 A) ∧ Below w.heap.size w w'))
    (KG : (bits .and .u64 A 9223372036854775808 != 0) = g) (KM : bits .andNot .u64 A 9223372036854775808 = m) :
    Calls Tryd.prog 33 #[FVw, .int .u64 a] w fun e w' => e = .returned (NV 2 false 0 0 0) ∧ Below w.heap.size w w' := by
  go_enter Tryd.func33, Tryd.ntmps33
  go_wp2_with fail
  refine (KL _).out.mono ?_
  rintro e w1 ⟨rfl, hb⟩
  have cf := Hid.mk' (c4_new.past.keep hb)
  have cr := Hid.mk' (c5_mid.keep hb)
  have HB := Hid.mk' (below2 hb)
  clear hb KL
  obtain ⟨q0, q1, q2, q3⟩ := cf.out
  go_wp2_with fail
  refine (signBit_w _).mono ?_
  rintro e w2 ⟨rfl, hb⟩
  have cf2 := Hid.mk' (cf.out.keep hb)
  have cr2 := Hid.mk' (cr.out.keep hb)
  have HB2 := Hid.mk' (HB.out.trans (hb.mono HB.out.size))
  clear q0 q1 q2 q3 cf cr HB hb w1
  obtain ⟨q0, q1, q2, q3⟩ := cf2.out
  go_wp2_with fail
  refine (signBit_w _).mono ?_
  rintro e w3 ⟨rfl, hb⟩
  have cf := Hid.mk' (cf2.out.keep hb)
  have cr := Hid.mk' (cr2.out.keep hb)
  have HB := Hid.mk' (HB2.out.trans (hb.mono HB2.out.size))
  clear q0 q1 q2 q3 cf2 cr2 HB2 hb w2
  obtain ⟨q0, q1, q2, q3⟩ := cf.out
  go_wp2_with fail
  refine (infinity_w _).mono ?_
  rintro e w4 ⟨rfl, hb⟩
  have cf2 := Hid.mk' (cf.out.keep hb)
  have cr2 := Hid.mk' (cr.out.keep hb)
  have HB2 := Hid.mk' (HB.out.trans (hb.mono HB.out.size))
  clear q0 q1 q2 q3 cf cr HB hb w3
  obtain ⟨q0, q1, q2, q3⟩ := cf2.out
  obtain ⟨⟨r0, r1, r2, r3, r4⟩, v0, v1, v2, v3, v4⟩ := cr2.out
  go_wp2
  exact bodyPost_ret (v := NV 2 false 0 0 0) (by simp [results, Tryd.results33, go_sem, r0, r1, r2, r3, r4]) rfl ⟨rfl, by repeat (first | exact HB2.out | refine Below.setCell ?_ (by first | (simp; done) | (simp; omega) | omega) _)⟩
set_option maxHeartbeats 2000000 in
theorem read_w_inf (a A m : Int) (g : Bool) (w : World) (hm0 : 0 ≤ m) (h1 : m = 9218868437227405312)
    (KL : ∀ w, Hid (Calls Tryd.prog 35 #[FVw, .int .u64 a] w fun e w' => e = .returned (.int .u64 A) ∧ Below w.heap.size w w'))
    (KG : (bits .and .u64 A 9223372036854775808 != 0) = g) (KM : bits .andNot .u64 A 9223372036854775808 = m) :
    Calls Tryd.prog 33 #[FVw, .int .u64 a] w fun e w' => e = .returned (NV 1 g 0 0 0) ∧ Below w.heap.size w w' := by
  go_enter Tryd.func33, Tryd.ntmps33
  go_wp2_with fail
  refine (KL _).out.mono ?_
  rintro e w1 ⟨rfl, hb⟩
  have cf := Hid.mk' (c4_new.past.keep hb)
  have cr := Hid.mk' (c5_mid.keep hb)
  have HB := Hid.mk' (below2 hb)
  clear hb KL
  obtain ⟨q0, q1, q2, q3⟩ := cf.out
  go_wp2_with fail
  refine (signBit_w _).mono ?_
  rintro e w2 ⟨rfl, hb⟩
  have cf2 := Hid.mk' (cf.out.keep hb)
  have cr2 := Hid.mk' (cr.out.keep hb)
  have HB2 := Hid.mk' (HB.out.trans (hb.mono HB.out.size))
  clear q0 q1 q2 q3 cf cr HB hb w1
  obtain ⟨q0, q1, q2, q3⟩ := cf2.out
  go_wp2_with fail
  refine (signBit_w _).mono ?_
  rintro e w3 ⟨rfl, hb⟩
  have cf := Hid.mk' (cf2.out.keep hb)
  have cr := Hid.mk' (cr2.out.keep hb)
  have HB := Hid.mk' (HB2.out.trans (hb.mono HB2.out.size))
  clear q0 q1 q2 q3 cf2 cr2 HB2 hb w2
  obtain ⟨q0, q1, q2, q3⟩ := cf.out
  go_wp2_with fail
  refine (infinity_w _).mono ?_
  rintro e w4 ⟨rfl, hb⟩
  have cf2 := Hid.mk' (cf.out.keep hb)
  have cr2 := Hid.mk' (cr.out.keep hb)
  have HB2 := Hid.mk' (HB.out.trans (hb.mono HB.out.size))
  clear q0 q1 q2 q3 cf cr HB hb w3
  obtain ⟨q0, q1, q2, q3⟩ := cf2.out
  have t1 : ¬ 9218868437227405312 < m := by omega
  go_wp2_with fail
  refine (infinity_w _).mono ?_
  rintro e w5 ⟨rfl, hb⟩
  have cf := Hid.mk' (cf2.out.keep hb)
  have cr := Hid.mk' (cr2.out.keep hb)
  have HB := Hid.mk' (HB2.out.trans (hb.mono HB2.out.size))
  clear q0 q1 q2 q3 cf2 cr2 HB2 hb w4
  obtain ⟨q0, q1, q2, q3⟩ := cf.out
  obtain ⟨⟨r0, r1, r2, r3, r4⟩, v0, v1, v2, v3, v4⟩ := cr.out
  go_wp2
  exact bodyPost_ret (v := NV 1 g 0 0 0) (by simp [results, Tryd.results33, go_sem, r0, r1, r2, r3, r4]) rfl ⟨rfl, by repeat (first | exact HB.out | refine Below.setCell ?_ (by first | (simp; done) | (simp; omega) | omega) _ | refine Below.drew ?_)⟩
set_option maxHeartbeats 2000000 in
theorem read_w_sub (a A m : Int) (g : Bool) (w : World) (hm0 : 0 ≤ m) (h1 : m < 4503599627370496)
    (KL : ∀ w, Hid (Calls Tryd.prog 35 #[FVw, .int .u64 a] w fun e w' => e = .returned (.int .u64 A) ∧ Below w.heap.size w w'))
    (KG : (bits .and .u64 A 9223372036854775808 != 0) = g) (KM : bits .andNot .u64 A 9223372036854775808 = m) :
    Calls Tryd.prog 33 #[FVw, .int .u64 a] w fun e w' => e = .returned (NV 0 g (-1074) m 0) ∧ Below w.heap.size w w' := by
  go_enter Tryd.func33, Tryd.ntmps33
  go_wp2_with fail
  refine (KL _).out.mono ?_
  rintro e w1 ⟨rfl, hb⟩
  have cf := Hid.mk' (c4_new.past.keep hb)
  have cr := Hid.mk' (c5_mid.keep hb)
  have HB := Hid.mk' (below2 hb)
  clear hb KL
  obtain ⟨q0, q1, q2, q3⟩ := cf.out
  go_wp2_with fail
  refine (signBit_w _).mono ?_
  rintro e w2 ⟨rfl, hb⟩
  have cf2 := Hid.mk' (cf.out.keep hb)
  have cr2 := Hid.mk' (cr.out.keep hb)
  have HB2 := Hid.mk' (HB.out.trans (hb.mono HB.out.size))
  clear q0 q1 q2 q3 cf cr HB hb w1
  obtain ⟨q0, q1, q2, q3⟩ := cf2.out
  go_wp2_with fail
  refine (signBit_w _).mono ?_
  rintro e w3 ⟨rfl, hb⟩
  have cf := Hid.mk' (cf2.out.keep hb)
  have cr := Hid.mk' (cr2.out.keep hb)
  have HB := Hid.mk' (HB2.out.trans (hb.mono HB2.out.size))
  clear q0 q1 q2 q3 cf2 cr2 HB2 hb w2
  obtain ⟨q0, q1, q2, q3⟩ := cf.out
  go_wp2_with fail
  refine (infinity_w _).mono ?_
  rintro e w4 ⟨rfl, hb⟩
  have cf2 := Hid.mk' (cf.out.keep hb)
  have cr2 := Hid.mk' (cr.out.keep hb)
  have HB2 := Hid.mk' (HB.out.trans (hb.mono HB.out.size))
  clear q0 q1 q2 q3 cf cr HB hb w3
  obtain ⟨q0, q1, q2, q3⟩ := cf2.out
  have t1 : ¬ 9218868437227405312 < m := by omega
  go_wp2_with fail
  refine (infinity_w _).mono ?_
  rintro e w5 ⟨rfl, hb⟩
  have cf := Hid.mk' (cf2.out.keep hb)
  have cr := Hid.mk' (cr2.out.keep hb)
  have HB := Hid.mk' (HB2.out.trans (hb.mono HB2.out.size))
  clear q0 q1 q2 q3 cf2 cr2 HB2 hb w4
  obtain ⟨q0, q1, q2, q3⟩ := cf.out
  obtain ⟨⟨r0, r1, r2, r3, r4⟩, v0, v1, v2, v3, v4⟩ := cr.out
  have t2 : (m == 9218868437227405312) = false := beq_eq_false_iff_ne.2 (by omega)
  go_wp2
  exact bodyPost_ret (v := NV 0 g (-1074) m 0) (by simp [results, Tryd.results33, go_sem, r0, r1, r2, r3, r4]) rfl ⟨rfl, by repeat (first | exact HB.out | refine Below.setCell ?_ (by first | (simp; done) | (simp; omega) | omega) _ | refine Below.drew ?_)⟩
set_option maxHeartbeats 2000000 in
theorem read_w_nor (a A m : Int) (g : Bool) (w : World) (hm0 : 0 ≤ m) (h1 : 4503599627370496 ≤ m) (h2 : m < 9218868437227405312)
    (KL : ∀ w, Hid (Calls Tryd.prog 35 #[FVw, .int .u64 a] w fun e w' => e = .returned (.int .u64 A) ∧ Below w.heap.size w w'))
    (KG : (bits .and .u64 A 9223372036854775808 != 0) = g) (KM : bits .andNot .u64 A 9223372036854775808 = m) :
    Calls Tryd.prog 33 #[FVw, .int .u64 a] w fun e w' => e = .returned (NV 0 g (m / 4503599627370496 - 1 + (-1074)) (bits .or .u64 (bits .and .u64 m 4503599627370495) 4503599627370496) 0) ∧ Below w.heap.size w w' := by
  go_enter Tryd.func33, Tryd.ntmps33
  go_wp2_with fail
  refine (KL _).out.mono ?_
  rintro e w1 ⟨rfl, hb⟩
  have cf := Hid.mk' (c4_new.past.keep hb)
  have cr := Hid.mk' (c5_mid.keep hb)
  have HB := Hid.mk' (below2 hb)
  clear hb KL
  obtain ⟨q0, q1, q2, q3⟩ := cf.out
  go_wp2_with fail
  refine (signBit_w _).mono ?_
  rintro e w2 ⟨rfl, hb⟩
  have cf2 := Hid.mk' (cf.out.keep hb)
  have cr2 := Hid.mk' (cr.out.keep hb)
  have HB2 := Hid.mk' (HB.out.trans (hb.mono HB.out.size))
  clear q0 q1 q2 q3 cf cr HB hb w1
  obtain ⟨q0, q1, q2, q3⟩ := cf2.out
  go_wp2_with fail
  refine (signBit_w _).mono ?_
  rintro e w3 ⟨rfl, hb⟩
  have cf := Hid.mk' (cf2.out.keep hb)
  have cr := Hid.mk' (cr2.out.keep hb)
  have HB := Hid.mk' (HB2.out.trans (hb.mono HB2.out.size))
  clear q0 q1 q2 q3 cf2 cr2 HB2 hb w2
  obtain ⟨q0, q1, q2, q3⟩ := cf.out
  go_wp2_with fail
  refine (infinity_w _).mono ?_
  rintro e w4 ⟨rfl, hb⟩
  have cf2 := Hid.mk' (cf.out.keep hb)
  have cr2 := Hid.mk' (cr.out.keep hb)
  have HB2 := Hid.mk' (HB.out.trans (hb.mono HB.out.size))
  clear q0 q1 q2 q3 cf cr HB hb w3
  obtain ⟨q0, q1, q2, q3⟩ := cf2.out
  have t1 : ¬ 9218868437227405312 < m := by omega
  go_wp2_with fail
  refine (infinity_w _).mono ?_
  rintro e w5 ⟨rfl, hb⟩
  have cf := Hid.mk' (cf2.out.keep hb)
  have cr := Hid.mk' (cr2.out.keep hb)
  have HB := Hid.mk' (HB2.out.trans (hb.mono HB2.out.size))
  clear q0 q1 q2 q3 cf2 cr2 HB2 hb w4
  obtain ⟨q0, q1, q2, q3⟩ := cf.out
  obtain ⟨⟨r0, r1, r2, r3, r4⟩, v0, v1, v2, v3, v4⟩ := cr.out
  have t2 : (m == 9218868437227405312) = false := beq_eq_false_iff_ne.2 (by omega)
  have t3 : ¬ m < 4503599627370496 := by omega
  go_wp2
  go_region
  go_wp2
  exact bodyPost_ret (v := NV 0 g (m / 4503599627370496 - 1 + (-1074)) (bits .or .u64 (bits .and .u64 m 4503599627370495) 4503599627370496) 0) (by simp [results, Tryd.results33, go_sem, r0, r1, r2, r3, r4]) rfl ⟨rfl, by repeat (first | exact HB.out | refine Below.setCell ?_ (by first | (simp; done) | (simp; omega) | omega) _ | refine Below.drew ?_)⟩
end Go.Proofs.YthmppcfhbbjhlaaDoor
