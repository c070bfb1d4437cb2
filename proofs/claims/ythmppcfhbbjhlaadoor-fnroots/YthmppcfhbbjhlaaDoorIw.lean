import Derived.Test.YthmppcfhbbjhlaaDoorMag
import Derived.Test.YthmppcfhbbjhlaaDoorSf
set_option linter.all false
namespace Go.Proofs.YthmppcfhbbjhlaaDoor
open Go.RowKit Go.Sort

theorem goes_even (g h b o : Bool) : goes 0 g h b o = (h && (b || o)) := by unfold goes; simp
theorem rq_cut (s : Nat) (g : Bool) (C : Int) (h : 0 < C) :
    (s / 2 ^ C.toNat + if goes 0 g (decide (s / 2 ^ (C.toNat - 1) % 2 = 1)) (decide (s % 2 ^ (C.toNat - 1) ≠ 0)) (decide (s / 2 ^ C.toNat % 2 = 1)) then 1 else 0) = rq s C false := by
  unfold rq rqN
  rw [goes_even, if_neg (show ¬ C ≤ 0 by omega)]
  have e : s / 2 ^ C.toNat = s / 2 ^ (C.toNat - 1) / 2 := by
    have h1 := Nat.pow_succ (n := 2) (m := C.toNat - 1)
    rw [Nat.succ_eq_add_one, Nat.sub_add_cancel (by omega)] at h1
    rw [Nat.div_div_eq_div_mul, ← h1]
  rw [e]
  generalize s / 2 ^ (C.toNat - 1) = A
  congr 1
  simp

theorem signed_n (g : Bool) (m : Nat) (w : World) (hm : m < 2147483648) : Calls Tryd.prog 84 #[FVn, .bool g, .int .u64 (m : Int)] w fun e w' => e = .returned (.int .u64 (sg_n g + (m : Int))) ∧ Below w.heap.size w w' := by
  cases g
  · refine (signed_n_f m w).mono ?_
    rintro e w' ⟨rfl, hb⟩
    refine ⟨?_, hb⟩
    simp [sg_n]
  · refine (signed_n_t m w).mono ?_
    rintro e w' ⟨rfl, hb⟩
    refine ⟨?_, hb⟩
    have h := bits_or_u64_nat m 2147483648 (by omega) (by decide)
    have h2 := or_add' 1 m 31 hm
    have h3 : (1 : Nat) * 2 ^ 31 = 2147483648 := by decide
    rw [h3] at h2
    rw [h2] at h
    have h4 : ((2147483648 : Nat) : Int) = 2147483648 := rfl
    rw [h4] at h
    rw [h]
    simp [sg_n]
theorem mag_n (g : Bool) (x : Int) (s : Nat) (w : World) (hs : s < 340282366920938463463374607431768211456) (h0 : s ≠ 0) (hx : -5000 ≤ x) (hx' : x ≤ 5000) :
    Calls Tryd.prog 85 #[FVn, N2 0 g x s] w fun e w' => e = .returned (.int .u64 ((rnd 24 8 (-149) s x false : Nat) : Int)) ∧ Below w.heap.size w w' := by
  have hb : bl s ≤ 128 := bl_le (by rw [← M128_pow]; exact hs)
  have hb1 := bl_pos h0
  obtain ⟨C, hC⟩ : ∃ C : Int, C = cutOf 24 (-149) s x := ⟨_, rfl⟩
  have hC' : C = max ((bl s : Int) - 24) (-149 - x) := hC
  have hq := rq_le (p := 24) (least := -149) (sig := s) (ex := x) (more := false)
  rw [← hC] at hq
  rw [show (2 : Nat) ^ 24 = 16777216 by decide] at hq
  have hl : max (-149) (x + (bl s : Int) - 1 - 23) = x + C := by omega
  have hR : rnd 24 8 (-149) s x false = if 255 ≤ (x + C - (-149)).toNat then 2139095040 else min 2139095040 ((x + C - (-149)).toNat * 8388608 + rq s C false) := by
    have i1 : infM 24 8 = 2139095040 := by decide
    have i2 : 2 ^ 8 - 1 = 255 := by decide
    have i3 : 2 ^ (24 - 1) = 8388608 := by decide
    unfold rnd
    rw [if_neg h0, ← hC, i1, i2, i3]
  by_cases ho : 106 ≤ x + C
  · refine (mag_n_o g x _ _ (bl s) (x + C) w (by omega) (by omega) (by omega) (by omega) hl (fun w => length_any s w hs) ho).mono ?_
    rintro e w' ⟨rfl, hb'⟩
    refine ⟨?_, hb'⟩
    rw [hR, if_pos (by omega)]
    rfl
  · have key : ∀ (x2 : Int) (u : Nat), 0 ≤ x2 - (x + C) → x2 - (x + C) < 64 → (∀ w, Hid (Calls Tryd.prog 78 #[N2 0 g x s, .int .i64 (x + C), .int .i64 0] w fun e w' => e = .returned (N2 0 g x2 u) ∧ Below w.heap.size w w')) → u * 2 ^ (x2 - (x + C)).toNat = rq s C false →
        Calls Tryd.prog 85 #[FVn, N2 0 g x s] w fun e w' => e = .returned (.int .u64 ((rnd 24 8 (-149) s x false : Nat) : Int)) ∧ Below w.heap.size w w' := by
      intro x2 u g0 g1 KC hu
      have hu2 : u < 18446744073709551616 := by
        have h1 := Nat.mul_le_mul_left u (Nat.two_pow_pos (x2 - (x + C)).toNat)
        omega
      have hS : IntKind.u64.wrap (((u % 18446744073709551616 : Nat) : Int) * 2 ^ (x2 - (x + C)).toNat) = ((rq s C false : Nat) : Int) := by
        rw [Nat.mod_eq_of_lt hu2, wrap_mul, hu]
        omega
      refine (mag_n_i g x _ _ (bl s) (x + C) x2 _ _ _ w (by omega) (by omega) (by omega) (by omega) hl (fun w => length_any s w hs) (by omega) (by omega) KC g0 g1 hS (by omega) (by omega)).mono ?_
      rintro e w' ⟨rfl, hb'⟩
      refine ⟨?_, hb'⟩
      rw [hR, if_neg (by omega)]
      have e1 : ((x + C - (-149)).toNat : Int) = x + C + 149 := by omega
      generalize (x + C - (-149)).toNat = k at *
      rw [← e1]
      refine congrArg (fun z => Ending.returned (Value.int .u64 z)) ?_
      generalize rq s C false = q at *
      clear hR hS hu KC hb' hl hC hC' e1
      omega
    by_cases hc : C ≤ 0
    · refine key x s (by omega) ?_ (fun w => cut_same 0 g x _ _ (x + C) 0 w (by omega) (by omega) (by omega) (by omega)) ?_
      · omega
      · rw [show x - (x + C) = -C by omega]
        unfold rq
        rw [if_pos hc]
    · refine key (x + C) (rq s C false) (by omega) (by omega) (fun w => cut_any 0 g x (x + C) 0 s w hs (by omega) (by omega) (by omega) (by omega) (by omega) (by omega) (by omega) _ ?_) ?_
      · rw [show x + C - x = C by omega, rq_cut s g C (by omega)]
      · rw [show x + C - (x + C) = 0 by omega]; simp
set_option maxHeartbeats 2000000 in
theorem write_n_2 (g : Bool) (x lo hi : Int) (w : World) : Calls Tryd.prog 39 #[FVn, NV 2 g x lo hi] w fun e w' => e = .returned (.int .u64 2143289344) ∧ Below w.heap.size w w' := by
  go_enter Tryd.func39, Tryd.ntmps39
  go_wp2
  go_ret
  exact ⟨rfl, by repeat (first | exact Below.refl _ _ | refine Below.setCell ?_ (by first | (simp; done) | (simp; omega) | omega) _ | refine Below.alloc ?_ (by first | (simp; done) | (simp; omega)) _ | refine Below.drew ?_ | refine below_drewN ?_ _)⟩
set_option maxHeartbeats 2000000 in
theorem write_n_1 (g : Bool) (x lo hi : Int) (w : World) : Calls Tryd.prog 39 #[FVn, NV 1 g x lo hi] w fun e w' => e = .returned (.int .u64 (sg_n g + 2139095040)) ∧ Below w.heap.size w w' := by
  go_enter Tryd.func39, Tryd.ntmps39
  go_upto_region 4 with fail
  refine wp_gen (fun wc => C4 wc w.heap.size (.int .i64 32) (.int .i64 23) (.int .i64 (-149)) (.int .u64 2143289344) ∧ C5 wc (w.heap.size + 1) (.int .i64 1) (.bool g) (.int .i64 x) (.int .u64 lo) (.int .u64 hi) ∧ Below w.heap.size w wc) ⟨c4_new.past, c5_mid, ((Below.refl _ _).alloc (Nat.le_refl _) _).alloc (by simp) _⟩ ?_
  rintro w4 ⟨⟨q0, q1, q2, q3⟩, ⟨⟨r0, r1, r2, r3, r4⟩, -⟩, hw4⟩
  have kq0 := cell_regrown q0
  have kq1 := cell_regrown q1
  have kq2 := cell_regrown q2
  have kq3 := cell_regrown q3
  have kr0 := cell_regrown r0
  have kr1 := cell_regrown r1
  have kr2 := cell_regrown r2
  have kr3 := cell_regrown r3
  have kr4 := cell_regrown r4
  have HW := Hid.mk' hw4
  clear hw4
  have cI : ∀ d os, Calls Tryd.prog 77 #[FVn] (grow (redrawn w4 d) os) fun e w'' => e = .returned (.int .u64 2139095040) ∧ ∃ p : Regrown, w'' = grow (redrawn w4 p.d) p.os := fun d os => Calls.regrown_of (infinity_n _)
  have cG : ∀ d os, Calls Tryd.prog 84 #[FVn, .bool g, .int .u64 2139095040] (grow (redrawn w4 d) os) fun e w'' => e = .returned (.int .u64 (sg_n g + 2139095040)) ∧ ∃ p : Regrown, w'' = grow (redrawn w4 p.d) p.os := fun d os => Calls.regrown_of (signed_n g 2139095040 _ (by decide))
  refine wp_region_quiet_below (by kernel_rfl) (by kernel_rfl) ?_
  repeat (quiet_step ((first | (go_at_call 77; exact cI _ _) | (go_at_call 84; exact cG _ _))))
  refine wpQuiet_nil ?_
  intro _ hw'
  obtain ⟨⟨dq, osq⟩, hw''⟩ := hw'
  subst hw''
  have hw5 := HW.out.trans ((below_regrown w4 dq osq).mono HW.out.size)
  show Exit.then _ _ Exit.normal _ (grow (redrawn w4 dq) osq)
  go_wp2
  go_ret
  exact ⟨rfl, hw5⟩
set_option maxHeartbeats 2000000 in
theorem write_n_z (g : Bool) (x lo hi : Int) (w : World) (KZ : ∀ w, Hid (Calls Tryd.prog 79 #[NV 0 g x lo hi] w fun e w' => e = .returned (.bool true) ∧ Below w.heap.size w w')) :
    Calls Tryd.prog 39 #[FVn, NV 0 g x lo hi] w fun e w' => e = .returned (.int .u64 (sg_n g)) ∧ Below w.heap.size w w' := by
  go_enter Tryd.func39, Tryd.ntmps39
  go_wp2_with fail
  refine (KZ _).out.mono ?_
  rintro e w1 ⟨rfl, hb⟩
  obtain ⟨q0, q1, q2, q3⟩ := c4_new.past.keep hb
  obtain ⟨⟨r0, r1, r2, r3, r4⟩, -⟩ := c5_mid.keep hb
  have HB := Hid.mk' (below2 hb)
  clear hb KZ
  go_wp2_with fail
  refine (signed_n g 0 _ (by decide)).mono ?_
  rintro e w2 ⟨rfl, hb⟩
  have HB2 := Hid.mk' (HB.out.trans (hb.mono HB.out.size))
  clear hb
  go_wp2
  go_ret
  exact ⟨rfl, HB2.out⟩
set_option maxHeartbeats 2000000 in
theorem write_n_0 (g : Bool) (x lo hi : Int) (R : Nat) (hR : R < 2147483648) (w : World) (KZ : ∀ w, Hid (Calls Tryd.prog 79 #[NV 0 g x lo hi] w fun e w' => e = .returned (.bool false) ∧ Below w.heap.size w w'))
    (KM : ∀ w, Hid (Calls Tryd.prog 85 #[FVn, NV 0 g x lo hi] w fun e w' => e = .returned (.int .u64 (R : Int)) ∧ Below w.heap.size w w')) :
    Calls Tryd.prog 39 #[FVn, NV 0 g x lo hi] w fun e w' => e = .returned (.int .u64 (sg_n g + R)) ∧ Below w.heap.size w w' := by
  have KG := fun w => Hid.mk' (signed_n g R w hR)
  generalize (R : Int) = Ri at *
  go_enter Tryd.func39, Tryd.ntmps39
  go_wp2_with fail
  refine (KZ _).out.mono ?_
  rintro e w1 ⟨rfl, hb⟩
  have CF := Hid.mk' (c4_new.past.keep hb)
  have CN := Hid.mk' (c5_mid.keep hb)
  have HB := Hid.mk' (below2 hb)
  clear hb KZ
  go_upto_region 7 with fail
  refine wp_gen (fun wc => C4 wc w.heap.size (.int .i64 32) (.int .i64 23) (.int .i64 (-149)) (.int .u64 2143289344) ∧ C5 wc (w.heap.size + 1) (.int .i64 0) (.bool g) (.int .i64 x) (.int .u64 lo) (.int .u64 hi) ∧ Below w.heap.size w wc) ⟨CF.out, CN.out, HB.out⟩ ?_
  rintro w4 ⟨⟨q0, q1, q2, q3⟩, ⟨⟨r0, r1, r2, r3, r4⟩, -⟩, hw4⟩
  have kq0 := cell_regrown q0
  have kq1 := cell_regrown q1
  have kq2 := cell_regrown q2
  have kq3 := cell_regrown q3
  have kr0 := cell_regrown r0
  have kr1 := cell_regrown r1
  have kr2 := cell_regrown r2
  have kr3 := cell_regrown r3
  have kr4 := cell_regrown r4
  have HW := Hid.mk' hw4
  clear hw4
  clear CF CN HB
  have cM : ∀ d os, Calls Tryd.prog 85 #[FVn, NV 0 g x lo hi] (grow (redrawn w4 d) os) fun e w'' => e = .returned (.int .u64 Ri) ∧ ∃ p : Regrown, w'' = grow (redrawn w4 p.d) p.os := fun d os => Calls.regrown_of (KM _).out
  have cG : ∀ d os, Calls Tryd.prog 84 #[FVn, .bool g, .int .u64 Ri] (grow (redrawn w4 d) os) fun e w'' => e = .returned (.int .u64 (sg_n g + Ri)) ∧ ∃ p : Regrown, w'' = grow (redrawn w4 p.d) p.os := fun d os => Calls.regrown_of (KG _).out
  clear KM KG
  refine wp_region_quiet_below (by kernel_rfl) (by kernel_rfl) ?_
  repeat (quiet_step ((first | (go_at_call 85; exact cM _ _) | (go_at_call 84; exact cG _ _))))
  refine wpQuiet_nil ?_
  intro _ hw'
  obtain ⟨⟨dq, osq⟩, hw''⟩ := hw'
  subst hw''
  have hw5 := HW.out.trans ((below_regrown w4 dq osq).mono HW.out.size)
  show Exit.then _ _ Exit.normal _ (grow (redrawn w4 dq) osq)
  go_wp2
  go_ret
  exact ⟨rfl, hw5⟩
/-- What a number is as a word. -/
def wr_n (k : Int) (g : Bool) (s : Nat) (x : Int) : Int := if k = 2 then 2143289344 else if k = 1 then sg_n g + 2139095040 else sg_n g + (rnd 24 8 (-149) s x false : Nat)
theorem rnd_n_le (s : Nat) (x : Int) (more : Bool) : rnd 24 8 (-149) s x more ≤ 2139095040 := by
  unfold rnd
  have e : infM 24 8 = 2139095040 := by decide
  rw [e]
  split
  · omega
  · split
    · omega
    · omega
theorem write_n (k : Int) (g : Bool) (x : Int) (s : Nat) (w : World) (hk : k = 0 ∨ k = 1 ∨ k = 2) (hs : s < 340282366920938463463374607431768211456) (hx : -5000 ≤ x) (hx' : x ≤ 5000) :
    Calls Tryd.prog 39 #[FVn, N2 k g x s] w fun e w' => e = .returned (.int .u64 (wr_n k g s x)) ∧ Below w.heap.size w w' := by
  rcases hk with rfl | rfl | rfl
  · have KZ := fun w => nzero_key 0 g x ((s % 18446744073709551616 : Nat) : Int) ((s / 18446744073709551616 : Nat) : Int) (decide (s = 0)) w (fun w => isZero_any s w hs)
    by_cases h0 : s = 0
    · have e1 : (decide ((0 : Int) = 0) && decide (s = 0)) = true := by simp [h0]
      rw [e1] at KZ
      refine (write_n_z g x _ _ w KZ).mono ?_
      rintro e w' ⟨rfl, hb⟩
      refine ⟨?_, hb⟩
      have e2 : rnd 24 8 (-149) s x false = 0 := by unfold rnd; rw [if_pos h0]
      unfold wr_n
      rw [e2]
      simp
    · have e1 : (decide ((0 : Int) = 0) && decide (s = 0)) = false := by simp [h0]
      rw [e1] at KZ
      have hr := rnd_n_le s x false
      exact write_n_0 g x _ _ _ (by omega) w KZ (fun w => mag_n g x s w hs h0 hx hx')
  · exact write_n_1 g x _ _ w
  · exact write_n_2 g x _ _ w
theorem signed_w (g : Bool) (m : Nat) (w : World) (hm : m < 9223372036854775808) : Calls Tryd.prog 84 #[FVw, .bool g, .int .u64 (m : Int)] w fun e w' => e = .returned (.int .u64 (sg_w g + (m : Int))) ∧ Below w.heap.size w w' := by
  cases g
  · refine (signed_w_f m w).mono ?_
    rintro e w' ⟨rfl, hb⟩
    refine ⟨?_, hb⟩
    simp [sg_w]
  · refine (signed_w_t m w).mono ?_
    rintro e w' ⟨rfl, hb⟩
    refine ⟨?_, hb⟩
    have h := bits_or_u64_nat m 9223372036854775808 (by omega) (by decide)
    have h2 := or_add' 1 m 63 hm
    have h3 : (1 : Nat) * 2 ^ 63 = 9223372036854775808 := by decide
    rw [h3] at h2
    rw [h2] at h
    have h4 : ((9223372036854775808 : Nat) : Int) = 9223372036854775808 := rfl
    rw [h4] at h
    rw [h]
    simp [sg_w]
theorem mag_w (g : Bool) (x : Int) (s : Nat) (w : World) (hs : s < 340282366920938463463374607431768211456) (h0 : s ≠ 0) (hx : -5000 ≤ x) (hx' : x ≤ 5000) :
    Calls Tryd.prog 85 #[FVw, N2 0 g x s] w fun e w' => e = .returned (.int .u64 ((rnd 53 11 (-1074) s x false : Nat) : Int)) ∧ Below w.heap.size w w' := by
  have hb : bl s ≤ 128 := bl_le (by rw [← M128_pow]; exact hs)
  have hb1 := bl_pos h0
  obtain ⟨C, hC⟩ : ∃ C : Int, C = cutOf 53 (-1074) s x := ⟨_, rfl⟩
  have hC' : C = max ((bl s : Int) - 53) (-1074 - x) := hC
  have hq := rq_le (p := 53) (least := -1074) (sig := s) (ex := x) (more := false)
  rw [← hC] at hq
  rw [show (2 : Nat) ^ 53 = 9007199254740992 by decide] at hq
  have hl : max (-1074) (x + (bl s : Int) - 1 - 52) = x + C := by omega
  have hR : rnd 53 11 (-1074) s x false = if 2047 ≤ (x + C - (-1074)).toNat then 9218868437227405312 else min 9218868437227405312 ((x + C - (-1074)).toNat * 4503599627370496 + rq s C false) := by
    have i1 : infM 53 11 = 9218868437227405312 := by decide
    have i2 : 2 ^ 11 - 1 = 2047 := by decide
    have i3 : 2 ^ (53 - 1) = 4503599627370496 := by decide
    unfold rnd
    rw [if_neg h0, ← hC, i1, i2, i3]
  by_cases ho : 973 ≤ x + C
  · refine (mag_w_o g x _ _ (bl s) (x + C) w (by omega) (by omega) (by omega) (by omega) hl (fun w => length_any s w hs) ho).mono ?_
    rintro e w' ⟨rfl, hb'⟩
    refine ⟨?_, hb'⟩
    rw [hR, if_pos (by omega)]
    rfl
  · have key : ∀ (x2 : Int) (u : Nat), 0 ≤ x2 - (x + C) → x2 - (x + C) < 64 → (∀ w, Hid (Calls Tryd.prog 78 #[N2 0 g x s, .int .i64 (x + C), .int .i64 0] w fun e w' => e = .returned (N2 0 g x2 u) ∧ Below w.heap.size w w')) → u * 2 ^ (x2 - (x + C)).toNat = rq s C false →
        Calls Tryd.prog 85 #[FVw, N2 0 g x s] w fun e w' => e = .returned (.int .u64 ((rnd 53 11 (-1074) s x false : Nat) : Int)) ∧ Below w.heap.size w w' := by
      intro x2 u g0 g1 KC hu
      have hu2 : u < 18446744073709551616 := by
        have h1 := Nat.mul_le_mul_left u (Nat.two_pow_pos (x2 - (x + C)).toNat)
        omega
      have hS : IntKind.u64.wrap (((u % 18446744073709551616 : Nat) : Int) * 2 ^ (x2 - (x + C)).toNat) = ((rq s C false : Nat) : Int) := by
        rw [Nat.mod_eq_of_lt hu2, wrap_mul, hu]
        omega
      refine (mag_w_i g x _ _ (bl s) (x + C) x2 _ _ _ w (by omega) (by omega) (by omega) (by omega) hl (fun w => length_any s w hs) (by omega) (by omega) KC g0 g1 hS (by omega) (by omega)).mono ?_
      rintro e w' ⟨rfl, hb'⟩
      refine ⟨?_, hb'⟩
      rw [hR, if_neg (by omega)]
      have e1 : ((x + C - (-1074)).toNat : Int) = x + C + 1074 := by omega
      generalize (x + C - (-1074)).toNat = k at *
      rw [← e1]
      refine congrArg (fun z => Ending.returned (Value.int .u64 z)) ?_
      generalize rq s C false = q at *
      clear hR hS hu KC hb' hl hC hC' e1
      omega
    by_cases hc : C ≤ 0
    · refine key x s (by omega) ?_ (fun w => cut_same 0 g x _ _ (x + C) 0 w (by omega) (by omega) (by omega) (by omega)) ?_
      · omega
      · rw [show x - (x + C) = -C by omega]
        unfold rq
        rw [if_pos hc]
    · refine key (x + C) (rq s C false) (by omega) (by omega) (fun w => cut_any 0 g x (x + C) 0 s w hs (by omega) (by omega) (by omega) (by omega) (by omega) (by omega) (by omega) _ ?_) ?_
      · rw [show x + C - x = C by omega, rq_cut s g C (by omega)]
      · rw [show x + C - (x + C) = 0 by omega]; simp
set_option maxHeartbeats 2000000 in
theorem write_w_2 (g : Bool) (x lo hi : Int) (w : World) : Calls Tryd.prog 39 #[FVw, NV 2 g x lo hi] w fun e w' => e = .returned (.int .u64 9221120237041090560) ∧ Below w.heap.size w w' := by
  go_enter Tryd.func39, Tryd.ntmps39
  go_wp2
  go_ret
  exact ⟨rfl, by repeat (first | exact Below.refl _ _ | refine Below.setCell ?_ (by first | (simp; done) | (simp; omega) | omega) _ | refine Below.alloc ?_ (by first | (simp; done) | (simp; omega)) _ | refine Below.drew ?_ | refine below_drewN ?_ _)⟩
set_option maxHeartbeats 2000000 in
theorem write_w_1 (g : Bool) (x lo hi : Int) (w : World) : Calls Tryd.prog 39 #[FVw, NV 1 g x lo hi] w fun e w' => e = .returned (.int .u64 (sg_w g + 9218868437227405312)) ∧ Below w.heap.size w w' := by
  go_enter Tryd.func39, Tryd.ntmps39
  go_upto_region 4 with fail
  refine wp_gen (fun wc => C4 wc w.heap.size (.int .i64 64) (.int .i64 52) (.int .i64 (-1074)) (.int .u64 9221120237041090560) ∧ C5 wc (w.heap.size + 1) (.int .i64 1) (.bool g) (.int .i64 x) (.int .u64 lo) (.int .u64 hi) ∧ Below w.heap.size w wc) ⟨c4_new.past, c5_mid, ((Below.refl _ _).alloc (Nat.le_refl _) _).alloc (by simp) _⟩ ?_
  rintro w4 ⟨⟨q0, q1, q2, q3⟩, ⟨⟨r0, r1, r2, r3, r4⟩, -⟩, hw4⟩
  have kq0 := cell_regrown q0
  have kq1 := cell_regrown q1
  have kq2 := cell_regrown q2
  have kq3 := cell_regrown q3
  have kr0 := cell_regrown r0
  have kr1 := cell_regrown r1
  have kr2 := cell_regrown r2
  have kr3 := cell_regrown r3
  have kr4 := cell_regrown r4
  have HW := Hid.mk' hw4
  clear hw4
  have cI : ∀ d os, Calls Tryd.prog 77 #[FVw] (grow (redrawn w4 d) os) fun e w'' => e = .returned (.int .u64 9218868437227405312) ∧ ∃ p : Regrown, w'' = grow (redrawn w4 p.d) p.os := fun d os => Calls.regrown_of (infinity_w _)
  have cG : ∀ d os, Calls Tryd.prog 84 #[FVw, .bool g, .int .u64 9218868437227405312] (grow (redrawn w4 d) os) fun e w'' => e = .returned (.int .u64 (sg_w g + 9218868437227405312)) ∧ ∃ p : Regrown, w'' = grow (redrawn w4 p.d) p.os := fun d os => Calls.regrown_of (signed_w g 9218868437227405312 _ (by decide))
  refine wp_region_quiet_below (by kernel_rfl) (by kernel_rfl) ?_
  repeat (quiet_step ((first | (go_at_call 77; exact cI _ _) | (go_at_call 84; exact cG _ _))))
  refine wpQuiet_nil ?_
  intro _ hw'
  obtain ⟨⟨dq, osq⟩, hw''⟩ := hw'
  subst hw''
  have hw5 := HW.out.trans ((below_regrown w4 dq osq).mono HW.out.size)
  show Exit.then _ _ Exit.normal _ (grow (redrawn w4 dq) osq)
  go_wp2
  go_ret
  exact ⟨rfl, hw5⟩
set_option maxHeartbeats 2000000 in
theorem write_w_z (g : Bool) (x lo hi : Int) (w : World) (KZ : ∀ w, Hid (Calls Tryd.prog 79 #[NV 0 g x lo hi] w fun e w' => e = .returned (.bool true) ∧ Below w.heap.size w w')) :
    Calls Tryd.prog 39 #[FVw, NV 0 g x lo hi] w fun e w' => e = .returned (.int .u64 (sg_w g)) ∧ Below w.heap.size w w' := by
  go_enter Tryd.func39, Tryd.ntmps39
  go_wp2_with fail
  refine (KZ _).out.mono ?_
  rintro e w1 ⟨rfl, hb⟩
  obtain ⟨q0, q1, q2, q3⟩ := c4_new.past.keep hb
  obtain ⟨⟨r0, r1, r2, r3, r4⟩, -⟩ := c5_mid.keep hb
  have HB := Hid.mk' (below2 hb)
  clear hb KZ
  go_wp2_with fail
  refine (signed_w g 0 _ (by decide)).mono ?_
  rintro e w2 ⟨rfl, hb⟩
  have HB2 := Hid.mk' (HB.out.trans (hb.mono HB.out.size))
  clear hb
  go_wp2
  go_ret
  exact ⟨rfl, HB2.out⟩
set_option maxHeartbeats 2000000 in
theorem write_w_0 (g : Bool) (x lo hi : Int) (R : Nat) (hR : R < 9223372036854775808) (w : World) (KZ : ∀ w, Hid (Calls Tryd.prog 79 #[NV 0 g x lo hi] w fun e w' => e = .returned (.bool false) ∧ Below w.heap.size w w'))
    (KM : ∀ w, Hid (Calls Tryd.prog 85 #[FVw, NV 0 g x lo hi] w fun e w' => e = .returned (.int .u64 (R : Int)) ∧ Below w.heap.size w w')) :
    Calls Tryd.prog 39 #[FVw, NV 0 g x lo hi] w fun e w' => e = .returned (.int .u64 (sg_w g + R)) ∧ Below w.heap.size w w' := by
  have KG := fun w => Hid.mk' (signed_w g R w hR)
  generalize (R : Int) = Ri at *
  go_enter Tryd.func39, Tryd.ntmps39
  go_wp2_with fail
  refine (KZ _).out.mono ?_
  rintro e w1 ⟨rfl, hb⟩
  have CF := Hid.mk' (c4_new.past.keep hb)
  have CN := Hid.mk' (c5_mid.keep hb)
  have HB := Hid.mk' (below2 hb)
  clear hb KZ
  go_upto_region 7 with fail
  refine wp_gen (fun wc => C4 wc w.heap.size (.int .i64 64) (.int .i64 52) (.int .i64 (-1074)) (.int .u64 9221120237041090560) ∧ C5 wc (w.heap.size + 1) (.int .i64 0) (.bool g) (.int .i64 x) (.int .u64 lo) (.int .u64 hi) ∧ Below w.heap.size w wc) ⟨CF.out, CN.out, HB.out⟩ ?_
  rintro w4 ⟨⟨q0, q1, q2, q3⟩, ⟨⟨r0, r1, r2, r3, r4⟩, -⟩, hw4⟩
  have kq0 := cell_regrown q0
  have kq1 := cell_regrown q1
  have kq2 := cell_regrown q2
  have kq3 := cell_regrown q3
  have kr0 := cell_regrown r0
  have kr1 := cell_regrown r1
  have kr2 := cell_regrown r2
  have kr3 := cell_regrown r3
  have kr4 := cell_regrown r4
  have HW := Hid.mk' hw4
  clear hw4
  clear CF CN HB
  have cM : ∀ d os, Calls Tryd.prog 85 #[FVw, NV 0 g x lo hi] (grow (redrawn w4 d) os) fun e w'' => e = .returned (.int .u64 Ri) ∧ ∃ p : Regrown, w'' = grow (redrawn w4 p.d) p.os := fun d os => Calls.regrown_of (KM _).out
  have cG : ∀ d os, Calls Tryd.prog 84 #[FVw, .bool g, .int .u64 Ri] (grow (redrawn w4 d) os) fun e w'' => e = .returned (.int .u64 (sg_w g + Ri)) ∧ ∃ p : Regrown, w'' = grow (redrawn w4 p.d) p.os := fun d os => Calls.regrown_of (KG _).out
  clear KM KG
  refine wp_region_quiet_below (by kernel_rfl) (by kernel_rfl) ?_
  repeat (quiet_step ((first | (go_at_call 85; exact cM _ _) | (go_at_call 84; exact cG _ _))))
  refine wpQuiet_nil ?_
  intro _ hw'
  obtain ⟨⟨dq, osq⟩, hw''⟩ := hw'
  subst hw''
  have hw5 := HW.out.trans ((below_regrown w4 dq osq).mono HW.out.size)
  show Exit.then _ _ Exit.normal _ (grow (redrawn w4 dq) osq)
  go_wp2
  go_ret
  exact ⟨rfl, hw5⟩
/-- What a number is as a word. -/
def wr_w (k : Int) (g : Bool) (s : Nat) (x : Int) : Int := if k = 2 then 9221120237041090560 else if k = 1 then sg_w g + 9218868437227405312 else sg_w g + (rnd 53 11 (-1074) s x false : Nat)
theorem rnd_w_le (s : Nat) (x : Int) (more : Bool) : rnd 53 11 (-1074) s x more ≤ 9218868437227405312 := by
  unfold rnd
  have e : infM 53 11 = 9218868437227405312 := by decide
  rw [e]
  split
  · omega
  · split
    · omega
    · omega
theorem write_w (k : Int) (g : Bool) (x : Int) (s : Nat) (w : World) (hk : k = 0 ∨ k = 1 ∨ k = 2) (hs : s < 340282366920938463463374607431768211456) (hx : -5000 ≤ x) (hx' : x ≤ 5000) :
    Calls Tryd.prog 39 #[FVw, N2 k g x s] w fun e w' => e = .returned (.int .u64 (wr_w k g s x)) ∧ Below w.heap.size w w' := by
  rcases hk with rfl | rfl | rfl
  · have KZ := fun w => nzero_key 0 g x ((s % 18446744073709551616 : Nat) : Int) ((s / 18446744073709551616 : Nat) : Int) (decide (s = 0)) w (fun w => isZero_any s w hs)
    by_cases h0 : s = 0
    · have e1 : (decide ((0 : Int) = 0) && decide (s = 0)) = true := by simp [h0]
      rw [e1] at KZ
      refine (write_w_z g x _ _ w KZ).mono ?_
      rintro e w' ⟨rfl, hb⟩
      refine ⟨?_, hb⟩
      have e2 : rnd 53 11 (-1074) s x false = 0 := by unfold rnd; rw [if_pos h0]
      unfold wr_w
      rw [e2]
      simp
    · have e1 : (decide ((0 : Int) = 0) && decide (s = 0)) = false := by simp [h0]
      rw [e1] at KZ
      have hr := rnd_w_le s x false
      exact write_w_0 g x _ _ _ (by omega) w KZ (fun w => mag_w g x s w hs h0 hx hx')
  · exact write_w_1 g x _ _ w
  · exact write_w_2 g x _ _ w
end Go.Proofs.YthmppcfhbbjhlaaDoor
