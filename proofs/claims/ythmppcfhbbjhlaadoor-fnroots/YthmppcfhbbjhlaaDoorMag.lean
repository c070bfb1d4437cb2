import Derived.Test.YthmppcfhbbjhlaaDoorCut
import Derived.Test.YthmppcfhbbjhlaaDoorFm
set_option linter.all false
namespace Go.Proofs.YthmppcfhbbjhlaaDoor
open Go.RowKit Go.Sort

theorem w64_id (x : Int) (h0 : -9223372036854775808 ≤ x) (h1 : x ≤ 9223372036854775807) : IntKind.i64.wrap x = x ∧ wrap64 x = x := by
  refine ⟨?_, ?_⟩
  · rw [IntKind.wrap_i64]; omega
  · unfold wrap64; omega
theorem w64 (x : Int) (h0 : -9223372036854775808 ≤ x) (h1 : x ≤ 9223372036854775807) : IntKind.i64.wrap x = x := (w64_id x h0 h1).1
theorem u64 (x : Int) (h0 : 0 ≤ x) (h1 : x ≤ 18446744073709551615) : IntKind.u64.wrap x = x := by rw [IntKind.wrap_u64]; omega

set_option maxHeartbeats 4000000 in
theorem mag_n_o (g : Bool) (x lo hi L last : Int) (w : World) (hx : -10000 ≤ x) (hx' : x ≤ 10000) (hL : 0 ≤ L) (hL' : L ≤ 128) (hl : max (-149) (x + L - 1 - 23) = last)
    (KL : ∀ w, Hid (Calls Tryd.prog 103 #[WV lo hi] w fun e w' => e = .returned (.int .i64 L) ∧ Below w.heap.size w w')) (ho : 106 ≤ last) :
    Calls Tryd.prog 85 #[FVn, NV 0 g x lo hi] w fun e w' => e = .returned (.int .u64 2139095040) ∧ Below w.heap.size w w' := by
  go_enter Tryd.func85, Tryd.ntmps85
  go_upto_region 1 with fail
  refine wp_gen (fun wc => C4 wc w.heap.size (.int .i64 32) (.int .i64 23) (.int .i64 (-149)) (.int .u64 2143289344) ∧ C5 wc (w.heap.size + 1) (.int .i64 0) (.bool g) (.int .i64 x) (.int .u64 lo) (.int .u64 hi) ∧ Below w.heap.size w wc) ⟨c4_new.past, c5_mid, ((Below.refl _ _).alloc (Nat.le_refl _) _).alloc (by simp) _⟩ ?_
  rintro w4 ⟨cf, cn, hw4⟩
  obtain ⟨q0, q1, q2, q3⟩ := id cf
  obtain ⟨⟨r0, r1, r2, r3, r4⟩, -⟩ := id cn
  have CF := Hid.mk' cf
  have CN := Hid.mk' cn
  have kq1 := cell_regrown q1
  have kq2 := cell_regrown q2
  have kr2 := cell_regrown r2
  have kr3 := cell_regrown r3
  have kr4 := cell_regrown r4
  have e1 := w64 (x + L) (by omega) (by omega)
  have e2 := w64 (x + L - 1) (by omega) (by omega)
  have e3 := w64 (x + L - 1 - 23) (by omega) (by omega)
  have cL : ∀ d os, Calls Tryd.prog 103 #[WV lo hi] (grow (redrawn w4 d) os) fun e w'' => e = .returned (.int .i64 L) ∧ ∃ p : Regrown, w'' = grow (redrawn w4 p.d) p.os := fun d os => Calls.regrown_of (KL _).out
  have HW := Hid.mk' hw4
  clear hw4 cf cn
  refine wp_region_quiet_below (by kernel_rfl) (by kernel_rfl) ?_
  repeat (quiet_step (exact cL _ _))
  refine wpQuiet_nil ?_
  intro _ hw'
  obtain ⟨⟨dq, osq⟩, hw''⟩ := hw'
  subst hw''
  have CF5 := Hid.mk' (CF.out.keep (below_regrown w4 dq osq))
  have CN5 := Hid.mk' (CN.out.keep (below_regrown w4 dq osq))
  have HW5 := Hid.mk' (HW.out.trans ((below_regrown w4 dq osq).mono HW.out.size))
  show Exit.then _ _ Exit.normal _ (grow (redrawn w4 dq) osq)
  generalize grow (redrawn w4 dq) osq = w5 at *
  clear kq1 kq2 kr2 kr3 kr4 cL e1 e2 e3 q0 q1 q2 q3 r0 r1 r2 r3 r4 CF CN HW
  go_upto_region 2 with fail
  obtain ⟨q0, q1, q2, q3⟩ := CF5.out
  have kq0 := cell_regrown q0
  have kq1 := cell_regrown q1
  have kq2 := cell_regrown q2
  have kq3 := cell_regrown q3
  have cI : ∀ d os, Calls Tryd.prog 77 #[FVn] (grow (redrawn w5 d) os) fun e w'' => e = .returned (.int .u64 2139095040) ∧ ∃ p : Regrown, w'' = grow (redrawn w5 p.d) p.os := fun d os => Calls.regrown_of (infinity_n _)
  refine wp_region_quiet_below (by kernel_rfl) (by kernel_rfl) ?_
  repeat (quiet_step (exact cI _ _))
  refine wpQuiet_nil ?_
  intro _ hw'
  obtain ⟨⟨dq, osq⟩, hw''⟩ := hw'
  subst hw''
  have CF := Hid.mk' (CF5.out.keep (below_regrown w5 dq osq))
  have CN := Hid.mk' (CN5.out.keep (below_regrown w5 dq osq))
  have HW := Hid.mk' (HW5.out.trans ((below_regrown w5 dq osq).mono HW5.out.size))
  show Exit.then _ _ Exit.normal _ (grow (redrawn w5 dq) osq)
  generalize grow (redrawn w5 dq) osq = w6 at *
  clear kq0 kq1 kq2 kq3 cI q0 q1 q2 q3 CF5 CN5 HW5
  obtain ⟨q0, q1, q2, q3⟩ := CF.out
  go_wp2_with fail
  refine (infinity_n _).mono ?_
  rintro e w7 ⟨rfl, hb⟩
  have HB := Hid.mk' (HW.out.trans (hb.mono HW.out.size))
  clear hb CF CN HW
  go_wp2
  go_ret
  exact ⟨rfl, HB.out⟩
set_option maxHeartbeats 4000000 in
theorem mag_n_i (g : Bool) (x lo hi L last x2 lo2 hi2 S : Int) (w : World) (hx : -10000 ≤ x) (hx' : x ≤ 10000) (hL : 0 ≤ L) (hL' : L ≤ 128) (hl : max (-149) (x + L - 1 - 23) = last)
    (KL : ∀ w, Hid (Calls Tryd.prog 103 #[WV lo hi] w fun e w' => e = .returned (.int .i64 L) ∧ Below w.heap.size w w')) (ho : last < 106) (hl2 : -149 ≤ last)
    (KC : ∀ w, Hid (Calls Tryd.prog 78 #[NV 0 g x lo hi, .int .i64 last, .int .i64 0] w fun e w' => e = .returned (NV 0 g x2 lo2 hi2) ∧ Below w.heap.size w w'))
    (hx2 : 0 ≤ x2 - last) (hx2' : x2 - last < 64) (hS : IntKind.u64.wrap (lo2 * 2 ^ (x2 - last).toNat) = S) (hS0 : 0 ≤ S) (hS1 : S ≤ 16777216) :
    Calls Tryd.prog 85 #[FVn, NV 0 g x lo hi] w fun e w' => e = .returned (.int .u64 (min 2139095040 ((last + 149) * 8388608 + S))) ∧ Below w.heap.size w w' := by
  have t0 : ¬ 106 ≤ last := by omega
  go_enter Tryd.func85, Tryd.ntmps85
  go_upto_region 1 with fail
  refine wp_gen (fun wc => C4 wc w.heap.size (.int .i64 32) (.int .i64 23) (.int .i64 (-149)) (.int .u64 2143289344) ∧ C5 wc (w.heap.size + 1) (.int .i64 0) (.bool g) (.int .i64 x) (.int .u64 lo) (.int .u64 hi) ∧ Below w.heap.size w wc) ⟨c4_new.past, c5_mid, ((Below.refl _ _).alloc (Nat.le_refl _) _).alloc (by simp) _⟩ ?_
  rintro w4 ⟨cf, cn, hw4⟩
  obtain ⟨q0, q1, q2, q3⟩ := id cf
  obtain ⟨⟨r0, r1, r2, r3, r4⟩, -⟩ := id cn
  have CF := Hid.mk' cf
  have CN := Hid.mk' cn
  have kq1 := cell_regrown q1
  have kq2 := cell_regrown q2
  have kr2 := cell_regrown r2
  have kr3 := cell_regrown r3
  have kr4 := cell_regrown r4
  have e1 := w64 (x + L) (by omega) (by omega)
  have e2 := w64 (x + L - 1) (by omega) (by omega)
  have e3 := w64 (x + L - 1 - 23) (by omega) (by omega)
  have cL : ∀ d os, Calls Tryd.prog 103 #[WV lo hi] (grow (redrawn w4 d) os) fun e w'' => e = .returned (.int .i64 L) ∧ ∃ p : Regrown, w'' = grow (redrawn w4 p.d) p.os := fun d os => Calls.regrown_of (KL _).out
  have HW := Hid.mk' hw4
  clear hw4 cf cn
  refine wp_region_quiet_below (by kernel_rfl) (by kernel_rfl) ?_
  repeat (quiet_step (exact cL _ _))
  refine wpQuiet_nil ?_
  intro _ hw'
  obtain ⟨⟨dq, osq⟩, hw''⟩ := hw'
  subst hw''
  have CF5 := Hid.mk' (CF.out.keep (below_regrown w4 dq osq))
  have CN5 := Hid.mk' (CN.out.keep (below_regrown w4 dq osq))
  have HW5 := Hid.mk' (HW.out.trans ((below_regrown w4 dq osq).mono HW.out.size))
  show Exit.then _ _ Exit.normal _ (grow (redrawn w4 dq) osq)
  generalize grow (redrawn w4 dq) osq = w5 at *
  clear kq1 kq2 kr2 kr3 kr4 cL e1 e2 e3 q0 q1 q2 q3 r0 r1 r2 r3 r4 CF CN HW
  go_upto_region 2 with fail
  obtain ⟨q0, q1, q2, q3⟩ := CF5.out
  have kq0 := cell_regrown q0
  have kq1 := cell_regrown q1
  have kq2 := cell_regrown q2
  have kq3 := cell_regrown q3
  have cI : ∀ d os, Calls Tryd.prog 77 #[FVn] (grow (redrawn w5 d) os) fun e w'' => e = .returned (.int .u64 2139095040) ∧ ∃ p : Regrown, w'' = grow (redrawn w5 p.d) p.os := fun d os => Calls.regrown_of (infinity_n _)
  refine wp_region_quiet_below (by kernel_rfl) (by kernel_rfl) ?_
  repeat (quiet_step (exact cI _ _))
  refine wpQuiet_nil ?_
  intro _ hw'
  obtain ⟨⟨dq, osq⟩, hw''⟩ := hw'
  subst hw''
  have CF := Hid.mk' (CF5.out.keep (below_regrown w5 dq osq))
  have CN := Hid.mk' (CN5.out.keep (below_regrown w5 dq osq))
  have HW := Hid.mk' (HW5.out.trans ((below_regrown w5 dq osq).mono HW5.out.size))
  show Exit.then _ _ Exit.normal _ (grow (redrawn w5 dq) osq)
  generalize grow (redrawn w5 dq) osq = w6 at *
  clear kq0 kq1 kq2 kq3 cI q0 q1 q2 q3 CF5 CN5 HW5
  obtain ⟨q0, q1, q2, q3⟩ := CF.out
  obtain ⟨⟨r0, r1, r2, r3, r4⟩, -⟩ := CN.out
  go_wp2_with fail
  refine (KC _).out.mono ?_
  rintro e w7 ⟨rfl, hb⟩
  have CF7 := Hid.mk' (CF.out.keep hb)
  have CN7 := Hid.mk' (CN.out.keep hb)
  have HB := Hid.mk' (HW.out.trans (hb.mono HW.out.size))
  clear hb CF CN HW q0 q1 q2 q3 r0 r1 r2 r3 r4
  obtain ⟨⟨r0, r1, r2, r3, r4⟩, v0, v1, v2, v3, v4⟩ := CN7.out
  go_upto_region 6 with fail
  refine wp_gen (fun wz => C5 wz (w.heap.size + 1) (.int .i64 0) (.bool g) (.int .i64 x2) (.int .u64 lo2) (.int .u64 hi2) ∧ C4 wz w.heap.size (.int .i64 32) (.int .i64 23) (.int .i64 (-149)) (.int .u64 2143289344) ∧ Below w.heap.size w wz) ⟨CN7.out.setAll, ((((CF7.out.far (by omega)).far (by omega)).far (by omega)).far (by omega)).far (by omega), ((((HB.out.setCell (by simp) _).setCell (by simp) _).setCell (by simp) _).setCell (by simp) _).setCell (by simp) _⟩ ?_
  clear CF7 CN7 HB r0 r1 r2 r3 r4 v0 v1 v2 v3 v4 KL KC
  rintro w8 ⟨⟨⟨r0, r1, r2, r3, r4⟩, -⟩, ⟨q0, q1, q2, q3⟩, hw8⟩
  have HW8 := Hid.mk' hw8
  have e1 := w64 (x2 - last) (by omega) (by omega)
  go_upto_region 7 with fail
  have kq0 := cell_regrown q0
  have kq1 := cell_regrown q1
  have kq2 := cell_regrown q2
  have kq3 := cell_regrown q3
  have e2 := w64 (last + 149) (by omega) (by omega)
  have e3 := u64 (last + 149) (by omega) (by omega)
  have e4 := u64 ((last + 149) * 8388608) (by omega) (by omega)
  have e5 := u64 ((last + 149) * 8388608 + S) (by omega) (by omega)
  have cI : ∀ d os, Calls Tryd.prog 77 #[FVn] (grow (redrawn w8 d) os) fun e w'' => e = .returned (.int .u64 2139095040) ∧ ∃ p : Regrown, w'' = grow (redrawn w8 p.d) p.os := fun d os => Calls.regrown_of (infinity_n _)
  clear hw8
  refine wp_region_quiet_below (by kernel_rfl) (by kernel_rfl) ?_
  repeat (quiet_step (exact cI _ _))
  refine wpQuiet_nil ?_
  intro _ hw'
  obtain ⟨⟨dq, osq⟩, hw''⟩ := hw'
  subst hw''
  have hw9 := HW8.out.trans ((below_regrown w8 dq osq).mono HW8.out.size)
  show Exit.then _ _ Exit.normal _ (grow (redrawn w8 dq) osq)
  generalize grow (redrawn w8 dq) osq = w9 at *
  go_wp2
  go_ret
  exact ⟨rfl, hw9⟩
set_option maxHeartbeats 4000000 in
theorem mag_w_o (g : Bool) (x lo hi L last : Int) (w : World) (hx : -10000 ≤ x) (hx' : x ≤ 10000) (hL : 0 ≤ L) (hL' : L ≤ 128) (hl : max (-1074) (x + L - 1 - 52) = last)
    (KL : ∀ w, Hid (Calls Tryd.prog 103 #[WV lo hi] w fun e w' => e = .returned (.int .i64 L) ∧ Below w.heap.size w w')) (ho : 973 ≤ last) :
    Calls Tryd.prog 85 #[FVw, NV 0 g x lo hi] w fun e w' => e = .returned (.int .u64 9218868437227405312) ∧ Below w.heap.size w w' := by
  go_enter Tryd.func85, Tryd.ntmps85
  go_upto_region 1 with fail
  refine wp_gen (fun wc => C4 wc w.heap.size (.int .i64 64) (.int .i64 52) (.int .i64 (-1074)) (.int .u64 9221120237041090560) ∧ C5 wc (w.heap.size + 1) (.int .i64 0) (.bool g) (.int .i64 x) (.int .u64 lo) (.int .u64 hi) ∧ Below w.heap.size w wc) ⟨c4_new.past, c5_mid, ((Below.refl _ _).alloc (Nat.le_refl _) _).alloc (by simp) _⟩ ?_
  rintro w4 ⟨cf, cn, hw4⟩
  obtain ⟨q0, q1, q2, q3⟩ := id cf
  obtain ⟨⟨r0, r1, r2, r3, r4⟩, -⟩ := id cn
  have CF := Hid.mk' cf
  have CN := Hid.mk' cn
  have kq1 := cell_regrown q1
  have kq2 := cell_regrown q2
  have kr2 := cell_regrown r2
  have kr3 := cell_regrown r3
  have kr4 := cell_regrown r4
  have e1 := w64 (x + L) (by omega) (by omega)
  have e2 := w64 (x + L - 1) (by omega) (by omega)
  have e3 := w64 (x + L - 1 - 52) (by omega) (by omega)
  have cL : ∀ d os, Calls Tryd.prog 103 #[WV lo hi] (grow (redrawn w4 d) os) fun e w'' => e = .returned (.int .i64 L) ∧ ∃ p : Regrown, w'' = grow (redrawn w4 p.d) p.os := fun d os => Calls.regrown_of (KL _).out
  have HW := Hid.mk' hw4
  clear hw4 cf cn
  refine wp_region_quiet_below (by kernel_rfl) (by kernel_rfl) ?_
  repeat (quiet_step (exact cL _ _))
  refine wpQuiet_nil ?_
  intro _ hw'
  obtain ⟨⟨dq, osq⟩, hw''⟩ := hw'
  subst hw''
  have CF5 := Hid.mk' (CF.out.keep (below_regrown w4 dq osq))
  have CN5 := Hid.mk' (CN.out.keep (below_regrown w4 dq osq))
  have HW5 := Hid.mk' (HW.out.trans ((below_regrown w4 dq osq).mono HW.out.size))
  show Exit.then _ _ Exit.normal _ (grow (redrawn w4 dq) osq)
  generalize grow (redrawn w4 dq) osq = w5 at *
  clear kq1 kq2 kr2 kr3 kr4 cL e1 e2 e3 q0 q1 q2 q3 r0 r1 r2 r3 r4 CF CN HW
  go_upto_region 2 with fail
  obtain ⟨q0, q1, q2, q3⟩ := CF5.out
  have kq0 := cell_regrown q0
  have kq1 := cell_regrown q1
  have kq2 := cell_regrown q2
  have kq3 := cell_regrown q3
  have cI : ∀ d os, Calls Tryd.prog 77 #[FVw] (grow (redrawn w5 d) os) fun e w'' => e = .returned (.int .u64 9218868437227405312) ∧ ∃ p : Regrown, w'' = grow (redrawn w5 p.d) p.os := fun d os => Calls.regrown_of (infinity_w _)
  refine wp_region_quiet_below (by kernel_rfl) (by kernel_rfl) ?_
  repeat (quiet_step (exact cI _ _))
  refine wpQuiet_nil ?_
  intro _ hw'
  obtain ⟨⟨dq, osq⟩, hw''⟩ := hw'
  subst hw''
  have CF := Hid.mk' (CF5.out.keep (below_regrown w5 dq osq))
  have CN := Hid.mk' (CN5.out.keep (below_regrown w5 dq osq))
  have HW := Hid.mk' (HW5.out.trans ((below_regrown w5 dq osq).mono HW5.out.size))
  show Exit.then _ _ Exit.normal _ (grow (redrawn w5 dq) osq)
  generalize grow (redrawn w5 dq) osq = w6 at *
  clear kq0 kq1 kq2 kq3 cI q0 q1 q2 q3 CF5 CN5 HW5
  obtain ⟨q0, q1, q2, q3⟩ := CF.out
  go_wp2_with fail
  refine (infinity_w _).mono ?_
  rintro e w7 ⟨rfl, hb⟩
  have HB := Hid.mk' (HW.out.trans (hb.mono HW.out.size))
  clear hb CF CN HW
  go_wp2
  go_ret
  exact ⟨rfl, HB.out⟩
set_option maxHeartbeats 4000000 in
theorem mag_w_i (g : Bool) (x lo hi L last x2 lo2 hi2 S : Int) (w : World) (hx : -10000 ≤ x) (hx' : x ≤ 10000) (hL : 0 ≤ L) (hL' : L ≤ 128) (hl : max (-1074) (x + L - 1 - 52) = last)
    (KL : ∀ w, Hid (Calls Tryd.prog 103 #[WV lo hi] w fun e w' => e = .returned (.int .i64 L) ∧ Below w.heap.size w w')) (ho : last < 973) (hl2 : -1074 ≤ last)
    (KC : ∀ w, Hid (Calls Tryd.prog 78 #[NV 0 g x lo hi, .int .i64 last, .int .i64 0] w fun e w' => e = .returned (NV 0 g x2 lo2 hi2) ∧ Below w.heap.size w w'))
    (hx2 : 0 ≤ x2 - last) (hx2' : x2 - last < 64) (hS : IntKind.u64.wrap (lo2 * 2 ^ (x2 - last).toNat) = S) (hS0 : 0 ≤ S) (hS1 : S ≤ 9007199254740992) :
    Calls Tryd.prog 85 #[FVw, NV 0 g x lo hi] w fun e w' => e = .returned (.int .u64 (min 9218868437227405312 ((last + 1074) * 4503599627370496 + S))) ∧ Below w.heap.size w w' := by
  have t0 : ¬ 973 ≤ last := by omega
  go_enter Tryd.func85, Tryd.ntmps85
  go_upto_region 1 with fail
  refine wp_gen (fun wc => C4 wc w.heap.size (.int .i64 64) (.int .i64 52) (.int .i64 (-1074)) (.int .u64 9221120237041090560) ∧ C5 wc (w.heap.size + 1) (.int .i64 0) (.bool g) (.int .i64 x) (.int .u64 lo) (.int .u64 hi) ∧ Below w.heap.size w wc) ⟨c4_new.past, c5_mid, ((Below.refl _ _).alloc (Nat.le_refl _) _).alloc (by simp) _⟩ ?_
  rintro w4 ⟨cf, cn, hw4⟩
  obtain ⟨q0, q1, q2, q3⟩ := id cf
  obtain ⟨⟨r0, r1, r2, r3, r4⟩, -⟩ := id cn
  have CF := Hid.mk' cf
  have CN := Hid.mk' cn
  have kq1 := cell_regrown q1
  have kq2 := cell_regrown q2
  have kr2 := cell_regrown r2
  have kr3 := cell_regrown r3
  have kr4 := cell_regrown r4
  have e1 := w64 (x + L) (by omega) (by omega)
  have e2 := w64 (x + L - 1) (by omega) (by omega)
  have e3 := w64 (x + L - 1 - 52) (by omega) (by omega)
  have cL : ∀ d os, Calls Tryd.prog 103 #[WV lo hi] (grow (redrawn w4 d) os) fun e w'' => e = .returned (.int .i64 L) ∧ ∃ p : Regrown, w'' = grow (redrawn w4 p.d) p.os := fun d os => Calls.regrown_of (KL _).out
  have HW := Hid.mk' hw4
  clear hw4 cf cn
  refine wp_region_quiet_below (by kernel_rfl) (by kernel_rfl) ?_
  repeat (quiet_step (exact cL _ _))
  refine wpQuiet_nil ?_
  intro _ hw'
  obtain ⟨⟨dq, osq⟩, hw''⟩ := hw'
  subst hw''
  have CF5 := Hid.mk' (CF.out.keep (below_regrown w4 dq osq))
  have CN5 := Hid.mk' (CN.out.keep (below_regrown w4 dq osq))
  have HW5 := Hid.mk' (HW.out.trans ((below_regrown w4 dq osq).mono HW.out.size))
  show Exit.then _ _ Exit.normal _ (grow (redrawn w4 dq) osq)
  generalize grow (redrawn w4 dq) osq = w5 at *
  clear kq1 kq2 kr2 kr3 kr4 cL e1 e2 e3 q0 q1 q2 q3 r0 r1 r2 r3 r4 CF CN HW
  go_upto_region 2 with fail
  obtain ⟨q0, q1, q2, q3⟩ := CF5.out
  have kq0 := cell_regrown q0
  have kq1 := cell_regrown q1
  have kq2 := cell_regrown q2
  have kq3 := cell_regrown q3
  have cI : ∀ d os, Calls Tryd.prog 77 #[FVw] (grow (redrawn w5 d) os) fun e w'' => e = .returned (.int .u64 9218868437227405312) ∧ ∃ p : Regrown, w'' = grow (redrawn w5 p.d) p.os := fun d os => Calls.regrown_of (infinity_w _)
  refine wp_region_quiet_below (by kernel_rfl) (by kernel_rfl) ?_
  repeat (quiet_step (exact cI _ _))
  refine wpQuiet_nil ?_
  intro _ hw'
  obtain ⟨⟨dq, osq⟩, hw''⟩ := hw'
  subst hw''
  have CF := Hid.mk' (CF5.out.keep (below_regrown w5 dq osq))
  have CN := Hid.mk' (CN5.out.keep (below_regrown w5 dq osq))
  have HW := Hid.mk' (HW5.out.trans ((below_regrown w5 dq osq).mono HW5.out.size))
  show Exit.then _ _ Exit.normal _ (grow (redrawn w5 dq) osq)
  generalize grow (redrawn w5 dq) osq = w6 at *
  clear kq0 kq1 kq2 kq3 cI q0 q1 q2 q3 CF5 CN5 HW5
  obtain ⟨q0, q1, q2, q3⟩ := CF.out
  obtain ⟨⟨r0, r1, r2, r3, r4⟩, -⟩ := CN.out
  go_wp2_with fail
  refine (KC _).out.mono ?_
  rintro e w7 ⟨rfl, hb⟩
  have CF7 := Hid.mk' (CF.out.keep hb)
  have CN7 := Hid.mk' (CN.out.keep hb)
  have HB := Hid.mk' (HW.out.trans (hb.mono HW.out.size))
  clear hb CF CN HW q0 q1 q2 q3 r0 r1 r2 r3 r4
  obtain ⟨⟨r0, r1, r2, r3, r4⟩, v0, v1, v2, v3, v4⟩ := CN7.out
  go_upto_region 6 with fail
  refine wp_gen (fun wz => C5 wz (w.heap.size + 1) (.int .i64 0) (.bool g) (.int .i64 x2) (.int .u64 lo2) (.int .u64 hi2) ∧ C4 wz w.heap.size (.int .i64 64) (.int .i64 52) (.int .i64 (-1074)) (.int .u64 9221120237041090560) ∧ Below w.heap.size w wz) ⟨CN7.out.setAll, ((((CF7.out.far (by omega)).far (by omega)).far (by omega)).far (by omega)).far (by omega), ((((HB.out.setCell (by simp) _).setCell (by simp) _).setCell (by simp) _).setCell (by simp) _).setCell (by simp) _⟩ ?_
  clear CF7 CN7 HB r0 r1 r2 r3 r4 v0 v1 v2 v3 v4 KL KC
  rintro w8 ⟨⟨⟨r0, r1, r2, r3, r4⟩, -⟩, ⟨q0, q1, q2, q3⟩, hw8⟩
  have HW8 := Hid.mk' hw8
  have e1 := w64 (x2 - last) (by omega) (by omega)
  go_upto_region 7 with fail
  have kq0 := cell_regrown q0
  have kq1 := cell_regrown q1
  have kq2 := cell_regrown q2
  have kq3 := cell_regrown q3
  have e2 := w64 (last + 1074) (by omega) (by omega)
  have e3 := u64 (last + 1074) (by omega) (by omega)
  have e4 := u64 ((last + 1074) * 4503599627370496) (by omega) (by omega)
  have e5 := u64 ((last + 1074) * 4503599627370496 + S) (by omega) (by omega)
  have cI : ∀ d os, Calls Tryd.prog 77 #[FVw] (grow (redrawn w8 d) os) fun e w'' => e = .returned (.int .u64 9218868437227405312) ∧ ∃ p : Regrown, w'' = grow (redrawn w8 p.d) p.os := fun d os => Calls.regrown_of (infinity_w _)
  clear hw8
  refine wp_region_quiet_below (by kernel_rfl) (by kernel_rfl) ?_
  repeat (quiet_step (exact cI _ _))
  refine wpQuiet_nil ?_
  intro _ hw'
  obtain ⟨⟨dq, osq⟩, hw''⟩ := hw'
  subst hw''
  have hw9 := HW8.out.trans ((below_regrown w8 dq osq).mono HW8.out.size)
  show Exit.then _ _ Exit.normal _ (grow (redrawn w8 dq) osq)
  generalize grow (redrawn w8 dq) osq = w9 at *
  go_wp2
  go_ret
  exact ⟨rfl, hw9⟩
end Go.Proofs.YthmppcfhbbjhlaaDoor
