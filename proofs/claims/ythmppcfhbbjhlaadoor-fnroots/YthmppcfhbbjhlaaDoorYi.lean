import Derived.Test.YthmppcfhbbjhlaaDoorRm
import Derived.Test.YthmppcfhbbjhlaaDoorXc
import Derived.Test.YthmppcfhbbjhlaaDoorFo
import Derived.Test.YthmppcfhbbjhlaaDoorIvp
import Derived.Deep.RegionHeld3
set_option linter.all false
namespace Go.Proofs.YthmppcfhbbjhlaaDoor
open Go.RowKit Go.Sort

set_option maxHeartbeats 4000000 in
set_option maxRecDepth 100000 in
theorem isnan_key (wd fr ls nn : Int) (a sb inf M : Int) (b : Bool) (w : World) (KS : ∀ w, Hid (Calls Tryd.prog 36 #[(.agg #[.int .i64 wd, .int .i64 fr, .int .i64 ls, .int .u64 nn])] w fun e w' => e = .returned (.int .u64 sb) ∧ Below w.heap.size w w')) (KI : ∀ w, Hid (Calls Tryd.prog 77 #[(.agg #[.int .i64 wd, .int .i64 fr, .int .i64 ls, .int .u64 nn])] w fun e w' => e = .returned (.int .u64 inf) ∧ Below w.heap.size w w')) (hM : bits .andNot .u64 a sb = M) (hb : decide (inf < M) = b) :
    Calls Tryd.prog 92 #[(.agg #[.int .i64 wd, .int .i64 fr, .int .i64 ls, .int .u64 nn]), .int .u64 a] w fun e w' => e = .returned (.bool b) ∧ Below w.heap.size w w' := by
  go_enter Tryd.func92, Tryd.ntmps92
  go_upto_region 1 with fail
  refine wp_gen (fun wc => C4 wc w.heap.size (.int .i64 wd) (.int .i64 fr) (.int .i64 ls) (.int .u64 nn) ∧ Below w.heap.size w wc) ⟨c4_new, (Below.refl _ _).alloc (Nat.le_refl _) _⟩ ?_
  rintro w4 ⟨cv, hw4⟩
  have CV := Hid.mk' cv
  have HW := Hid.mk' hw4
  obtain ⟨q0, q1, q2, q3⟩ := cv
  clear hw4
  have cS : ∀ d os, Calls Tryd.prog 36 #[(.agg #[.int .i64 wd, .int .i64 fr, .int .i64 ls, .int .u64 nn])] (grow (redrawn w4 d) os) fun e w'' => e = .returned (.int .u64 sb) ∧ ∃ p : Regrown, w'' = grow (redrawn w4 p.d) p.os := fun d os => Calls.regrown_of (KS _).out
  have cI : ∀ d os, Calls Tryd.prog 77 #[(.agg #[.int .i64 wd, .int .i64 fr, .int .i64 ls, .int .u64 nn])] (grow (redrawn w4 d) os) fun e w'' => e = .returned (.int .u64 inf) ∧ ∃ p : Regrown, w'' = grow (redrawn w4 p.d) p.os := fun d os => Calls.regrown_of (KI _).out
  clear KS KI
  have kq0 := cell_regrown q0
  have kq1 := cell_regrown q1
  have kq2 := cell_regrown q2
  have kq3 := cell_regrown q3
  refine wp_region_quiet_below (by kernel_rfl) (by kernel_rfl) ?_
  repeat (quiet_step (first | exact cS _ _ | exact cI _ _))
  refine wpQuiet_nil ?_
  intro _ hw'
  obtain ⟨⟨dq, osq⟩, hw''⟩ := hw'
  subst hw''
  have hw5 := HW.out.trans ((below_regrown _ dq osq).mono HW.out.size)
  have HW5 := Hid.mk' hw5
  clear hw5
  show Exit.then _ _ Exit.normal _ (grow (redrawn _ dq) osq)
  go_wp2
  go_ret
  exact ⟨rfl, HW5.out⟩
set_option maxHeartbeats 4000000 in
set_option maxRecDepth 100000 in
theorem order_neg (wd fr ls nn : Int) (a sb M : Int) (w : World) (KS : ∀ w, Hid (Calls Tryd.prog 36 #[(.agg #[.int .i64 wd, .int .i64 fr, .int .i64 ls, .int .u64 nn])] w fun e w' => e = .returned (.int .u64 sb) ∧ Below w.heap.size w w')) (hM : bits .andNot .u64 a sb = M) (hG : (bits .and .u64 a sb != 0) = true) (h0 : 0 ≤ M) (h1 : M < 9223372036854775808) :
    Calls Tryd.prog 93 #[(.agg #[.int .i64 wd, .int .i64 fr, .int .i64 ls, .int .u64 nn]), .int .u64 a] w fun e w' => e = .returned (.int .i64 (-M)) ∧ Below w.heap.size w w' := by
  go_enter Tryd.func93, Tryd.ntmps93
  go_upto_region 1 with fail
  refine wp_gen (fun wc => C4 wc w.heap.size (.int .i64 wd) (.int .i64 fr) (.int .i64 ls) (.int .u64 nn) ∧ Below w.heap.size w wc) ⟨c4_new, (Below.refl _ _).alloc (Nat.le_refl _) _⟩ ?_
  rintro w4 ⟨cv, hw4⟩
  have CV := Hid.mk' cv
  have HW := Hid.mk' hw4
  obtain ⟨q0, q1, q2, q3⟩ := cv
  clear hw4
  go_wp2_with (first | (go_at_call 36; refine (KS _).out.mono ?_; rintro e w6 ⟨rfl, hb⟩; have CV := Hid.mk' (CV.out.keep hb); have HW := Hid.mk' (HW.out.trans (hb.mono HW.out.size)); clear q0 q1 q2 q3; obtain ⟨q0, q1, q2, q3⟩ := CV.out; clear hb))
  go_ret
  exact ⟨rfl, HW.out⟩
set_option maxHeartbeats 4000000 in
set_option maxRecDepth 100000 in
theorem order_pos (wd fr ls nn : Int) (a sb : Int) (w : World) (KS : ∀ w, Hid (Calls Tryd.prog 36 #[(.agg #[.int .i64 wd, .int .i64 fr, .int .i64 ls, .int .u64 nn])] w fun e w' => e = .returned (.int .u64 sb) ∧ Below w.heap.size w w')) (hG : (bits .and .u64 a sb != 0) = false) (h0 : 0 ≤ a) (h1 : a < 9223372036854775808) :
    Calls Tryd.prog 93 #[(.agg #[.int .i64 wd, .int .i64 fr, .int .i64 ls, .int .u64 nn]), .int .u64 a] w fun e w' => e = .returned (.int .i64 a) ∧ Below w.heap.size w w' := by
  go_enter Tryd.func93, Tryd.ntmps93
  go_upto_region 1 with fail
  refine wp_gen (fun wc => C4 wc w.heap.size (.int .i64 wd) (.int .i64 fr) (.int .i64 ls) (.int .u64 nn) ∧ Below w.heap.size w wc) ⟨c4_new, (Below.refl _ _).alloc (Nat.le_refl _) _⟩ ?_
  rintro w4 ⟨cv, hw4⟩
  have CV := Hid.mk' cv
  have HW := Hid.mk' hw4
  obtain ⟨q0, q1, q2, q3⟩ := cv
  clear hw4
  go_wp2_with (first | (go_at_call 36; refine (KS _).out.mono ?_; rintro e w6 ⟨rfl, hb⟩; have CV := Hid.mk' (CV.out.keep hb); have HW := Hid.mk' (HW.out.trans (hb.mono HW.out.size)); clear q0 q1 q2 q3; obtain ⟨q0, q1, q2, q3⟩ := CV.out; clear hb))
  go_ret
  exact ⟨rfl, HW.out⟩
set_option maxHeartbeats 4000000 in
set_option maxRecDepth 100000 in
theorem holds_95 (wd fr ls nn : Int) (a b x y : Int) (w : World) (KNa : ∀ w, Hid (Calls Tryd.prog 92 #[(.agg #[.int .i64 wd, .int .i64 fr, .int .i64 ls, .int .u64 nn]), .int .u64 a] w fun e w' => e = .returned (.bool false) ∧ Below w.heap.size w w')) (KNb : ∀ w, Hid (Calls Tryd.prog 92 #[(.agg #[.int .i64 wd, .int .i64 fr, .int .i64 ls, .int .u64 nn]), .int .u64 b] w fun e w' => e = .returned (.bool false) ∧ Below w.heap.size w w')) (KOa : ∀ w, Hid (Calls Tryd.prog 93 #[(.agg #[.int .i64 wd, .int .i64 fr, .int .i64 ls, .int .u64 nn]), .int .u64 a] w fun e w' => e = .returned (.int .i64 x) ∧ Below w.heap.size w w')) (KOb : ∀ w, Hid (Calls Tryd.prog 93 #[(.agg #[.int .i64 wd, .int .i64 fr, .int .i64 ls, .int .u64 nn]), .int .u64 b] w fun e w' => e = .returned (.int .i64 y) ∧ Below w.heap.size w w')) :
    Calls Tryd.prog 52 #[(.agg #[.int .i64 wd, .int .i64 fr, .int .i64 ls, .int .u64 nn]), .int .i64 95, .int .u64 a, .int .u64 b] w fun e w' => e = .returned (.bool (decide (x ≤ y))) ∧ Below w.heap.size w w' := by
  go_enter Tryd.func52, Tryd.ntmps52
  go_upto_region 1 with fail
  refine wp_gen (fun wc => C4 wc w.heap.size (.int .i64 wd) (.int .i64 fr) (.int .i64 ls) (.int .u64 nn) ∧ Below w.heap.size w wc) ⟨c4_new, (Below.refl _ _).alloc (Nat.le_refl _) _⟩ ?_
  rintro w4 ⟨cv, hw4⟩
  have CV := Hid.mk' cv
  have HW := Hid.mk' hw4
  obtain ⟨q0, q1, q2, q3⟩ := cv
  clear hw4
  go_upto_region 3 with (go_at_call 92; (first | (with_reducible refine (KNa _).out.mono ?_) | (with_reducible refine (KNb _).out.mono ?_)); rintro e w6 ⟨rfl, hb⟩; have CV := Hid.mk' (CV.out.keep hb); have HW := Hid.mk' (HW.out.trans (hb.mono HW.out.size)); clear q0 q1 q2 q3; obtain ⟨q0, q1, q2, q3⟩ := CV.out; clear hb)
  have cA : ∀ d os, Calls Tryd.prog 93 #[(.agg #[.int .i64 wd, .int .i64 fr, .int .i64 ls, .int .u64 nn]), .int .u64 a] (grow (redrawn w6 d) os) fun e w'' => e = .returned (.int .i64 x) ∧ ∃ p : Regrown, w'' = grow (redrawn w6 p.d) p.os := fun d os => Calls.regrown_of (KOa _).out
  have cB : ∀ d os, Calls Tryd.prog 93 #[(.agg #[.int .i64 wd, .int .i64 fr, .int .i64 ls, .int .u64 nn]), .int .u64 b] (grow (redrawn w6 d) os) fun e w'' => e = .returned (.int .i64 y) ∧ ∃ p : Regrown, w'' = grow (redrawn w6 p.d) p.os := fun d os => Calls.regrown_of (KOb _).out
  clear KNa KNb KOa KOb
  have kq0 := cell_regrown q0
  have kq1 := cell_regrown q1
  have kq2 := cell_regrown q2
  have kq3 := cell_regrown q3
  refine wp_region_quiet_below (by kernel_rfl) (by kernel_rfl) ?_
  repeat (quiet_step (first | (with_reducible exact cA _ _) | (with_reducible exact cB _ _)))
  refine wpQuiet_nil ?_
  intro _ hw'
  obtain ⟨⟨dq, osq⟩, hw''⟩ := hw'
  subst hw''
  have hw5 := HW.out.trans ((below_regrown _ dq osq).mono HW.out.size)
  have HW5 := Hid.mk' hw5
  clear hw5
  show Exit.then _ _ Exit.normal _ (grow (redrawn _ dq) osq)
  go_wp2
  go_ret
  exact ⟨rfl, HW5.out⟩
set_option maxHeartbeats 4000000 in
set_option maxRecDepth 100000 in
theorem holds_96 (wd fr ls nn : Int) (a b x y : Int) (w : World) (KNa : ∀ w, Hid (Calls Tryd.prog 92 #[(.agg #[.int .i64 wd, .int .i64 fr, .int .i64 ls, .int .u64 nn]), .int .u64 a] w fun e w' => e = .returned (.bool false) ∧ Below w.heap.size w w')) (KNb : ∀ w, Hid (Calls Tryd.prog 92 #[(.agg #[.int .i64 wd, .int .i64 fr, .int .i64 ls, .int .u64 nn]), .int .u64 b] w fun e w' => e = .returned (.bool false) ∧ Below w.heap.size w w')) (KOa : ∀ w, Hid (Calls Tryd.prog 93 #[(.agg #[.int .i64 wd, .int .i64 fr, .int .i64 ls, .int .u64 nn]), .int .u64 a] w fun e w' => e = .returned (.int .i64 x) ∧ Below w.heap.size w w')) (KOb : ∀ w, Hid (Calls Tryd.prog 93 #[(.agg #[.int .i64 wd, .int .i64 fr, .int .i64 ls, .int .u64 nn]), .int .u64 b] w fun e w' => e = .returned (.int .i64 y) ∧ Below w.heap.size w w')) :
    Calls Tryd.prog 52 #[(.agg #[.int .i64 wd, .int .i64 fr, .int .i64 ls, .int .u64 nn]), .int .i64 96, .int .u64 a, .int .u64 b] w fun e w' => e = .returned (.bool (decide (y ≤ x))) ∧ Below w.heap.size w w' := by
  go_enter Tryd.func52, Tryd.ntmps52
  go_upto_region 1 with fail
  refine wp_gen (fun wc => C4 wc w.heap.size (.int .i64 wd) (.int .i64 fr) (.int .i64 ls) (.int .u64 nn) ∧ Below w.heap.size w wc) ⟨c4_new, (Below.refl _ _).alloc (Nat.le_refl _) _⟩ ?_
  rintro w4 ⟨cv, hw4⟩
  have CV := Hid.mk' cv
  have HW := Hid.mk' hw4
  obtain ⟨q0, q1, q2, q3⟩ := cv
  clear hw4
  go_upto_region 3 with (go_at_call 92; (first | (with_reducible refine (KNa _).out.mono ?_) | (with_reducible refine (KNb _).out.mono ?_)); rintro e w6 ⟨rfl, hb⟩; have CV := Hid.mk' (CV.out.keep hb); have HW := Hid.mk' (HW.out.trans (hb.mono HW.out.size)); clear q0 q1 q2 q3; obtain ⟨q0, q1, q2, q3⟩ := CV.out; clear hb)
  have cA : ∀ d os, Calls Tryd.prog 93 #[(.agg #[.int .i64 wd, .int .i64 fr, .int .i64 ls, .int .u64 nn]), .int .u64 a] (grow (redrawn w6 d) os) fun e w'' => e = .returned (.int .i64 x) ∧ ∃ p : Regrown, w'' = grow (redrawn w6 p.d) p.os := fun d os => Calls.regrown_of (KOa _).out
  have cB : ∀ d os, Calls Tryd.prog 93 #[(.agg #[.int .i64 wd, .int .i64 fr, .int .i64 ls, .int .u64 nn]), .int .u64 b] (grow (redrawn w6 d) os) fun e w'' => e = .returned (.int .i64 y) ∧ ∃ p : Regrown, w'' = grow (redrawn w6 p.d) p.os := fun d os => Calls.regrown_of (KOb _).out
  clear KNa KNb KOa KOb
  have kq0 := cell_regrown q0
  have kq1 := cell_regrown q1
  have kq2 := cell_regrown q2
  have kq3 := cell_regrown q3
  refine wp_region_quiet_below (by kernel_rfl) (by kernel_rfl) ?_
  repeat (quiet_step (first | (with_reducible exact cA _ _) | (with_reducible exact cB _ _)))
  refine wpQuiet_nil ?_
  intro _ hw'
  obtain ⟨⟨dq, osq⟩, hw''⟩ := hw'
  subst hw''
  have hw5 := HW.out.trans ((below_regrown _ dq osq).mono HW.out.size)
  have HW5 := Hid.mk' hw5
  clear hw5
  show Exit.then _ _ Exit.normal _ (grow (redrawn _ dq) osq)
  go_wp2
  go_ret
  exact ⟨rfl, HW5.out⟩
set_option maxHeartbeats 4000000 in
set_option maxRecDepth 100000 in
theorem pick_et (wd fr ls nn : Int) (a b x y : Int) (w : World) (KNa : ∀ w, Hid (Calls Tryd.prog 92 #[(.agg #[.int .i64 wd, .int .i64 fr, .int .i64 ls, .int .u64 nn]), .int .u64 a] w fun e w' => e = .returned (.bool false) ∧ Below w.heap.size w w')) (KNb : ∀ w, Hid (Calls Tryd.prog 92 #[(.agg #[.int .i64 wd, .int .i64 fr, .int .i64 ls, .int .u64 nn]), .int .u64 b] w fun e w' => e = .returned (.bool false) ∧ Below w.heap.size w w')) (KOa : ∀ w, Hid (Calls Tryd.prog 93 #[(.agg #[.int .i64 wd, .int .i64 fr, .int .i64 ls, .int .u64 nn]), .int .u64 a] w fun e w' => e = .returned (.int .i64 x) ∧ Below w.heap.size w w')) (KOb : ∀ w, Hid (Calls Tryd.prog 93 #[(.agg #[.int .i64 wd, .int .i64 fr, .int .i64 ls, .int .u64 nn]), .int .u64 b] w fun e w' => e = .returned (.int .i64 y) ∧ Below w.heap.size w w')) (hxy : (x == y) = true) :
    Calls Tryd.prog 57 #[(.agg #[.int .i64 wd, .int .i64 fr, .int .i64 ls, .int .u64 nn]), .bool true, .int .u64 a, .int .u64 b] w fun e w' => e = .returned (.int .u64 (bits .or .u64 a b)) ∧ Below w.heap.size w w' := by
  go_enter Tryd.func57, Tryd.ntmps57
  go_upto_region 1 with fail
  refine wp_gen (fun wc => C4 wc w.heap.size (.int .i64 wd) (.int .i64 fr) (.int .i64 ls) (.int .u64 nn) ∧ Below w.heap.size w wc) ⟨c4_new, (Below.refl _ _).alloc (Nat.le_refl _) _⟩ ?_
  rintro w4 ⟨cv, hw4⟩
  have CV := Hid.mk' cv
  have HW := Hid.mk' hw4
  obtain ⟨q0, q1, q2, q3⟩ := cv
  clear hw4
  go_upto_region 3 with (go_at_call 92; (first | (with_reducible refine (KNa _).out.mono ?_) | (with_reducible refine (KNb _).out.mono ?_)); rintro e w6 ⟨rfl, hb⟩; have CV := Hid.mk' (CV.out.keep hb); have HW := Hid.mk' (HW.out.trans (hb.mono HW.out.size)); clear q0 q1 q2 q3; obtain ⟨q0, q1, q2, q3⟩ := CV.out; clear hb)
  have cA : ∀ d os, Calls Tryd.prog 93 #[(.agg #[.int .i64 wd, .int .i64 fr, .int .i64 ls, .int .u64 nn]), .int .u64 a] (grow (redrawn w6 d) os) fun e w'' => e = .returned (.int .i64 x) ∧ ∃ p : Regrown, w'' = grow (redrawn w6 p.d) p.os := fun d os => Calls.regrown_of (KOa _).out
  have cB : ∀ d os, Calls Tryd.prog 93 #[(.agg #[.int .i64 wd, .int .i64 fr, .int .i64 ls, .int .u64 nn]), .int .u64 b] (grow (redrawn w6 d) os) fun e w'' => e = .returned (.int .i64 y) ∧ ∃ p : Regrown, w'' = grow (redrawn w6 p.d) p.os := fun d os => Calls.regrown_of (KOb _).out
  clear KNa KNb KOa KOb
  have kq0 := cell_regrown q0
  have kq1 := cell_regrown q1
  have kq2 := cell_regrown q2
  have kq3 := cell_regrown q3
  refine wp_region_quiet_below (by kernel_rfl) (by kernel_rfl) ?_
  repeat (quiet_step (first | (with_reducible exact cA _ _) | (with_reducible exact cB _ _)))
  refine wpQuiet_nil ?_
  intro _ hw'
  obtain ⟨⟨dq, osq⟩, hw''⟩ := hw'
  subst hw''
  have hw5 := HW.out.trans ((below_regrown _ dq osq).mono HW.out.size)
  have HW5 := Hid.mk' hw5
  clear hw5
  show Exit.then _ _ Exit.normal _ (grow (redrawn _ dq) osq)
  go_wp2
  go_ret
  exact ⟨rfl, HW5.out⟩
set_option maxHeartbeats 4000000 in
set_option maxRecDepth 100000 in
theorem pick_ef (wd fr ls nn : Int) (a b x y : Int) (w : World) (KNa : ∀ w, Hid (Calls Tryd.prog 92 #[(.agg #[.int .i64 wd, .int .i64 fr, .int .i64 ls, .int .u64 nn]), .int .u64 a] w fun e w' => e = .returned (.bool false) ∧ Below w.heap.size w w')) (KNb : ∀ w, Hid (Calls Tryd.prog 92 #[(.agg #[.int .i64 wd, .int .i64 fr, .int .i64 ls, .int .u64 nn]), .int .u64 b] w fun e w' => e = .returned (.bool false) ∧ Below w.heap.size w w')) (KOa : ∀ w, Hid (Calls Tryd.prog 93 #[(.agg #[.int .i64 wd, .int .i64 fr, .int .i64 ls, .int .u64 nn]), .int .u64 a] w fun e w' => e = .returned (.int .i64 x) ∧ Below w.heap.size w w')) (KOb : ∀ w, Hid (Calls Tryd.prog 93 #[(.agg #[.int .i64 wd, .int .i64 fr, .int .i64 ls, .int .u64 nn]), .int .u64 b] w fun e w' => e = .returned (.int .i64 y) ∧ Below w.heap.size w w')) (hxy : (x == y) = true) :
    Calls Tryd.prog 57 #[(.agg #[.int .i64 wd, .int .i64 fr, .int .i64 ls, .int .u64 nn]), .bool false, .int .u64 a, .int .u64 b] w fun e w' => e = .returned (.int .u64 (bits .and .u64 a b)) ∧ Below w.heap.size w w' := by
  go_enter Tryd.func57, Tryd.ntmps57
  go_upto_region 1 with fail
  refine wp_gen (fun wc => C4 wc w.heap.size (.int .i64 wd) (.int .i64 fr) (.int .i64 ls) (.int .u64 nn) ∧ Below w.heap.size w wc) ⟨c4_new, (Below.refl _ _).alloc (Nat.le_refl _) _⟩ ?_
  rintro w4 ⟨cv, hw4⟩
  have CV := Hid.mk' cv
  have HW := Hid.mk' hw4
  obtain ⟨q0, q1, q2, q3⟩ := cv
  clear hw4
  go_upto_region 3 with (go_at_call 92; (first | (with_reducible refine (KNa _).out.mono ?_) | (with_reducible refine (KNb _).out.mono ?_)); rintro e w6 ⟨rfl, hb⟩; have CV := Hid.mk' (CV.out.keep hb); have HW := Hid.mk' (HW.out.trans (hb.mono HW.out.size)); clear q0 q1 q2 q3; obtain ⟨q0, q1, q2, q3⟩ := CV.out; clear hb)
  have cA : ∀ d os, Calls Tryd.prog 93 #[(.agg #[.int .i64 wd, .int .i64 fr, .int .i64 ls, .int .u64 nn]), .int .u64 a] (grow (redrawn w6 d) os) fun e w'' => e = .returned (.int .i64 x) ∧ ∃ p : Regrown, w'' = grow (redrawn w6 p.d) p.os := fun d os => Calls.regrown_of (KOa _).out
  have cB : ∀ d os, Calls Tryd.prog 93 #[(.agg #[.int .i64 wd, .int .i64 fr, .int .i64 ls, .int .u64 nn]), .int .u64 b] (grow (redrawn w6 d) os) fun e w'' => e = .returned (.int .i64 y) ∧ ∃ p : Regrown, w'' = grow (redrawn w6 p.d) p.os := fun d os => Calls.regrown_of (KOb _).out
  clear KNa KNb KOa KOb
  have kq0 := cell_regrown q0
  have kq1 := cell_regrown q1
  have kq2 := cell_regrown q2
  have kq3 := cell_regrown q3
  refine wp_region_quiet_below (by kernel_rfl) (by kernel_rfl) ?_
  repeat (quiet_step (first | (with_reducible exact cA _ _) | (with_reducible exact cB _ _)))
  refine wpQuiet_nil ?_
  intro _ hw'
  obtain ⟨⟨dq, osq⟩, hw''⟩ := hw'
  subst hw''
  have hw5 := HW.out.trans ((below_regrown _ dq osq).mono HW.out.size)
  have HW5 := Hid.mk' hw5
  clear hw5
  show Exit.then _ _ Exit.normal _ (grow (redrawn _ dq) osq)
  go_wp2
  go_ret
  exact ⟨rfl, HW5.out⟩
set_option maxHeartbeats 4000000 in
set_option maxRecDepth 100000 in
theorem pick_a (wd fr ls nn : Int) (sm : Bool) (a b x y : Int) (w : World) (KNa : ∀ w, Hid (Calls Tryd.prog 92 #[(.agg #[.int .i64 wd, .int .i64 fr, .int .i64 ls, .int .u64 nn]), .int .u64 a] w fun e w' => e = .returned (.bool false) ∧ Below w.heap.size w w')) (KNb : ∀ w, Hid (Calls Tryd.prog 92 #[(.agg #[.int .i64 wd, .int .i64 fr, .int .i64 ls, .int .u64 nn]), .int .u64 b] w fun e w' => e = .returned (.bool false) ∧ Below w.heap.size w w')) (KOa : ∀ w, Hid (Calls Tryd.prog 93 #[(.agg #[.int .i64 wd, .int .i64 fr, .int .i64 ls, .int .u64 nn]), .int .u64 a] w fun e w' => e = .returned (.int .i64 x) ∧ Below w.heap.size w w')) (KOb : ∀ w, Hid (Calls Tryd.prog 93 #[(.agg #[.int .i64 wd, .int .i64 fr, .int .i64 ls, .int .u64 nn]), .int .u64 b] w fun e w' => e = .returned (.int .i64 y) ∧ Below w.heap.size w w')) (hxy : (x == y) = false) (hl : (decide (x < y) == sm) = true) :
    Calls Tryd.prog 57 #[(.agg #[.int .i64 wd, .int .i64 fr, .int .i64 ls, .int .u64 nn]), .bool sm, .int .u64 a, .int .u64 b] w fun e w' => e = .returned (.int .u64 (a)) ∧ Below w.heap.size w w' := by
  go_enter Tryd.func57, Tryd.ntmps57
  go_upto_region 1 with fail
  refine wp_gen (fun wc => C4 wc w.heap.size (.int .i64 wd) (.int .i64 fr) (.int .i64 ls) (.int .u64 nn) ∧ Below w.heap.size w wc) ⟨c4_new, (Below.refl _ _).alloc (Nat.le_refl _) _⟩ ?_
  rintro w4 ⟨cv, hw4⟩
  have CV := Hid.mk' cv
  have HW := Hid.mk' hw4
  obtain ⟨q0, q1, q2, q3⟩ := cv
  clear hw4
  go_upto_region 3 with (go_at_call 92; (first | (with_reducible refine (KNa _).out.mono ?_) | (with_reducible refine (KNb _).out.mono ?_)); rintro e w6 ⟨rfl, hb⟩; have CV := Hid.mk' (CV.out.keep hb); have HW := Hid.mk' (HW.out.trans (hb.mono HW.out.size)); clear q0 q1 q2 q3; obtain ⟨q0, q1, q2, q3⟩ := CV.out; clear hb)
  have cA : ∀ d os, Calls Tryd.prog 93 #[(.agg #[.int .i64 wd, .int .i64 fr, .int .i64 ls, .int .u64 nn]), .int .u64 a] (grow (redrawn w6 d) os) fun e w'' => e = .returned (.int .i64 x) ∧ ∃ p : Regrown, w'' = grow (redrawn w6 p.d) p.os := fun d os => Calls.regrown_of (KOa _).out
  have cB : ∀ d os, Calls Tryd.prog 93 #[(.agg #[.int .i64 wd, .int .i64 fr, .int .i64 ls, .int .u64 nn]), .int .u64 b] (grow (redrawn w6 d) os) fun e w'' => e = .returned (.int .i64 y) ∧ ∃ p : Regrown, w'' = grow (redrawn w6 p.d) p.os := fun d os => Calls.regrown_of (KOb _).out
  clear KNa KNb KOa KOb
  have kq0 := cell_regrown q0
  have kq1 := cell_regrown q1
  have kq2 := cell_regrown q2
  have kq3 := cell_regrown q3
  refine wp_region_quiet_below (by kernel_rfl) (by kernel_rfl) ?_
  repeat (quiet_step (first | (with_reducible exact cA _ _) | (with_reducible exact cB _ _)))
  refine wpQuiet_nil ?_
  intro _ hw'
  obtain ⟨⟨dq, osq⟩, hw''⟩ := hw'
  subst hw''
  have hw5 := HW.out.trans ((below_regrown _ dq osq).mono HW.out.size)
  have HW5 := Hid.mk' hw5
  clear hw5
  show Exit.then _ _ Exit.normal _ (grow (redrawn _ dq) osq)
  go_wp2
  go_ret
  exact ⟨rfl, HW5.out⟩
set_option maxHeartbeats 4000000 in
set_option maxRecDepth 100000 in
theorem pick_b (wd fr ls nn : Int) (sm : Bool) (a b x y : Int) (w : World) (KNa : ∀ w, Hid (Calls Tryd.prog 92 #[(.agg #[.int .i64 wd, .int .i64 fr, .int .i64 ls, .int .u64 nn]), .int .u64 a] w fun e w' => e = .returned (.bool false) ∧ Below w.heap.size w w')) (KNb : ∀ w, Hid (Calls Tryd.prog 92 #[(.agg #[.int .i64 wd, .int .i64 fr, .int .i64 ls, .int .u64 nn]), .int .u64 b] w fun e w' => e = .returned (.bool false) ∧ Below w.heap.size w w')) (KOa : ∀ w, Hid (Calls Tryd.prog 93 #[(.agg #[.int .i64 wd, .int .i64 fr, .int .i64 ls, .int .u64 nn]), .int .u64 a] w fun e w' => e = .returned (.int .i64 x) ∧ Below w.heap.size w w')) (KOb : ∀ w, Hid (Calls Tryd.prog 93 #[(.agg #[.int .i64 wd, .int .i64 fr, .int .i64 ls, .int .u64 nn]), .int .u64 b] w fun e w' => e = .returned (.int .i64 y) ∧ Below w.heap.size w w')) (hxy : (x == y) = false) (hl : (decide (x < y) == sm) = false) :
    Calls Tryd.prog 57 #[(.agg #[.int .i64 wd, .int .i64 fr, .int .i64 ls, .int .u64 nn]), .bool sm, .int .u64 a, .int .u64 b] w fun e w' => e = .returned (.int .u64 (b)) ∧ Below w.heap.size w w' := by
  go_enter Tryd.func57, Tryd.ntmps57
  go_upto_region 1 with fail
  refine wp_gen (fun wc => C4 wc w.heap.size (.int .i64 wd) (.int .i64 fr) (.int .i64 ls) (.int .u64 nn) ∧ Below w.heap.size w wc) ⟨c4_new, (Below.refl _ _).alloc (Nat.le_refl _) _⟩ ?_
  rintro w4 ⟨cv, hw4⟩
  have CV := Hid.mk' cv
  have HW := Hid.mk' hw4
  obtain ⟨q0, q1, q2, q3⟩ := cv
  clear hw4
  go_upto_region 3 with (go_at_call 92; (first | (with_reducible refine (KNa _).out.mono ?_) | (with_reducible refine (KNb _).out.mono ?_)); rintro e w6 ⟨rfl, hb⟩; have CV := Hid.mk' (CV.out.keep hb); have HW := Hid.mk' (HW.out.trans (hb.mono HW.out.size)); clear q0 q1 q2 q3; obtain ⟨q0, q1, q2, q3⟩ := CV.out; clear hb)
  have cA : ∀ d os, Calls Tryd.prog 93 #[(.agg #[.int .i64 wd, .int .i64 fr, .int .i64 ls, .int .u64 nn]), .int .u64 a] (grow (redrawn w6 d) os) fun e w'' => e = .returned (.int .i64 x) ∧ ∃ p : Regrown, w'' = grow (redrawn w6 p.d) p.os := fun d os => Calls.regrown_of (KOa _).out
  have cB : ∀ d os, Calls Tryd.prog 93 #[(.agg #[.int .i64 wd, .int .i64 fr, .int .i64 ls, .int .u64 nn]), .int .u64 b] (grow (redrawn w6 d) os) fun e w'' => e = .returned (.int .i64 y) ∧ ∃ p : Regrown, w'' = grow (redrawn w6 p.d) p.os := fun d os => Calls.regrown_of (KOb _).out
  clear KNa KNb KOa KOb
  have kq0 := cell_regrown q0
  have kq1 := cell_regrown q1
  have kq2 := cell_regrown q2
  have kq3 := cell_regrown q3
  refine wp_region_quiet_below (by kernel_rfl) (by kernel_rfl) ?_
  repeat (quiet_step (first | (with_reducible exact cA _ _) | (with_reducible exact cB _ _)))
  refine wpQuiet_nil ?_
  intro _ hw'
  obtain ⟨⟨dq, osq⟩, hw''⟩ := hw'
  subst hw''
  have hw5 := HW.out.trans ((below_regrown _ dq osq).mono HW.out.size)
  have HW5 := Hid.mk' hw5
  clear hw5
  show Exit.then _ _ Exit.normal _ (grow (redrawn _ dq) osq)
  go_wp2
  go_ret
  exact ⟨rfl, HW5.out⟩
set_option maxHeartbeats 4000000 in
set_option maxRecDepth 100000 in
theorem neg_key (k : Int) (g : Bool) (x lo hi : Int) (w : World) : Calls Tryd.prog 54 #[NV k g x lo hi] w fun e w' => e = .returned (NV k (!g) x lo hi) ∧ Below w.heap.size w w' := by
  go_enter Tryd.func54, Tryd.ntmps54
  go_wp2
  exact bodyPost_ret (v := NV k (!g) x lo hi) (by simp [results, Tryd.results54, go_sem]) rfl ⟨rfl, by repeat (first | exact Below.refl _ _ | refine Below.setCell ?_ (by first | (simp; done) | (simp; omega) | omega) _ | refine Below.alloc ?_ (by first | (simp; done) | (simp; omega)) _ | refine Below.drew ?_)⟩
theorem flag_t (w : World) : Calls Tryd.prog 51 #[.bool true] w fun e w' => e = .returned (.int .u64 1) ∧ Below w.heap.size w w' := by
  go_enter Tryd.func51, Tryd.ntmps51
  go_wp2
  go_ret
  exact ⟨rfl, by repeat (first | exact Below.refl _ _ | refine Below.alloc ?_ (by first | (simp; done) | (simp; omega)) _)⟩
theorem flag_f (w : World) : Calls Tryd.prog 51 #[.bool false] w fun e w' => e = .returned (.int .u64 0) ∧ Below w.heap.size w w' := by
  go_enter Tryd.func51, Tryd.ntmps51
  go_wp2
  go_ret
  exact ⟨rfl, by repeat (first | exact Below.refl _ _ | refine Below.alloc ?_ (by first | (simp; done) | (simp; omega)) _)⟩
end Go.Proofs.YthmppcfhbbjhlaaDoor
namespace Go.Proofs.YthmppcfhbbjhlaaDoor
open Go.RowKit Go.Sort

set_option maxHeartbeats 4000000 in
set_option maxRecDepth 100000 in
theorem if2_95 (h : Bool) (wd fr ls nn : Int) (op a b A B0 R : Int) (w : World) (hT : Tab0 w) (hz : 0 < w.heap.size) (KF : ∀ w, Tab0 w → 0 < w.heap.size → Hid (Calls Tryd.prog 32 #[.int .i64 op] w fun e w' => e = .returned (.tuple #[.int .i64 95, (.agg #[.int .i64 wd, .int .i64 fr, .int .i64 ls, .int .u64 nn])]) ∧ Below w.heap.size w w')) (KLa : ∀ w, Hid (Calls Tryd.prog 35 #[(.agg #[.int .i64 wd, .int .i64 fr, .int .i64 ls, .int .u64 nn]), .int .u64 a] w fun e w' => e = .returned (.int .u64 A) ∧ Below w.heap.size w w')) (KLb : ∀ w, Hid (Calls Tryd.prog 35 #[(.agg #[.int .i64 wd, .int .i64 fr, .int .i64 ls, .int .u64 nn]), .int .u64 b] w fun e w' => e = .returned (.int .u64 B0) ∧ Below w.heap.size w w')) (KH : ∀ w, Hid (Calls Tryd.prog 52 #[(.agg #[.int .i64 wd, .int .i64 fr, .int .i64 ls, .int .u64 nn]), .int .i64 95, .int .u64 A, .int .u64 B0] w fun e w' => e = .returned (.bool h) ∧ Below w.heap.size w w')) (KG : ∀ w, Hid (Calls Tryd.prog 51 #[.bool h] w fun e w' => e = .returned (.int .u64 R) ∧ Below w.heap.size w w')) :
    Calls Tryd.prog 15 #[.int .i64 op, .int .u64 a, .int .u64 b] w fun e w' => e = .returned (RV true 0 R) ∧ Below w.heap.size w w' := by
  go_enter Tryd.func15, Tryd.ntmps15
  go_wp2_with fail
  refine (KF _ (hT.below ((Below.refl _ _).alloc (Nat.le_refl _) _) hz) (by simp)).out.mono ?_
  rintro e w1 ⟨rfl, hb⟩
  have HR1 := Hid.mk' (r3_new.keep hb)
  have HB1 := Hid.mk' (below_box hb)
  have hl1 := HR1.out.1.lt
  clear hb KF hT
  go_upto_region 2 with fail
  refine wp_gen (fun wz => RZ wz w.heap.size ∧ C4 wz w1.heap.size (.int .i64 wd) (.int .i64 fr) (.int .i64 ls) (.int .u64 nn) ∧ Below w.heap.size w wz) ⟨HR1.out.past, c4_new, HB1.out.alloc HB1.out.size _⟩ ?_
  clear HR1 HB1
  generalize w1.heap.size = gf at *
  clear w1
  rintro w4 ⟨hr, hf, hb⟩
  have HR := Hid.mk' hr
  have HF := Hid.mk' hf
  have HW := Hid.mk' hb
  obtain ⟨q0, q1, q2, q3⟩ := id hf
  clear hr hf hb
  have cA : ∀ d os, Calls Tryd.prog 35 #[(.agg #[.int .i64 wd, .int .i64 fr, .int .i64 ls, .int .u64 nn]), .int .u64 a] (grow (redrawn w4 d) os) fun e w'' => e = .returned (.int .u64 A) ∧ ∃ p : Regrown, w'' = grow (redrawn w4 p.d) p.os := fun d os => Calls.regrown_of (KLa _).out
  have cB : ∀ d os, Calls Tryd.prog 35 #[(.agg #[.int .i64 wd, .int .i64 fr, .int .i64 ls, .int .u64 nn]), .int .u64 b] (grow (redrawn w4 d) os) fun e w'' => e = .returned (.int .u64 B0) ∧ ∃ p : Regrown, w'' = grow (redrawn w4 p.d) p.os := fun d os => Calls.regrown_of (KLb _).out
  clear KLa KLb
  have kq0 := cell_regrown q0
  have kq1 := cell_regrown q1
  have kq2 := cell_regrown q2
  have kq3 := cell_regrown q3
  refine wp_region_quiet_below (by kernel_rfl) (by kernel_rfl) ?_
  repeat (quiet_step (first | (with_reducible exact cA _ _) | (with_reducible exact cB _ _)))
  refine wpQuiet_nil ?_
  intro _ hw'
  obtain ⟨⟨dq, osq⟩, hw''⟩ := hw'
  subst hw''
  have hw5 := HW.out.trans ((below_regrown _ dq osq).mono HW.out.size)
  have HW5 := Hid.mk' hw5
  clear hw5
  show Exit.then _ _ Exit.normal _ (grow (redrawn _ dq) osq)
  have HBQ := Hid.mk' (below_regrown w4 dq osq)
  clear kq0 kq1 kq2 kq3 cA cB
  go_upto_region 3 with fail
  refine wp_gen (fun wz => RZ wz w.heap.size ∧ C4 wz gf (.int .i64 wd) (.int .i64 fr) (.int .i64 ls) (.int .u64 nn) ∧ Below w.heap.size w wz) ⟨HR.out.keep HBQ.out, HF.out.keep HBQ.out, HW5.out⟩ ?_
  clear HR HF HW HW5 HBQ q0 q1 q2 q3
  rintro w5 ⟨hr, hf, hb⟩
  have HR := Hid.mk' hr
  have HF := Hid.mk' hf
  have HB := Hid.mk' hb
  obtain ⟨q0, q1, q2, q3⟩ := id hf
  obtain ⟨⟨r0, r1, r2⟩, v0, v1, v2⟩ := id hr
  clear hr hf hb
  have KD := fun (w : World) => Hid.mk' (done_any R w)
  go_wp2_with (first | (go_at_call 52; (first | (with_reducible refine (KH _).out.mono ?_)); rintro e w6 ⟨rfl, hb⟩; have HR := Hid.mk' (HR.out.keep hb); have HF := Hid.mk' (HF.out.keep hb); have HB := Hid.mk' (HB.out.trans (hb.mono HB.out.size)); clear q0 q1 q2 q3 r0 r1 r2 v0 v1 v2; obtain ⟨q0, q1, q2, q3⟩ := HF.out; obtain ⟨⟨r0, r1, r2⟩, v0, v1, v2⟩ := HR.out; clear hb) | (go_at_call 51; (first | (with_reducible refine (KG _).out.mono ?_)); rintro e w6 ⟨rfl, hb⟩; have HR := Hid.mk' (HR.out.keep hb); have HF := Hid.mk' (HF.out.keep hb); have HB := Hid.mk' (HB.out.trans (hb.mono HB.out.size)); clear q0 q1 q2 q3 r0 r1 r2 v0 v1 v2; obtain ⟨q0, q1, q2, q3⟩ := HF.out; obtain ⟨⟨r0, r1, r2⟩, v0, v1, v2⟩ := HR.out; clear hb) | (go_at_call 34; (first | (with_reducible refine (KD _).out.mono ?_)); rintro e w6 ⟨rfl, hb⟩; have HR := Hid.mk' (HR.out.keep hb); have HF := Hid.mk' (HF.out.keep hb); have HB := Hid.mk' (HB.out.trans (hb.mono HB.out.size)); clear q0 q1 q2 q3 r0 r1 r2 v0 v1 v2; obtain ⟨q0, q1, q2, q3⟩ := HF.out; obtain ⟨⟨r0, r1, r2⟩, v0, v1, v2⟩ := HR.out; clear hb))
  exact bodyPost_ret (v := RV true 0 R) (by simp [results, Tryd.results15, go_sem, r0, r1, r2]) rfl ⟨rfl, by repeat (first | exact HB.out | refine Below.setCell ?_ (by first | (simp; done) | (simp; omega) | omega) _ | refine Below.drew ?_)⟩
set_option maxHeartbeats 4000000 in
set_option maxRecDepth 100000 in
theorem if2_96 (h : Bool) (wd fr ls nn : Int) (op a b A B0 R : Int) (w : World) (hT : Tab0 w) (hz : 0 < w.heap.size) (KF : ∀ w, Tab0 w → 0 < w.heap.size → Hid (Calls Tryd.prog 32 #[.int .i64 op] w fun e w' => e = .returned (.tuple #[.int .i64 96, (.agg #[.int .i64 wd, .int .i64 fr, .int .i64 ls, .int .u64 nn])]) ∧ Below w.heap.size w w')) (KLa : ∀ w, Hid (Calls Tryd.prog 35 #[(.agg #[.int .i64 wd, .int .i64 fr, .int .i64 ls, .int .u64 nn]), .int .u64 a] w fun e w' => e = .returned (.int .u64 A) ∧ Below w.heap.size w w')) (KLb : ∀ w, Hid (Calls Tryd.prog 35 #[(.agg #[.int .i64 wd, .int .i64 fr, .int .i64 ls, .int .u64 nn]), .int .u64 b] w fun e w' => e = .returned (.int .u64 B0) ∧ Below w.heap.size w w')) (KH : ∀ w, Hid (Calls Tryd.prog 52 #[(.agg #[.int .i64 wd, .int .i64 fr, .int .i64 ls, .int .u64 nn]), .int .i64 96, .int .u64 A, .int .u64 B0] w fun e w' => e = .returned (.bool h) ∧ Below w.heap.size w w')) (KG : ∀ w, Hid (Calls Tryd.prog 51 #[.bool h] w fun e w' => e = .returned (.int .u64 R) ∧ Below w.heap.size w w')) :
    Calls Tryd.prog 15 #[.int .i64 op, .int .u64 a, .int .u64 b] w fun e w' => e = .returned (RV true 0 R) ∧ Below w.heap.size w w' := by
  go_enter Tryd.func15, Tryd.ntmps15
  go_wp2_with fail
  refine (KF _ (hT.below ((Below.refl _ _).alloc (Nat.le_refl _) _) hz) (by simp)).out.mono ?_
  rintro e w1 ⟨rfl, hb⟩
  have HR1 := Hid.mk' (r3_new.keep hb)
  have HB1 := Hid.mk' (below_box hb)
  have hl1 := HR1.out.1.lt
  clear hb KF hT
  go_upto_region 2 with fail
  refine wp_gen (fun wz => RZ wz w.heap.size ∧ C4 wz w1.heap.size (.int .i64 wd) (.int .i64 fr) (.int .i64 ls) (.int .u64 nn) ∧ Below w.heap.size w wz) ⟨HR1.out.past, c4_new, HB1.out.alloc HB1.out.size _⟩ ?_
  clear HR1 HB1
  generalize w1.heap.size = gf at *
  clear w1
  rintro w4 ⟨hr, hf, hb⟩
  have HR := Hid.mk' hr
  have HF := Hid.mk' hf
  have HW := Hid.mk' hb
  obtain ⟨q0, q1, q2, q3⟩ := id hf
  clear hr hf hb
  have cA : ∀ d os, Calls Tryd.prog 35 #[(.agg #[.int .i64 wd, .int .i64 fr, .int .i64 ls, .int .u64 nn]), .int .u64 a] (grow (redrawn w4 d) os) fun e w'' => e = .returned (.int .u64 A) ∧ ∃ p : Regrown, w'' = grow (redrawn w4 p.d) p.os := fun d os => Calls.regrown_of (KLa _).out
  have cB : ∀ d os, Calls Tryd.prog 35 #[(.agg #[.int .i64 wd, .int .i64 fr, .int .i64 ls, .int .u64 nn]), .int .u64 b] (grow (redrawn w4 d) os) fun e w'' => e = .returned (.int .u64 B0) ∧ ∃ p : Regrown, w'' = grow (redrawn w4 p.d) p.os := fun d os => Calls.regrown_of (KLb _).out
  clear KLa KLb
  have kq0 := cell_regrown q0
  have kq1 := cell_regrown q1
  have kq2 := cell_regrown q2
  have kq3 := cell_regrown q3
  refine wp_region_quiet_below (by kernel_rfl) (by kernel_rfl) ?_
  repeat (quiet_step (first | (with_reducible exact cA _ _) | (with_reducible exact cB _ _)))
  refine wpQuiet_nil ?_
  intro _ hw'
  obtain ⟨⟨dq, osq⟩, hw''⟩ := hw'
  subst hw''
  have hw5 := HW.out.trans ((below_regrown _ dq osq).mono HW.out.size)
  have HW5 := Hid.mk' hw5
  clear hw5
  show Exit.then _ _ Exit.normal _ (grow (redrawn _ dq) osq)
  have HBQ := Hid.mk' (below_regrown w4 dq osq)
  clear kq0 kq1 kq2 kq3 cA cB
  go_upto_region 3 with fail
  refine wp_gen (fun wz => RZ wz w.heap.size ∧ C4 wz gf (.int .i64 wd) (.int .i64 fr) (.int .i64 ls) (.int .u64 nn) ∧ Below w.heap.size w wz) ⟨HR.out.keep HBQ.out, HF.out.keep HBQ.out, HW5.out⟩ ?_
  clear HR HF HW HW5 HBQ q0 q1 q2 q3
  rintro w5 ⟨hr, hf, hb⟩
  have HR := Hid.mk' hr
  have HF := Hid.mk' hf
  have HB := Hid.mk' hb
  obtain ⟨q0, q1, q2, q3⟩ := id hf
  obtain ⟨⟨r0, r1, r2⟩, v0, v1, v2⟩ := id hr
  clear hr hf hb
  have KD := fun (w : World) => Hid.mk' (done_any R w)
  go_wp2_with (first | (go_at_call 52; (first | (with_reducible refine (KH _).out.mono ?_)); rintro e w6 ⟨rfl, hb⟩; have HR := Hid.mk' (HR.out.keep hb); have HF := Hid.mk' (HF.out.keep hb); have HB := Hid.mk' (HB.out.trans (hb.mono HB.out.size)); clear q0 q1 q2 q3 r0 r1 r2 v0 v1 v2; obtain ⟨q0, q1, q2, q3⟩ := HF.out; obtain ⟨⟨r0, r1, r2⟩, v0, v1, v2⟩ := HR.out; clear hb) | (go_at_call 51; (first | (with_reducible refine (KG _).out.mono ?_)); rintro e w6 ⟨rfl, hb⟩; have HR := Hid.mk' (HR.out.keep hb); have HF := Hid.mk' (HF.out.keep hb); have HB := Hid.mk' (HB.out.trans (hb.mono HB.out.size)); clear q0 q1 q2 q3 r0 r1 r2 v0 v1 v2; obtain ⟨q0, q1, q2, q3⟩ := HF.out; obtain ⟨⟨r0, r1, r2⟩, v0, v1, v2⟩ := HR.out; clear hb) | (go_at_call 34; (first | (with_reducible refine (KD _).out.mono ?_)); rintro e w6 ⟨rfl, hb⟩; have HR := Hid.mk' (HR.out.keep hb); have HF := Hid.mk' (HF.out.keep hb); have HB := Hid.mk' (HB.out.trans (hb.mono HB.out.size)); clear q0 q1 q2 q3 r0 r1 r2 v0 v1 v2; obtain ⟨q0, q1, q2, q3⟩ := HF.out; obtain ⟨⟨r0, r1, r2⟩, v0, v1, v2⟩ := HR.out; clear hb))
  exact bodyPost_ret (v := RV true 0 R) (by simp [results, Tryd.results15, go_sem, r0, r1, r2]) rfl ⟨rfl, by repeat (first | exact HB.out | refine Below.setCell ?_ (by first | (simp; done) | (simp; omega) | omega) _ | refine Below.drew ?_)⟩
end Go.Proofs.YthmppcfhbbjhlaaDoor
namespace Go.Proofs.YthmppcfhbbjhlaaDoor
open Go.RowKit Go.Sort

set_option maxHeartbeats 4000000 in
set_option maxRecDepth 100000 in
theorem if2_146 (k1 k2 k3 : Int) (g1 g2 g3 : Bool) (x1 l1 h1 x2 l2 h2 x3 l3 h3 : Int) (wd fr ls nn : Int) (op a b A B0 R : Int) (w : World) (hT : Tab0 w) (hz : 0 < w.heap.size) (KF : ∀ w, Tab0 w → 0 < w.heap.size → Hid (Calls Tryd.prog 32 #[.int .i64 op] w fun e w' => e = .returned (.tuple #[.int .i64 146, (.agg #[.int .i64 wd, .int .i64 fr, .int .i64 ls, .int .u64 nn])]) ∧ Below w.heap.size w w')) (KLa : ∀ w, Hid (Calls Tryd.prog 35 #[(.agg #[.int .i64 wd, .int .i64 fr, .int .i64 ls, .int .u64 nn]), .int .u64 a] w fun e w' => e = .returned (.int .u64 A) ∧ Below w.heap.size w w')) (KLb : ∀ w, Hid (Calls Tryd.prog 35 #[(.agg #[.int .i64 wd, .int .i64 fr, .int .i64 ls, .int .u64 nn]), .int .u64 b] w fun e w' => e = .returned (.int .u64 B0) ∧ Below w.heap.size w w')) (KRa : ∀ w, Hid (Calls Tryd.prog 33 #[(.agg #[.int .i64 wd, .int .i64 fr, .int .i64 ls, .int .u64 nn]), .int .u64 A] w fun e w' => e = .returned (NV k1 g1 x1 l1 h1) ∧ Below w.heap.size w w')) (KRb : ∀ w, Hid (Calls Tryd.prog 33 #[(.agg #[.int .i64 wd, .int .i64 fr, .int .i64 ls, .int .u64 nn]), .int .u64 B0] w fun e w' => e = .returned (NV k2 g2 x2 l2 h2) ∧ Below w.heap.size w w')) (KO : ∀ w, Hid (Calls Tryd.prog 53 #[NV k1 g1 x1 l1 h1, NV k2 g2 x2 l2 h2] w fun e w' => e = .returned (NV k3 g3 x3 l3 h3) ∧ Below w.heap.size w w')) (KW : ∀ w, Hid (Calls Tryd.prog 39 #[(.agg #[.int .i64 wd, .int .i64 fr, .int .i64 ls, .int .u64 nn]), NV k3 g3 x3 l3 h3] w fun e w' => e = .returned (.int .u64 R) ∧ Below w.heap.size w w')) :
    Calls Tryd.prog 15 #[.int .i64 op, .int .u64 a, .int .u64 b] w fun e w' => e = .returned (RV true 0 R) ∧ Below w.heap.size w w' := by
  go_enter Tryd.func15, Tryd.ntmps15
  go_wp2_with fail
  refine (KF _ (hT.below ((Below.refl _ _).alloc (Nat.le_refl _) _) hz) (by simp)).out.mono ?_
  rintro e w1 ⟨rfl, hb⟩
  have HR1 := Hid.mk' (r3_new.keep hb)
  have HB1 := Hid.mk' (below_box hb)
  have hl1 := HR1.out.1.lt
  clear hb KF hT
  go_upto_region 2 with fail
  refine wp_gen (fun wz => RZ wz w.heap.size ∧ C4 wz w1.heap.size (.int .i64 wd) (.int .i64 fr) (.int .i64 ls) (.int .u64 nn) ∧ Below w.heap.size w wz) ⟨HR1.out.past, c4_new, HB1.out.alloc HB1.out.size _⟩ ?_
  clear HR1 HB1
  generalize w1.heap.size = gf at *
  clear w1
  rintro w4 ⟨hr, hf, hb⟩
  have HR := Hid.mk' hr
  have HF := Hid.mk' hf
  have HW := Hid.mk' hb
  obtain ⟨q0, q1, q2, q3⟩ := id hf
  clear hr hf hb
  have cA : ∀ d os, Calls Tryd.prog 35 #[(.agg #[.int .i64 wd, .int .i64 fr, .int .i64 ls, .int .u64 nn]), .int .u64 a] (grow (redrawn w4 d) os) fun e w'' => e = .returned (.int .u64 A) ∧ ∃ p : Regrown, w'' = grow (redrawn w4 p.d) p.os := fun d os => Calls.regrown_of (KLa _).out
  have cB : ∀ d os, Calls Tryd.prog 35 #[(.agg #[.int .i64 wd, .int .i64 fr, .int .i64 ls, .int .u64 nn]), .int .u64 b] (grow (redrawn w4 d) os) fun e w'' => e = .returned (.int .u64 B0) ∧ ∃ p : Regrown, w'' = grow (redrawn w4 p.d) p.os := fun d os => Calls.regrown_of (KLb _).out
  clear KLa KLb
  have kq0 := cell_regrown q0
  have kq1 := cell_regrown q1
  have kq2 := cell_regrown q2
  have kq3 := cell_regrown q3
  refine wp_region_quiet_below (by kernel_rfl) (by kernel_rfl) ?_
  repeat (quiet_step (first | (with_reducible exact cA _ _) | (with_reducible exact cB _ _)))
  refine wpQuiet_nil ?_
  intro _ hw'
  obtain ⟨⟨dq, osq⟩, hw''⟩ := hw'
  subst hw''
  have hw5 := HW.out.trans ((below_regrown _ dq osq).mono HW.out.size)
  have HW5 := Hid.mk' hw5
  clear hw5
  show Exit.then _ _ Exit.normal _ (grow (redrawn _ dq) osq)
  have HBQ := Hid.mk' (below_regrown w4 dq osq)
  clear kq0 kq1 kq2 kq3 cA cB
  go_upto_region 3 with fail
  refine wp_gen (fun wz => RZ wz w.heap.size ∧ C4 wz gf (.int .i64 wd) (.int .i64 fr) (.int .i64 ls) (.int .u64 nn) ∧ Below w.heap.size w wz) ⟨HR.out.keep HBQ.out, HF.out.keep HBQ.out, HW5.out⟩ ?_
  clear HR HF HW HW5 HBQ q0 q1 q2 q3
  rintro w5 ⟨hr, hf, hb⟩
  have HR := Hid.mk' hr
  have HF := Hid.mk' hf
  have HB := Hid.mk' hb
  obtain ⟨q0, q1, q2, q3⟩ := id hf
  obtain ⟨⟨r0, r1, r2⟩, v0, v1, v2⟩ := id hr
  clear hr hf hb
  have KD := fun (w : World) => Hid.mk' (done_any R w)
  go_upto_region 12 with fail
  go_region_held3 (fun w' => w'.cell? ⟨gf, 0, none⟩ = some (.int .i64 wd) ∧ w'.cell? ⟨gf, 1, none⟩ = some (.int .i64 fr) ∧ w'.cell? ⟨gf, 2, none⟩ = some (.int .i64 ls) ∧ w'.cell? ⟨gf, 3, none⟩ = some (.int .u64 nn)) (first | exact ⟨q0, q1, q2, q3⟩ | exact ((HF.out.far (Nat.ne_of_lt hl1)).far (Nat.ne_of_lt hl1)).far (Nat.ne_of_lt hl1)) (first
    | (go_at_call 33; (first | (with_reducible refine (KRa _).out.mono ?_) | (with_reducible refine (KRb _).out.mono ?_)); rintro e w6 ⟨rfl, hb⟩; (first | have hb := undrew hb | skip); have HR := Hid.mk' (HR.out.keep hb); have HF := Hid.mk' (HF.out.keep hb); have HB := Hid.mk' (HB.out.trans (hb.mono HB.out.size)); clear q0 q1 q2 q3 r0 r1 r2 v0 v1 v2; obtain ⟨q0, q1, q2, q3⟩ := HF.out; obtain ⟨⟨r0, r1, r2⟩, v0, v1, v2⟩ := HR.out; clear hb)
    | (go_at_call 53; (first | (with_reducible refine (KO _).out.mono ?_)); rintro e w6 ⟨rfl, hb⟩; (first | have hb := undrew hb | skip); have HR := Hid.mk' (HR.out.keep hb); have HF := Hid.mk' (HF.out.keep hb); have HB := Hid.mk' (HB.out.trans (hb.mono HB.out.size)); clear q0 q1 q2 q3 r0 r1 r2 v0 v1 v2; obtain ⟨q0, q1, q2, q3⟩ := HF.out; obtain ⟨⟨r0, r1, r2⟩, v0, v1, v2⟩ := HR.out; clear hb)
    | (go_at_call 39; (first | (with_reducible refine (KW _).out.mono ?_)); rintro e w6 ⟨rfl, hb⟩; (first | have hb := undrew hb | skip); have HR := Hid.mk' (HR.out.keep hb); have HF := Hid.mk' (HF.out.keep hb); have HB := Hid.mk' (HB.out.trans (hb.mono HB.out.size)); clear q0 q1 q2 q3 r0 r1 r2 v0 v1 v2; obtain ⟨q0, q1, q2, q3⟩ := HF.out; obtain ⟨⟨r0, r1, r2⟩, v0, v1, v2⟩ := HR.out; clear hb)
    | (go_at_call 34; (first | (with_reducible refine (KD _).out.mono ?_)); rintro e w6 ⟨rfl, hb⟩; (first | have hb := undrew hb | skip); have HR := Hid.mk' (HR.out.keep hb); have HF := Hid.mk' (HF.out.keep hb); have HB := Hid.mk' (HB.out.trans (hb.mono HB.out.size)); clear q0 q1 q2 q3 r0 r1 r2 v0 v1 v2; obtain ⟨q0, q1, q2, q3⟩ := HF.out; obtain ⟨⟨r0, r1, r2⟩, v0, v1, v2⟩ := HR.out; clear hb))
  all_goals go_wp2
  all_goals exact bodyPost_ret (v := RV true 0 R) (by simp [results, Tryd.results15, go_sem, r0, r1, r2]) rfl ⟨rfl, by repeat (first | exact HB.out | refine Below.setCell ?_ (by first | (simp; done) | (simp; omega) | omega) _ | refine Below.drew ?_)⟩
set_option maxHeartbeats 4000000 in
set_option maxRecDepth 100000 in
theorem if2_147 (k1 k2 k3 : Int) (g1 g2 g3 : Bool) (x1 l1 h1 x2 l2 h2 x3 l3 h3 : Int) (wd fr ls nn : Int) (op a b A B0 R : Int) (w : World) (hT : Tab0 w) (hz : 0 < w.heap.size) (KF : ∀ w, Tab0 w → 0 < w.heap.size → Hid (Calls Tryd.prog 32 #[.int .i64 op] w fun e w' => e = .returned (.tuple #[.int .i64 147, (.agg #[.int .i64 wd, .int .i64 fr, .int .i64 ls, .int .u64 nn])]) ∧ Below w.heap.size w w')) (KLa : ∀ w, Hid (Calls Tryd.prog 35 #[(.agg #[.int .i64 wd, .int .i64 fr, .int .i64 ls, .int .u64 nn]), .int .u64 a] w fun e w' => e = .returned (.int .u64 A) ∧ Below w.heap.size w w')) (KLb : ∀ w, Hid (Calls Tryd.prog 35 #[(.agg #[.int .i64 wd, .int .i64 fr, .int .i64 ls, .int .u64 nn]), .int .u64 b] w fun e w' => e = .returned (.int .u64 B0) ∧ Below w.heap.size w w')) (KRa : ∀ w, Hid (Calls Tryd.prog 33 #[(.agg #[.int .i64 wd, .int .i64 fr, .int .i64 ls, .int .u64 nn]), .int .u64 A] w fun e w' => e = .returned (NV k1 g1 x1 l1 h1) ∧ Below w.heap.size w w')) (KRb : ∀ w, Hid (Calls Tryd.prog 33 #[(.agg #[.int .i64 wd, .int .i64 fr, .int .i64 ls, .int .u64 nn]), .int .u64 B0] w fun e w' => e = .returned (NV k2 g2 x2 l2 h2) ∧ Below w.heap.size w w')) (KO : ∀ w, Hid (Calls Tryd.prog 53 #[NV k1 g1 x1 l1 h1, NV k2 (!g2) x2 l2 h2] w fun e w' => e = .returned (NV k3 g3 x3 l3 h3) ∧ Below w.heap.size w w')) (KW : ∀ w, Hid (Calls Tryd.prog 39 #[(.agg #[.int .i64 wd, .int .i64 fr, .int .i64 ls, .int .u64 nn]), NV k3 g3 x3 l3 h3] w fun e w' => e = .returned (.int .u64 R) ∧ Below w.heap.size w w')) :
    Calls Tryd.prog 15 #[.int .i64 op, .int .u64 a, .int .u64 b] w fun e w' => e = .returned (RV true 0 R) ∧ Below w.heap.size w w' := by
  go_enter Tryd.func15, Tryd.ntmps15
  go_wp2_with fail
  refine (KF _ (hT.below ((Below.refl _ _).alloc (Nat.le_refl _) _) hz) (by simp)).out.mono ?_
  rintro e w1 ⟨rfl, hb⟩
  have HR1 := Hid.mk' (r3_new.keep hb)
  have HB1 := Hid.mk' (below_box hb)
  have hl1 := HR1.out.1.lt
  clear hb KF hT
  go_upto_region 2 with fail
  refine wp_gen (fun wz => RZ wz w.heap.size ∧ C4 wz w1.heap.size (.int .i64 wd) (.int .i64 fr) (.int .i64 ls) (.int .u64 nn) ∧ Below w.heap.size w wz) ⟨HR1.out.past, c4_new, HB1.out.alloc HB1.out.size _⟩ ?_
  clear HR1 HB1
  generalize w1.heap.size = gf at *
  clear w1
  rintro w4 ⟨hr, hf, hb⟩
  have HR := Hid.mk' hr
  have HF := Hid.mk' hf
  have HW := Hid.mk' hb
  obtain ⟨q0, q1, q2, q3⟩ := id hf
  clear hr hf hb
  have cA : ∀ d os, Calls Tryd.prog 35 #[(.agg #[.int .i64 wd, .int .i64 fr, .int .i64 ls, .int .u64 nn]), .int .u64 a] (grow (redrawn w4 d) os) fun e w'' => e = .returned (.int .u64 A) ∧ ∃ p : Regrown, w'' = grow (redrawn w4 p.d) p.os := fun d os => Calls.regrown_of (KLa _).out
  have cB : ∀ d os, Calls Tryd.prog 35 #[(.agg #[.int .i64 wd, .int .i64 fr, .int .i64 ls, .int .u64 nn]), .int .u64 b] (grow (redrawn w4 d) os) fun e w'' => e = .returned (.int .u64 B0) ∧ ∃ p : Regrown, w'' = grow (redrawn w4 p.d) p.os := fun d os => Calls.regrown_of (KLb _).out
  clear KLa KLb
  have kq0 := cell_regrown q0
  have kq1 := cell_regrown q1
  have kq2 := cell_regrown q2
  have kq3 := cell_regrown q3
  refine wp_region_quiet_below (by kernel_rfl) (by kernel_rfl) ?_
  repeat (quiet_step (first | (with_reducible exact cA _ _) | (with_reducible exact cB _ _)))
  refine wpQuiet_nil ?_
  intro _ hw'
  obtain ⟨⟨dq, osq⟩, hw''⟩ := hw'
  subst hw''
  have hw5 := HW.out.trans ((below_regrown _ dq osq).mono HW.out.size)
  have HW5 := Hid.mk' hw5
  clear hw5
  show Exit.then _ _ Exit.normal _ (grow (redrawn _ dq) osq)
  have HBQ := Hid.mk' (below_regrown w4 dq osq)
  clear kq0 kq1 kq2 kq3 cA cB
  go_upto_region 3 with fail
  refine wp_gen (fun wz => RZ wz w.heap.size ∧ C4 wz gf (.int .i64 wd) (.int .i64 fr) (.int .i64 ls) (.int .u64 nn) ∧ Below w.heap.size w wz) ⟨HR.out.keep HBQ.out, HF.out.keep HBQ.out, HW5.out⟩ ?_
  clear HR HF HW HW5 HBQ q0 q1 q2 q3
  rintro w5 ⟨hr, hf, hb⟩
  have HR := Hid.mk' hr
  have HF := Hid.mk' hf
  have HB := Hid.mk' hb
  obtain ⟨q0, q1, q2, q3⟩ := id hf
  obtain ⟨⟨r0, r1, r2⟩, v0, v1, v2⟩ := id hr
  clear hr hf hb
  have KN := fun (w : World) => Hid.mk' (neg_key k2 g2 x2 l2 h2 w)
  have KD := fun (w : World) => Hid.mk' (done_any R w)
  go_upto_region 14 with fail
  go_region_held3 (fun w' => w'.cell? ⟨gf, 0, none⟩ = some (.int .i64 wd) ∧ w'.cell? ⟨gf, 1, none⟩ = some (.int .i64 fr) ∧ w'.cell? ⟨gf, 2, none⟩ = some (.int .i64 ls) ∧ w'.cell? ⟨gf, 3, none⟩ = some (.int .u64 nn)) (first | exact ⟨q0, q1, q2, q3⟩ | exact ((HF.out.far (Nat.ne_of_lt hl1)).far (Nat.ne_of_lt hl1)).far (Nat.ne_of_lt hl1)) (first
    | (go_at_call 33; (first | (with_reducible refine (KRa _).out.mono ?_) | (with_reducible refine (KRb _).out.mono ?_)); rintro e w6 ⟨rfl, hb⟩; (first | have hb := undrew hb | skip); have HR := Hid.mk' (HR.out.keep hb); have HF := Hid.mk' (HF.out.keep hb); have HB := Hid.mk' (HB.out.trans (hb.mono HB.out.size)); clear q0 q1 q2 q3 r0 r1 r2 v0 v1 v2; obtain ⟨q0, q1, q2, q3⟩ := HF.out; obtain ⟨⟨r0, r1, r2⟩, v0, v1, v2⟩ := HR.out; clear hb)
    | (go_at_call 54; (first | (with_reducible refine (KN _).out.mono ?_)); rintro e w6 ⟨rfl, hb⟩; (first | have hb := undrew hb | skip); have HR := Hid.mk' (HR.out.keep hb); have HF := Hid.mk' (HF.out.keep hb); have HB := Hid.mk' (HB.out.trans (hb.mono HB.out.size)); clear q0 q1 q2 q3 r0 r1 r2 v0 v1 v2; obtain ⟨q0, q1, q2, q3⟩ := HF.out; obtain ⟨⟨r0, r1, r2⟩, v0, v1, v2⟩ := HR.out; clear hb)
    | (go_at_call 53; (first | (with_reducible refine (KO _).out.mono ?_)); rintro e w6 ⟨rfl, hb⟩; (first | have hb := undrew hb | skip); have HR := Hid.mk' (HR.out.keep hb); have HF := Hid.mk' (HF.out.keep hb); have HB := Hid.mk' (HB.out.trans (hb.mono HB.out.size)); clear q0 q1 q2 q3 r0 r1 r2 v0 v1 v2; obtain ⟨q0, q1, q2, q3⟩ := HF.out; obtain ⟨⟨r0, r1, r2⟩, v0, v1, v2⟩ := HR.out; clear hb)
    | (go_at_call 39; (first | (with_reducible refine (KW _).out.mono ?_)); rintro e w6 ⟨rfl, hb⟩; (first | have hb := undrew hb | skip); have HR := Hid.mk' (HR.out.keep hb); have HF := Hid.mk' (HF.out.keep hb); have HB := Hid.mk' (HB.out.trans (hb.mono HB.out.size)); clear q0 q1 q2 q3 r0 r1 r2 v0 v1 v2; obtain ⟨q0, q1, q2, q3⟩ := HF.out; obtain ⟨⟨r0, r1, r2⟩, v0, v1, v2⟩ := HR.out; clear hb)
    | (go_at_call 34; (first | (with_reducible refine (KD _).out.mono ?_)); rintro e w6 ⟨rfl, hb⟩; (first | have hb := undrew hb | skip); have HR := Hid.mk' (HR.out.keep hb); have HF := Hid.mk' (HF.out.keep hb); have HB := Hid.mk' (HB.out.trans (hb.mono HB.out.size)); clear q0 q1 q2 q3 r0 r1 r2 v0 v1 v2; obtain ⟨q0, q1, q2, q3⟩ := HF.out; obtain ⟨⟨r0, r1, r2⟩, v0, v1, v2⟩ := HR.out; clear hb))
  all_goals go_wp2
  all_goals exact bodyPost_ret (v := RV true 0 R) (by simp [results, Tryd.results15, go_sem, r0, r1, r2]) rfl ⟨rfl, by repeat (first | exact HB.out | refine Below.setCell ?_ (by first | (simp; done) | (simp; omega) | omega) _ | refine Below.drew ?_)⟩
set_option maxHeartbeats 4000000 in
set_option maxRecDepth 100000 in
theorem if2_148 (k1 k2 k3 : Int) (g1 g2 g3 : Bool) (x1 l1 h1 x2 l2 h2 x3 l3 h3 : Int) (wd fr ls nn : Int) (op a b A B0 R : Int) (w : World) (hT : Tab0 w) (hz : 0 < w.heap.size) (KF : ∀ w, Tab0 w → 0 < w.heap.size → Hid (Calls Tryd.prog 32 #[.int .i64 op] w fun e w' => e = .returned (.tuple #[.int .i64 148, (.agg #[.int .i64 wd, .int .i64 fr, .int .i64 ls, .int .u64 nn])]) ∧ Below w.heap.size w w')) (KLa : ∀ w, Hid (Calls Tryd.prog 35 #[(.agg #[.int .i64 wd, .int .i64 fr, .int .i64 ls, .int .u64 nn]), .int .u64 a] w fun e w' => e = .returned (.int .u64 A) ∧ Below w.heap.size w w')) (KLb : ∀ w, Hid (Calls Tryd.prog 35 #[(.agg #[.int .i64 wd, .int .i64 fr, .int .i64 ls, .int .u64 nn]), .int .u64 b] w fun e w' => e = .returned (.int .u64 B0) ∧ Below w.heap.size w w')) (KRa : ∀ w, Hid (Calls Tryd.prog 33 #[(.agg #[.int .i64 wd, .int .i64 fr, .int .i64 ls, .int .u64 nn]), .int .u64 A] w fun e w' => e = .returned (NV k1 g1 x1 l1 h1) ∧ Below w.heap.size w w')) (KRb : ∀ w, Hid (Calls Tryd.prog 33 #[(.agg #[.int .i64 wd, .int .i64 fr, .int .i64 ls, .int .u64 nn]), .int .u64 B0] w fun e w' => e = .returned (NV k2 g2 x2 l2 h2) ∧ Below w.heap.size w w')) (KO : ∀ w, Hid (Calls Tryd.prog 55 #[NV k1 g1 x1 l1 h1, NV k2 g2 x2 l2 h2] w fun e w' => e = .returned (NV k3 g3 x3 l3 h3) ∧ Below w.heap.size w w')) (KW : ∀ w, Hid (Calls Tryd.prog 39 #[(.agg #[.int .i64 wd, .int .i64 fr, .int .i64 ls, .int .u64 nn]), NV k3 g3 x3 l3 h3] w fun e w' => e = .returned (.int .u64 R) ∧ Below w.heap.size w w')) :
    Calls Tryd.prog 15 #[.int .i64 op, .int .u64 a, .int .u64 b] w fun e w' => e = .returned (RV true 0 R) ∧ Below w.heap.size w w' := by
  go_enter Tryd.func15, Tryd.ntmps15
  go_wp2_with fail
  refine (KF _ (hT.below ((Below.refl _ _).alloc (Nat.le_refl _) _) hz) (by simp)).out.mono ?_
  rintro e w1 ⟨rfl, hb⟩
  have HR1 := Hid.mk' (r3_new.keep hb)
  have HB1 := Hid.mk' (below_box hb)
  have hl1 := HR1.out.1.lt
  clear hb KF hT
  go_upto_region 2 with fail
  refine wp_gen (fun wz => RZ wz w.heap.size ∧ C4 wz w1.heap.size (.int .i64 wd) (.int .i64 fr) (.int .i64 ls) (.int .u64 nn) ∧ Below w.heap.size w wz) ⟨HR1.out.past, c4_new, HB1.out.alloc HB1.out.size _⟩ ?_
  clear HR1 HB1
  generalize w1.heap.size = gf at *
  clear w1
  rintro w4 ⟨hr, hf, hb⟩
  have HR := Hid.mk' hr
  have HF := Hid.mk' hf
  have HW := Hid.mk' hb
  obtain ⟨q0, q1, q2, q3⟩ := id hf
  clear hr hf hb
  have cA : ∀ d os, Calls Tryd.prog 35 #[(.agg #[.int .i64 wd, .int .i64 fr, .int .i64 ls, .int .u64 nn]), .int .u64 a] (grow (redrawn w4 d) os) fun e w'' => e = .returned (.int .u64 A) ∧ ∃ p : Regrown, w'' = grow (redrawn w4 p.d) p.os := fun d os => Calls.regrown_of (KLa _).out
  have cB : ∀ d os, Calls Tryd.prog 35 #[(.agg #[.int .i64 wd, .int .i64 fr, .int .i64 ls, .int .u64 nn]), .int .u64 b] (grow (redrawn w4 d) os) fun e w'' => e = .returned (.int .u64 B0) ∧ ∃ p : Regrown, w'' = grow (redrawn w4 p.d) p.os := fun d os => Calls.regrown_of (KLb _).out
  clear KLa KLb
  have kq0 := cell_regrown q0
  have kq1 := cell_regrown q1
  have kq2 := cell_regrown q2
  have kq3 := cell_regrown q3
  refine wp_region_quiet_below (by kernel_rfl) (by kernel_rfl) ?_
  repeat (quiet_step (first | (with_reducible exact cA _ _) | (with_reducible exact cB _ _)))
  refine wpQuiet_nil ?_
  intro _ hw'
  obtain ⟨⟨dq, osq⟩, hw''⟩ := hw'
  subst hw''
  have hw5 := HW.out.trans ((below_regrown _ dq osq).mono HW.out.size)
  have HW5 := Hid.mk' hw5
  clear hw5
  show Exit.then _ _ Exit.normal _ (grow (redrawn _ dq) osq)
  have HBQ := Hid.mk' (below_regrown w4 dq osq)
  clear kq0 kq1 kq2 kq3 cA cB
  go_upto_region 3 with fail
  refine wp_gen (fun wz => RZ wz w.heap.size ∧ C4 wz gf (.int .i64 wd) (.int .i64 fr) (.int .i64 ls) (.int .u64 nn) ∧ Below w.heap.size w wz) ⟨HR.out.keep HBQ.out, HF.out.keep HBQ.out, HW5.out⟩ ?_
  clear HR HF HW HW5 HBQ q0 q1 q2 q3
  rintro w5 ⟨hr, hf, hb⟩
  have HR := Hid.mk' hr
  have HF := Hid.mk' hf
  have HB := Hid.mk' hb
  obtain ⟨q0, q1, q2, q3⟩ := id hf
  obtain ⟨⟨r0, r1, r2⟩, v0, v1, v2⟩ := id hr
  clear hr hf hb
  have KD := fun (w : World) => Hid.mk' (done_any R w)
  go_upto_region 16 with fail
  go_region_held3 (fun w' => w'.cell? ⟨gf, 0, none⟩ = some (.int .i64 wd) ∧ w'.cell? ⟨gf, 1, none⟩ = some (.int .i64 fr) ∧ w'.cell? ⟨gf, 2, none⟩ = some (.int .i64 ls) ∧ w'.cell? ⟨gf, 3, none⟩ = some (.int .u64 nn)) (first | exact ⟨q0, q1, q2, q3⟩ | exact ((HF.out.far (Nat.ne_of_lt hl1)).far (Nat.ne_of_lt hl1)).far (Nat.ne_of_lt hl1)) (first
    | (go_at_call 33; (first | (with_reducible refine (KRa _).out.mono ?_) | (with_reducible refine (KRb _).out.mono ?_)); rintro e w6 ⟨rfl, hb⟩; (first | have hb := undrew hb | skip); have HR := Hid.mk' (HR.out.keep hb); have HF := Hid.mk' (HF.out.keep hb); have HB := Hid.mk' (HB.out.trans (hb.mono HB.out.size)); clear q0 q1 q2 q3 r0 r1 r2 v0 v1 v2; obtain ⟨q0, q1, q2, q3⟩ := HF.out; obtain ⟨⟨r0, r1, r2⟩, v0, v1, v2⟩ := HR.out; clear hb)
    | (go_at_call 55; (first | (with_reducible refine (KO _).out.mono ?_)); rintro e w6 ⟨rfl, hb⟩; (first | have hb := undrew hb | skip); have HR := Hid.mk' (HR.out.keep hb); have HF := Hid.mk' (HF.out.keep hb); have HB := Hid.mk' (HB.out.trans (hb.mono HB.out.size)); clear q0 q1 q2 q3 r0 r1 r2 v0 v1 v2; obtain ⟨q0, q1, q2, q3⟩ := HF.out; obtain ⟨⟨r0, r1, r2⟩, v0, v1, v2⟩ := HR.out; clear hb)
    | (go_at_call 39; (first | (with_reducible refine (KW _).out.mono ?_)); rintro e w6 ⟨rfl, hb⟩; (first | have hb := undrew hb | skip); have HR := Hid.mk' (HR.out.keep hb); have HF := Hid.mk' (HF.out.keep hb); have HB := Hid.mk' (HB.out.trans (hb.mono HB.out.size)); clear q0 q1 q2 q3 r0 r1 r2 v0 v1 v2; obtain ⟨q0, q1, q2, q3⟩ := HF.out; obtain ⟨⟨r0, r1, r2⟩, v0, v1, v2⟩ := HR.out; clear hb)
    | (go_at_call 34; (first | (with_reducible refine (KD _).out.mono ?_)); rintro e w6 ⟨rfl, hb⟩; (first | have hb := undrew hb | skip); have HR := Hid.mk' (HR.out.keep hb); have HF := Hid.mk' (HF.out.keep hb); have HB := Hid.mk' (HB.out.trans (hb.mono HB.out.size)); clear q0 q1 q2 q3 r0 r1 r2 v0 v1 v2; obtain ⟨q0, q1, q2, q3⟩ := HF.out; obtain ⟨⟨r0, r1, r2⟩, v0, v1, v2⟩ := HR.out; clear hb))
  all_goals go_wp2
  all_goals exact bodyPost_ret (v := RV true 0 R) (by simp [results, Tryd.results15, go_sem, r0, r1, r2]) rfl ⟨rfl, by repeat (first | exact HB.out | refine Below.setCell ?_ (by first | (simp; done) | (simp; omega) | omega) _ | refine Below.drew ?_)⟩
set_option maxHeartbeats 4000000 in
set_option maxRecDepth 100000 in
theorem if2_149 (k1 k2 k3 : Int) (g1 g2 g3 : Bool) (x1 l1 h1 x2 l2 h2 x3 l3 h3 : Int) (wd fr ls nn : Int) (op a b A B0 R : Int) (w : World) (hT : Tab0 w) (hz : 0 < w.heap.size) (KF : ∀ w, Tab0 w → 0 < w.heap.size → Hid (Calls Tryd.prog 32 #[.int .i64 op] w fun e w' => e = .returned (.tuple #[.int .i64 149, (.agg #[.int .i64 wd, .int .i64 fr, .int .i64 ls, .int .u64 nn])]) ∧ Below w.heap.size w w')) (KLa : ∀ w, Hid (Calls Tryd.prog 35 #[(.agg #[.int .i64 wd, .int .i64 fr, .int .i64 ls, .int .u64 nn]), .int .u64 a] w fun e w' => e = .returned (.int .u64 A) ∧ Below w.heap.size w w')) (KLb : ∀ w, Hid (Calls Tryd.prog 35 #[(.agg #[.int .i64 wd, .int .i64 fr, .int .i64 ls, .int .u64 nn]), .int .u64 b] w fun e w' => e = .returned (.int .u64 B0) ∧ Below w.heap.size w w')) (KRa : ∀ w, Hid (Calls Tryd.prog 33 #[(.agg #[.int .i64 wd, .int .i64 fr, .int .i64 ls, .int .u64 nn]), .int .u64 A] w fun e w' => e = .returned (NV k1 g1 x1 l1 h1) ∧ Below w.heap.size w w')) (KRb : ∀ w, Hid (Calls Tryd.prog 33 #[(.agg #[.int .i64 wd, .int .i64 fr, .int .i64 ls, .int .u64 nn]), .int .u64 B0] w fun e w' => e = .returned (NV k2 g2 x2 l2 h2) ∧ Below w.heap.size w w')) (KO : ∀ w, Hid (Calls Tryd.prog 56 #[NV k1 g1 x1 l1 h1, NV k2 g2 x2 l2 h2] w fun e w' => e = .returned (NV k3 g3 x3 l3 h3) ∧ Below w.heap.size w w')) (KW : ∀ w, Hid (Calls Tryd.prog 39 #[(.agg #[.int .i64 wd, .int .i64 fr, .int .i64 ls, .int .u64 nn]), NV k3 g3 x3 l3 h3] w fun e w' => e = .returned (.int .u64 R) ∧ Below w.heap.size w w')) :
    Calls Tryd.prog 15 #[.int .i64 op, .int .u64 a, .int .u64 b] w fun e w' => e = .returned (RV true 0 R) ∧ Below w.heap.size w w' := by
  go_enter Tryd.func15, Tryd.ntmps15
  go_wp2_with fail
  refine (KF _ (hT.below ((Below.refl _ _).alloc (Nat.le_refl _) _) hz) (by simp)).out.mono ?_
  rintro e w1 ⟨rfl, hb⟩
  have HR1 := Hid.mk' (r3_new.keep hb)
  have HB1 := Hid.mk' (below_box hb)
  have hl1 := HR1.out.1.lt
  clear hb KF hT
  go_upto_region 2 with fail
  refine wp_gen (fun wz => RZ wz w.heap.size ∧ C4 wz w1.heap.size (.int .i64 wd) (.int .i64 fr) (.int .i64 ls) (.int .u64 nn) ∧ Below w.heap.size w wz) ⟨HR1.out.past, c4_new, HB1.out.alloc HB1.out.size _⟩ ?_
  clear HR1 HB1
  generalize w1.heap.size = gf at *
  clear w1
  rintro w4 ⟨hr, hf, hb⟩
  have HR := Hid.mk' hr
  have HF := Hid.mk' hf
  have HW := Hid.mk' hb
  obtain ⟨q0, q1, q2, q3⟩ := id hf
  clear hr hf hb
  have cA : ∀ d os, Calls Tryd.prog 35 #[(.agg #[.int .i64 wd, .int .i64 fr, .int .i64 ls, .int .u64 nn]), .int .u64 a] (grow (redrawn w4 d) os) fun e w'' => e = .returned (.int .u64 A) ∧ ∃ p : Regrown, w'' = grow (redrawn w4 p.d) p.os := fun d os => Calls.regrown_of (KLa _).out
  have cB : ∀ d os, Calls Tryd.prog 35 #[(.agg #[.int .i64 wd, .int .i64 fr, .int .i64 ls, .int .u64 nn]), .int .u64 b] (grow (redrawn w4 d) os) fun e w'' => e = .returned (.int .u64 B0) ∧ ∃ p : Regrown, w'' = grow (redrawn w4 p.d) p.os := fun d os => Calls.regrown_of (KLb _).out
  clear KLa KLb
  have kq0 := cell_regrown q0
  have kq1 := cell_regrown q1
  have kq2 := cell_regrown q2
  have kq3 := cell_regrown q3
  refine wp_region_quiet_below (by kernel_rfl) (by kernel_rfl) ?_
  repeat (quiet_step (first | (with_reducible exact cA _ _) | (with_reducible exact cB _ _)))
  refine wpQuiet_nil ?_
  intro _ hw'
  obtain ⟨⟨dq, osq⟩, hw''⟩ := hw'
  subst hw''
  have hw5 := HW.out.trans ((below_regrown _ dq osq).mono HW.out.size)
  have HW5 := Hid.mk' hw5
  clear hw5
  show Exit.then _ _ Exit.normal _ (grow (redrawn _ dq) osq)
  have HBQ := Hid.mk' (below_regrown w4 dq osq)
  clear kq0 kq1 kq2 kq3 cA cB
  go_upto_region 3 with fail
  refine wp_gen (fun wz => RZ wz w.heap.size ∧ C4 wz gf (.int .i64 wd) (.int .i64 fr) (.int .i64 ls) (.int .u64 nn) ∧ Below w.heap.size w wz) ⟨HR.out.keep HBQ.out, HF.out.keep HBQ.out, HW5.out⟩ ?_
  clear HR HF HW HW5 HBQ q0 q1 q2 q3
  rintro w5 ⟨hr, hf, hb⟩
  have HR := Hid.mk' hr
  have HF := Hid.mk' hf
  have HB := Hid.mk' hb
  obtain ⟨q0, q1, q2, q3⟩ := id hf
  obtain ⟨⟨r0, r1, r2⟩, v0, v1, v2⟩ := id hr
  clear hr hf hb
  have KD := fun (w : World) => Hid.mk' (done_any R w)
  go_upto_region 18 with fail
  go_region_held3 (fun w' => w'.cell? ⟨gf, 0, none⟩ = some (.int .i64 wd) ∧ w'.cell? ⟨gf, 1, none⟩ = some (.int .i64 fr) ∧ w'.cell? ⟨gf, 2, none⟩ = some (.int .i64 ls) ∧ w'.cell? ⟨gf, 3, none⟩ = some (.int .u64 nn)) (first | exact ⟨q0, q1, q2, q3⟩ | exact ((HF.out.far (Nat.ne_of_lt hl1)).far (Nat.ne_of_lt hl1)).far (Nat.ne_of_lt hl1)) (first
    | (go_at_call 33; (first | (with_reducible refine (KRa _).out.mono ?_) | (with_reducible refine (KRb _).out.mono ?_)); rintro e w6 ⟨rfl, hb⟩; (first | have hb := undrew hb | skip); have HR := Hid.mk' (HR.out.keep hb); have HF := Hid.mk' (HF.out.keep hb); have HB := Hid.mk' (HB.out.trans (hb.mono HB.out.size)); clear q0 q1 q2 q3 r0 r1 r2 v0 v1 v2; obtain ⟨q0, q1, q2, q3⟩ := HF.out; obtain ⟨⟨r0, r1, r2⟩, v0, v1, v2⟩ := HR.out; clear hb)
    | (go_at_call 56; (first | (with_reducible refine (KO _).out.mono ?_)); rintro e w6 ⟨rfl, hb⟩; (first | have hb := undrew hb | skip); have HR := Hid.mk' (HR.out.keep hb); have HF := Hid.mk' (HF.out.keep hb); have HB := Hid.mk' (HB.out.trans (hb.mono HB.out.size)); clear q0 q1 q2 q3 r0 r1 r2 v0 v1 v2; obtain ⟨q0, q1, q2, q3⟩ := HF.out; obtain ⟨⟨r0, r1, r2⟩, v0, v1, v2⟩ := HR.out; clear hb)
    | (go_at_call 39; (first | (with_reducible refine (KW _).out.mono ?_)); rintro e w6 ⟨rfl, hb⟩; (first | have hb := undrew hb | skip); have HR := Hid.mk' (HR.out.keep hb); have HF := Hid.mk' (HF.out.keep hb); have HB := Hid.mk' (HB.out.trans (hb.mono HB.out.size)); clear q0 q1 q2 q3 r0 r1 r2 v0 v1 v2; obtain ⟨q0, q1, q2, q3⟩ := HF.out; obtain ⟨⟨r0, r1, r2⟩, v0, v1, v2⟩ := HR.out; clear hb)
    | (go_at_call 34; (first | (with_reducible refine (KD _).out.mono ?_)); rintro e w6 ⟨rfl, hb⟩; (first | have hb := undrew hb | skip); have HR := Hid.mk' (HR.out.keep hb); have HF := Hid.mk' (HF.out.keep hb); have HB := Hid.mk' (HB.out.trans (hb.mono HB.out.size)); clear q0 q1 q2 q3 r0 r1 r2 v0 v1 v2; obtain ⟨q0, q1, q2, q3⟩ := HF.out; obtain ⟨⟨r0, r1, r2⟩, v0, v1, v2⟩ := HR.out; clear hb))
  all_goals go_wp2
  all_goals exact bodyPost_ret (v := RV true 0 R) (by simp [results, Tryd.results15, go_sem, r0, r1, r2]) rfl ⟨rfl, by repeat (first | exact HB.out | refine Below.setCell ?_ (by first | (simp; done) | (simp; omega) | omega) _ | refine Below.drew ?_)⟩
end Go.Proofs.YthmppcfhbbjhlaaDoor
namespace Go.Proofs.YthmppcfhbbjhlaaDoor
open Go.RowKit Go.Sort

set_option maxHeartbeats 4000000 in
set_option maxRecDepth 100000 in
theorem if2_150  (wd fr ls nn : Int) (op a b A B0 R : Int) (w : World) (hT : Tab0 w) (hz : 0 < w.heap.size) (KF : ∀ w, Tab0 w → 0 < w.heap.size → Hid (Calls Tryd.prog 32 #[.int .i64 op] w fun e w' => e = .returned (.tuple #[.int .i64 150, (.agg #[.int .i64 wd, .int .i64 fr, .int .i64 ls, .int .u64 nn])]) ∧ Below w.heap.size w w')) (KLa : ∀ w, Hid (Calls Tryd.prog 35 #[(.agg #[.int .i64 wd, .int .i64 fr, .int .i64 ls, .int .u64 nn]), .int .u64 a] w fun e w' => e = .returned (.int .u64 A) ∧ Below w.heap.size w w')) (KLb : ∀ w, Hid (Calls Tryd.prog 35 #[(.agg #[.int .i64 wd, .int .i64 fr, .int .i64 ls, .int .u64 nn]), .int .u64 b] w fun e w' => e = .returned (.int .u64 B0) ∧ Below w.heap.size w w')) (KP : ∀ w, Hid (Calls Tryd.prog 57 #[(.agg #[.int .i64 wd, .int .i64 fr, .int .i64 ls, .int .u64 nn]), .bool true, .int .u64 A, .int .u64 B0] w fun e w' => e = .returned (.int .u64 R) ∧ Below w.heap.size w w')) :
    Calls Tryd.prog 15 #[.int .i64 op, .int .u64 a, .int .u64 b] w fun e w' => e = .returned (RV true 0 R) ∧ Below w.heap.size w w' := by
  go_enter Tryd.func15, Tryd.ntmps15
  go_wp2_with fail
  refine (KF _ (hT.below ((Below.refl _ _).alloc (Nat.le_refl _) _) hz) (by simp)).out.mono ?_
  rintro e w1 ⟨rfl, hb⟩
  have HR1 := Hid.mk' (r3_new.keep hb)
  have HB1 := Hid.mk' (below_box hb)
  have hl1 := HR1.out.1.lt
  clear hb KF hT
  go_upto_region 2 with fail
  refine wp_gen (fun wz => RZ wz w.heap.size ∧ C4 wz w1.heap.size (.int .i64 wd) (.int .i64 fr) (.int .i64 ls) (.int .u64 nn) ∧ Below w.heap.size w wz) ⟨HR1.out.past, c4_new, HB1.out.alloc HB1.out.size _⟩ ?_
  clear HR1 HB1
  generalize w1.heap.size = gf at *
  clear w1
  rintro w4 ⟨hr, hf, hb⟩
  have HR := Hid.mk' hr
  have HF := Hid.mk' hf
  have HW := Hid.mk' hb
  obtain ⟨q0, q1, q2, q3⟩ := id hf
  clear hr hf hb
  have cA : ∀ d os, Calls Tryd.prog 35 #[(.agg #[.int .i64 wd, .int .i64 fr, .int .i64 ls, .int .u64 nn]), .int .u64 a] (grow (redrawn w4 d) os) fun e w'' => e = .returned (.int .u64 A) ∧ ∃ p : Regrown, w'' = grow (redrawn w4 p.d) p.os := fun d os => Calls.regrown_of (KLa _).out
  have cB : ∀ d os, Calls Tryd.prog 35 #[(.agg #[.int .i64 wd, .int .i64 fr, .int .i64 ls, .int .u64 nn]), .int .u64 b] (grow (redrawn w4 d) os) fun e w'' => e = .returned (.int .u64 B0) ∧ ∃ p : Regrown, w'' = grow (redrawn w4 p.d) p.os := fun d os => Calls.regrown_of (KLb _).out
  clear KLa KLb
  have kq0 := cell_regrown q0
  have kq1 := cell_regrown q1
  have kq2 := cell_regrown q2
  have kq3 := cell_regrown q3
  refine wp_region_quiet_below (by kernel_rfl) (by kernel_rfl) ?_
  repeat (quiet_step (first | (with_reducible exact cA _ _) | (with_reducible exact cB _ _)))
  refine wpQuiet_nil ?_
  intro _ hw'
  obtain ⟨⟨dq, osq⟩, hw''⟩ := hw'
  subst hw''
  have hw5 := HW.out.trans ((below_regrown _ dq osq).mono HW.out.size)
  have HW5 := Hid.mk' hw5
  clear hw5
  show Exit.then _ _ Exit.normal _ (grow (redrawn _ dq) osq)
  have HBQ := Hid.mk' (below_regrown w4 dq osq)
  clear kq0 kq1 kq2 kq3 cA cB
  go_upto_region 3 with fail
  refine wp_gen (fun wz => RZ wz w.heap.size ∧ C4 wz gf (.int .i64 wd) (.int .i64 fr) (.int .i64 ls) (.int .u64 nn) ∧ Below w.heap.size w wz) ⟨HR.out.keep HBQ.out, HF.out.keep HBQ.out, HW5.out⟩ ?_
  clear HR HF HW HW5 HBQ q0 q1 q2 q3
  rintro w5 ⟨hr, hf, hb⟩
  have HR := Hid.mk' hr
  have HF := Hid.mk' hf
  have HB := Hid.mk' hb
  obtain ⟨q0, q1, q2, q3⟩ := id hf
  obtain ⟨⟨r0, r1, r2⟩, v0, v1, v2⟩ := id hr
  clear hr hf hb
  have KD := fun (w : World) => Hid.mk' (done_any R w)
  go_wp2_with (first | (go_at_call 57; (first | (with_reducible refine (KP _).out.mono ?_)); rintro e w6 ⟨rfl, hb⟩; have HR := Hid.mk' (HR.out.keep hb); have HF := Hid.mk' (HF.out.keep hb); have HB := Hid.mk' (HB.out.trans (hb.mono HB.out.size)); clear q0 q1 q2 q3 r0 r1 r2 v0 v1 v2; obtain ⟨q0, q1, q2, q3⟩ := HF.out; obtain ⟨⟨r0, r1, r2⟩, v0, v1, v2⟩ := HR.out; clear hb) | (go_at_call 34; (first | (with_reducible refine (KD _).out.mono ?_)); rintro e w6 ⟨rfl, hb⟩; have HR := Hid.mk' (HR.out.keep hb); have HF := Hid.mk' (HF.out.keep hb); have HB := Hid.mk' (HB.out.trans (hb.mono HB.out.size)); clear q0 q1 q2 q3 r0 r1 r2 v0 v1 v2; obtain ⟨q0, q1, q2, q3⟩ := HF.out; obtain ⟨⟨r0, r1, r2⟩, v0, v1, v2⟩ := HR.out; clear hb))
  exact bodyPost_ret (v := RV true 0 R) (by simp [results, Tryd.results15, go_sem, r0, r1, r2]) rfl ⟨rfl, by repeat (first | exact HB.out | refine Below.setCell ?_ (by first | (simp; done) | (simp; omega) | omega) _ | refine Below.drew ?_)⟩
set_option maxHeartbeats 4000000 in
set_option maxRecDepth 100000 in
theorem if2_151  (wd fr ls nn : Int) (op a b A B0 R : Int) (w : World) (hT : Tab0 w) (hz : 0 < w.heap.size) (KF : ∀ w, Tab0 w → 0 < w.heap.size → Hid (Calls Tryd.prog 32 #[.int .i64 op] w fun e w' => e = .returned (.tuple #[.int .i64 151, (.agg #[.int .i64 wd, .int .i64 fr, .int .i64 ls, .int .u64 nn])]) ∧ Below w.heap.size w w')) (KLa : ∀ w, Hid (Calls Tryd.prog 35 #[(.agg #[.int .i64 wd, .int .i64 fr, .int .i64 ls, .int .u64 nn]), .int .u64 a] w fun e w' => e = .returned (.int .u64 A) ∧ Below w.heap.size w w')) (KLb : ∀ w, Hid (Calls Tryd.prog 35 #[(.agg #[.int .i64 wd, .int .i64 fr, .int .i64 ls, .int .u64 nn]), .int .u64 b] w fun e w' => e = .returned (.int .u64 B0) ∧ Below w.heap.size w w')) (KP : ∀ w, Hid (Calls Tryd.prog 57 #[(.agg #[.int .i64 wd, .int .i64 fr, .int .i64 ls, .int .u64 nn]), .bool false, .int .u64 A, .int .u64 B0] w fun e w' => e = .returned (.int .u64 R) ∧ Below w.heap.size w w')) :
    Calls Tryd.prog 15 #[.int .i64 op, .int .u64 a, .int .u64 b] w fun e w' => e = .returned (RV true 0 R) ∧ Below w.heap.size w w' := by
  go_enter Tryd.func15, Tryd.ntmps15
  go_wp2_with fail
  refine (KF _ (hT.below ((Below.refl _ _).alloc (Nat.le_refl _) _) hz) (by simp)).out.mono ?_
  rintro e w1 ⟨rfl, hb⟩
  have HR1 := Hid.mk' (r3_new.keep hb)
  have HB1 := Hid.mk' (below_box hb)
  have hl1 := HR1.out.1.lt
  clear hb KF hT
  go_upto_region 2 with fail
  refine wp_gen (fun wz => RZ wz w.heap.size ∧ C4 wz w1.heap.size (.int .i64 wd) (.int .i64 fr) (.int .i64 ls) (.int .u64 nn) ∧ Below w.heap.size w wz) ⟨HR1.out.past, c4_new, HB1.out.alloc HB1.out.size _⟩ ?_
  clear HR1 HB1
  generalize w1.heap.size = gf at *
  clear w1
  rintro w4 ⟨hr, hf, hb⟩
  have HR := Hid.mk' hr
  have HF := Hid.mk' hf
  have HW := Hid.mk' hb
  obtain ⟨q0, q1, q2, q3⟩ := id hf
  clear hr hf hb
  have cA : ∀ d os, Calls Tryd.prog 35 #[(.agg #[.int .i64 wd, .int .i64 fr, .int .i64 ls, .int .u64 nn]), .int .u64 a] (grow (redrawn w4 d) os) fun e w'' => e = .returned (.int .u64 A) ∧ ∃ p : Regrown, w'' = grow (redrawn w4 p.d) p.os := fun d os => Calls.regrown_of (KLa _).out
  have cB : ∀ d os, Calls Tryd.prog 35 #[(.agg #[.int .i64 wd, .int .i64 fr, .int .i64 ls, .int .u64 nn]), .int .u64 b] (grow (redrawn w4 d) os) fun e w'' => e = .returned (.int .u64 B0) ∧ ∃ p : Regrown, w'' = grow (redrawn w4 p.d) p.os := fun d os => Calls.regrown_of (KLb _).out
  clear KLa KLb
  have kq0 := cell_regrown q0
  have kq1 := cell_regrown q1
  have kq2 := cell_regrown q2
  have kq3 := cell_regrown q3
  refine wp_region_quiet_below (by kernel_rfl) (by kernel_rfl) ?_
  repeat (quiet_step (first | (with_reducible exact cA _ _) | (with_reducible exact cB _ _)))
  refine wpQuiet_nil ?_
  intro _ hw'
  obtain ⟨⟨dq, osq⟩, hw''⟩ := hw'
  subst hw''
  have hw5 := HW.out.trans ((below_regrown _ dq osq).mono HW.out.size)
  have HW5 := Hid.mk' hw5
  clear hw5
  show Exit.then _ _ Exit.normal _ (grow (redrawn _ dq) osq)
  have HBQ := Hid.mk' (below_regrown w4 dq osq)
  clear kq0 kq1 kq2 kq3 cA cB
  go_upto_region 3 with fail
  refine wp_gen (fun wz => RZ wz w.heap.size ∧ C4 wz gf (.int .i64 wd) (.int .i64 fr) (.int .i64 ls) (.int .u64 nn) ∧ Below w.heap.size w wz) ⟨HR.out.keep HBQ.out, HF.out.keep HBQ.out, HW5.out⟩ ?_
  clear HR HF HW HW5 HBQ q0 q1 q2 q3
  rintro w5 ⟨hr, hf, hb⟩
  have HR := Hid.mk' hr
  have HF := Hid.mk' hf
  have HB := Hid.mk' hb
  obtain ⟨q0, q1, q2, q3⟩ := id hf
  obtain ⟨⟨r0, r1, r2⟩, v0, v1, v2⟩ := id hr
  clear hr hf hb
  have KD := fun (w : World) => Hid.mk' (done_any R w)
  go_wp2_with (first | (go_at_call 57; (first | (with_reducible refine (KP _).out.mono ?_)); rintro e w6 ⟨rfl, hb⟩; have HR := Hid.mk' (HR.out.keep hb); have HF := Hid.mk' (HF.out.keep hb); have HB := Hid.mk' (HB.out.trans (hb.mono HB.out.size)); clear q0 q1 q2 q3 r0 r1 r2 v0 v1 v2; obtain ⟨q0, q1, q2, q3⟩ := HF.out; obtain ⟨⟨r0, r1, r2⟩, v0, v1, v2⟩ := HR.out; clear hb) | (go_at_call 34; (first | (with_reducible refine (KD _).out.mono ?_)); rintro e w6 ⟨rfl, hb⟩; have HR := Hid.mk' (HR.out.keep hb); have HF := Hid.mk' (HF.out.keep hb); have HB := Hid.mk' (HB.out.trans (hb.mono HB.out.size)); clear q0 q1 q2 q3 r0 r1 r2 v0 v1 v2; obtain ⟨q0, q1, q2, q3⟩ := HF.out; obtain ⟨⟨r0, r1, r2⟩, v0, v1, v2⟩ := HR.out; clear hb))
  exact bodyPost_ret (v := RV true 0 R) (by simp [results, Tryd.results15, go_sem, r0, r1, r2]) rfl ⟨rfl, by repeat (first | exact HB.out | refine Below.setCell ?_ (by first | (simp; done) | (simp; omega) | omega) _ | refine Below.drew ?_)⟩
end Go.Proofs.YthmppcfhbbjhlaaDoor
