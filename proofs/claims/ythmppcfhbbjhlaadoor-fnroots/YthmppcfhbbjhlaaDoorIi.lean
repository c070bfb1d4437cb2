import Derived.Test.YthmppcfhbbjhlaaDoorIw
import Derived.Test.YthmppcfhbbjhlaaDoorWh
set_option linter.all false
namespace Go.Proofs.YthmppcfhbbjhlaaDoor
open Go.RowKit Go.Sort

set_option maxHeartbeats 2000000 in
theorem iwhole_key (g : Bool) (x lo hi mode x2 lo2 hi2 : Int) (w : World)
    (KC : ∀ w, Hid (Calls Tryd.prog 78 #[NV 0 g x lo hi, .int .i64 0, .int .i64 mode] w fun e w' => e = .returned (NV 0 g x2 lo2 hi2) ∧ Below w.heap.size w w')) :
    Calls Tryd.prog 37 #[NV 0 g x lo hi, .int .i64 mode] w fun e w' => e = .returned (NV 0 g x2 lo2 hi2) ∧ Below w.heap.size w w' := by
  go_enter Tryd.func37, Tryd.ntmps37
  go_wp2_with fail
  refine (KC _).out.mono ?_
  rintro e w1 ⟨rfl, hb⟩
  obtain ⟨⟨r0, r1, r2, r3, r4⟩, v0, v1, v2, v3, v4⟩ := c5_mid.keep hb
  have HB := Hid.mk' (below2 hb)
  clear hb KC
  go_wp2
  exact bodyPost_ret (v := NV 0 g x2 lo2 hi2) (by simp [results, Tryd.results37, go_sem, r0, r1, r2, r3, r4]) rfl ⟨rfl, by repeat (first | exact HB.out | refine Below.setCell ?_ (by first | (simp; done) | (simp; omega) | omega) _)⟩
set_option maxHeartbeats 2000000 in
theorem iwhole_k (k : Int) (g : Bool) (x lo hi mode : Int) (w : World) (hk : k ≠ 0) :
    Calls Tryd.prog 37 #[NV k g x lo hi, .int .i64 mode] w fun e w' => e = .returned (NV k g x lo hi) ∧ Below w.heap.size w w' := by
  go_enter Tryd.func37, Tryd.ntmps37
  go_wp2
  exact bodyPost_ret (v := NV k g x lo hi) (by simp [results, Tryd.results37, go_sem]) rfl ⟨rfl, by repeat (first | exact Below.refl _ _ | refine Below.setCell ?_ (by first | (simp; done) | (simp; omega) | omega) _ | refine Below.alloc ?_ (by first | (simp; done) | (simp; omega)) _ | refine Below.drew ?_ | refine below_drewN ?_ _)⟩
theorem iwhole_any (g : Bool) (x mode : Int) (s : Nat) (w : World) (hs : s < 340282366920938463463374607431768211456) (hx : -5000 ≤ x) (hx' : x ≤ 5000) (hm : 0 ≤ mode) (hm3 : mode ≤ 3) :
    Calls Tryd.prog 37 #[N2 0 g x s, .int .i64 mode] w fun e w' => e = .returned (if 0 ≤ x then N2 0 g x s else N2 0 g 0 (wh mode g s x)) ∧ Below w.heap.size w w' := by
  by_cases h : 0 ≤ x
  · rw [if_pos h]
    exact iwhole_key g x _ _ mode x _ _ w (fun w => cut_same 0 g x _ _ 0 mode w (by omega) (by omega) (by omega) (by omega))
  · rw [if_neg h]
    refine iwhole_key g x _ _ mode 0 _ _ w (fun w => cut_any 0 g x 0 mode s w hs (by omega) (by omega) (by omega) (by omega) (by omega) hm hm3 _ ?_)
    unfold wh
    rw [if_neg h, show (0 : Int) - x = -x by omega]

set_option maxHeartbeats 2000000 in
theorem integer_k (k : Int) (g sg : Bool) (x lo hi wd : Int) (w : World) (hk : k ≠ 0) :
    Calls Tryd.prog 88 #[NV k g x lo hi, .int .i64 wd, .bool sg] w fun e w' => e = .returned (.tuple #[.int .u64 0, .bool false]) ∧ Below w.heap.size w w' := by
  have KW := fun w => Hid.mk' (iwhole_k k g x lo hi 3 w hk)
  have t0 : (k != 0) = true := by simpa using hk
  go_enter Tryd.func88, Tryd.ntmps88
  go_wp2_with fail
  refine (KW _).out.mono ?_
  rintro e w1 ⟨rfl, hb⟩
  have CN := Hid.mk' (c5_new.keep hb)
  have HB := Hid.mk' (below_box hb)
  clear hb KW
  obtain ⟨⟨r0, r1, r2, r3, r4⟩, v0, v1, v2, v3, v4⟩ := CN.out
  go_upto_region 2 with fail
  refine wp_gen (fun wz => C5 wz w.heap.size (.int .i64 k) (.bool g) (.int .i64 x) (.int .u64 lo) (.int .u64 hi) ∧ Below w.heap.size w wz) ⟨CN.out.setAll, ((((HB.out.setCell (Nat.le_refl _) _).setCell (Nat.le_refl _) _).setCell (Nat.le_refl _) _).setCell (Nat.le_refl _) _).setCell (Nat.le_refl _) _⟩ ?_
  clear r0 r1 r2 r3 r4 v0 v1 v2 v3 v4 CN HB
  rintro w4 ⟨⟨⟨r0, r1, r2, r3, r4⟩, -⟩, hw4⟩
  have HW := Hid.mk' hw4
  clear hw4
  go_quiet (fail)
  go_wp2
  go_ret2
  exact ⟨rfl, below_drewN HW.out _⟩
set_option maxHeartbeats 4000000 in
theorem integer_32_o (g sg : Bool) (x lo hi x2 lo2 hi2 L : Int) (w : World)
    (KW : ∀ w, Hid (Calls Tryd.prog 37 #[NV 0 g x lo hi, .int .i64 3] w fun e w' => e = .returned (NV 0 g x2 lo2 hi2) ∧ Below w.heap.size w w'))
    (KL : ∀ w, Hid (Calls Tryd.prog 103 #[WV lo2 hi2] w fun e w' => e = .returned (.int .i64 L) ∧ Below w.heap.size w w')) (hL0 : 0 ≤ L) (hL1 : L ≤ 128) (hx0 : 0 ≤ x2) (hx1 : x2 ≤ 5000)
    (ho : 32 < L + x2) :
    Calls Tryd.prog 88 #[NV 0 g x lo hi, .int .i64 32, .bool sg] w fun e w' => e = .returned (.tuple #[.int .u64 0, .bool false]) ∧ Below w.heap.size w w' := by
  have eL : IntKind.i64.wrap (L + x2) = L + x2 := by rw [IntKind.wrap_i64]; omega
  go_enter Tryd.func88, Tryd.ntmps88
  go_wp2_with fail
  refine (KW _).out.mono ?_
  rintro e w1 ⟨rfl, hb⟩
  have CN := Hid.mk' (c5_new.keep hb)
  have HB := Hid.mk' (below_box hb)
  clear hb KW
  obtain ⟨⟨r0, r1, r2, r3, r4⟩, v0, v1, v2, v3, v4⟩ := CN.out
  go_upto_region 2 with fail
  refine wp_gen (fun wz => C5 wz w.heap.size (.int .i64 0) (.bool g) (.int .i64 x2) (.int .u64 lo2) (.int .u64 hi2) ∧ Below w.heap.size w wz) ⟨CN.out.setAll, ((((HB.out.setCell (Nat.le_refl _) _).setCell (Nat.le_refl _) _).setCell (Nat.le_refl _) _).setCell (Nat.le_refl _) _).setCell (Nat.le_refl _) _⟩ ?_
  clear r0 r1 r2 r3 r4 v0 v1 v2 v3 v4 CN HB
  rintro w4 ⟨cn, hw4⟩
  obtain ⟨⟨r0, r1, r2, r3, r4⟩, -⟩ := id cn
  have CN := Hid.mk' cn
  have HW := Hid.mk' hw4
  have kr0 := cell_regrown r0
  have kr2 := cell_regrown r2
  have kr3 := cell_regrown r3
  have kr4 := cell_regrown r4
  have cL : ∀ d os, Calls Tryd.prog 103 #[WV lo2 hi2] (grow (redrawn w4 d) os) fun e w'' => e = .returned (.int .i64 L) ∧ ∃ p : Regrown, w'' = grow (redrawn w4 p.d) p.os := fun d os => Calls.regrown_of (KL _).out
  clear hw4 cn KL
  refine wp_region_quiet_below (by kernel_rfl) (by kernel_rfl) ?_
  repeat (quiet_step (exact cL _ _))
  refine wpQuiet_nil ?_
  intro _ hw'
  obtain ⟨⟨dq, osq⟩, hw''⟩ := hw'
  subst hw''
  have CN5 := Hid.mk' (CN.out.keep (below_regrown w4 dq osq))
  have HW5 := Hid.mk' (HW.out.trans ((below_regrown w4 dq osq).mono HW.out.size))
  show Exit.then _ _ Exit.normal _ (grow (redrawn w4 dq) osq)
  generalize grow (redrawn w4 dq) osq = w5 at *
  clear kr0 kr2 kr3 kr4 cL eL r0 r1 r2 r3 r4 CN HW
  obtain ⟨⟨r0, r1, r2, r3, r4⟩, -⟩ := CN5.out
  go_wp2
  go_ret2
  exact ⟨rfl, HW5.out⟩
set_option maxHeartbeats 4000000 in
theorem integer_32_ff (x lo hi x2 lo2 hi2 L V : Int) (w : World)
    (KW : ∀ w, Hid (Calls Tryd.prog 37 #[NV 0 false x lo hi, .int .i64 3] w fun e w' => e = .returned (NV 0 false x2 lo2 hi2) ∧ Below w.heap.size w w'))
    (KL : ∀ w, Hid (Calls Tryd.prog 103 #[WV lo2 hi2] w fun e w' => e = .returned (.int .i64 L) ∧ Below w.heap.size w w')) (hL0 : 0 ≤ L) (hL1 : L ≤ 128) (hx0 : 0 ≤ x2) (hx1 : x2 ≤ 5000)
    (ho : L + x2 ≤ 32) (hx64 : x2 ≤ 64) (hV : IntKind.u64.wrap (lo2 * 2 ^ x2.toNat) = V) :
    Calls Tryd.prog 88 #[NV 0 false x lo hi, .int .i64 32, .bool false] w fun e w' => e = .returned (.tuple #[.int .u64 V, .bool true]) ∧ Below w.heap.size w w' := by
  have t1 : ¬ 32 < L + x2 := by omega
  have eL : IntKind.i64.wrap (L + x2) = L + x2 := by rw [IntKind.wrap_i64]; omega
  go_enter Tryd.func88, Tryd.ntmps88
  go_wp2_with fail
  refine (KW _).out.mono ?_
  rintro e w1 ⟨rfl, hb⟩
  have CN := Hid.mk' (c5_new.keep hb)
  have HB := Hid.mk' (below_box hb)
  clear hb KW
  obtain ⟨⟨r0, r1, r2, r3, r4⟩, v0, v1, v2, v3, v4⟩ := CN.out
  go_upto_region 2 with fail
  refine wp_gen (fun wz => C5 wz w.heap.size (.int .i64 0) (.bool false) (.int .i64 x2) (.int .u64 lo2) (.int .u64 hi2) ∧ Below w.heap.size w wz) ⟨CN.out.setAll, ((((HB.out.setCell (Nat.le_refl _) _).setCell (Nat.le_refl _) _).setCell (Nat.le_refl _) _).setCell (Nat.le_refl _) _).setCell (Nat.le_refl _) _⟩ ?_
  clear r0 r1 r2 r3 r4 v0 v1 v2 v3 v4 CN HB
  rintro w4 ⟨cn, hw4⟩
  obtain ⟨⟨r0, r1, r2, r3, r4⟩, -⟩ := id cn
  have CN := Hid.mk' cn
  have HW := Hid.mk' hw4
  have kr0 := cell_regrown r0
  have kr2 := cell_regrown r2
  have kr3 := cell_regrown r3
  have kr4 := cell_regrown r4
  have cL : ∀ d os, Calls Tryd.prog 103 #[WV lo2 hi2] (grow (redrawn w4 d) os) fun e w'' => e = .returned (.int .i64 L) ∧ ∃ p : Regrown, w'' = grow (redrawn w4 p.d) p.os := fun d os => Calls.regrown_of (KL _).out
  clear hw4 cn KL
  refine wp_region_quiet_below (by kernel_rfl) (by kernel_rfl) ?_
  repeat (quiet_step (exact cL _ _))
  refine wpQuiet_nil ?_
  intro _ hw'
  obtain ⟨⟨dq, osq⟩, hw''⟩ := hw'
  subst hw''
  have CN5 := Hid.mk' (CN.out.keep (below_regrown w4 dq osq))
  have HW5 := Hid.mk' (HW.out.trans ((below_regrown w4 dq osq).mono HW.out.size))
  show Exit.then _ _ Exit.normal _ (grow (redrawn w4 dq) osq)
  generalize grow (redrawn w4 dq) osq = w5 at *
  clear kr0 kr2 kr3 kr4 cL eL r0 r1 r2 r3 r4 CN HW
  obtain ⟨⟨r0, r1, r2, r3, r4⟩, -⟩ := CN5.out
  go_wp2
  go_ret2
  exact ⟨rfl, HW5.out⟩
set_option maxHeartbeats 4000000 in
theorem integer_32_ft (x lo hi x2 lo2 hi2 L V : Int) (w : World)
    (KW : ∀ w, Hid (Calls Tryd.prog 37 #[NV 0 true x lo hi, .int .i64 3] w fun e w' => e = .returned (NV 0 true x2 lo2 hi2) ∧ Below w.heap.size w w'))
    (KL : ∀ w, Hid (Calls Tryd.prog 103 #[WV lo2 hi2] w fun e w' => e = .returned (.int .i64 L) ∧ Below w.heap.size w w')) (hL0 : 0 ≤ L) (hL1 : L ≤ 128) (hx0 : 0 ≤ x2) (hx1 : x2 ≤ 5000)
    (ho : L + x2 ≤ 32) (hx64 : x2 ≤ 64) (hV : IntKind.u64.wrap (lo2 * 2 ^ x2.toNat) = V) :
    Calls Tryd.prog 88 #[NV 0 true x lo hi, .int .i64 32, .bool false] w fun e w' => e = .returned (.tuple #[.int .u64 V, .bool (V == 0)]) ∧ Below w.heap.size w w' := by
  have t1 : ¬ 32 < L + x2 := by omega
  have eL : IntKind.i64.wrap (L + x2) = L + x2 := by rw [IntKind.wrap_i64]; omega
  go_enter Tryd.func88, Tryd.ntmps88
  go_wp2_with fail
  refine (KW _).out.mono ?_
  rintro e w1 ⟨rfl, hb⟩
  have CN := Hid.mk' (c5_new.keep hb)
  have HB := Hid.mk' (below_box hb)
  clear hb KW
  obtain ⟨⟨r0, r1, r2, r3, r4⟩, v0, v1, v2, v3, v4⟩ := CN.out
  go_upto_region 2 with fail
  refine wp_gen (fun wz => C5 wz w.heap.size (.int .i64 0) (.bool true) (.int .i64 x2) (.int .u64 lo2) (.int .u64 hi2) ∧ Below w.heap.size w wz) ⟨CN.out.setAll, ((((HB.out.setCell (Nat.le_refl _) _).setCell (Nat.le_refl _) _).setCell (Nat.le_refl _) _).setCell (Nat.le_refl _) _).setCell (Nat.le_refl _) _⟩ ?_
  clear r0 r1 r2 r3 r4 v0 v1 v2 v3 v4 CN HB
  rintro w4 ⟨cn, hw4⟩
  obtain ⟨⟨r0, r1, r2, r3, r4⟩, -⟩ := id cn
  have CN := Hid.mk' cn
  have HW := Hid.mk' hw4
  have kr0 := cell_regrown r0
  have kr2 := cell_regrown r2
  have kr3 := cell_regrown r3
  have kr4 := cell_regrown r4
  have cL : ∀ d os, Calls Tryd.prog 103 #[WV lo2 hi2] (grow (redrawn w4 d) os) fun e w'' => e = .returned (.int .i64 L) ∧ ∃ p : Regrown, w'' = grow (redrawn w4 p.d) p.os := fun d os => Calls.regrown_of (KL _).out
  clear hw4 cn KL
  refine wp_region_quiet_below (by kernel_rfl) (by kernel_rfl) ?_
  repeat (quiet_step (exact cL _ _))
  refine wpQuiet_nil ?_
  intro _ hw'
  obtain ⟨⟨dq, osq⟩, hw''⟩ := hw'
  subst hw''
  have CN5 := Hid.mk' (CN.out.keep (below_regrown w4 dq osq))
  have HW5 := Hid.mk' (HW.out.trans ((below_regrown w4 dq osq).mono HW.out.size))
  show Exit.then _ _ Exit.normal _ (grow (redrawn w4 dq) osq)
  generalize grow (redrawn w4 dq) osq = w5 at *
  clear kr0 kr2 kr3 kr4 cL eL r0 r1 r2 r3 r4 CN HW
  obtain ⟨⟨r0, r1, r2, r3, r4⟩, -⟩ := CN5.out
  go_wp2
  go_ret2
  exact ⟨rfl, HW5.out⟩
set_option maxHeartbeats 4000000 in
theorem integer_32_tf (x lo hi x2 lo2 hi2 L V : Int) (w : World)
    (KW : ∀ w, Hid (Calls Tryd.prog 37 #[NV 0 false x lo hi, .int .i64 3] w fun e w' => e = .returned (NV 0 false x2 lo2 hi2) ∧ Below w.heap.size w w'))
    (KL : ∀ w, Hid (Calls Tryd.prog 103 #[WV lo2 hi2] w fun e w' => e = .returned (.int .i64 L) ∧ Below w.heap.size w w')) (hL0 : 0 ≤ L) (hL1 : L ≤ 128) (hx0 : 0 ≤ x2) (hx1 : x2 ≤ 5000)
    (ho : L + x2 ≤ 32) (hx64 : x2 ≤ 64) (hV : IntKind.u64.wrap (lo2 * 2 ^ x2.toNat) = V) :
    Calls Tryd.prog 88 #[NV 0 false x lo hi, .int .i64 32, .bool true] w fun e w' => e = .returned (.tuple #[.int .u64 V, .bool (decide (V < 2147483648))]) ∧ Below w.heap.size w w' := by
  have t1 : ¬ 32 < L + x2 := by omega
  have eL : IntKind.i64.wrap (L + x2) = L + x2 := by rw [IntKind.wrap_i64]; omega
  go_enter Tryd.func88, Tryd.ntmps88
  go_wp2_with fail
  refine (KW _).out.mono ?_
  rintro e w1 ⟨rfl, hb⟩
  have CN := Hid.mk' (c5_new.keep hb)
  have HB := Hid.mk' (below_box hb)
  clear hb KW
  obtain ⟨⟨r0, r1, r2, r3, r4⟩, v0, v1, v2, v3, v4⟩ := CN.out
  go_upto_region 2 with fail
  refine wp_gen (fun wz => C5 wz w.heap.size (.int .i64 0) (.bool false) (.int .i64 x2) (.int .u64 lo2) (.int .u64 hi2) ∧ Below w.heap.size w wz) ⟨CN.out.setAll, ((((HB.out.setCell (Nat.le_refl _) _).setCell (Nat.le_refl _) _).setCell (Nat.le_refl _) _).setCell (Nat.le_refl _) _).setCell (Nat.le_refl _) _⟩ ?_
  clear r0 r1 r2 r3 r4 v0 v1 v2 v3 v4 CN HB
  rintro w4 ⟨cn, hw4⟩
  obtain ⟨⟨r0, r1, r2, r3, r4⟩, -⟩ := id cn
  have CN := Hid.mk' cn
  have HW := Hid.mk' hw4
  have kr0 := cell_regrown r0
  have kr2 := cell_regrown r2
  have kr3 := cell_regrown r3
  have kr4 := cell_regrown r4
  have cL : ∀ d os, Calls Tryd.prog 103 #[WV lo2 hi2] (grow (redrawn w4 d) os) fun e w'' => e = .returned (.int .i64 L) ∧ ∃ p : Regrown, w'' = grow (redrawn w4 p.d) p.os := fun d os => Calls.regrown_of (KL _).out
  clear hw4 cn KL
  refine wp_region_quiet_below (by kernel_rfl) (by kernel_rfl) ?_
  repeat (quiet_step (exact cL _ _))
  refine wpQuiet_nil ?_
  intro _ hw'
  obtain ⟨⟨dq, osq⟩, hw''⟩ := hw'
  subst hw''
  have CN5 := Hid.mk' (CN.out.keep (below_regrown w4 dq osq))
  have HW5 := Hid.mk' (HW.out.trans ((below_regrown w4 dq osq).mono HW.out.size))
  show Exit.then _ _ Exit.normal _ (grow (redrawn w4 dq) osq)
  generalize grow (redrawn w4 dq) osq = w5 at *
  clear kr0 kr2 kr3 kr4 cL eL r0 r1 r2 r3 r4 CN HW
  obtain ⟨⟨r0, r1, r2, r3, r4⟩, -⟩ := CN5.out
  go_wp2
  go_ret2
  exact ⟨rfl, HW5.out⟩
set_option maxHeartbeats 4000000 in
theorem integer_32_tt (x lo hi x2 lo2 hi2 L V : Int) (w : World)
    (KW : ∀ w, Hid (Calls Tryd.prog 37 #[NV 0 true x lo hi, .int .i64 3] w fun e w' => e = .returned (NV 0 true x2 lo2 hi2) ∧ Below w.heap.size w w'))
    (KL : ∀ w, Hid (Calls Tryd.prog 103 #[WV lo2 hi2] w fun e w' => e = .returned (.int .i64 L) ∧ Below w.heap.size w w')) (hL0 : 0 ≤ L) (hL1 : L ≤ 128) (hx0 : 0 ≤ x2) (hx1 : x2 ≤ 5000)
    (ho : L + x2 ≤ 32) (hx64 : x2 ≤ 64) (hV : IntKind.u64.wrap (lo2 * 2 ^ x2.toNat) = V) :
    Calls Tryd.prog 88 #[NV 0 true x lo hi, .int .i64 32, .bool true] w fun e w' => e = .returned (.tuple #[.int .u64 (bits .and .u64 (IntKind.u64.wrap (-V)) 4294967295), .bool (decide (V ≤ 2147483648))]) ∧ Below w.heap.size w w' := by
  have t1 : ¬ 32 < L + x2 := by omega
  have eL : IntKind.i64.wrap (L + x2) = L + x2 := by rw [IntKind.wrap_i64]; omega
  go_enter Tryd.func88, Tryd.ntmps88
  go_wp2_with fail
  refine (KW _).out.mono ?_
  rintro e w1 ⟨rfl, hb⟩
  have CN := Hid.mk' (c5_new.keep hb)
  have HB := Hid.mk' (below_box hb)
  clear hb KW
  obtain ⟨⟨r0, r1, r2, r3, r4⟩, v0, v1, v2, v3, v4⟩ := CN.out
  go_upto_region 2 with fail
  refine wp_gen (fun wz => C5 wz w.heap.size (.int .i64 0) (.bool true) (.int .i64 x2) (.int .u64 lo2) (.int .u64 hi2) ∧ Below w.heap.size w wz) ⟨CN.out.setAll, ((((HB.out.setCell (Nat.le_refl _) _).setCell (Nat.le_refl _) _).setCell (Nat.le_refl _) _).setCell (Nat.le_refl _) _).setCell (Nat.le_refl _) _⟩ ?_
  clear r0 r1 r2 r3 r4 v0 v1 v2 v3 v4 CN HB
  rintro w4 ⟨cn, hw4⟩
  obtain ⟨⟨r0, r1, r2, r3, r4⟩, -⟩ := id cn
  have CN := Hid.mk' cn
  have HW := Hid.mk' hw4
  have kr0 := cell_regrown r0
  have kr2 := cell_regrown r2
  have kr3 := cell_regrown r3
  have kr4 := cell_regrown r4
  have cL : ∀ d os, Calls Tryd.prog 103 #[WV lo2 hi2] (grow (redrawn w4 d) os) fun e w'' => e = .returned (.int .i64 L) ∧ ∃ p : Regrown, w'' = grow (redrawn w4 p.d) p.os := fun d os => Calls.regrown_of (KL _).out
  clear hw4 cn KL
  refine wp_region_quiet_below (by kernel_rfl) (by kernel_rfl) ?_
  repeat (quiet_step (exact cL _ _))
  refine wpQuiet_nil ?_
  intro _ hw'
  obtain ⟨⟨dq, osq⟩, hw''⟩ := hw'
  subst hw''
  have CN5 := Hid.mk' (CN.out.keep (below_regrown w4 dq osq))
  have HW5 := Hid.mk' (HW.out.trans ((below_regrown w4 dq osq).mono HW.out.size))
  show Exit.then _ _ Exit.normal _ (grow (redrawn w4 dq) osq)
  generalize grow (redrawn w4 dq) osq = w5 at *
  clear kr0 kr2 kr3 kr4 cL eL r0 r1 r2 r3 r4 CN HW
  obtain ⟨⟨r0, r1, r2, r3, r4⟩, -⟩ := CN5.out
  go_wp2
  go_ret2
  exact ⟨rfl, HW5.out⟩
set_option maxHeartbeats 4000000 in
theorem integer_64_o (g sg : Bool) (x lo hi x2 lo2 hi2 L : Int) (w : World)
    (KW : ∀ w, Hid (Calls Tryd.prog 37 #[NV 0 g x lo hi, .int .i64 3] w fun e w' => e = .returned (NV 0 g x2 lo2 hi2) ∧ Below w.heap.size w w'))
    (KL : ∀ w, Hid (Calls Tryd.prog 103 #[WV lo2 hi2] w fun e w' => e = .returned (.int .i64 L) ∧ Below w.heap.size w w')) (hL0 : 0 ≤ L) (hL1 : L ≤ 128) (hx0 : 0 ≤ x2) (hx1 : x2 ≤ 5000)
    (ho : 64 < L + x2) :
    Calls Tryd.prog 88 #[NV 0 g x lo hi, .int .i64 64, .bool sg] w fun e w' => e = .returned (.tuple #[.int .u64 0, .bool false]) ∧ Below w.heap.size w w' := by
  have eL : IntKind.i64.wrap (L + x2) = L + x2 := by rw [IntKind.wrap_i64]; omega
  go_enter Tryd.func88, Tryd.ntmps88
  go_wp2_with fail
  refine (KW _).out.mono ?_
  rintro e w1 ⟨rfl, hb⟩
  have CN := Hid.mk' (c5_new.keep hb)
  have HB := Hid.mk' (below_box hb)
  clear hb KW
  obtain ⟨⟨r0, r1, r2, r3, r4⟩, v0, v1, v2, v3, v4⟩ := CN.out
  go_upto_region 2 with fail
  refine wp_gen (fun wz => C5 wz w.heap.size (.int .i64 0) (.bool g) (.int .i64 x2) (.int .u64 lo2) (.int .u64 hi2) ∧ Below w.heap.size w wz) ⟨CN.out.setAll, ((((HB.out.setCell (Nat.le_refl _) _).setCell (Nat.le_refl _) _).setCell (Nat.le_refl _) _).setCell (Nat.le_refl _) _).setCell (Nat.le_refl _) _⟩ ?_
  clear r0 r1 r2 r3 r4 v0 v1 v2 v3 v4 CN HB
  rintro w4 ⟨cn, hw4⟩
  obtain ⟨⟨r0, r1, r2, r3, r4⟩, -⟩ := id cn
  have CN := Hid.mk' cn
  have HW := Hid.mk' hw4
  have kr0 := cell_regrown r0
  have kr2 := cell_regrown r2
  have kr3 := cell_regrown r3
  have kr4 := cell_regrown r4
  have cL : ∀ d os, Calls Tryd.prog 103 #[WV lo2 hi2] (grow (redrawn w4 d) os) fun e w'' => e = .returned (.int .i64 L) ∧ ∃ p : Regrown, w'' = grow (redrawn w4 p.d) p.os := fun d os => Calls.regrown_of (KL _).out
  clear hw4 cn KL
  refine wp_region_quiet_below (by kernel_rfl) (by kernel_rfl) ?_
  repeat (quiet_step (exact cL _ _))
  refine wpQuiet_nil ?_
  intro _ hw'
  obtain ⟨⟨dq, osq⟩, hw''⟩ := hw'
  subst hw''
  have CN5 := Hid.mk' (CN.out.keep (below_regrown w4 dq osq))
  have HW5 := Hid.mk' (HW.out.trans ((below_regrown w4 dq osq).mono HW.out.size))
  show Exit.then _ _ Exit.normal _ (grow (redrawn w4 dq) osq)
  generalize grow (redrawn w4 dq) osq = w5 at *
  clear kr0 kr2 kr3 kr4 cL eL r0 r1 r2 r3 r4 CN HW
  obtain ⟨⟨r0, r1, r2, r3, r4⟩, -⟩ := CN5.out
  go_wp2
  go_ret2
  exact ⟨rfl, HW5.out⟩
set_option maxHeartbeats 4000000 in
theorem integer_64_ff (x lo hi x2 lo2 hi2 L V : Int) (w : World)
    (KW : ∀ w, Hid (Calls Tryd.prog 37 #[NV 0 false x lo hi, .int .i64 3] w fun e w' => e = .returned (NV 0 false x2 lo2 hi2) ∧ Below w.heap.size w w'))
    (KL : ∀ w, Hid (Calls Tryd.prog 103 #[WV lo2 hi2] w fun e w' => e = .returned (.int .i64 L) ∧ Below w.heap.size w w')) (hL0 : 0 ≤ L) (hL1 : L ≤ 128) (hx0 : 0 ≤ x2) (hx1 : x2 ≤ 5000)
    (ho : L + x2 ≤ 64) (hx64 : x2 ≤ 64) (hV : IntKind.u64.wrap (lo2 * 2 ^ x2.toNat) = V) :
    Calls Tryd.prog 88 #[NV 0 false x lo hi, .int .i64 64, .bool false] w fun e w' => e = .returned (.tuple #[.int .u64 V, .bool true]) ∧ Below w.heap.size w w' := by
  have t1 : ¬ 64 < L + x2 := by omega
  have eL : IntKind.i64.wrap (L + x2) = L + x2 := by rw [IntKind.wrap_i64]; omega
  go_enter Tryd.func88, Tryd.ntmps88
  go_wp2_with fail
  refine (KW _).out.mono ?_
  rintro e w1 ⟨rfl, hb⟩
  have CN := Hid.mk' (c5_new.keep hb)
  have HB := Hid.mk' (below_box hb)
  clear hb KW
  obtain ⟨⟨r0, r1, r2, r3, r4⟩, v0, v1, v2, v3, v4⟩ := CN.out
  go_upto_region 2 with fail
  refine wp_gen (fun wz => C5 wz w.heap.size (.int .i64 0) (.bool false) (.int .i64 x2) (.int .u64 lo2) (.int .u64 hi2) ∧ Below w.heap.size w wz) ⟨CN.out.setAll, ((((HB.out.setCell (Nat.le_refl _) _).setCell (Nat.le_refl _) _).setCell (Nat.le_refl _) _).setCell (Nat.le_refl _) _).setCell (Nat.le_refl _) _⟩ ?_
  clear r0 r1 r2 r3 r4 v0 v1 v2 v3 v4 CN HB
  rintro w4 ⟨cn, hw4⟩
  obtain ⟨⟨r0, r1, r2, r3, r4⟩, -⟩ := id cn
  have CN := Hid.mk' cn
  have HW := Hid.mk' hw4
  have kr0 := cell_regrown r0
  have kr2 := cell_regrown r2
  have kr3 := cell_regrown r3
  have kr4 := cell_regrown r4
  have cL : ∀ d os, Calls Tryd.prog 103 #[WV lo2 hi2] (grow (redrawn w4 d) os) fun e w'' => e = .returned (.int .i64 L) ∧ ∃ p : Regrown, w'' = grow (redrawn w4 p.d) p.os := fun d os => Calls.regrown_of (KL _).out
  clear hw4 cn KL
  refine wp_region_quiet_below (by kernel_rfl) (by kernel_rfl) ?_
  repeat (quiet_step (exact cL _ _))
  refine wpQuiet_nil ?_
  intro _ hw'
  obtain ⟨⟨dq, osq⟩, hw''⟩ := hw'
  subst hw''
  have CN5 := Hid.mk' (CN.out.keep (below_regrown w4 dq osq))
  have HW5 := Hid.mk' (HW.out.trans ((below_regrown w4 dq osq).mono HW.out.size))
  show Exit.then _ _ Exit.normal _ (grow (redrawn w4 dq) osq)
  generalize grow (redrawn w4 dq) osq = w5 at *
  clear kr0 kr2 kr3 kr4 cL eL r0 r1 r2 r3 r4 CN HW
  obtain ⟨⟨r0, r1, r2, r3, r4⟩, -⟩ := CN5.out
  go_wp2
  go_ret2
  exact ⟨rfl, HW5.out⟩
set_option maxHeartbeats 4000000 in
theorem integer_64_ft (x lo hi x2 lo2 hi2 L V : Int) (w : World)
    (KW : ∀ w, Hid (Calls Tryd.prog 37 #[NV 0 true x lo hi, .int .i64 3] w fun e w' => e = .returned (NV 0 true x2 lo2 hi2) ∧ Below w.heap.size w w'))
    (KL : ∀ w, Hid (Calls Tryd.prog 103 #[WV lo2 hi2] w fun e w' => e = .returned (.int .i64 L) ∧ Below w.heap.size w w')) (hL0 : 0 ≤ L) (hL1 : L ≤ 128) (hx0 : 0 ≤ x2) (hx1 : x2 ≤ 5000)
    (ho : L + x2 ≤ 64) (hx64 : x2 ≤ 64) (hV : IntKind.u64.wrap (lo2 * 2 ^ x2.toNat) = V) :
    Calls Tryd.prog 88 #[NV 0 true x lo hi, .int .i64 64, .bool false] w fun e w' => e = .returned (.tuple #[.int .u64 V, .bool (V == 0)]) ∧ Below w.heap.size w w' := by
  have t1 : ¬ 64 < L + x2 := by omega
  have eL : IntKind.i64.wrap (L + x2) = L + x2 := by rw [IntKind.wrap_i64]; omega
  go_enter Tryd.func88, Tryd.ntmps88
  go_wp2_with fail
  refine (KW _).out.mono ?_
  rintro e w1 ⟨rfl, hb⟩
  have CN := Hid.mk' (c5_new.keep hb)
  have HB := Hid.mk' (below_box hb)
  clear hb KW
  obtain ⟨⟨r0, r1, r2, r3, r4⟩, v0, v1, v2, v3, v4⟩ := CN.out
  go_upto_region 2 with fail
  refine wp_gen (fun wz => C5 wz w.heap.size (.int .i64 0) (.bool true) (.int .i64 x2) (.int .u64 lo2) (.int .u64 hi2) ∧ Below w.heap.size w wz) ⟨CN.out.setAll, ((((HB.out.setCell (Nat.le_refl _) _).setCell (Nat.le_refl _) _).setCell (Nat.le_refl _) _).setCell (Nat.le_refl _) _).setCell (Nat.le_refl _) _⟩ ?_
  clear r0 r1 r2 r3 r4 v0 v1 v2 v3 v4 CN HB
  rintro w4 ⟨cn, hw4⟩
  obtain ⟨⟨r0, r1, r2, r3, r4⟩, -⟩ := id cn
  have CN := Hid.mk' cn
  have HW := Hid.mk' hw4
  have kr0 := cell_regrown r0
  have kr2 := cell_regrown r2
  have kr3 := cell_regrown r3
  have kr4 := cell_regrown r4
  have cL : ∀ d os, Calls Tryd.prog 103 #[WV lo2 hi2] (grow (redrawn w4 d) os) fun e w'' => e = .returned (.int .i64 L) ∧ ∃ p : Regrown, w'' = grow (redrawn w4 p.d) p.os := fun d os => Calls.regrown_of (KL _).out
  clear hw4 cn KL
  refine wp_region_quiet_below (by kernel_rfl) (by kernel_rfl) ?_
  repeat (quiet_step (exact cL _ _))
  refine wpQuiet_nil ?_
  intro _ hw'
  obtain ⟨⟨dq, osq⟩, hw''⟩ := hw'
  subst hw''
  have CN5 := Hid.mk' (CN.out.keep (below_regrown w4 dq osq))
  have HW5 := Hid.mk' (HW.out.trans ((below_regrown w4 dq osq).mono HW.out.size))
  show Exit.then _ _ Exit.normal _ (grow (redrawn w4 dq) osq)
  generalize grow (redrawn w4 dq) osq = w5 at *
  clear kr0 kr2 kr3 kr4 cL eL r0 r1 r2 r3 r4 CN HW
  obtain ⟨⟨r0, r1, r2, r3, r4⟩, -⟩ := CN5.out
  go_wp2
  go_ret2
  exact ⟨rfl, HW5.out⟩
set_option maxHeartbeats 4000000 in
theorem integer_64_tf (x lo hi x2 lo2 hi2 L V : Int) (w : World)
    (KW : ∀ w, Hid (Calls Tryd.prog 37 #[NV 0 false x lo hi, .int .i64 3] w fun e w' => e = .returned (NV 0 false x2 lo2 hi2) ∧ Below w.heap.size w w'))
    (KL : ∀ w, Hid (Calls Tryd.prog 103 #[WV lo2 hi2] w fun e w' => e = .returned (.int .i64 L) ∧ Below w.heap.size w w')) (hL0 : 0 ≤ L) (hL1 : L ≤ 128) (hx0 : 0 ≤ x2) (hx1 : x2 ≤ 5000)
    (ho : L + x2 ≤ 64) (hx64 : x2 ≤ 64) (hV : IntKind.u64.wrap (lo2 * 2 ^ x2.toNat) = V) :
    Calls Tryd.prog 88 #[NV 0 false x lo hi, .int .i64 64, .bool true] w fun e w' => e = .returned (.tuple #[.int .u64 V, .bool (decide (V < 9223372036854775808))]) ∧ Below w.heap.size w w' := by
  have t1 : ¬ 64 < L + x2 := by omega
  have eL : IntKind.i64.wrap (L + x2) = L + x2 := by rw [IntKind.wrap_i64]; omega
  go_enter Tryd.func88, Tryd.ntmps88
  go_wp2_with fail
  refine (KW _).out.mono ?_
  rintro e w1 ⟨rfl, hb⟩
  have CN := Hid.mk' (c5_new.keep hb)
  have HB := Hid.mk' (below_box hb)
  clear hb KW
  obtain ⟨⟨r0, r1, r2, r3, r4⟩, v0, v1, v2, v3, v4⟩ := CN.out
  go_upto_region 2 with fail
  refine wp_gen (fun wz => C5 wz w.heap.size (.int .i64 0) (.bool false) (.int .i64 x2) (.int .u64 lo2) (.int .u64 hi2) ∧ Below w.heap.size w wz) ⟨CN.out.setAll, ((((HB.out.setCell (Nat.le_refl _) _).setCell (Nat.le_refl _) _).setCell (Nat.le_refl _) _).setCell (Nat.le_refl _) _).setCell (Nat.le_refl _) _⟩ ?_
  clear r0 r1 r2 r3 r4 v0 v1 v2 v3 v4 CN HB
  rintro w4 ⟨cn, hw4⟩
  obtain ⟨⟨r0, r1, r2, r3, r4⟩, -⟩ := id cn
  have CN := Hid.mk' cn
  have HW := Hid.mk' hw4
  have kr0 := cell_regrown r0
  have kr2 := cell_regrown r2
  have kr3 := cell_regrown r3
  have kr4 := cell_regrown r4
  have cL : ∀ d os, Calls Tryd.prog 103 #[WV lo2 hi2] (grow (redrawn w4 d) os) fun e w'' => e = .returned (.int .i64 L) ∧ ∃ p : Regrown, w'' = grow (redrawn w4 p.d) p.os := fun d os => Calls.regrown_of (KL _).out
  clear hw4 cn KL
  refine wp_region_quiet_below (by kernel_rfl) (by kernel_rfl) ?_
  repeat (quiet_step (exact cL _ _))
  refine wpQuiet_nil ?_
  intro _ hw'
  obtain ⟨⟨dq, osq⟩, hw''⟩ := hw'
  subst hw''
  have CN5 := Hid.mk' (CN.out.keep (below_regrown w4 dq osq))
  have HW5 := Hid.mk' (HW.out.trans ((below_regrown w4 dq osq).mono HW.out.size))
  show Exit.then _ _ Exit.normal _ (grow (redrawn w4 dq) osq)
  generalize grow (redrawn w4 dq) osq = w5 at *
  clear kr0 kr2 kr3 kr4 cL eL r0 r1 r2 r3 r4 CN HW
  obtain ⟨⟨r0, r1, r2, r3, r4⟩, -⟩ := CN5.out
  go_wp2
  go_ret2
  exact ⟨rfl, HW5.out⟩
set_option maxHeartbeats 4000000 in
theorem integer_64_tt (x lo hi x2 lo2 hi2 L V : Int) (w : World)
    (KW : ∀ w, Hid (Calls Tryd.prog 37 #[NV 0 true x lo hi, .int .i64 3] w fun e w' => e = .returned (NV 0 true x2 lo2 hi2) ∧ Below w.heap.size w w'))
    (KL : ∀ w, Hid (Calls Tryd.prog 103 #[WV lo2 hi2] w fun e w' => e = .returned (.int .i64 L) ∧ Below w.heap.size w w')) (hL0 : 0 ≤ L) (hL1 : L ≤ 128) (hx0 : 0 ≤ x2) (hx1 : x2 ≤ 5000)
    (ho : L + x2 ≤ 64) (hx64 : x2 ≤ 64) (hV : IntKind.u64.wrap (lo2 * 2 ^ x2.toNat) = V) :
    Calls Tryd.prog 88 #[NV 0 true x lo hi, .int .i64 64, .bool true] w fun e w' => e = .returned (.tuple #[.int .u64 (bits .and .u64 (IntKind.u64.wrap (-V)) 18446744073709551615), .bool (decide (V ≤ 9223372036854775808))]) ∧ Below w.heap.size w w' := by
  have t1 : ¬ 64 < L + x2 := by omega
  have eL : IntKind.i64.wrap (L + x2) = L + x2 := by rw [IntKind.wrap_i64]; omega
  go_enter Tryd.func88, Tryd.ntmps88
  go_wp2_with fail
  refine (KW _).out.mono ?_
  rintro e w1 ⟨rfl, hb⟩
  have CN := Hid.mk' (c5_new.keep hb)
  have HB := Hid.mk' (below_box hb)
  clear hb KW
  obtain ⟨⟨r0, r1, r2, r3, r4⟩, v0, v1, v2, v3, v4⟩ := CN.out
  go_upto_region 2 with fail
  refine wp_gen (fun wz => C5 wz w.heap.size (.int .i64 0) (.bool true) (.int .i64 x2) (.int .u64 lo2) (.int .u64 hi2) ∧ Below w.heap.size w wz) ⟨CN.out.setAll, ((((HB.out.setCell (Nat.le_refl _) _).setCell (Nat.le_refl _) _).setCell (Nat.le_refl _) _).setCell (Nat.le_refl _) _).setCell (Nat.le_refl _) _⟩ ?_
  clear r0 r1 r2 r3 r4 v0 v1 v2 v3 v4 CN HB
  rintro w4 ⟨cn, hw4⟩
  obtain ⟨⟨r0, r1, r2, r3, r4⟩, -⟩ := id cn
  have CN := Hid.mk' cn
  have HW := Hid.mk' hw4
  have kr0 := cell_regrown r0
  have kr2 := cell_regrown r2
  have kr3 := cell_regrown r3
  have kr4 := cell_regrown r4
  have cL : ∀ d os, Calls Tryd.prog 103 #[WV lo2 hi2] (grow (redrawn w4 d) os) fun e w'' => e = .returned (.int .i64 L) ∧ ∃ p : Regrown, w'' = grow (redrawn w4 p.d) p.os := fun d os => Calls.regrown_of (KL _).out
  clear hw4 cn KL
  refine wp_region_quiet_below (by kernel_rfl) (by kernel_rfl) ?_
  repeat (quiet_step (exact cL _ _))
  refine wpQuiet_nil ?_
  intro _ hw'
  obtain ⟨⟨dq, osq⟩, hw''⟩ := hw'
  subst hw''
  have CN5 := Hid.mk' (CN.out.keep (below_regrown w4 dq osq))
  have HW5 := Hid.mk' (HW.out.trans ((below_regrown w4 dq osq).mono HW.out.size))
  show Exit.then _ _ Exit.normal _ (grow (redrawn w4 dq) osq)
  generalize grow (redrawn w4 dq) osq = w5 at *
  clear kr0 kr2 kr3 kr4 cL eL r0 r1 r2 r3 r4 CN HW
  obtain ⟨⟨r0, r1, r2, r3, r4⟩, -⟩ := CN5.out
  go_wp2
  go_ret2
  exact ⟨rfl, HW5.out⟩
end Go.Proofs.YthmppcfhbbjhlaaDoor
