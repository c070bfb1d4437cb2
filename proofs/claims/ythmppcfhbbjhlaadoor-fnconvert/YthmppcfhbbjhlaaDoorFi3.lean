import Derived.Test.YthmppcfhbbjhlaaDoorTr
set_option linter.all false
namespace Go.Proofs.YthmppcfhbbjhlaaDoor
open Go.RowKit Go.Sort

set_option maxHeartbeats 4000000 in
theorem fromInt_w_32_00 (a A : Int) (A2 : Nat) (R : Int) (w : World)
    (KLo : ∀ w, Hid (Calls Tryd.prog 23 #[.int .u64 a, .int .i64 32] w fun e w' => e = .returned (.int .u64 A) ∧ w = w'))

    (hA2 : A = (A2 : Int))
    (hA : A2 < 18446744073709551616) (hR : R = wr_w 0 false A2 0) :
    Calls Tryd.prog 43 #[FSw, .int .u64 a, .int .i64 32, .bool false] w fun e w' => e = .returned (RV true 0 R) ∧ Below w.heap.size w w' := by
  have KO := fun w => Hid.mk' (of_any A2 w hA)
  have KR := fun v w h => Hid.mk' (round_w false false A2 0 v w (Nat.le_trans (bl_le (k := 64) hA) (by decide)) (by omega) (by omega) h)
  have hR' : sg_w false + (rnd 53 11 (-1074) A2 0 false : Nat) = R := by rw [hR]; rfl
  rw [hR'] at KR
  clear hR hR' hA
  subst hA2
  generalize (A2 : Int) = Ai at *

  go_enter Tryd.func43, Tryd.ntmps43
  go_wp2_with fail
  refine (KLo _).out.mono ?_
  rintro e w1 ⟨rfl, rfl⟩
  go_upto_region 5 with fail
  refine wp_gen (fun wc => C3 wc w.heap.size (.int .i64 53) (.int .i64 11) (.int .i64 (-1074)) ∧ RZ wc (w.heap.size + 1) ∧ Below w.heap.size w wc) ⟨c3_new.past, r3_mid, ((Below.refl _ _).alloc (Nat.le_refl _) _).alloc (by simp) _⟩ ?_
  clear KLo
  rintro wq ⟨cq, rq0, hq⟩
  have HCq := Hid.mk' cq
  have HRq := Hid.mk' rq0
  have HBq := Hid.mk' hq
  obtain ⟨q0, q1, q2⟩ := id cq
  clear cq rq0 hq
  have KV := fun w => Hid.mk' (val_eq R R w rfl)
  go_region_with (first
    | (go_at_call 65; refine (KO _).out.mono ?_; rintro e w6 ⟨⟨v6, rfl, hv6⟩, hb6⟩; have hb6 := undrew hb6; obtain ⟨q0', q1', q2'⟩ := HCq.out.keep hb6; have hr6 := HRq.out.keep hb6; have hB6 := HBq.out.trans (hb6.mono HBq.out.size); clear hb6)
    | (go_at_call 30; refine (KR _ _ hv6).out.mono ?_; rintro e w7 ⟨rfl, hb7⟩; have hr7 := R3.keep hr6 hb7; have hB7 := hB6.trans (hb7.mono hB6.size); clear hb7)
    | (go_at_call 27; refine (KV _).out.mono ?_; rintro e w8 ⟨rfl, hb8⟩; obtain ⟨⟨r0, r1, r2⟩, v0, v1, v2⟩ := R3.keep hr7 hb8; have hB8 := hB7.trans (hb8.mono hB7.size); have HB8 := Hid.mk' hB8; clear hb8 hB8))
  all_goals go_wp2
  all_goals (exact bodyPost_ret (v := RV true 0 R) (by simp [results, Tryd.results43, go_sem, r0, r1, r2]) rfl ⟨rfl, by repeat (first | exact HB8.out | refine Below.setCell ?_ (by first | (simp; done) | (simp; omega) | omega) _ | refine Below.drew ?_)⟩)
set_option maxHeartbeats 4000000 in
theorem fromInt_w_32_10 (a A : Int) (A2 : Nat) (R : Int) (w : World)
    (KLo : ∀ w, Hid (Calls Tryd.prog 23 #[.int .u64 a, .int .i64 32] w fun e w' => e = .returned (.int .u64 A) ∧ w = w'))
    (sv : Int) (KSg : ∀ w, Hid (Calls Tryd.prog 87 #[.int .u64 A, .int .i64 32] w fun e w' => e = .returned (.int .i64 sv) ∧ w = w')) (hsv : ¬ sv < 0)
    (hA2 : A = (A2 : Int))
    (hA : A2 < 18446744073709551616) (hR : R = wr_w 0 false A2 0) :
    Calls Tryd.prog 43 #[FSw, .int .u64 a, .int .i64 32, .bool true] w fun e w' => e = .returned (RV true 0 R) ∧ Below w.heap.size w w' := by
  have KO := fun w => Hid.mk' (of_any A2 w hA)
  have KR := fun v w h => Hid.mk' (round_w false false A2 0 v w (Nat.le_trans (bl_le (k := 64) hA) (by decide)) (by omega) (by omega) h)
  have hR' : sg_w false + (rnd 53 11 (-1074) A2 0 false : Nat) = R := by rw [hR]; rfl
  rw [hR'] at KR
  clear hR hR' hA
  subst hA2
  generalize (A2 : Int) = Ai at *
  have hd : decide (sv < 0) = false := decide_eq_false hsv
  clear hsv
  go_enter Tryd.func43, Tryd.ntmps43
  go_wp2_with fail
  refine (KLo _).out.mono ?_
  rintro e w1 ⟨rfl, rfl⟩
  go_wp2_with fail
  refine (KSg _).out.mono ?_
  rintro e w1 ⟨rfl, rfl⟩
  go_upto_region 5 with fail
  refine wp_gen (fun wc => C3 wc w.heap.size (.int .i64 53) (.int .i64 11) (.int .i64 (-1074)) ∧ RZ wc (w.heap.size + 1) ∧ Below w.heap.size w wc) ⟨c3_new.past, r3_mid, ((Below.refl _ _).alloc (Nat.le_refl _) _).alloc (by simp) _⟩ ?_
  clear KLo KSg hd
  rintro wq ⟨cq, rq0, hq⟩
  have HCq := Hid.mk' cq
  have HRq := Hid.mk' rq0
  have HBq := Hid.mk' hq
  obtain ⟨q0, q1, q2⟩ := id cq
  clear cq rq0 hq
  have KV := fun w => Hid.mk' (val_eq R R w rfl)
  go_region_with (first
    | (go_at_call 65; refine (KO _).out.mono ?_; rintro e w6 ⟨⟨v6, rfl, hv6⟩, hb6⟩; have hb6 := undrew hb6; obtain ⟨q0', q1', q2'⟩ := HCq.out.keep hb6; have hr6 := HRq.out.keep hb6; have hB6 := HBq.out.trans (hb6.mono HBq.out.size); clear hb6)
    | (go_at_call 30; refine (KR _ _ hv6).out.mono ?_; rintro e w7 ⟨rfl, hb7⟩; have hr7 := R3.keep hr6 hb7; have hB7 := hB6.trans (hb7.mono hB6.size); clear hb7)
    | (go_at_call 27; refine (KV _).out.mono ?_; rintro e w8 ⟨rfl, hb8⟩; obtain ⟨⟨r0, r1, r2⟩, v0, v1, v2⟩ := R3.keep hr7 hb8; have hB8 := hB7.trans (hb8.mono hB7.size); have HB8 := Hid.mk' hB8; clear hb8 hB8))
  all_goals go_wp2
  all_goals (exact bodyPost_ret (v := RV true 0 R) (by simp [results, Tryd.results43, go_sem, r0, r1, r2]) rfl ⟨rfl, by repeat (first | exact HB8.out | refine Below.setCell ?_ (by first | (simp; done) | (simp; omega) | omega) _ | refine Below.drew ?_)⟩)
set_option maxHeartbeats 4000000 in
theorem fromInt_w_32_11 (a A : Int) (A2 : Nat) (R : Int) (w : World)
    (KLo : ∀ w, Hid (Calls Tryd.prog 23 #[.int .u64 a, .int .i64 32] w fun e w' => e = .returned (.int .u64 A) ∧ w = w'))
    (sv : Int) (KSg : ∀ w, Hid (Calls Tryd.prog 87 #[.int .u64 A, .int .i64 32] w fun e w' => e = .returned (.int .i64 sv) ∧ w = w')) (hsv : sv < 0)
    (KLo2 : ∀ w, Hid (Calls Tryd.prog 23 #[.int .u64 (IntKind.u64.wrap (-A)), .int .i64 32] w fun e w' => e = .returned (.int .u64 (A2 : Int)) ∧ w = w'))
    (hA : A2 < 18446744073709551616) (hR : R = wr_w 0 true A2 0) :
    Calls Tryd.prog 43 #[FSw, .int .u64 a, .int .i64 32, .bool true] w fun e w' => e = .returned (RV true 0 R) ∧ Below w.heap.size w w' := by
  have KO := fun w => Hid.mk' (of_any A2 w hA)
  have KR := fun v w h => Hid.mk' (round_w true false A2 0 v w (Nat.le_trans (bl_le (k := 64) hA) (by decide)) (by omega) (by omega) h)
  have hR' : sg_w true + (rnd 53 11 (-1074) A2 0 false : Nat) = R := by rw [hR]; rfl
  rw [hR'] at KR
  clear hR hR' hA

  generalize (A2 : Int) = Ai at *

  go_enter Tryd.func43, Tryd.ntmps43
  go_wp2_with fail
  refine (KLo _).out.mono ?_
  rintro e w1 ⟨rfl, rfl⟩
  go_wp2_with fail
  refine (KSg _).out.mono ?_
  rintro e w1 ⟨rfl, rfl⟩
  go_wp2_with fail
  refine (KLo2 _).out.mono ?_
  rintro e w1 ⟨rfl, rfl⟩
  go_upto_region 5 with fail
  refine wp_gen (fun wc => C3 wc w.heap.size (.int .i64 53) (.int .i64 11) (.int .i64 (-1074)) ∧ RZ wc (w.heap.size + 1) ∧ Below w.heap.size w wc) ⟨c3_new.past, r3_mid, ((Below.refl _ _).alloc (Nat.le_refl _) _).alloc (by simp) _⟩ ?_
  clear KLo KSg hsv KLo2
  rintro wq ⟨cq, rq0, hq⟩
  have HCq := Hid.mk' cq
  have HRq := Hid.mk' rq0
  have HBq := Hid.mk' hq
  obtain ⟨q0, q1, q2⟩ := id cq
  clear cq rq0 hq
  have KV := fun w => Hid.mk' (val_eq R R w rfl)
  go_region_with (first
    | (go_at_call 65; refine (KO _).out.mono ?_; rintro e w6 ⟨⟨v6, rfl, hv6⟩, hb6⟩; have hb6 := undrew hb6; obtain ⟨q0', q1', q2'⟩ := HCq.out.keep hb6; have hr6 := HRq.out.keep hb6; have hB6 := HBq.out.trans (hb6.mono HBq.out.size); clear hb6)
    | (go_at_call 30; refine (KR _ _ hv6).out.mono ?_; rintro e w7 ⟨rfl, hb7⟩; have hr7 := R3.keep hr6 hb7; have hB7 := hB6.trans (hb7.mono hB6.size); clear hb7)
    | (go_at_call 27; refine (KV _).out.mono ?_; rintro e w8 ⟨rfl, hb8⟩; obtain ⟨⟨r0, r1, r2⟩, v0, v1, v2⟩ := R3.keep hr7 hb8; have hB8 := hB7.trans (hb8.mono hB7.size); have HB8 := Hid.mk' hB8; clear hb8 hB8))
  all_goals go_wp2
  all_goals (exact bodyPost_ret (v := RV true 0 R) (by simp [results, Tryd.results43, go_sem, r0, r1, r2]) rfl ⟨rfl, by repeat (first | exact HB8.out | refine Below.setCell ?_ (by first | (simp; done) | (simp; omega) | omega) _ | refine Below.drew ?_)⟩)
end Go.Proofs.YthmppcfhbbjhlaaDoor
