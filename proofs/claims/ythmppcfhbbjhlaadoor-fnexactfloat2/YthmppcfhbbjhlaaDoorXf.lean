import Derived.Test.YthmppcfhbbjhlaaDoorXs
import Derived.Test.YthmppcfhbbjhlaaDoorFo
import Derived.Deep.RegionHeld3
import Derived.Test.YthmppcfhbbjhlaaDoorIvp
import Derived.Test.YthmppcfhbbjhlaaDoorRm
set_option linter.all false
namespace Go.Proofs.YthmppcfhbbjhlaaDoor
open Go.RowKit Go.Sort

set_option maxHeartbeats 8000000 in
set_option maxRecDepth 100000 in
theorem bool_any (b : Bool) (w : World) : Calls Tryd.prog 89 #[.bool b] w fun e w' => e = .returned (RV true 0 (if b then 1 else 0)) ∧ Below w.heap.size w w' := by
  cases b
  all_goals (
    go_enter Tryd.func89, Tryd.ntmps89
    go_wp2_with fail
    refine (val_eq _ _ _ rfl).mono ?_
    rintro e w1 ⟨rfl, hb⟩
    obtain ⟨⟨r0, r1, r2⟩, v0, v1, v2⟩ := r3_new.keep hb
    have HB := Hid.mk' (below_box hb)
    clear hb
    go_wp2
    exact bodyPost_ret (v := RV true 0 _) (by simp [results, Tryd.results89, go_sem, r0, r1, r2]) rfl ⟨rfl, by repeat (first | exact HB.out | refine Below.setCell ?_ (by first | (simp; done) | (simp; omega) | omega) _)⟩)
theorem r3_third {w : World} {a b c : Value} {t : TypeId} {o o' : Obj} : R3 (((w.alloc o).alloc o').alloc (.cells #[a, b, c] t)) (w.heap.size + 1 + 1) a b c := by
  have h := r3_new (w := (w.alloc o).alloc o') (a := a) (b := b) (c := c) (t := t)
  simpa using h
set_option maxHeartbeats 8000000 in
set_option maxRecDepth 100000 in
theorem te_na (k k2 : Int) (g1 g2 : Bool) (v1 v2 : Value) (x1 x2 : Int) (s1 s2 : Nat) (R : Int) (w : World) (hS1 : SN w v1 s1) (hS2 : SN w v2 s2) (KB : ∀ w, Hid (Calls Tryd.prog 89 #[.bool (k == 1)] w fun e w' => e = .returned (RV true 0 R) ∧ Below w.heap.size w w')) :
    Calls Tryd.prog 46 #[.int .i64 k, SV 2 g1 v1 x1, SV k2 g2 v2 x2] w fun e w' => e = .returned (RV true 0 R) ∧ Below w.heap.size w w' := by
  go_enter Tryd.func46, Tryd.ntmps46
  go_upto_region 1 with fail
  refine wp_gen (fun wz => C4 wz w.heap.size (.int .i64 2) (.bool g1) v1 (.int .i64 x1) ∧ C4 wz (w.heap.size + 1) (.int .i64 k2) (.bool g2) v2 (.int .i64 x2) ∧ SN wz v1 s1 ∧ SN wz v2 s2 ∧ RZ wz (w.heap.size + 1 + 1) ∧ Below w.heap.size w wz) ⟨c4_new.past.past, c4_mid.past, hS1.below ((((Below.refl _ _).alloc (Nat.le_refl _) _).alloc (by simp) _).alloc (by simp; omega) _), hS2.below ((((Below.refl _ _).alloc (Nat.le_refl _) _).alloc (by simp) _).alloc (by simp; omega) _), r3_third, ((((Below.refl _ _).alloc (Nat.le_refl _) _).alloc (by simp) _).alloc (by simp; omega) _)⟩ ?_
  rintro w1 ⟨ca, cb, hs1, hs2, hr, hb⟩
  have CA := Hid.mk' ca
  have CB := Hid.mk' cb
  have H1 := Hid.mk' hs1
  have H2 := Hid.mk' hs2
  have HR := Hid.mk' hr
  have HB := Hid.mk' hb
  obtain ⟨⟨r0, r1, r2⟩, t0, t1, t2⟩ := id hr
  clear hr
  clear ca cb hs1 hs2 hb hS1 hS2
  obtain ⟨a0, a1, a2, a3⟩ := CA.out
  obtain ⟨b0, b1, b2, b3⟩ := CB.out
  go_wp2_with (first | (go_at_call 89; refine (KB _).out.mono ?_; rintro e w6 ⟨rfl, hb⟩; have HR := Hid.mk' (HR.out.keep hb); clear r0 r1 r2 t0 t1 t2; obtain ⟨⟨r0, r1, r2⟩, t0, t1, t2⟩ := HR.out; have CA := Hid.mk' (CA.out.keep hb); have CB := Hid.mk' (CB.out.keep hb); have H1 := Hid.mk' (H1.out.below hb); have H2 := Hid.mk' (H2.out.below hb); have HB := Hid.mk' (HB.out.trans (hb.mono HB.out.size)); clear a0 a1 a2 a3 b0 b1 b2 b3; obtain ⟨a0, a1, a2, a3⟩ := CA.out; obtain ⟨b0, b1, b2, b3⟩ := CB.out; clear hb))
  exact bodyPost_ret (v := RV true 0 R) (by simp [results, Tryd.results46, go_sem, r0, r1, r2]) rfl ⟨rfl, by repeat (first | exact HB.out | refine Below.setCell ?_ (by first | (simp; done) | (simp; omega) | omega) _)⟩
set_option maxHeartbeats 8000000 in
set_option maxRecDepth 100000 in
theorem te_nb (k k1 : Int) (g1 g2 : Bool) (v1 v2 : Value) (x1 x2 : Int) (s1 s2 : Nat) (R : Int) (w : World) (hS1 : SN w v1 s1) (hS2 : SN w v2 s2) (hk : (k1 == 2) = false) (KB : ∀ w, Hid (Calls Tryd.prog 89 #[.bool (k == 1)] w fun e w' => e = .returned (RV true 0 R) ∧ Below w.heap.size w w')) :
    Calls Tryd.prog 46 #[.int .i64 k, SV k1 g1 v1 x1, SV 2 g2 v2 x2] w fun e w' => e = .returned (RV true 0 R) ∧ Below w.heap.size w w' := by
  go_enter Tryd.func46, Tryd.ntmps46
  go_upto_region 1 with fail
  refine wp_gen (fun wz => C4 wz w.heap.size (.int .i64 k1) (.bool g1) v1 (.int .i64 x1) ∧ C4 wz (w.heap.size + 1) (.int .i64 2) (.bool g2) v2 (.int .i64 x2) ∧ SN wz v1 s1 ∧ SN wz v2 s2 ∧ RZ wz (w.heap.size + 1 + 1) ∧ Below w.heap.size w wz) ⟨c4_new.past.past, c4_mid.past, hS1.below ((((Below.refl _ _).alloc (Nat.le_refl _) _).alloc (by simp) _).alloc (by simp; omega) _), hS2.below ((((Below.refl _ _).alloc (Nat.le_refl _) _).alloc (by simp) _).alloc (by simp; omega) _), r3_third, ((((Below.refl _ _).alloc (Nat.le_refl _) _).alloc (by simp) _).alloc (by simp; omega) _)⟩ ?_
  rintro w1 ⟨ca, cb, hs1, hs2, hr, hb⟩
  have CA := Hid.mk' ca
  have CB := Hid.mk' cb
  have H1 := Hid.mk' hs1
  have H2 := Hid.mk' hs2
  have HR := Hid.mk' hr
  have HB := Hid.mk' hb
  obtain ⟨⟨r0, r1, r2⟩, t0, t1, t2⟩ := id hr
  clear hr
  clear ca cb hs1 hs2 hb hS1 hS2
  obtain ⟨a0, a1, a2, a3⟩ := CA.out
  obtain ⟨b0, b1, b2, b3⟩ := CB.out
  go_wp2_with (first | (go_at_call 89; refine (KB _).out.mono ?_; rintro e w6 ⟨rfl, hb⟩; have HR := Hid.mk' (HR.out.keep hb); clear r0 r1 r2 t0 t1 t2; obtain ⟨⟨r0, r1, r2⟩, t0, t1, t2⟩ := HR.out; have CA := Hid.mk' (CA.out.keep hb); have CB := Hid.mk' (CB.out.keep hb); have H1 := Hid.mk' (H1.out.below hb); have H2 := Hid.mk' (H2.out.below hb); have HB := Hid.mk' (HB.out.trans (hb.mono HB.out.size)); clear a0 a1 a2 a3 b0 b1 b2 b3; obtain ⟨a0, a1, a2, a3⟩ := CA.out; obtain ⟨b0, b1, b2, b3⟩ := CB.out; clear hb))
  exact bodyPost_ret (v := RV true 0 R) (by simp [results, Tryd.results46, go_sem, r0, r1, r2]) rfl ⟨rfl, by repeat (first | exact HB.out | refine Below.setCell ?_ (by first | (simp; done) | (simp; omega) | omega) _)⟩
set_option maxHeartbeats 8000000 in
set_option maxRecDepth 100000 in
theorem te_0 (k1 k2 : Int) (l1 l2 : Bool) (g1 g2 : Bool) (v1 v2 : Value) (x1 x2 : Int) (s1 s2 : Nat) (R : Int) (w : World) (hS1 : SN w v1 s1) (hS2 : SN w v2 s2) (hk1 : (k1 == 2) = false) (hk2 : (k2 == 2) = false) (KL1 : ∀ w, SN w v1 s1 → SN w v2 s2 → Hid (Calls Tryd.prog 90 #[SV k1 g1 v1 x1, SV k2 g2 v2 x2] w fun e w' => e = .returned (.bool l1) ∧ Below w.heap.size w w')) (KL2 : ∀ w, SN w v1 s1 → SN w v2 s2 → Hid (Calls Tryd.prog 90 #[SV k2 g2 v2 x2, SV k1 g1 v1 x1] w fun e w' => e = .returned (.bool l2) ∧ Below w.heap.size w w')) (KB : ∀ w, Hid (Calls Tryd.prog 89 #[.bool (!l1 && !l2)] w fun e w' => e = .returned (RV true 0 R) ∧ Below w.heap.size w w')) :
    Calls Tryd.prog 46 #[.int .i64 0, SV k1 g1 v1 x1, SV k2 g2 v2 x2] w fun e w' => e = .returned (RV true 0 R) ∧ Below w.heap.size w w' := by
  cases l1
  all_goals (
    cases l2
    all_goals (
      go_enter Tryd.func46, Tryd.ntmps46
      go_upto_region 1 with fail
      refine wp_gen (fun wz => C4 wz w.heap.size (.int .i64 k1) (.bool g1) v1 (.int .i64 x1) ∧ C4 wz (w.heap.size + 1) (.int .i64 k2) (.bool g2) v2 (.int .i64 x2) ∧ SN wz v1 s1 ∧ SN wz v2 s2 ∧ RZ wz (w.heap.size + 1 + 1) ∧ Below w.heap.size w wz) ⟨c4_new.past.past, c4_mid.past, hS1.below ((((Below.refl _ _).alloc (Nat.le_refl _) _).alloc (by simp) _).alloc (by simp; omega) _), hS2.below ((((Below.refl _ _).alloc (Nat.le_refl _) _).alloc (by simp) _).alloc (by simp; omega) _), r3_third, ((((Below.refl _ _).alloc (Nat.le_refl _) _).alloc (by simp) _).alloc (by simp; omega) _)⟩ ?_
      rintro w1 ⟨ca, cb, hs1, hs2, hr, hb⟩
      have CA := Hid.mk' ca
      have CB := Hid.mk' cb
      have H1 := Hid.mk' hs1
      have H2 := Hid.mk' hs2
      have HR := Hid.mk' hr
      have HB := Hid.mk' hb
      obtain ⟨⟨r0, r1, r2⟩, t0, t1, t2⟩ := id hr
      clear hr
      clear ca cb hs1 hs2 hb hS1 hS2
      obtain ⟨a0, a1, a2, a3⟩ := CA.out
      obtain ⟨b0, b1, b2, b3⟩ := CB.out
      go_wp2_with (first | (go_at_call 90; (first | (with_reducible refine (KL1 _ H1.out H2.out).out.mono ?_) | (with_reducible refine (KL2 _ H1.out H2.out).out.mono ?_)); rintro e w6 ⟨rfl, hb⟩; have HR := Hid.mk' (HR.out.keep hb); clear r0 r1 r2 t0 t1 t2; obtain ⟨⟨r0, r1, r2⟩, t0, t1, t2⟩ := HR.out; have CA := Hid.mk' (CA.out.keep hb); have CB := Hid.mk' (CB.out.keep hb); have H1 := Hid.mk' (H1.out.below hb); have H2 := Hid.mk' (H2.out.below hb); have HB := Hid.mk' (HB.out.trans (hb.mono HB.out.size)); clear a0 a1 a2 a3 b0 b1 b2 b3; obtain ⟨a0, a1, a2, a3⟩ := CA.out; obtain ⟨b0, b1, b2, b3⟩ := CB.out; clear hb) | (go_at_call 89; refine (KB _).out.mono ?_; rintro e w6 ⟨rfl, hb⟩; have HR := Hid.mk' (HR.out.keep hb); clear r0 r1 r2 t0 t1 t2; obtain ⟨⟨r0, r1, r2⟩, t0, t1, t2⟩ := HR.out; have CA := Hid.mk' (CA.out.keep hb); have CB := Hid.mk' (CB.out.keep hb); have H1 := Hid.mk' (H1.out.below hb); have H2 := Hid.mk' (H2.out.below hb); have HB := Hid.mk' (HB.out.trans (hb.mono HB.out.size)); clear a0 a1 a2 a3 b0 b1 b2 b3; obtain ⟨a0, a1, a2, a3⟩ := CA.out; obtain ⟨b0, b1, b2, b3⟩ := CB.out; clear hb))
      exact bodyPost_ret (v := RV true 0 R) (by simp [results, Tryd.results46, go_sem, r0, r1, r2]) rfl ⟨rfl, by repeat (first | exact HB.out | refine Below.setCell ?_ (by first | (simp; done) | (simp; omega) | omega) _)⟩))
set_option maxHeartbeats 8000000 in
set_option maxRecDepth 100000 in
theorem te_1 (k1 k2 : Int) (l1 l2 : Bool) (g1 g2 : Bool) (v1 v2 : Value) (x1 x2 : Int) (s1 s2 : Nat) (R : Int) (w : World) (hS1 : SN w v1 s1) (hS2 : SN w v2 s2) (hk1 : (k1 == 2) = false) (hk2 : (k2 == 2) = false) (KL1 : ∀ w, SN w v1 s1 → SN w v2 s2 → Hid (Calls Tryd.prog 90 #[SV k1 g1 v1 x1, SV k2 g2 v2 x2] w fun e w' => e = .returned (.bool l1) ∧ Below w.heap.size w w')) (KL2 : ∀ w, SN w v1 s1 → SN w v2 s2 → Hid (Calls Tryd.prog 90 #[SV k2 g2 v2 x2, SV k1 g1 v1 x1] w fun e w' => e = .returned (.bool l2) ∧ Below w.heap.size w w')) (KB : ∀ w, Hid (Calls Tryd.prog 89 #[.bool (l1 || l2)] w fun e w' => e = .returned (RV true 0 R) ∧ Below w.heap.size w w')) :
    Calls Tryd.prog 46 #[.int .i64 1, SV k1 g1 v1 x1, SV k2 g2 v2 x2] w fun e w' => e = .returned (RV true 0 R) ∧ Below w.heap.size w w' := by
  cases l1
  all_goals (
    cases l2
    all_goals (
      go_enter Tryd.func46, Tryd.ntmps46
      go_upto_region 1 with fail
      refine wp_gen (fun wz => C4 wz w.heap.size (.int .i64 k1) (.bool g1) v1 (.int .i64 x1) ∧ C4 wz (w.heap.size + 1) (.int .i64 k2) (.bool g2) v2 (.int .i64 x2) ∧ SN wz v1 s1 ∧ SN wz v2 s2 ∧ RZ wz (w.heap.size + 1 + 1) ∧ Below w.heap.size w wz) ⟨c4_new.past.past, c4_mid.past, hS1.below ((((Below.refl _ _).alloc (Nat.le_refl _) _).alloc (by simp) _).alloc (by simp; omega) _), hS2.below ((((Below.refl _ _).alloc (Nat.le_refl _) _).alloc (by simp) _).alloc (by simp; omega) _), r3_third, ((((Below.refl _ _).alloc (Nat.le_refl _) _).alloc (by simp) _).alloc (by simp; omega) _)⟩ ?_
      rintro w1 ⟨ca, cb, hs1, hs2, hr, hb⟩
      have CA := Hid.mk' ca
      have CB := Hid.mk' cb
      have H1 := Hid.mk' hs1
      have H2 := Hid.mk' hs2
      have HR := Hid.mk' hr
      have HB := Hid.mk' hb
      obtain ⟨⟨r0, r1, r2⟩, t0, t1, t2⟩ := id hr
      clear hr
      clear ca cb hs1 hs2 hb hS1 hS2
      obtain ⟨a0, a1, a2, a3⟩ := CA.out
      obtain ⟨b0, b1, b2, b3⟩ := CB.out
      go_wp2_with (first | (go_at_call 90; (first | (with_reducible refine (KL1 _ H1.out H2.out).out.mono ?_) | (with_reducible refine (KL2 _ H1.out H2.out).out.mono ?_)); rintro e w6 ⟨rfl, hb⟩; have HR := Hid.mk' (HR.out.keep hb); clear r0 r1 r2 t0 t1 t2; obtain ⟨⟨r0, r1, r2⟩, t0, t1, t2⟩ := HR.out; have CA := Hid.mk' (CA.out.keep hb); have CB := Hid.mk' (CB.out.keep hb); have H1 := Hid.mk' (H1.out.below hb); have H2 := Hid.mk' (H2.out.below hb); have HB := Hid.mk' (HB.out.trans (hb.mono HB.out.size)); clear a0 a1 a2 a3 b0 b1 b2 b3; obtain ⟨a0, a1, a2, a3⟩ := CA.out; obtain ⟨b0, b1, b2, b3⟩ := CB.out; clear hb) | (go_at_call 89; refine (KB _).out.mono ?_; rintro e w6 ⟨rfl, hb⟩; have HR := Hid.mk' (HR.out.keep hb); clear r0 r1 r2 t0 t1 t2; obtain ⟨⟨r0, r1, r2⟩, t0, t1, t2⟩ := HR.out; have CA := Hid.mk' (CA.out.keep hb); have CB := Hid.mk' (CB.out.keep hb); have H1 := Hid.mk' (H1.out.below hb); have H2 := Hid.mk' (H2.out.below hb); have HB := Hid.mk' (HB.out.trans (hb.mono HB.out.size)); clear a0 a1 a2 a3 b0 b1 b2 b3; obtain ⟨a0, a1, a2, a3⟩ := CA.out; obtain ⟨b0, b1, b2, b3⟩ := CB.out; clear hb))
      exact bodyPost_ret (v := RV true 0 R) (by simp [results, Tryd.results46, go_sem, r0, r1, r2]) rfl ⟨rfl, by repeat (first | exact HB.out | refine Below.setCell ?_ (by first | (simp; done) | (simp; omega) | omega) _)⟩))
set_option maxHeartbeats 8000000 in
set_option maxRecDepth 100000 in
theorem te_2 (k1 k2 : Int) (l1 l2 : Bool) (g1 g2 : Bool) (v1 v2 : Value) (x1 x2 : Int) (s1 s2 : Nat) (R : Int) (w : World) (hS1 : SN w v1 s1) (hS2 : SN w v2 s2) (hk1 : (k1 == 2) = false) (hk2 : (k2 == 2) = false) (KL1 : ∀ w, SN w v1 s1 → SN w v2 s2 → Hid (Calls Tryd.prog 90 #[SV k1 g1 v1 x1, SV k2 g2 v2 x2] w fun e w' => e = .returned (.bool l1) ∧ Below w.heap.size w w')) (KL2 : ∀ w, SN w v1 s1 → SN w v2 s2 → Hid (Calls Tryd.prog 90 #[SV k2 g2 v2 x2, SV k1 g1 v1 x1] w fun e w' => e = .returned (.bool l2) ∧ Below w.heap.size w w')) (KB : ∀ w, Hid (Calls Tryd.prog 89 #[.bool l1] w fun e w' => e = .returned (RV true 0 R) ∧ Below w.heap.size w w')) :
    Calls Tryd.prog 46 #[.int .i64 2, SV k1 g1 v1 x1, SV k2 g2 v2 x2] w fun e w' => e = .returned (RV true 0 R) ∧ Below w.heap.size w w' := by
  cases l1
  all_goals (
    cases l2
    all_goals (
      go_enter Tryd.func46, Tryd.ntmps46
      go_upto_region 1 with fail
      refine wp_gen (fun wz => C4 wz w.heap.size (.int .i64 k1) (.bool g1) v1 (.int .i64 x1) ∧ C4 wz (w.heap.size + 1) (.int .i64 k2) (.bool g2) v2 (.int .i64 x2) ∧ SN wz v1 s1 ∧ SN wz v2 s2 ∧ RZ wz (w.heap.size + 1 + 1) ∧ Below w.heap.size w wz) ⟨c4_new.past.past, c4_mid.past, hS1.below ((((Below.refl _ _).alloc (Nat.le_refl _) _).alloc (by simp) _).alloc (by simp; omega) _), hS2.below ((((Below.refl _ _).alloc (Nat.le_refl _) _).alloc (by simp) _).alloc (by simp; omega) _), r3_third, ((((Below.refl _ _).alloc (Nat.le_refl _) _).alloc (by simp) _).alloc (by simp; omega) _)⟩ ?_
      rintro w1 ⟨ca, cb, hs1, hs2, hr, hb⟩
      have CA := Hid.mk' ca
      have CB := Hid.mk' cb
      have H1 := Hid.mk' hs1
      have H2 := Hid.mk' hs2
      have HR := Hid.mk' hr
      have HB := Hid.mk' hb
      obtain ⟨⟨r0, r1, r2⟩, t0, t1, t2⟩ := id hr
      clear hr
      clear ca cb hs1 hs2 hb hS1 hS2
      obtain ⟨a0, a1, a2, a3⟩ := CA.out
      obtain ⟨b0, b1, b2, b3⟩ := CB.out
      go_wp2_with (first | (go_at_call 90; (first | (with_reducible refine (KL1 _ H1.out H2.out).out.mono ?_) | (with_reducible refine (KL2 _ H1.out H2.out).out.mono ?_)); rintro e w6 ⟨rfl, hb⟩; have HR := Hid.mk' (HR.out.keep hb); clear r0 r1 r2 t0 t1 t2; obtain ⟨⟨r0, r1, r2⟩, t0, t1, t2⟩ := HR.out; have CA := Hid.mk' (CA.out.keep hb); have CB := Hid.mk' (CB.out.keep hb); have H1 := Hid.mk' (H1.out.below hb); have H2 := Hid.mk' (H2.out.below hb); have HB := Hid.mk' (HB.out.trans (hb.mono HB.out.size)); clear a0 a1 a2 a3 b0 b1 b2 b3; obtain ⟨a0, a1, a2, a3⟩ := CA.out; obtain ⟨b0, b1, b2, b3⟩ := CB.out; clear hb) | (go_at_call 89; refine (KB _).out.mono ?_; rintro e w6 ⟨rfl, hb⟩; have HR := Hid.mk' (HR.out.keep hb); clear r0 r1 r2 t0 t1 t2; obtain ⟨⟨r0, r1, r2⟩, t0, t1, t2⟩ := HR.out; have CA := Hid.mk' (CA.out.keep hb); have CB := Hid.mk' (CB.out.keep hb); have H1 := Hid.mk' (H1.out.below hb); have H2 := Hid.mk' (H2.out.below hb); have HB := Hid.mk' (HB.out.trans (hb.mono HB.out.size)); clear a0 a1 a2 a3 b0 b1 b2 b3; obtain ⟨a0, a1, a2, a3⟩ := CA.out; obtain ⟨b0, b1, b2, b3⟩ := CB.out; clear hb))
      exact bodyPost_ret (v := RV true 0 R) (by simp [results, Tryd.results46, go_sem, r0, r1, r2]) rfl ⟨rfl, by repeat (first | exact HB.out | refine Below.setCell ?_ (by first | (simp; done) | (simp; omega) | omega) _)⟩))
set_option maxHeartbeats 8000000 in
set_option maxRecDepth 100000 in
theorem te_3 (k1 k2 : Int) (l1 l2 : Bool) (g1 g2 : Bool) (v1 v2 : Value) (x1 x2 : Int) (s1 s2 : Nat) (R : Int) (w : World) (hS1 : SN w v1 s1) (hS2 : SN w v2 s2) (hk1 : (k1 == 2) = false) (hk2 : (k2 == 2) = false) (KL1 : ∀ w, SN w v1 s1 → SN w v2 s2 → Hid (Calls Tryd.prog 90 #[SV k1 g1 v1 x1, SV k2 g2 v2 x2] w fun e w' => e = .returned (.bool l1) ∧ Below w.heap.size w w')) (KL2 : ∀ w, SN w v1 s1 → SN w v2 s2 → Hid (Calls Tryd.prog 90 #[SV k2 g2 v2 x2, SV k1 g1 v1 x1] w fun e w' => e = .returned (.bool l2) ∧ Below w.heap.size w w')) (KB : ∀ w, Hid (Calls Tryd.prog 89 #[.bool l2] w fun e w' => e = .returned (RV true 0 R) ∧ Below w.heap.size w w')) :
    Calls Tryd.prog 46 #[.int .i64 3, SV k1 g1 v1 x1, SV k2 g2 v2 x2] w fun e w' => e = .returned (RV true 0 R) ∧ Below w.heap.size w w' := by
  cases l1
  all_goals (
    cases l2
    all_goals (
      go_enter Tryd.func46, Tryd.ntmps46
      go_upto_region 1 with fail
      refine wp_gen (fun wz => C4 wz w.heap.size (.int .i64 k1) (.bool g1) v1 (.int .i64 x1) ∧ C4 wz (w.heap.size + 1) (.int .i64 k2) (.bool g2) v2 (.int .i64 x2) ∧ SN wz v1 s1 ∧ SN wz v2 s2 ∧ RZ wz (w.heap.size + 1 + 1) ∧ Below w.heap.size w wz) ⟨c4_new.past.past, c4_mid.past, hS1.below ((((Below.refl _ _).alloc (Nat.le_refl _) _).alloc (by simp) _).alloc (by simp; omega) _), hS2.below ((((Below.refl _ _).alloc (Nat.le_refl _) _).alloc (by simp) _).alloc (by simp; omega) _), r3_third, ((((Below.refl _ _).alloc (Nat.le_refl _) _).alloc (by simp) _).alloc (by simp; omega) _)⟩ ?_
      rintro w1 ⟨ca, cb, hs1, hs2, hr, hb⟩
      have CA := Hid.mk' ca
      have CB := Hid.mk' cb
      have H1 := Hid.mk' hs1
      have H2 := Hid.mk' hs2
      have HR := Hid.mk' hr
      have HB := Hid.mk' hb
      obtain ⟨⟨r0, r1, r2⟩, t0, t1, t2⟩ := id hr
      clear hr
      clear ca cb hs1 hs2 hb hS1 hS2
      obtain ⟨a0, a1, a2, a3⟩ := CA.out
      obtain ⟨b0, b1, b2, b3⟩ := CB.out
      go_wp2_with (first | (go_at_call 90; (first | (with_reducible refine (KL1 _ H1.out H2.out).out.mono ?_) | (with_reducible refine (KL2 _ H1.out H2.out).out.mono ?_)); rintro e w6 ⟨rfl, hb⟩; have HR := Hid.mk' (HR.out.keep hb); clear r0 r1 r2 t0 t1 t2; obtain ⟨⟨r0, r1, r2⟩, t0, t1, t2⟩ := HR.out; have CA := Hid.mk' (CA.out.keep hb); have CB := Hid.mk' (CB.out.keep hb); have H1 := Hid.mk' (H1.out.below hb); have H2 := Hid.mk' (H2.out.below hb); have HB := Hid.mk' (HB.out.trans (hb.mono HB.out.size)); clear a0 a1 a2 a3 b0 b1 b2 b3; obtain ⟨a0, a1, a2, a3⟩ := CA.out; obtain ⟨b0, b1, b2, b3⟩ := CB.out; clear hb) | (go_at_call 89; refine (KB _).out.mono ?_; rintro e w6 ⟨rfl, hb⟩; have HR := Hid.mk' (HR.out.keep hb); clear r0 r1 r2 t0 t1 t2; obtain ⟨⟨r0, r1, r2⟩, t0, t1, t2⟩ := HR.out; have CA := Hid.mk' (CA.out.keep hb); have CB := Hid.mk' (CB.out.keep hb); have H1 := Hid.mk' (H1.out.below hb); have H2 := Hid.mk' (H2.out.below hb); have HB := Hid.mk' (HB.out.trans (hb.mono HB.out.size)); clear a0 a1 a2 a3 b0 b1 b2 b3; obtain ⟨a0, a1, a2, a3⟩ := CA.out; obtain ⟨b0, b1, b2, b3⟩ := CB.out; clear hb))
      exact bodyPost_ret (v := RV true 0 R) (by simp [results, Tryd.results46, go_sem, r0, r1, r2]) rfl ⟨rfl, by repeat (first | exact HB.out | refine Below.setCell ?_ (by first | (simp; done) | (simp; omega) | omega) _)⟩))
set_option maxHeartbeats 8000000 in
set_option maxRecDepth 100000 in
theorem te_4 (k1 k2 : Int) (l1 l2 : Bool) (g1 g2 : Bool) (v1 v2 : Value) (x1 x2 : Int) (s1 s2 : Nat) (R : Int) (w : World) (hS1 : SN w v1 s1) (hS2 : SN w v2 s2) (hk1 : (k1 == 2) = false) (hk2 : (k2 == 2) = false) (KL1 : ∀ w, SN w v1 s1 → SN w v2 s2 → Hid (Calls Tryd.prog 90 #[SV k1 g1 v1 x1, SV k2 g2 v2 x2] w fun e w' => e = .returned (.bool l1) ∧ Below w.heap.size w w')) (KL2 : ∀ w, SN w v1 s1 → SN w v2 s2 → Hid (Calls Tryd.prog 90 #[SV k2 g2 v2 x2, SV k1 g1 v1 x1] w fun e w' => e = .returned (.bool l2) ∧ Below w.heap.size w w')) (KB : ∀ w, Hid (Calls Tryd.prog 89 #[.bool (!l2)] w fun e w' => e = .returned (RV true 0 R) ∧ Below w.heap.size w w')) :
    Calls Tryd.prog 46 #[.int .i64 4, SV k1 g1 v1 x1, SV k2 g2 v2 x2] w fun e w' => e = .returned (RV true 0 R) ∧ Below w.heap.size w w' := by
  cases l1
  all_goals (
    cases l2
    all_goals (
      go_enter Tryd.func46, Tryd.ntmps46
      go_upto_region 1 with fail
      refine wp_gen (fun wz => C4 wz w.heap.size (.int .i64 k1) (.bool g1) v1 (.int .i64 x1) ∧ C4 wz (w.heap.size + 1) (.int .i64 k2) (.bool g2) v2 (.int .i64 x2) ∧ SN wz v1 s1 ∧ SN wz v2 s2 ∧ RZ wz (w.heap.size + 1 + 1) ∧ Below w.heap.size w wz) ⟨c4_new.past.past, c4_mid.past, hS1.below ((((Below.refl _ _).alloc (Nat.le_refl _) _).alloc (by simp) _).alloc (by simp; omega) _), hS2.below ((((Below.refl _ _).alloc (Nat.le_refl _) _).alloc (by simp) _).alloc (by simp; omega) _), r3_third, ((((Below.refl _ _).alloc (Nat.le_refl _) _).alloc (by simp) _).alloc (by simp; omega) _)⟩ ?_
      rintro w1 ⟨ca, cb, hs1, hs2, hr, hb⟩
      have CA := Hid.mk' ca
      have CB := Hid.mk' cb
      have H1 := Hid.mk' hs1
      have H2 := Hid.mk' hs2
      have HR := Hid.mk' hr
      have HB := Hid.mk' hb
      obtain ⟨⟨r0, r1, r2⟩, t0, t1, t2⟩ := id hr
      clear hr
      clear ca cb hs1 hs2 hb hS1 hS2
      obtain ⟨a0, a1, a2, a3⟩ := CA.out
      obtain ⟨b0, b1, b2, b3⟩ := CB.out
      go_wp2_with (first | (go_at_call 90; (first | (with_reducible refine (KL1 _ H1.out H2.out).out.mono ?_) | (with_reducible refine (KL2 _ H1.out H2.out).out.mono ?_)); rintro e w6 ⟨rfl, hb⟩; have HR := Hid.mk' (HR.out.keep hb); clear r0 r1 r2 t0 t1 t2; obtain ⟨⟨r0, r1, r2⟩, t0, t1, t2⟩ := HR.out; have CA := Hid.mk' (CA.out.keep hb); have CB := Hid.mk' (CB.out.keep hb); have H1 := Hid.mk' (H1.out.below hb); have H2 := Hid.mk' (H2.out.below hb); have HB := Hid.mk' (HB.out.trans (hb.mono HB.out.size)); clear a0 a1 a2 a3 b0 b1 b2 b3; obtain ⟨a0, a1, a2, a3⟩ := CA.out; obtain ⟨b0, b1, b2, b3⟩ := CB.out; clear hb) | (go_at_call 89; refine (KB _).out.mono ?_; rintro e w6 ⟨rfl, hb⟩; have HR := Hid.mk' (HR.out.keep hb); clear r0 r1 r2 t0 t1 t2; obtain ⟨⟨r0, r1, r2⟩, t0, t1, t2⟩ := HR.out; have CA := Hid.mk' (CA.out.keep hb); have CB := Hid.mk' (CB.out.keep hb); have H1 := Hid.mk' (H1.out.below hb); have H2 := Hid.mk' (H2.out.below hb); have HB := Hid.mk' (HB.out.trans (hb.mono HB.out.size)); clear a0 a1 a2 a3 b0 b1 b2 b3; obtain ⟨a0, a1, a2, a3⟩ := CA.out; obtain ⟨b0, b1, b2, b3⟩ := CB.out; clear hb))
      exact bodyPost_ret (v := RV true 0 R) (by simp [results, Tryd.results46, go_sem, r0, r1, r2]) rfl ⟨rfl, by repeat (first | exact HB.out | refine Below.setCell ?_ (by first | (simp; done) | (simp; omega) | omega) _)⟩))
set_option maxHeartbeats 8000000 in
set_option maxRecDepth 100000 in
theorem te_5 (k1 k2 : Int) (l1 l2 : Bool) (g1 g2 : Bool) (v1 v2 : Value) (x1 x2 : Int) (s1 s2 : Nat) (R : Int) (w : World) (hS1 : SN w v1 s1) (hS2 : SN w v2 s2) (hk1 : (k1 == 2) = false) (hk2 : (k2 == 2) = false) (KL1 : ∀ w, SN w v1 s1 → SN w v2 s2 → Hid (Calls Tryd.prog 90 #[SV k1 g1 v1 x1, SV k2 g2 v2 x2] w fun e w' => e = .returned (.bool l1) ∧ Below w.heap.size w w')) (KL2 : ∀ w, SN w v1 s1 → SN w v2 s2 → Hid (Calls Tryd.prog 90 #[SV k2 g2 v2 x2, SV k1 g1 v1 x1] w fun e w' => e = .returned (.bool l2) ∧ Below w.heap.size w w')) (KB : ∀ w, Hid (Calls Tryd.prog 89 #[.bool (!l1)] w fun e w' => e = .returned (RV true 0 R) ∧ Below w.heap.size w w')) :
    Calls Tryd.prog 46 #[.int .i64 5, SV k1 g1 v1 x1, SV k2 g2 v2 x2] w fun e w' => e = .returned (RV true 0 R) ∧ Below w.heap.size w w' := by
  cases l1
  all_goals (
    cases l2
    all_goals (
      go_enter Tryd.func46, Tryd.ntmps46
      go_upto_region 1 with fail
      refine wp_gen (fun wz => C4 wz w.heap.size (.int .i64 k1) (.bool g1) v1 (.int .i64 x1) ∧ C4 wz (w.heap.size + 1) (.int .i64 k2) (.bool g2) v2 (.int .i64 x2) ∧ SN wz v1 s1 ∧ SN wz v2 s2 ∧ RZ wz (w.heap.size + 1 + 1) ∧ Below w.heap.size w wz) ⟨c4_new.past.past, c4_mid.past, hS1.below ((((Below.refl _ _).alloc (Nat.le_refl _) _).alloc (by simp) _).alloc (by simp; omega) _), hS2.below ((((Below.refl _ _).alloc (Nat.le_refl _) _).alloc (by simp) _).alloc (by simp; omega) _), r3_third, ((((Below.refl _ _).alloc (Nat.le_refl _) _).alloc (by simp) _).alloc (by simp; omega) _)⟩ ?_
      rintro w1 ⟨ca, cb, hs1, hs2, hr, hb⟩
      have CA := Hid.mk' ca
      have CB := Hid.mk' cb
      have H1 := Hid.mk' hs1
      have H2 := Hid.mk' hs2
      have HR := Hid.mk' hr
      have HB := Hid.mk' hb
      obtain ⟨⟨r0, r1, r2⟩, t0, t1, t2⟩ := id hr
      clear hr
      clear ca cb hs1 hs2 hb hS1 hS2
      obtain ⟨a0, a1, a2, a3⟩ := CA.out
      obtain ⟨b0, b1, b2, b3⟩ := CB.out
      go_wp2_with (first | (go_at_call 90; (first | (with_reducible refine (KL1 _ H1.out H2.out).out.mono ?_) | (with_reducible refine (KL2 _ H1.out H2.out).out.mono ?_)); rintro e w6 ⟨rfl, hb⟩; have HR := Hid.mk' (HR.out.keep hb); clear r0 r1 r2 t0 t1 t2; obtain ⟨⟨r0, r1, r2⟩, t0, t1, t2⟩ := HR.out; have CA := Hid.mk' (CA.out.keep hb); have CB := Hid.mk' (CB.out.keep hb); have H1 := Hid.mk' (H1.out.below hb); have H2 := Hid.mk' (H2.out.below hb); have HB := Hid.mk' (HB.out.trans (hb.mono HB.out.size)); clear a0 a1 a2 a3 b0 b1 b2 b3; obtain ⟨a0, a1, a2, a3⟩ := CA.out; obtain ⟨b0, b1, b2, b3⟩ := CB.out; clear hb) | (go_at_call 89; refine (KB _).out.mono ?_; rintro e w6 ⟨rfl, hb⟩; have HR := Hid.mk' (HR.out.keep hb); clear r0 r1 r2 t0 t1 t2; obtain ⟨⟨r0, r1, r2⟩, t0, t1, t2⟩ := HR.out; have CA := Hid.mk' (CA.out.keep hb); have CB := Hid.mk' (CB.out.keep hb); have H1 := Hid.mk' (H1.out.below hb); have H2 := Hid.mk' (H2.out.below hb); have HB := Hid.mk' (HB.out.trans (hb.mono HB.out.size)); clear a0 a1 a2 a3 b0 b1 b2 b3; obtain ⟨a0, a1, a2, a3⟩ := CA.out; obtain ⟨b0, b1, b2, b3⟩ := CB.out; clear hb))
      exact bodyPost_ret (v := RV true 0 R) (by simp [results, Tryd.results46, go_sem, r0, r1, r2]) rfl ⟨rfl, by repeat (first | exact HB.out | refine Below.setCell ?_ (by first | (simp; done) | (simp; omega) | omega) _)⟩))
set_option maxHeartbeats 8000000 in
set_option maxRecDepth 100000 in
theorem en_na (k2 : Int) (p e L : Int) (g1 g2 : Bool) (v1 v2 : Value) (x1 x2 : Int) (s1 s2 : Nat) (lg : Bool) (R : Int) (w : World) (hS1 : SN w v1 s1) (hS2 : SN w v2 s2) (KN : ∀ w, Hid (Calls Tryd.prog 67 #[(.agg #[.int .i64 p, .int .i64 e, .int .i64 L])] w fun e w' => e = .returned (.int .u64 R) ∧ Below w.heap.size w w')) :
    Calls Tryd.prog 50 #[(.agg #[.int .i64 p, .int .i64 e, .int .i64 L]), .bool lg, SV 2 g1 v1 x1, SV k2 g2 v2 x2] w fun e w' => e = .returned (.int .u64 R) ∧ Below w.heap.size w w' := by
  go_enter Tryd.func50, Tryd.ntmps50
  go_upto_region 1 with fail
  refine wp_gen (fun wz => C3 wz w.heap.size (.int .i64 p) (.int .i64 e) (.int .i64 L) ∧ C4 wz (w.heap.size + 1) (.int .i64 2) (.bool g1) v1 (.int .i64 x1) ∧ C4 wz (w.heap.size + 1 + 1) (.int .i64 k2) (.bool g2) v2 (.int .i64 x2) ∧ SN wz v1 s1 ∧ SN wz v2 s2 ∧ Below w.heap.size w wz) ⟨c3_new.past.past, c4_mid.past, c4_third, hS1.below ((((Below.refl _ _).alloc (Nat.le_refl _) _).alloc (by simp) _).alloc (by simp; omega) _), hS2.below ((((Below.refl _ _).alloc (Nat.le_refl _) _).alloc (by simp) _).alloc (by simp; omega) _), ((((Below.refl _ _).alloc (Nat.le_refl _) _).alloc (by simp) _).alloc (by simp; omega) _)⟩ ?_
  rintro w1 ⟨cf, ca, cb, hs1, hs2, hb⟩
  have CF := Hid.mk' cf
  have CA := Hid.mk' ca
  have CB := Hid.mk' cb
  have H1 := Hid.mk' hs1
  have H2 := Hid.mk' hs2
  have HB := Hid.mk' hb
  clear cf ca cb hs1 hs2 hb hS1 hS2
  obtain ⟨q0, q1, q2⟩ := CF.out
  obtain ⟨a0, a1, a2, a3⟩ := CA.out
  obtain ⟨b0, b1, b2, b3⟩ := CB.out
  go_wp2_with (first | (go_at_call 67; refine (KN _).out.mono ?_; rintro e w6 ⟨rfl, hb⟩; have CF := Hid.mk' (CF.out.keep hb); have CA := Hid.mk' (CA.out.keep hb); have CB := Hid.mk' (CB.out.keep hb); have H1 := Hid.mk' (H1.out.below hb); have H2 := Hid.mk' (H2.out.below hb); have HB := Hid.mk' (HB.out.trans (hb.mono HB.out.size)); clear q0 q1 q2 a0 a1 a2 a3 b0 b1 b2 b3; obtain ⟨q0, q1, q2⟩ := CF.out; obtain ⟨a0, a1, a2, a3⟩ := CA.out; obtain ⟨b0, b1, b2, b3⟩ := CB.out; clear hb))
  go_ret
  exact ⟨rfl, HB.out⟩
set_option maxHeartbeats 8000000 in
set_option maxRecDepth 100000 in
theorem en_nb (k1 : Int) (p e L : Int) (g1 g2 : Bool) (v1 v2 : Value) (x1 x2 : Int) (s1 s2 : Nat) (lg : Bool) (R : Int) (w : World) (hS1 : SN w v1 s1) (hS2 : SN w v2 s2) (hk : (k1 == 2) = false) (KN : ∀ w, Hid (Calls Tryd.prog 67 #[(.agg #[.int .i64 p, .int .i64 e, .int .i64 L])] w fun e w' => e = .returned (.int .u64 R) ∧ Below w.heap.size w w')) :
    Calls Tryd.prog 50 #[(.agg #[.int .i64 p, .int .i64 e, .int .i64 L]), .bool lg, SV k1 g1 v1 x1, SV 2 g2 v2 x2] w fun e w' => e = .returned (.int .u64 R) ∧ Below w.heap.size w w' := by
  go_enter Tryd.func50, Tryd.ntmps50
  go_upto_region 1 with fail
  refine wp_gen (fun wz => C3 wz w.heap.size (.int .i64 p) (.int .i64 e) (.int .i64 L) ∧ C4 wz (w.heap.size + 1) (.int .i64 k1) (.bool g1) v1 (.int .i64 x1) ∧ C4 wz (w.heap.size + 1 + 1) (.int .i64 2) (.bool g2) v2 (.int .i64 x2) ∧ SN wz v1 s1 ∧ SN wz v2 s2 ∧ Below w.heap.size w wz) ⟨c3_new.past.past, c4_mid.past, c4_third, hS1.below ((((Below.refl _ _).alloc (Nat.le_refl _) _).alloc (by simp) _).alloc (by simp; omega) _), hS2.below ((((Below.refl _ _).alloc (Nat.le_refl _) _).alloc (by simp) _).alloc (by simp; omega) _), ((((Below.refl _ _).alloc (Nat.le_refl _) _).alloc (by simp) _).alloc (by simp; omega) _)⟩ ?_
  rintro w1 ⟨cf, ca, cb, hs1, hs2, hb⟩
  have CF := Hid.mk' cf
  have CA := Hid.mk' ca
  have CB := Hid.mk' cb
  have H1 := Hid.mk' hs1
  have H2 := Hid.mk' hs2
  have HB := Hid.mk' hb
  clear cf ca cb hs1 hs2 hb hS1 hS2
  obtain ⟨q0, q1, q2⟩ := CF.out
  obtain ⟨a0, a1, a2, a3⟩ := CA.out
  obtain ⟨b0, b1, b2, b3⟩ := CB.out
  go_wp2_with (first | (go_at_call 67; refine (KN _).out.mono ?_; rintro e w6 ⟨rfl, hb⟩; have CF := Hid.mk' (CF.out.keep hb); have CA := Hid.mk' (CA.out.keep hb); have CB := Hid.mk' (CB.out.keep hb); have H1 := Hid.mk' (H1.out.below hb); have H2 := Hid.mk' (H2.out.below hb); have HB := Hid.mk' (HB.out.trans (hb.mono HB.out.size)); clear q0 q1 q2 a0 a1 a2 a3 b0 b1 b2 b3; obtain ⟨q0, q1, q2⟩ := CF.out; obtain ⟨a0, a1, a2, a3⟩ := CA.out; obtain ⟨b0, b1, b2, b3⟩ := CB.out; clear hb))
  go_ret
  exact ⟨rfl, HB.out⟩
set_option maxHeartbeats 8000000 in
set_option maxRecDepth 100000 in
theorem en_any (k1 k2 Ra Rb : Int) (l1 l2 : Bool) (p e L : Int) (g1 g2 : Bool) (v1 v2 : Value) (x1 x2 : Int) (s1 s2 : Nat) (lg : Bool) (w : World) (hS1 : SN w v1 s1) (hS2 : SN w v2 s2) (hk1 : (k1 == 2) = false) (hk2 : (k2 == 2) = false) (KL1 : ∀ w, SN w v1 s1 → SN w v2 s2 → Hid (Calls Tryd.prog 90 #[SV k1 g1 v1 x1, SV k2 g2 v2 x2] w fun e w' => e = .returned (.bool l1) ∧ Below w.heap.size w w')) (KL2 : ∀ w, SN w v1 s1 → SN w v2 s2 → Hid (Calls Tryd.prog 90 #[SV k2 g2 v2 x2, SV k1 g1 v1 x1] w fun e w' => e = .returned (.bool l2) ∧ Below w.heap.size w w')) (KW1 : ∀ w, SN w v1 s1 → Hid (Calls Tryd.prog 29 #[(.agg #[.int .i64 p, .int .i64 e, .int .i64 L]), SV k1 g1 v1 x1] w fun e w' => e = .returned (.int .u64 Ra) ∧ Below w.heap.size w w')) (KW2 : ∀ w, SN w v2 s2 → Hid (Calls Tryd.prog 29 #[(.agg #[.int .i64 p, .int .i64 e, .int .i64 L]), SV k2 g2 v2 x2] w fun e w' => e = .returned (.int .u64 Rb) ∧ Below w.heap.size w w')) :
    Calls Tryd.prog 50 #[(.agg #[.int .i64 p, .int .i64 e, .int .i64 L]), .bool lg, SV k1 g1 v1 x1, SV k2 g2 v2 x2] w fun e w' => e = .returned (.int .u64 (if (l1 || (!l2 && g1)) != lg then Ra else Rb)) ∧ Below w.heap.size w w' := by
  cases l1 <;> cases l2 <;> cases g1 <;> cases lg
  all_goals (
    go_enter Tryd.func50, Tryd.ntmps50
    go_upto_region 1 with fail
    refine wp_gen (fun wz => C3 wz w.heap.size (.int .i64 p) (.int .i64 e) (.int .i64 L) ∧ C4 wz (w.heap.size + 1) (.int .i64 k1) (.bool _) v1 (.int .i64 x1) ∧ C4 wz (w.heap.size + 1 + 1) (.int .i64 k2) (.bool g2) v2 (.int .i64 x2) ∧ SN wz v1 s1 ∧ SN wz v2 s2 ∧ Below w.heap.size w wz) ⟨c3_new.past.past, c4_mid.past, c4_third, hS1.below ((((Below.refl _ _).alloc (Nat.le_refl _) _).alloc (by simp) _).alloc (by simp; omega) _), hS2.below ((((Below.refl _ _).alloc (Nat.le_refl _) _).alloc (by simp) _).alloc (by simp; omega) _), ((((Below.refl _ _).alloc (Nat.le_refl _) _).alloc (by simp) _).alloc (by simp; omega) _)⟩ ?_
    rintro w1 ⟨cf, ca, cb, hs1, hs2, hb⟩
    have CF := Hid.mk' cf
    have CA := Hid.mk' ca
    have CB := Hid.mk' cb
    have H1 := Hid.mk' hs1
    have H2 := Hid.mk' hs2
    have HB := Hid.mk' hb
    clear cf ca cb hs1 hs2 hb hS1 hS2
    obtain ⟨q0, q1, q2⟩ := CF.out
    obtain ⟨a0, a1, a2, a3⟩ := CA.out
    obtain ⟨b0, b1, b2, b3⟩ := CB.out
    go_wp2_with (first | (go_at_call 90; (first | (with_reducible refine (KL1 _ H1.out H2.out).out.mono ?_) | (with_reducible refine (KL2 _ H1.out H2.out).out.mono ?_)); rintro e w6 ⟨rfl, hb⟩; have CF := Hid.mk' (CF.out.keep hb); have CA := Hid.mk' (CA.out.keep hb); have CB := Hid.mk' (CB.out.keep hb); have H1 := Hid.mk' (H1.out.below hb); have H2 := Hid.mk' (H2.out.below hb); have HB := Hid.mk' (HB.out.trans (hb.mono HB.out.size)); clear q0 q1 q2 a0 a1 a2 a3 b0 b1 b2 b3; obtain ⟨q0, q1, q2⟩ := CF.out; obtain ⟨a0, a1, a2, a3⟩ := CA.out; obtain ⟨b0, b1, b2, b3⟩ := CB.out; clear hb) | (go_at_call 29; (first | (with_reducible refine (KW1 _ H1.out).out.mono ?_) | (with_reducible refine (KW2 _ H2.out).out.mono ?_)); rintro e w6 ⟨rfl, hb⟩; have CF := Hid.mk' (CF.out.keep hb); have CA := Hid.mk' (CA.out.keep hb); have CB := Hid.mk' (CB.out.keep hb); have H1 := Hid.mk' (H1.out.below hb); have H2 := Hid.mk' (H2.out.below hb); have HB := Hid.mk' (HB.out.trans (hb.mono HB.out.size)); clear q0 q1 q2 a0 a1 a2 a3 b0 b1 b2 b3; obtain ⟨q0, q1, q2⟩ := CF.out; obtain ⟨a0, a1, a2, a3⟩ := CA.out; obtain ⟨b0, b1, b2, b3⟩ := CB.out; clear hb))
    go_ret
    exact ⟨rfl, HB.out⟩)
end Go.Proofs.YthmppcfhbbjhlaaDoor
namespace Go.Proofs.YthmppcfhbbjhlaaDoor
open Go.RowKit Go.Sort

set_option maxHeartbeats 8000000 in
set_option maxRecDepth 100000 in
theorem wht_n (op : Int) (w : World) (ha : 91 ≤ op) (hb : op < 97) (hl : -9223372036854775808 ≤ op) (hr : op ≤ 9223372036854775807) :
    Calls Tryd.prog 22 #[.int .i64 op, .int .i64 91, .int .i64 97, .int .i64 6] w fun e w' => e = .returned (.tuple #[FSn, .int .i64 (op - 91)]) ∧ Below w.heap.size w w' := by
  go_enter Tryd.func22, Tryd.ntmps22
  go_wp2_with fail
  refine (form_n _).mono ?_
  rintro e w1 ⟨rfl, hb⟩
  obtain ⟨⟨r0, r1, r2⟩, v0, v1, v2⟩ := r3_new.keep hb
  have HB := Hid.mk' (below_box hb)
  clear hb
  go_wp2
  exact bodyPost_ret (v := (.tuple #[FSn, .int .i64 (op - 91)])) (by simp [results, Tryd.results22, go_sem, r0, r1, r2]) rfl ⟨rfl, by repeat (first | exact HB.out | refine Below.setCell ?_ (by first | (simp; done) | (simp; omega) | omega) _)⟩
set_option maxHeartbeats 8000000 in
set_option maxRecDepth 100000 in
theorem wht_w (op : Int) (w : World) (ha : 97 ≤ op) (hb : op < 103) (hl : -9223372036854775808 ≤ op) (hr : op ≤ 9223372036854775807) :
    Calls Tryd.prog 22 #[.int .i64 op, .int .i64 91, .int .i64 97, .int .i64 6] w fun e w' => e = .returned (.tuple #[FSw, .int .i64 (op - 97)]) ∧ Below w.heap.size w w' := by
  go_enter Tryd.func22, Tryd.ntmps22
  go_wp2_with fail
  refine (form_w _).mono ?_
  rintro e w1 ⟨rfl, hb⟩
  obtain ⟨⟨r0, r1, r2⟩, v0, v1, v2⟩ := r3_new.keep hb
  have HB := Hid.mk' (below_box hb)
  clear hb
  go_wp2
  exact bodyPost_ret (v := (.tuple #[FSw, .int .i64 (op - 97)])) (by simp [results, Tryd.results22, go_sem, r0, r1, r2]) rfl ⟨rfl, by repeat (first | exact HB.out | refine Below.setCell ?_ (by first | (simp; done) | (simp; omega) | omega) _)⟩
set_option maxHeartbeats 8000000 in
set_option maxRecDepth 100000 in
theorem wht_a (op : Int) (w : World) (ha : op < 91) (hl : -9223372036854775808 ≤ op) (hr : op ≤ 9223372036854775807) :
    Calls Tryd.prog 22 #[.int .i64 op, .int .i64 91, .int .i64 97, .int .i64 6] w fun e w' => e = .returned (.tuple #[FSn, .int .i64 (-1)]) ∧ Below w.heap.size w w' := by
  go_enter Tryd.func22, Tryd.ntmps22
  go_wp2_with fail
  refine (form_n _).mono ?_
  rintro e w1 ⟨rfl, hb⟩
  obtain ⟨⟨r0, r1, r2⟩, v0, v1, v2⟩ := r3_new.keep hb
  have HB := Hid.mk' (below_box hb)
  clear hb
  go_wp2
  exact bodyPost_ret (v := (.tuple #[FSn, .int .i64 (-1)])) (by simp [results, Tryd.results22, go_sem, r0, r1, r2]) rfl ⟨rfl, by repeat (first | exact HB.out | refine Below.setCell ?_ (by first | (simp; done) | (simp; omega) | omega) _)⟩
set_option maxHeartbeats 8000000 in
set_option maxRecDepth 100000 in
theorem wht_c (op : Int) (w : World) (ha : 103 ≤ op) (hl : -9223372036854775808 ≤ op) (hr : op ≤ 9223372036854775807) :
    Calls Tryd.prog 22 #[.int .i64 op, .int .i64 91, .int .i64 97, .int .i64 6] w fun e w' => e = .returned (.tuple #[FSn, .int .i64 (-1)]) ∧ Below w.heap.size w w' := by
  go_enter Tryd.func22, Tryd.ntmps22
  go_wp2_with fail
  refine (form_n _).mono ?_
  rintro e w1 ⟨rfl, hb⟩
  obtain ⟨⟨r0, r1, r2⟩, v0, v1, v2⟩ := r3_new.keep hb
  have HB := Hid.mk' (below_box hb)
  clear hb
  go_wp2
  exact bodyPost_ret (v := (.tuple #[FSn, .int .i64 (-1)])) (by simp [results, Tryd.results22, go_sem, r0, r1, r2]) rfl ⟨rfl, by repeat (first | exact HB.out | refine Below.setCell ?_ (by first | (simp; done) | (simp; omega) | omega) _)⟩
set_option maxHeartbeats 8000000 in
set_option maxRecDepth 100000 in
theorem whb_n (op : Int) (w : World) (ha : 146 ≤ op) (hb : op < 153) (hl : -9223372036854775808 ≤ op) (hr : op ≤ 9223372036854775807) :
    Calls Tryd.prog 22 #[.int .i64 op, .int .i64 146, .int .i64 160, .int .i64 7] w fun e w' => e = .returned (.tuple #[FSn, .int .i64 (op - 146)]) ∧ Below w.heap.size w w' := by
  go_enter Tryd.func22, Tryd.ntmps22
  go_wp2_with fail
  refine (form_n _).mono ?_
  rintro e w1 ⟨rfl, hb⟩
  obtain ⟨⟨r0, r1, r2⟩, v0, v1, v2⟩ := r3_new.keep hb
  have HB := Hid.mk' (below_box hb)
  clear hb
  go_wp2
  exact bodyPost_ret (v := (.tuple #[FSn, .int .i64 (op - 146)])) (by simp [results, Tryd.results22, go_sem, r0, r1, r2]) rfl ⟨rfl, by repeat (first | exact HB.out | refine Below.setCell ?_ (by first | (simp; done) | (simp; omega) | omega) _)⟩
set_option maxHeartbeats 8000000 in
set_option maxRecDepth 100000 in
theorem whb_w (op : Int) (w : World) (ha : 160 ≤ op) (hb : op < 167) (hl : -9223372036854775808 ≤ op) (hr : op ≤ 9223372036854775807) :
    Calls Tryd.prog 22 #[.int .i64 op, .int .i64 146, .int .i64 160, .int .i64 7] w fun e w' => e = .returned (.tuple #[FSw, .int .i64 (op - 160)]) ∧ Below w.heap.size w w' := by
  go_enter Tryd.func22, Tryd.ntmps22
  go_wp2_with fail
  refine (form_w _).mono ?_
  rintro e w1 ⟨rfl, hb⟩
  obtain ⟨⟨r0, r1, r2⟩, v0, v1, v2⟩ := r3_new.keep hb
  have HB := Hid.mk' (below_box hb)
  clear hb
  go_wp2
  exact bodyPost_ret (v := (.tuple #[FSw, .int .i64 (op - 160)])) (by simp [results, Tryd.results22, go_sem, r0, r1, r2]) rfl ⟨rfl, by repeat (first | exact HB.out | refine Below.setCell ?_ (by first | (simp; done) | (simp; omega) | omega) _)⟩
set_option maxHeartbeats 8000000 in
set_option maxRecDepth 100000 in
theorem whb_a (op : Int) (w : World) (ha : op < 146) (hl : -9223372036854775808 ≤ op) (hr : op ≤ 9223372036854775807) :
    Calls Tryd.prog 22 #[.int .i64 op, .int .i64 146, .int .i64 160, .int .i64 7] w fun e w' => e = .returned (.tuple #[FSn, .int .i64 (-1)]) ∧ Below w.heap.size w w' := by
  go_enter Tryd.func22, Tryd.ntmps22
  go_wp2_with fail
  refine (form_n _).mono ?_
  rintro e w1 ⟨rfl, hb⟩
  obtain ⟨⟨r0, r1, r2⟩, v0, v1, v2⟩ := r3_new.keep hb
  have HB := Hid.mk' (below_box hb)
  clear hb
  go_wp2
  exact bodyPost_ret (v := (.tuple #[FSn, .int .i64 (-1)])) (by simp [results, Tryd.results22, go_sem, r0, r1, r2]) rfl ⟨rfl, by repeat (first | exact HB.out | refine Below.setCell ?_ (by first | (simp; done) | (simp; omega) | omega) _)⟩
set_option maxHeartbeats 8000000 in
set_option maxRecDepth 100000 in
theorem whb_c (op : Int) (w : World) (ha : 167 ≤ op) (hl : -9223372036854775808 ≤ op) (hr : op ≤ 9223372036854775807) :
    Calls Tryd.prog 22 #[.int .i64 op, .int .i64 146, .int .i64 160, .int .i64 7] w fun e w' => e = .returned (.tuple #[FSn, .int .i64 (-1)]) ∧ Below w.heap.size w w' := by
  go_enter Tryd.func22, Tryd.ntmps22
  go_wp2_with fail
  refine (form_n _).mono ?_
  rintro e w1 ⟨rfl, hb⟩
  obtain ⟨⟨r0, r1, r2⟩, v0, v1, v2⟩ := r3_new.keep hb
  have HB := Hid.mk' (below_box hb)
  clear hb
  go_wp2
  exact bodyPost_ret (v := (.tuple #[FSn, .int .i64 (-1)])) (by simp [results, Tryd.results22, go_sem, r0, r1, r2]) rfl ⟨rfl, by repeat (first | exact HB.out | refine Below.setCell ?_ (by first | (simp; done) | (simp; omega) | omega) _)⟩
set_option maxHeartbeats 8000000 in
set_option maxRecDepth 100000 in
theorem whb_b (op : Int) (w : World) (ha : 153 ≤ op) (hb : op < 160) (hl : -9223372036854775808 ≤ op) (hr : op ≤ 9223372036854775807) :
    Calls Tryd.prog 22 #[.int .i64 op, .int .i64 146, .int .i64 160, .int .i64 7] w fun e w' => e = .returned (.tuple #[FSn, .int .i64 (-1)]) ∧ Below w.heap.size w w' := by
  go_enter Tryd.func22, Tryd.ntmps22
  go_wp2_with fail
  refine (form_n _).mono ?_
  rintro e w1 ⟨rfl, hb⟩
  obtain ⟨⟨r0, r1, r2⟩, v0, v1, v2⟩ := r3_new.keep hb
  have HB := Hid.mk' (below_box hb)
  clear hb
  go_wp2
  exact bodyPost_ret (v := (.tuple #[FSn, .int .i64 (-1)])) (by simp [results, Tryd.results22, go_sem, r0, r1, r2]) rfl ⟨rfl, by repeat (first | exact HB.out | refine Below.setCell ?_ (by first | (simp; done) | (simp; omega) | omega) _)⟩
end Go.Proofs.YthmppcfhbbjhlaaDoor
namespace Go.Proofs.YthmppcfhbbjhlaaDoor
open Go.RowKit Go.Sort

theorem C3.far {w : World} {g g' i : Nat} {v a b c : Value} (h : C3 w g a b c) (hg : g' ≠ g) : C3 (w.setCell ⟨g', i, none⟩ v) g a b c := by
  obtain ⟨h0, h1, h2⟩ := h
  have e : ∀ j, (⟨g', i, none⟩ : Addr) ≠ ⟨g, j, none⟩ := fun j hj => hg (congrArg Addr.block hj)
  refine ⟨?_, ?_, ?_⟩
  · rw [World.cell?_setCell_other _ _ _ _ (e 0)]; exact h0
  · rw [World.cell?_setCell_other _ _ _ _ (e 1)]; exact h1
  · rw [World.cell?_setCell_other _ _ _ _ (e 2)]; exact h2
theorem D4.set1 {w : World} {g : Nat} {v a b c d : Value} (h : D4 w g a b c d) : D4 (w.setCell ⟨g, 1, none⟩ v) g a v c d := by
  obtain ⟨⟨h0, h1, h2, h3⟩, f0, f1, f2, f3⟩ := h
  exact ⟨⟨set_off h0 (by decide), set_same h1, set_off h2 (by decide), set_off h3 (by decide)⟩, by rw [World.frozen?_setCell]; exact f0, by rw [World.frozen?_setCell]; exact f1, by rw [World.frozen?_setCell]; exact f2, by rw [World.frozen?_setCell]; exact f3⟩
set_option maxHeartbeats 8000000 in
set_option maxRecDepth 100000 in
theorem sf2_t (k : Int) (hk : 0 ≤ k) (p e L : Int) (op a b R k1 k2 : Int) (g1 g2 : Bool) (x1 x2 : Int) (s1 s2 : Nat) (w : World) (KW1 : ∀ w, Hid (Calls Tryd.prog 22 #[.int .i64 op, .int .i64 91, .int .i64 97, .int .i64 6] w fun ed w' => ed = .returned (.tuple #[(.agg #[.int .i64 p, .int .i64 e, .int .i64 L]), .int .i64 k]) ∧ Below w.heap.size w w')) (KRa : ∀ w, Hid (Calls Tryd.prog 26 #[(.agg #[.int .i64 p, .int .i64 e, .int .i64 L]), .int .u64 a] w fun ed w' => (∃ v, ed = .returned (SV k1 g1 v x1) ∧ SN w' v s1) ∧ Below w.heap.size w w')) (KRb : ∀ w, Hid (Calls Tryd.prog 26 #[(.agg #[.int .i64 p, .int .i64 e, .int .i64 L]), .int .u64 b] w fun ed w' => (∃ v, ed = .returned (SV k2 g2 v x2) ∧ SN w' v s2) ∧ Below w.heap.size w w'))
    (KT : ∀ v1 v2 w, SN w v1 s1 → SN w v2 s2 → Hid (Calls Tryd.prog 46 #[.int .i64 k, SV k1 g1 v1 x1, SV k2 g2 v2 x2] w fun ed w' => ed = .returned (RV true 0 R) ∧ Below w.heap.size w w')) :
    Calls Tryd.prog 14 #[.int .i64 op, .int .u64 a, .int .u64 b] w fun ed w' => ed = .returned (RV true 0 R) ∧ Below w.heap.size w w' := by
  go_enter Tryd.func14, Tryd.ntmps14
  go_wp2_with fail
  refine (KW1 _).out.mono ?_
  rintro e w1 ⟨rfl, hb⟩
  have HR1 := Hid.mk' (r3_new.keep hb)
  have HB1 := Hid.mk' (below_box hb)
  have hl1 := HR1.out.1.lt
  clear hb KW1
  go_upto_region 3 with fail
  refine wp_gen (fun wz => RZ wz w.heap.size ∧ C3 wz w1.heap.size (.int .i64 p) (.int .i64 e) (.int .i64 L) ∧ Below w.heap.size w wz) ⟨HR1.out.past, c3_new, HB1.out.alloc HB1.out.size _⟩ ?_
  clear HR1 HB1
  generalize w1.heap.size = gf at *
  clear w1
  rintro w4 ⟨hr, hf, hb⟩
  have HR := Hid.mk' hr
  have HF := Hid.mk' hf
  have HB := Hid.mk' hb
  obtain ⟨q0, q1, q2⟩ := id hf
  obtain ⟨⟨r0, r1, r2⟩, t0, t1, t2⟩ := id hr
  clear hr hf hb
  go_region_held3 (fun w' => w'.cell? ⟨gf, 0, none⟩ = some (.int .i64 p) ∧ w'.cell? ⟨gf, 1, none⟩ = some (.int .i64 e) ∧ w'.cell? ⟨gf, 2, none⟩ = some (.int .i64 L)) (first | exact ⟨q0, q1, q2⟩ | exact ((HF.out.far (Nat.ne_of_lt hl1)).far (Nat.ne_of_lt hl1)).far (Nat.ne_of_lt hl1)) (first
    | (go_at_call 26; first
        | ((with_reducible refine (KRa _).out.mono ?_); rintro e w6 ⟨⟨u1, rfl, hu1⟩, hb⟩; (first | have hb := undrew hb | skip); have HR := Hid.mk' (HR.out.keep hb); have HF := Hid.mk' (HF.out.keep hb); have HB := Hid.mk' (HB.out.trans (hb.mono HB.out.size)); clear q0 q1 q2 r0 r1 r2 t0 t1 t2; obtain ⟨q0, q1, q2⟩ := HF.out; obtain ⟨⟨r0, r1, r2⟩, t0, t1, t2⟩ := HR.out; (first | have HU2 := Hid.mk' (HU2.out.below hb) | skip); have HU1 := Hid.mk' hu1; clear hb hu1)
        | ((with_reducible refine (KRb _).out.mono ?_); rintro e w6 ⟨⟨u2, rfl, hu2⟩, hb⟩; (first | have hb := undrew hb | skip); have HR := Hid.mk' (HR.out.keep hb); have HF := Hid.mk' (HF.out.keep hb); have HB := Hid.mk' (HB.out.trans (hb.mono HB.out.size)); clear q0 q1 q2 r0 r1 r2 t0 t1 t2; obtain ⟨q0, q1, q2⟩ := HF.out; obtain ⟨⟨r0, r1, r2⟩, t0, t1, t2⟩ := HR.out; (first | have HU1 := Hid.mk' (HU1.out.below hb) | skip); have HU2 := Hid.mk' hu2; clear hb hu2))
    | (go_at_call 46; refine (KT _ _ _ ?_ ?_).out.mono ?_; exact HU1.out; exact HU2.out; rintro e w8 ⟨rfl, hb⟩; (first | have hb := undrew hb | skip); have HR := Hid.mk' (HR.out.keep hb); have HF := Hid.mk' (HF.out.keep hb); have HB := Hid.mk' (HB.out.trans (hb.mono HB.out.size)); clear q0 q1 q2 r0 r1 r2 t0 t1 t2; obtain ⟨q0, q1, q2⟩ := HF.out; obtain ⟨⟨r0, r1, r2⟩, t0, t1, t2⟩ := HR.out; clear hb))
  all_goals go_wp2
  all_goals exact bodyPost_ret (v := RV true 0 R) (by simp [results, Tryd.results14, go_sem, r0, r1, r2]) rfl ⟨rfl, by repeat (first | exact HB.out | refine Below.setCell ?_ (by first | (simp; done) | (simp; omega) | omega) _ | refine Below.drew ?_)⟩
set_option maxHeartbeats 8000000 in
set_option maxRecDepth 100000 in
theorem sf2_0 (p e L : Int) (op a b R k1 k2 : Int) (g1 g2 : Bool) (x1 x2 : Int) (s1 s2 : Nat) (w : World) (KW1 : ∀ w, Hid (Calls Tryd.prog 22 #[.int .i64 op, .int .i64 91, .int .i64 97, .int .i64 6] w fun ed w' => ed = .returned (.tuple #[FSn, .int .i64 (-1)]) ∧ Below w.heap.size w w')) (KW2 : ∀ w, Hid (Calls Tryd.prog 22 #[.int .i64 op, .int .i64 146, .int .i64 160, .int .i64 7] w fun ed w' => ed = .returned (.tuple #[(.agg #[.int .i64 p, .int .i64 e, .int .i64 L]), .int .i64 0]) ∧ Below w.heap.size w w')) (KRa : ∀ w, Hid (Calls Tryd.prog 26 #[(.agg #[.int .i64 p, .int .i64 e, .int .i64 L]), .int .u64 a] w fun ed w' => (∃ v, ed = .returned (SV k1 g1 v x1) ∧ SN w' v s1) ∧ Below w.heap.size w w')) (KRb : ∀ w, Hid (Calls Tryd.prog 26 #[(.agg #[.int .i64 p, .int .i64 e, .int .i64 L]), .int .u64 b] w fun ed w' => (∃ v, ed = .returned (SV k2 g2 v x2) ∧ SN w' v s2) ∧ Below w.heap.size w w')) (KO : ∀ v1 v2 w, SN w v1 s1 → SN w v2 s2 → Hid (Calls Tryd.prog 47 #[(.agg #[.int .i64 p, .int .i64 e, .int .i64 L]), SV k1 g1 v1 x1, SV k2 g2 v2 x2] w fun ed w' => ed = .returned (.int .u64 R) ∧ Below w.heap.size w w'))  :
    Calls Tryd.prog 14 #[.int .i64 op, .int .u64 a, .int .u64 b] w fun ed w' => ed = .returned (RV true 0 R) ∧ Below w.heap.size w w' := by
  have KV := fun (w : World) => Hid.mk' (val_eq R R w rfl)
  go_enter Tryd.func14, Tryd.ntmps14
  go_wp2_with fail
  refine (KW1 _).out.mono ?_
  rintro e w1 ⟨rfl, hb⟩
  have HR1 := Hid.mk' (r3_new.keep hb)
  have HB1 := Hid.mk' (below_box hb)
  have hl1 := HR1.out.1.lt
  clear hb KW1
  go_wp2_with fail
  refine (KW2 _).out.mono ?_
  rintro e w2 ⟨rfl, hb⟩
  have HR2 := Hid.mk' (HR1.out.past.keep hb)
  have HF2 := Hid.mk' (r3_new.keep hb)
  have HB2 := Hid.mk' ((HB1.out.alloc HB1.out.size _).trans (hb.mono (Nat.le_trans HB1.out.size (by simp))))
  clear hb KW2 HR1 HB1
  generalize w1.heap.size = gf at *
  clear w1
  obtain ⟨⟨j0, j1, j2⟩, i0, i1, i2⟩ := HF2.out
  go_upto_region 5 with fail
  refine wp_gen (fun wz => RZ wz w.heap.size ∧ C3 wz gf (.int .i64 p) (.int .i64 e) (.int .i64 L) ∧ Below w.heap.size w wz) ⟨((HR2.out.far (by omega)).far (by omega)).far (by omega), HF2.out.setAll.1, ((HB2.out.setCell (by show _ ≤ gf; omega) _).setCell (by show _ ≤ gf; omega) _).setCell (by show _ ≤ gf; omega) _⟩ ?_
  clear HR2 HF2 HB2 j0 j1 j2 i0 i1 i2
  rintro w3 ⟨hr, hf, hb⟩
  have HR3 := Hid.mk' hr
  have HF3 := Hid.mk' hf
  have HB3 := Hid.mk' hb
  obtain ⟨q0, q1, q2⟩ := id hf
  clear hr hf hb
  go_wp2_with fail
  refine (KRa _).out.mono ?_
  rintro e w4 ⟨⟨u1, rfl, hu1⟩, hb⟩
  obtain ⟨sa, sc, rfl, -⟩ := id hu1
  have HR4 := Hid.mk' (HR3.out.keep hb)
  have HF4 := Hid.mk' (HF3.out.keep hb)
  have HB4 := Hid.mk' (HB3.out.trans (hb.mono HB3.out.size))
  have HU1 := Hid.mk' hu1
  generalize (dg s1).length = sl1 at *
  clear hb KRa HR3 HF3 HB3 q0 q1 q2 hu1
  go_upto_region 6 with fail
  refine wp_gen (fun wz => RZ wz w.heap.size ∧ C3 wz gf (.int .i64 p) (.int .i64 e) (.int .i64 L) ∧ D4 wz w4.heap.size (.int .i64 k1) (.bool g1) (.slice sa sl1 sc) (.int .i64 x1) ∧ SN wz (.slice sa sl1 sc) s1 ∧ Below w.heap.size w wz) ⟨HR4.out.past, HF4.out.past, d4_new, HU1.out.below ((Below.refl _ _).alloc (Nat.le_refl _) _), HB4.out.alloc HB4.out.size _⟩ ?_
  have hl4 : gf < w4.heap.size := HF4.out.lt
  clear HR4 HF4 HB4 HU1
  generalize w4.heap.size = ga at *
  rintro w5 ⟨hr, hf, ha, hu, hb⟩
  have HR5 := Hid.mk' hr
  have HF5 := Hid.mk' hf
  have HA5 := Hid.mk' ha
  have HU5 := Hid.mk' hu
  have HB5 := Hid.mk' hb
  obtain ⟨q0, q1, q2⟩ := id hf
  clear hr hf ha hu hb
  go_wp2_with fail
  refine (KRb _).out.mono ?_
  rintro e w6 ⟨⟨u2, rfl, hu2⟩, hb⟩
  obtain ⟨sb, sd, rfl, -⟩ := id hu2
  have HR6 := Hid.mk' (HR5.out.keep hb)
  have HF6 := Hid.mk' (HF5.out.keep hb)
  have HA6 := Hid.mk' (HA5.out.keep hb)
  have HU6 := Hid.mk' (HU5.out.below hb)
  have HB6 := Hid.mk' (HB5.out.trans (hb.mono HB5.out.size))
  have HU2 := Hid.mk' hu2
  generalize (dg s2).length = sl2 at *
  clear hb KRb HR5 HF5 HA5 HU5 HB5 q0 q1 q2 hu2
  go_upto_region 7 with fail
  refine wp_gen (fun wz => RZ wz w.heap.size ∧ C3 wz gf (.int .i64 p) (.int .i64 e) (.int .i64 L) ∧ D4 wz ga (.int .i64 k1) (.bool g1) (.slice sa sl1 sc) (.int .i64 x1) ∧ D4 wz w6.heap.size (.int .i64 k2) (.bool g2) (.slice sb sl2 sd) (.int .i64 x2) ∧ SN wz (.slice sa sl1 sc) s1 ∧ SN wz (.slice sb sl2 sd) s2 ∧ Below w.heap.size w wz) ⟨HR6.out.past, HF6.out.past, HA6.out.past, d4_new, HU6.out.below ((Below.refl _ _).alloc (Nat.le_refl _) _), HU2.out.below ((Below.refl _ _).alloc (Nat.le_refl _) _), HB6.out.alloc HB6.out.size _⟩ ?_
  have hl6 : ga < w6.heap.size := HA6.out.1.lt
  clear HR6 HF6 HA6 HU6 HU2 HB6
  generalize w6.heap.size = gb at *
  rintro w7 ⟨hr, hf, ha, hc, hu, hv, hb⟩
  have HR := Hid.mk' hr
  have HF := Hid.mk' hf
  have HA := Hid.mk' ha
  have HC := Hid.mk' hc
  have HU := Hid.mk' hu
  have HV := Hid.mk' hv
  have HB := Hid.mk' hb
  obtain ⟨q0, q1, q2⟩ := id hf
  obtain ⟨⟨r0, r1, r2⟩, t0, t1, t2⟩ := id hr
  obtain ⟨⟨a0, a1, a2, a3⟩, -⟩ := id ha
  obtain ⟨⟨b0, b1, b2, b3⟩, z0, z1, z2, z3⟩ := id hc
  clear hr hf ha hc hu hv hb
  go_wp2_with (first | (go_at_call 47; refine (KO _ _ _ HU.out HV.out).out.mono ?_; rintro e w8 ⟨rfl, hb⟩; have HR := Hid.mk' (HR.out.keep hb); have HF := Hid.mk' (HF.out.keep hb); have HB := Hid.mk' (HB.out.trans (hb.mono HB.out.size)); clear q0 q1 q2 r0 r1 r2 t0 t1 t2; obtain ⟨q0, q1, q2⟩ := HF.out; obtain ⟨⟨r0, r1, r2⟩, t0, t1, t2⟩ := HR.out; clear hb) | (go_at_call 27; refine (KV _).out.mono ?_; rintro e w8 ⟨rfl, hb⟩; have HR := Hid.mk' (HR.out.keep hb); have HF := Hid.mk' (HF.out.keep hb); have HB := Hid.mk' (HB.out.trans (hb.mono HB.out.size)); clear q0 q1 q2 r0 r1 r2 t0 t1 t2; obtain ⟨q0, q1, q2⟩ := HF.out; obtain ⟨⟨r0, r1, r2⟩, t0, t1, t2⟩ := HR.out; clear hb))
  exact bodyPost_ret (v := RV true 0 R) (by simp [results, Tryd.results14, go_sem, r0, r1, r2]) rfl ⟨rfl, by repeat (first | exact HB.out | refine Below.setCell ?_ (by first | (simp; done) | (simp; omega) | omega) _ | refine Below.drew ?_)⟩
set_option maxHeartbeats 8000000 in
set_option maxRecDepth 100000 in
theorem sf2_1n (p e L : Int) (op a b R k1 k2 : Int) (g1 g2 : Bool) (x1 x2 : Int) (s1 s2 : Nat) (w : World) (KW1 : ∀ w, Hid (Calls Tryd.prog 22 #[.int .i64 op, .int .i64 91, .int .i64 97, .int .i64 6] w fun ed w' => ed = .returned (.tuple #[FSn, .int .i64 (-1)]) ∧ Below w.heap.size w w')) (KW2 : ∀ w, Hid (Calls Tryd.prog 22 #[.int .i64 op, .int .i64 146, .int .i64 160, .int .i64 7] w fun ed w' => ed = .returned (.tuple #[(.agg #[.int .i64 p, .int .i64 e, .int .i64 L]), .int .i64 1]) ∧ Below w.heap.size w w')) (KRa : ∀ w, Hid (Calls Tryd.prog 26 #[(.agg #[.int .i64 p, .int .i64 e, .int .i64 L]), .int .u64 a] w fun ed w' => (∃ v, ed = .returned (SV k1 g1 v x1) ∧ SN w' v s1) ∧ Below w.heap.size w w')) (KRb : ∀ w, Hid (Calls Tryd.prog 26 #[(.agg #[.int .i64 p, .int .i64 e, .int .i64 L]), .int .u64 b] w fun ed w' => (∃ v, ed = .returned (SV k2 g2 v x2) ∧ SN w' v s2) ∧ Below w.heap.size w w')) (KO : ∀ v1 v2 w, SN w v1 s1 → SN w v2 s2 → Hid (Calls Tryd.prog 47 #[(.agg #[.int .i64 p, .int .i64 e, .int .i64 L]), SV k1 g1 v1 x1, SV k2 g2 v2 x2] w fun ed w' => ed = .returned (.int .u64 R) ∧ Below w.heap.size w w')) (hk : (k2 == 2) = true) :
    Calls Tryd.prog 14 #[.int .i64 op, .int .u64 a, .int .u64 b] w fun ed w' => ed = .returned (RV true 0 R) ∧ Below w.heap.size w w' := by
  have KV := fun (w : World) => Hid.mk' (val_eq R R w rfl)
  go_enter Tryd.func14, Tryd.ntmps14
  go_wp2_with fail
  refine (KW1 _).out.mono ?_
  rintro e w1 ⟨rfl, hb⟩
  have HR1 := Hid.mk' (r3_new.keep hb)
  have HB1 := Hid.mk' (below_box hb)
  have hl1 := HR1.out.1.lt
  clear hb KW1
  go_wp2_with fail
  refine (KW2 _).out.mono ?_
  rintro e w2 ⟨rfl, hb⟩
  have HR2 := Hid.mk' (HR1.out.past.keep hb)
  have HF2 := Hid.mk' (r3_new.keep hb)
  have HB2 := Hid.mk' ((HB1.out.alloc HB1.out.size _).trans (hb.mono (Nat.le_trans HB1.out.size (by simp))))
  clear hb KW2 HR1 HB1
  generalize w1.heap.size = gf at *
  clear w1
  obtain ⟨⟨j0, j1, j2⟩, i0, i1, i2⟩ := HF2.out
  go_upto_region 5 with fail
  refine wp_gen (fun wz => RZ wz w.heap.size ∧ C3 wz gf (.int .i64 p) (.int .i64 e) (.int .i64 L) ∧ Below w.heap.size w wz) ⟨((HR2.out.far (by omega)).far (by omega)).far (by omega), HF2.out.setAll.1, ((HB2.out.setCell (by show _ ≤ gf; omega) _).setCell (by show _ ≤ gf; omega) _).setCell (by show _ ≤ gf; omega) _⟩ ?_
  clear HR2 HF2 HB2 j0 j1 j2 i0 i1 i2
  rintro w3 ⟨hr, hf, hb⟩
  have HR3 := Hid.mk' hr
  have HF3 := Hid.mk' hf
  have HB3 := Hid.mk' hb
  obtain ⟨q0, q1, q2⟩ := id hf
  clear hr hf hb
  go_wp2_with fail
  refine (KRa _).out.mono ?_
  rintro e w4 ⟨⟨u1, rfl, hu1⟩, hb⟩
  obtain ⟨sa, sc, rfl, -⟩ := id hu1
  have HR4 := Hid.mk' (HR3.out.keep hb)
  have HF4 := Hid.mk' (HF3.out.keep hb)
  have HB4 := Hid.mk' (HB3.out.trans (hb.mono HB3.out.size))
  have HU1 := Hid.mk' hu1
  generalize (dg s1).length = sl1 at *
  clear hb KRa HR3 HF3 HB3 q0 q1 q2 hu1
  go_upto_region 6 with fail
  refine wp_gen (fun wz => RZ wz w.heap.size ∧ C3 wz gf (.int .i64 p) (.int .i64 e) (.int .i64 L) ∧ D4 wz w4.heap.size (.int .i64 k1) (.bool g1) (.slice sa sl1 sc) (.int .i64 x1) ∧ SN wz (.slice sa sl1 sc) s1 ∧ Below w.heap.size w wz) ⟨HR4.out.past, HF4.out.past, d4_new, HU1.out.below ((Below.refl _ _).alloc (Nat.le_refl _) _), HB4.out.alloc HB4.out.size _⟩ ?_
  have hl4 : gf < w4.heap.size := HF4.out.lt
  clear HR4 HF4 HB4 HU1
  generalize w4.heap.size = ga at *
  rintro w5 ⟨hr, hf, ha, hu, hb⟩
  have HR5 := Hid.mk' hr
  have HF5 := Hid.mk' hf
  have HA5 := Hid.mk' ha
  have HU5 := Hid.mk' hu
  have HB5 := Hid.mk' hb
  obtain ⟨q0, q1, q2⟩ := id hf
  clear hr hf ha hu hb
  go_wp2_with fail
  refine (KRb _).out.mono ?_
  rintro e w6 ⟨⟨u2, rfl, hu2⟩, hb⟩
  obtain ⟨sb, sd, rfl, -⟩ := id hu2
  have HR6 := Hid.mk' (HR5.out.keep hb)
  have HF6 := Hid.mk' (HF5.out.keep hb)
  have HA6 := Hid.mk' (HA5.out.keep hb)
  have HU6 := Hid.mk' (HU5.out.below hb)
  have HB6 := Hid.mk' (HB5.out.trans (hb.mono HB5.out.size))
  have HU2 := Hid.mk' hu2
  generalize (dg s2).length = sl2 at *
  clear hb KRb HR5 HF5 HA5 HU5 HB5 q0 q1 q2 hu2
  go_upto_region 7 with fail
  refine wp_gen (fun wz => RZ wz w.heap.size ∧ C3 wz gf (.int .i64 p) (.int .i64 e) (.int .i64 L) ∧ D4 wz ga (.int .i64 k1) (.bool g1) (.slice sa sl1 sc) (.int .i64 x1) ∧ D4 wz w6.heap.size (.int .i64 k2) (.bool g2) (.slice sb sl2 sd) (.int .i64 x2) ∧ SN wz (.slice sa sl1 sc) s1 ∧ SN wz (.slice sb sl2 sd) s2 ∧ Below w.heap.size w wz) ⟨HR6.out.past, HF6.out.past, HA6.out.past, d4_new, HU6.out.below ((Below.refl _ _).alloc (Nat.le_refl _) _), HU2.out.below ((Below.refl _ _).alloc (Nat.le_refl _) _), HB6.out.alloc HB6.out.size _⟩ ?_
  have hl6 : ga < w6.heap.size := HA6.out.1.lt
  clear HR6 HF6 HA6 HU6 HU2 HB6
  generalize w6.heap.size = gb at *
  rintro w7 ⟨hr, hf, ha, hc, hu, hv, hb⟩
  have HR := Hid.mk' hr
  have HF := Hid.mk' hf
  have HA := Hid.mk' ha
  have HC := Hid.mk' hc
  have HU := Hid.mk' hu
  have HV := Hid.mk' hv
  have HB := Hid.mk' hb
  obtain ⟨q0, q1, q2⟩ := id hf
  obtain ⟨⟨r0, r1, r2⟩, t0, t1, t2⟩ := id hr
  obtain ⟨⟨a0, a1, a2, a3⟩, -⟩ := id ha
  obtain ⟨⟨b0, b1, b2, b3⟩, z0, z1, z2, z3⟩ := id hc
  clear hr hf ha hc hu hv hb
  go_wp2_with (first | (go_at_call 47; refine (KO _ _ _ HU.out HV.out).out.mono ?_; rintro e w8 ⟨rfl, hb⟩; have HR := Hid.mk' (HR.out.keep hb); have HF := Hid.mk' (HF.out.keep hb); have HB := Hid.mk' (HB.out.trans (hb.mono HB.out.size)); clear q0 q1 q2 r0 r1 r2 t0 t1 t2; obtain ⟨q0, q1, q2⟩ := HF.out; obtain ⟨⟨r0, r1, r2⟩, t0, t1, t2⟩ := HR.out; clear hb) | (go_at_call 27; refine (KV _).out.mono ?_; rintro e w8 ⟨rfl, hb⟩; have HR := Hid.mk' (HR.out.keep hb); have HF := Hid.mk' (HF.out.keep hb); have HB := Hid.mk' (HB.out.trans (hb.mono HB.out.size)); clear q0 q1 q2 r0 r1 r2 t0 t1 t2; obtain ⟨q0, q1, q2⟩ := HF.out; obtain ⟨⟨r0, r1, r2⟩, t0, t1, t2⟩ := HR.out; clear hb))
  exact bodyPost_ret (v := RV true 0 R) (by simp [results, Tryd.results14, go_sem, r0, r1, r2]) rfl ⟨rfl, by repeat (first | exact HB.out | refine Below.setCell ?_ (by first | (simp; done) | (simp; omega) | omega) _ | refine Below.drew ?_)⟩
set_option maxHeartbeats 8000000 in
set_option maxRecDepth 100000 in
theorem sf2_1 (p e L : Int) (op a b R k1 k2 : Int) (g1 g2 : Bool) (x1 x2 : Int) (s1 s2 : Nat) (w : World) (KW1 : ∀ w, Hid (Calls Tryd.prog 22 #[.int .i64 op, .int .i64 91, .int .i64 97, .int .i64 6] w fun ed w' => ed = .returned (.tuple #[FSn, .int .i64 (-1)]) ∧ Below w.heap.size w w')) (KW2 : ∀ w, Hid (Calls Tryd.prog 22 #[.int .i64 op, .int .i64 146, .int .i64 160, .int .i64 7] w fun ed w' => ed = .returned (.tuple #[(.agg #[.int .i64 p, .int .i64 e, .int .i64 L]), .int .i64 1]) ∧ Below w.heap.size w w')) (KRa : ∀ w, Hid (Calls Tryd.prog 26 #[(.agg #[.int .i64 p, .int .i64 e, .int .i64 L]), .int .u64 a] w fun ed w' => (∃ v, ed = .returned (SV k1 g1 v x1) ∧ SN w' v s1) ∧ Below w.heap.size w w')) (KRb : ∀ w, Hid (Calls Tryd.prog 26 #[(.agg #[.int .i64 p, .int .i64 e, .int .i64 L]), .int .u64 b] w fun ed w' => (∃ v, ed = .returned (SV k2 g2 v x2) ∧ SN w' v s2) ∧ Below w.heap.size w w')) (KO : ∀ v1 v2 w, SN w v1 s1 → SN w v2 s2 → Hid (Calls Tryd.prog 47 #[(.agg #[.int .i64 p, .int .i64 e, .int .i64 L]), SV k1 g1 v1 x1, SV k2 (!g2) v2 x2] w fun ed w' => ed = .returned (.int .u64 R) ∧ Below w.heap.size w w')) (hk : (k2 == 2) = false) :
    Calls Tryd.prog 14 #[.int .i64 op, .int .u64 a, .int .u64 b] w fun ed w' => ed = .returned (RV true 0 R) ∧ Below w.heap.size w w' := by
  have KV := fun (w : World) => Hid.mk' (val_eq R R w rfl)
  go_enter Tryd.func14, Tryd.ntmps14
  go_wp2_with fail
  refine (KW1 _).out.mono ?_
  rintro e w1 ⟨rfl, hb⟩
  have HR1 := Hid.mk' (r3_new.keep hb)
  have HB1 := Hid.mk' (below_box hb)
  have hl1 := HR1.out.1.lt
  clear hb KW1
  go_wp2_with fail
  refine (KW2 _).out.mono ?_
  rintro e w2 ⟨rfl, hb⟩
  have HR2 := Hid.mk' (HR1.out.past.keep hb)
  have HF2 := Hid.mk' (r3_new.keep hb)
  have HB2 := Hid.mk' ((HB1.out.alloc HB1.out.size _).trans (hb.mono (Nat.le_trans HB1.out.size (by simp))))
  clear hb KW2 HR1 HB1
  generalize w1.heap.size = gf at *
  clear w1
  obtain ⟨⟨j0, j1, j2⟩, i0, i1, i2⟩ := HF2.out
  go_upto_region 5 with fail
  refine wp_gen (fun wz => RZ wz w.heap.size ∧ C3 wz gf (.int .i64 p) (.int .i64 e) (.int .i64 L) ∧ Below w.heap.size w wz) ⟨((HR2.out.far (by omega)).far (by omega)).far (by omega), HF2.out.setAll.1, ((HB2.out.setCell (by show _ ≤ gf; omega) _).setCell (by show _ ≤ gf; omega) _).setCell (by show _ ≤ gf; omega) _⟩ ?_
  clear HR2 HF2 HB2 j0 j1 j2 i0 i1 i2
  rintro w3 ⟨hr, hf, hb⟩
  have HR3 := Hid.mk' hr
  have HF3 := Hid.mk' hf
  have HB3 := Hid.mk' hb
  obtain ⟨q0, q1, q2⟩ := id hf
  clear hr hf hb
  go_wp2_with fail
  refine (KRa _).out.mono ?_
  rintro e w4 ⟨⟨u1, rfl, hu1⟩, hb⟩
  obtain ⟨sa, sc, rfl, -⟩ := id hu1
  have HR4 := Hid.mk' (HR3.out.keep hb)
  have HF4 := Hid.mk' (HF3.out.keep hb)
  have HB4 := Hid.mk' (HB3.out.trans (hb.mono HB3.out.size))
  have HU1 := Hid.mk' hu1
  generalize (dg s1).length = sl1 at *
  clear hb KRa HR3 HF3 HB3 q0 q1 q2 hu1
  go_upto_region 6 with fail
  refine wp_gen (fun wz => RZ wz w.heap.size ∧ C3 wz gf (.int .i64 p) (.int .i64 e) (.int .i64 L) ∧ D4 wz w4.heap.size (.int .i64 k1) (.bool g1) (.slice sa sl1 sc) (.int .i64 x1) ∧ SN wz (.slice sa sl1 sc) s1 ∧ Below w.heap.size w wz) ⟨HR4.out.past, HF4.out.past, d4_new, HU1.out.below ((Below.refl _ _).alloc (Nat.le_refl _) _), HB4.out.alloc HB4.out.size _⟩ ?_
  have hl4 : gf < w4.heap.size := HF4.out.lt
  clear HR4 HF4 HB4 HU1
  generalize w4.heap.size = ga at *
  rintro w5 ⟨hr, hf, ha, hu, hb⟩
  have HR5 := Hid.mk' hr
  have HF5 := Hid.mk' hf
  have HA5 := Hid.mk' ha
  have HU5 := Hid.mk' hu
  have HB5 := Hid.mk' hb
  obtain ⟨q0, q1, q2⟩ := id hf
  clear hr hf ha hu hb
  go_wp2_with fail
  refine (KRb _).out.mono ?_
  rintro e w6 ⟨⟨u2, rfl, hu2⟩, hb⟩
  obtain ⟨sb, sd, rfl, -⟩ := id hu2
  have HR6 := Hid.mk' (HR5.out.keep hb)
  have HF6 := Hid.mk' (HF5.out.keep hb)
  have HA6 := Hid.mk' (HA5.out.keep hb)
  have HU6 := Hid.mk' (HU5.out.below hb)
  have HB6 := Hid.mk' (HB5.out.trans (hb.mono HB5.out.size))
  have HU2 := Hid.mk' hu2
  generalize (dg s2).length = sl2 at *
  clear hb KRb HR5 HF5 HA5 HU5 HB5 q0 q1 q2 hu2
  go_upto_region 7 with fail
  refine wp_gen (fun wz => RZ wz w.heap.size ∧ C3 wz gf (.int .i64 p) (.int .i64 e) (.int .i64 L) ∧ D4 wz ga (.int .i64 k1) (.bool g1) (.slice sa sl1 sc) (.int .i64 x1) ∧ D4 wz w6.heap.size (.int .i64 k2) (.bool g2) (.slice sb sl2 sd) (.int .i64 x2) ∧ SN wz (.slice sa sl1 sc) s1 ∧ SN wz (.slice sb sl2 sd) s2 ∧ Below w.heap.size w wz) ⟨HR6.out.past, HF6.out.past, HA6.out.past, d4_new, HU6.out.below ((Below.refl _ _).alloc (Nat.le_refl _) _), HU2.out.below ((Below.refl _ _).alloc (Nat.le_refl _) _), HB6.out.alloc HB6.out.size _⟩ ?_
  have hl6 : ga < w6.heap.size := HA6.out.1.lt
  clear HR6 HF6 HA6 HU6 HU2 HB6
  generalize w6.heap.size = gb at *
  rintro w7 ⟨hr, hf, ha, hc, hu, hv, hb⟩
  have HR := Hid.mk' hr
  have HF := Hid.mk' hf
  have HA := Hid.mk' ha
  have HC := Hid.mk' hc
  have HU := Hid.mk' hu
  have HV := Hid.mk' hv
  have HB := Hid.mk' hb
  obtain ⟨q0, q1, q2⟩ := id hf
  obtain ⟨⟨r0, r1, r2⟩, t0, t1, t2⟩ := id hr
  obtain ⟨⟨a0, a1, a2, a3⟩, -⟩ := id ha
  obtain ⟨⟨b0, b1, b2, b3⟩, z0, z1, z2, z3⟩ := id hc
  clear hr hf ha hc hu hv hb
  go_upto_region 13 with fail
  refine wp_gen (fun wz => RZ wz w.heap.size ∧ C3 wz gf (.int .i64 p) (.int .i64 e) (.int .i64 L) ∧ D4 wz ga (.int .i64 k1) (.bool g1) (.slice sa sl1 sc) (.int .i64 x1) ∧ D4 wz gb (.int .i64 k2) (.bool !g2) (.slice sb sl2 sd) (.int .i64 x2) ∧ SN wz (.slice sa sl1 sc) s1 ∧ SN wz (.slice sb sl2 sd) s2 ∧ Below w.heap.size w wz) ⟨HR.out.far (by omega), HF.out.far (by omega), HA.out.far (by omega), HC.out.set1, sn_set HU.out b1 (by intro d hd; cases hd), sn_set HV.out b1 (by intro d hd; cases hd), HB.out.setCell (by show _ ≤ gb; omega) _⟩ ?_
  clear HR HF HA HC HU HV HB q0 q1 q2 r0 r1 r2 t0 t1 t2 a0 a1 a2 a3 b0 b1 b2 b3 z0 z1 z2 z3
  rintro w7 ⟨hr, hf, ha, hc, hu, hv, hb⟩
  have HR := Hid.mk' hr
  have HF := Hid.mk' hf
  have HU := Hid.mk' hu
  have HV := Hid.mk' hv
  have HB := Hid.mk' hb
  obtain ⟨q0, q1, q2⟩ := id hf
  obtain ⟨⟨r0, r1, r2⟩, t0, t1, t2⟩ := id hr
  obtain ⟨⟨a0, a1, a2, a3⟩, -⟩ := id ha
  obtain ⟨⟨b0, b1, b2, b3⟩, -⟩ := id hc
  clear hr hf ha hc hu hv hb
  go_wp2_with (first | (go_at_call 47; refine (KO _ _ _ HU.out HV.out).out.mono ?_; rintro e w8 ⟨rfl, hb⟩; have HR := Hid.mk' (HR.out.keep hb); have HF := Hid.mk' (HF.out.keep hb); have HB := Hid.mk' (HB.out.trans (hb.mono HB.out.size)); clear q0 q1 q2 r0 r1 r2 t0 t1 t2; obtain ⟨q0, q1, q2⟩ := HF.out; obtain ⟨⟨r0, r1, r2⟩, t0, t1, t2⟩ := HR.out; clear hb) | (go_at_call 27; refine (KV _).out.mono ?_; rintro e w8 ⟨rfl, hb⟩; have HR := Hid.mk' (HR.out.keep hb); have HF := Hid.mk' (HF.out.keep hb); have HB := Hid.mk' (HB.out.trans (hb.mono HB.out.size)); clear q0 q1 q2 r0 r1 r2 t0 t1 t2; obtain ⟨q0, q1, q2⟩ := HF.out; obtain ⟨⟨r0, r1, r2⟩, t0, t1, t2⟩ := HR.out; clear hb))
  exact bodyPost_ret (v := RV true 0 R) (by simp [results, Tryd.results14, go_sem, r0, r1, r2]) rfl ⟨rfl, by repeat (first | exact HB.out | refine Below.setCell ?_ (by first | (simp; done) | (simp; omega) | omega) _ | refine Below.drew ?_)⟩
set_option maxHeartbeats 8000000 in
set_option maxRecDepth 100000 in
theorem sf2_2 (p e L : Int) (op a b R k1 k2 : Int) (g1 g2 : Bool) (x1 x2 : Int) (s1 s2 : Nat) (w : World) (KW1 : ∀ w, Hid (Calls Tryd.prog 22 #[.int .i64 op, .int .i64 91, .int .i64 97, .int .i64 6] w fun ed w' => ed = .returned (.tuple #[FSn, .int .i64 (-1)]) ∧ Below w.heap.size w w')) (KW2 : ∀ w, Hid (Calls Tryd.prog 22 #[.int .i64 op, .int .i64 146, .int .i64 160, .int .i64 7] w fun ed w' => ed = .returned (.tuple #[(.agg #[.int .i64 p, .int .i64 e, .int .i64 L]), .int .i64 2]) ∧ Below w.heap.size w w')) (KRa : ∀ w, Hid (Calls Tryd.prog 26 #[(.agg #[.int .i64 p, .int .i64 e, .int .i64 L]), .int .u64 a] w fun ed w' => (∃ v, ed = .returned (SV k1 g1 v x1) ∧ SN w' v s1) ∧ Below w.heap.size w w')) (KRb : ∀ w, Hid (Calls Tryd.prog 26 #[(.agg #[.int .i64 p, .int .i64 e, .int .i64 L]), .int .u64 b] w fun ed w' => (∃ v, ed = .returned (SV k2 g2 v x2) ∧ SN w' v s2) ∧ Below w.heap.size w w')) (KO : ∀ v1 v2 w, SN w v1 s1 → SN w v2 s2 → Hid (Calls Tryd.prog 48 #[(.agg #[.int .i64 p, .int .i64 e, .int .i64 L]), SV k1 g1 v1 x1, SV k2 g2 v2 x2] w fun ed w' => ed = .returned (.int .u64 R) ∧ Below w.heap.size w w'))  :
    Calls Tryd.prog 14 #[.int .i64 op, .int .u64 a, .int .u64 b] w fun ed w' => ed = .returned (RV true 0 R) ∧ Below w.heap.size w w' := by
  have KV := fun (w : World) => Hid.mk' (val_eq R R w rfl)
  go_enter Tryd.func14, Tryd.ntmps14
  go_wp2_with fail
  refine (KW1 _).out.mono ?_
  rintro e w1 ⟨rfl, hb⟩
  have HR1 := Hid.mk' (r3_new.keep hb)
  have HB1 := Hid.mk' (below_box hb)
  have hl1 := HR1.out.1.lt
  clear hb KW1
  go_wp2_with fail
  refine (KW2 _).out.mono ?_
  rintro e w2 ⟨rfl, hb⟩
  have HR2 := Hid.mk' (HR1.out.past.keep hb)
  have HF2 := Hid.mk' (r3_new.keep hb)
  have HB2 := Hid.mk' ((HB1.out.alloc HB1.out.size _).trans (hb.mono (Nat.le_trans HB1.out.size (by simp))))
  clear hb KW2 HR1 HB1
  generalize w1.heap.size = gf at *
  clear w1
  obtain ⟨⟨j0, j1, j2⟩, i0, i1, i2⟩ := HF2.out
  go_upto_region 5 with fail
  refine wp_gen (fun wz => RZ wz w.heap.size ∧ C3 wz gf (.int .i64 p) (.int .i64 e) (.int .i64 L) ∧ Below w.heap.size w wz) ⟨((HR2.out.far (by omega)).far (by omega)).far (by omega), HF2.out.setAll.1, ((HB2.out.setCell (by show _ ≤ gf; omega) _).setCell (by show _ ≤ gf; omega) _).setCell (by show _ ≤ gf; omega) _⟩ ?_
  clear HR2 HF2 HB2 j0 j1 j2 i0 i1 i2
  rintro w3 ⟨hr, hf, hb⟩
  have HR3 := Hid.mk' hr
  have HF3 := Hid.mk' hf
  have HB3 := Hid.mk' hb
  obtain ⟨q0, q1, q2⟩ := id hf
  clear hr hf hb
  go_wp2_with fail
  refine (KRa _).out.mono ?_
  rintro e w4 ⟨⟨u1, rfl, hu1⟩, hb⟩
  obtain ⟨sa, sc, rfl, -⟩ := id hu1
  have HR4 := Hid.mk' (HR3.out.keep hb)
  have HF4 := Hid.mk' (HF3.out.keep hb)
  have HB4 := Hid.mk' (HB3.out.trans (hb.mono HB3.out.size))
  have HU1 := Hid.mk' hu1
  generalize (dg s1).length = sl1 at *
  clear hb KRa HR3 HF3 HB3 q0 q1 q2 hu1
  go_upto_region 6 with fail
  refine wp_gen (fun wz => RZ wz w.heap.size ∧ C3 wz gf (.int .i64 p) (.int .i64 e) (.int .i64 L) ∧ D4 wz w4.heap.size (.int .i64 k1) (.bool g1) (.slice sa sl1 sc) (.int .i64 x1) ∧ SN wz (.slice sa sl1 sc) s1 ∧ Below w.heap.size w wz) ⟨HR4.out.past, HF4.out.past, d4_new, HU1.out.below ((Below.refl _ _).alloc (Nat.le_refl _) _), HB4.out.alloc HB4.out.size _⟩ ?_
  have hl4 : gf < w4.heap.size := HF4.out.lt
  clear HR4 HF4 HB4 HU1
  generalize w4.heap.size = ga at *
  rintro w5 ⟨hr, hf, ha, hu, hb⟩
  have HR5 := Hid.mk' hr
  have HF5 := Hid.mk' hf
  have HA5 := Hid.mk' ha
  have HU5 := Hid.mk' hu
  have HB5 := Hid.mk' hb
  obtain ⟨q0, q1, q2⟩ := id hf
  clear hr hf ha hu hb
  go_wp2_with fail
  refine (KRb _).out.mono ?_
  rintro e w6 ⟨⟨u2, rfl, hu2⟩, hb⟩
  obtain ⟨sb, sd, rfl, -⟩ := id hu2
  have HR6 := Hid.mk' (HR5.out.keep hb)
  have HF6 := Hid.mk' (HF5.out.keep hb)
  have HA6 := Hid.mk' (HA5.out.keep hb)
  have HU6 := Hid.mk' (HU5.out.below hb)
  have HB6 := Hid.mk' (HB5.out.trans (hb.mono HB5.out.size))
  have HU2 := Hid.mk' hu2
  generalize (dg s2).length = sl2 at *
  clear hb KRb HR5 HF5 HA5 HU5 HB5 q0 q1 q2 hu2
  go_upto_region 7 with fail
  refine wp_gen (fun wz => RZ wz w.heap.size ∧ C3 wz gf (.int .i64 p) (.int .i64 e) (.int .i64 L) ∧ D4 wz ga (.int .i64 k1) (.bool g1) (.slice sa sl1 sc) (.int .i64 x1) ∧ D4 wz w6.heap.size (.int .i64 k2) (.bool g2) (.slice sb sl2 sd) (.int .i64 x2) ∧ SN wz (.slice sa sl1 sc) s1 ∧ SN wz (.slice sb sl2 sd) s2 ∧ Below w.heap.size w wz) ⟨HR6.out.past, HF6.out.past, HA6.out.past, d4_new, HU6.out.below ((Below.refl _ _).alloc (Nat.le_refl _) _), HU2.out.below ((Below.refl _ _).alloc (Nat.le_refl _) _), HB6.out.alloc HB6.out.size _⟩ ?_
  have hl6 : ga < w6.heap.size := HA6.out.1.lt
  clear HR6 HF6 HA6 HU6 HU2 HB6
  generalize w6.heap.size = gb at *
  rintro w7 ⟨hr, hf, ha, hc, hu, hv, hb⟩
  have HR := Hid.mk' hr
  have HF := Hid.mk' hf
  have HA := Hid.mk' ha
  have HC := Hid.mk' hc
  have HU := Hid.mk' hu
  have HV := Hid.mk' hv
  have HB := Hid.mk' hb
  obtain ⟨q0, q1, q2⟩ := id hf
  obtain ⟨⟨r0, r1, r2⟩, t0, t1, t2⟩ := id hr
  obtain ⟨⟨a0, a1, a2, a3⟩, -⟩ := id ha
  obtain ⟨⟨b0, b1, b2, b3⟩, z0, z1, z2, z3⟩ := id hc
  clear hr hf ha hc hu hv hb
  go_wp2_with (first | (go_at_call 48; refine (KO _ _ _ HU.out HV.out).out.mono ?_; rintro e w8 ⟨rfl, hb⟩; have HR := Hid.mk' (HR.out.keep hb); have HF := Hid.mk' (HF.out.keep hb); have HB := Hid.mk' (HB.out.trans (hb.mono HB.out.size)); clear q0 q1 q2 r0 r1 r2 t0 t1 t2; obtain ⟨q0, q1, q2⟩ := HF.out; obtain ⟨⟨r0, r1, r2⟩, t0, t1, t2⟩ := HR.out; clear hb) | (go_at_call 27; refine (KV _).out.mono ?_; rintro e w8 ⟨rfl, hb⟩; have HR := Hid.mk' (HR.out.keep hb); have HF := Hid.mk' (HF.out.keep hb); have HB := Hid.mk' (HB.out.trans (hb.mono HB.out.size)); clear q0 q1 q2 r0 r1 r2 t0 t1 t2; obtain ⟨q0, q1, q2⟩ := HF.out; obtain ⟨⟨r0, r1, r2⟩, t0, t1, t2⟩ := HR.out; clear hb))
  exact bodyPost_ret (v := RV true 0 R) (by simp [results, Tryd.results14, go_sem, r0, r1, r2]) rfl ⟨rfl, by repeat (first | exact HB.out | refine Below.setCell ?_ (by first | (simp; done) | (simp; omega) | omega) _ | refine Below.drew ?_)⟩
set_option maxHeartbeats 8000000 in
set_option maxRecDepth 100000 in
theorem sf2_3 (p e L : Int) (op a b R k1 k2 : Int) (g1 g2 : Bool) (x1 x2 : Int) (s1 s2 : Nat) (w : World) (KW1 : ∀ w, Hid (Calls Tryd.prog 22 #[.int .i64 op, .int .i64 91, .int .i64 97, .int .i64 6] w fun ed w' => ed = .returned (.tuple #[FSn, .int .i64 (-1)]) ∧ Below w.heap.size w w')) (KW2 : ∀ w, Hid (Calls Tryd.prog 22 #[.int .i64 op, .int .i64 146, .int .i64 160, .int .i64 7] w fun ed w' => ed = .returned (.tuple #[(.agg #[.int .i64 p, .int .i64 e, .int .i64 L]), .int .i64 3]) ∧ Below w.heap.size w w')) (KRa : ∀ w, Hid (Calls Tryd.prog 26 #[(.agg #[.int .i64 p, .int .i64 e, .int .i64 L]), .int .u64 a] w fun ed w' => (∃ v, ed = .returned (SV k1 g1 v x1) ∧ SN w' v s1) ∧ Below w.heap.size w w')) (KRb : ∀ w, Hid (Calls Tryd.prog 26 #[(.agg #[.int .i64 p, .int .i64 e, .int .i64 L]), .int .u64 b] w fun ed w' => (∃ v, ed = .returned (SV k2 g2 v x2) ∧ SN w' v s2) ∧ Below w.heap.size w w')) (KO : ∀ v1 v2 w, SN w v1 s1 → SN w v2 s2 → Hid (Calls Tryd.prog 49 #[(.agg #[.int .i64 p, .int .i64 e, .int .i64 L]), SV k1 g1 v1 x1, SV k2 g2 v2 x2] w fun ed w' => ed = .returned (.int .u64 R) ∧ Below w.heap.size w w'))  :
    Calls Tryd.prog 14 #[.int .i64 op, .int .u64 a, .int .u64 b] w fun ed w' => ed = .returned (RV true 0 R) ∧ Below w.heap.size w w' := by
  have KV := fun (w : World) => Hid.mk' (val_eq R R w rfl)
  go_enter Tryd.func14, Tryd.ntmps14
  go_wp2_with fail
  refine (KW1 _).out.mono ?_
  rintro e w1 ⟨rfl, hb⟩
  have HR1 := Hid.mk' (r3_new.keep hb)
  have HB1 := Hid.mk' (below_box hb)
  have hl1 := HR1.out.1.lt
  clear hb KW1
  go_wp2_with fail
  refine (KW2 _).out.mono ?_
  rintro e w2 ⟨rfl, hb⟩
  have HR2 := Hid.mk' (HR1.out.past.keep hb)
  have HF2 := Hid.mk' (r3_new.keep hb)
  have HB2 := Hid.mk' ((HB1.out.alloc HB1.out.size _).trans (hb.mono (Nat.le_trans HB1.out.size (by simp))))
  clear hb KW2 HR1 HB1
  generalize w1.heap.size = gf at *
  clear w1
  obtain ⟨⟨j0, j1, j2⟩, i0, i1, i2⟩ := HF2.out
  go_upto_region 5 with fail
  refine wp_gen (fun wz => RZ wz w.heap.size ∧ C3 wz gf (.int .i64 p) (.int .i64 e) (.int .i64 L) ∧ Below w.heap.size w wz) ⟨((HR2.out.far (by omega)).far (by omega)).far (by omega), HF2.out.setAll.1, ((HB2.out.setCell (by show _ ≤ gf; omega) _).setCell (by show _ ≤ gf; omega) _).setCell (by show _ ≤ gf; omega) _⟩ ?_
  clear HR2 HF2 HB2 j0 j1 j2 i0 i1 i2
  rintro w3 ⟨hr, hf, hb⟩
  have HR3 := Hid.mk' hr
  have HF3 := Hid.mk' hf
  have HB3 := Hid.mk' hb
  obtain ⟨q0, q1, q2⟩ := id hf
  clear hr hf hb
  go_wp2_with fail
  refine (KRa _).out.mono ?_
  rintro e w4 ⟨⟨u1, rfl, hu1⟩, hb⟩
  obtain ⟨sa, sc, rfl, -⟩ := id hu1
  have HR4 := Hid.mk' (HR3.out.keep hb)
  have HF4 := Hid.mk' (HF3.out.keep hb)
  have HB4 := Hid.mk' (HB3.out.trans (hb.mono HB3.out.size))
  have HU1 := Hid.mk' hu1
  generalize (dg s1).length = sl1 at *
  clear hb KRa HR3 HF3 HB3 q0 q1 q2 hu1
  go_upto_region 6 with fail
  refine wp_gen (fun wz => RZ wz w.heap.size ∧ C3 wz gf (.int .i64 p) (.int .i64 e) (.int .i64 L) ∧ D4 wz w4.heap.size (.int .i64 k1) (.bool g1) (.slice sa sl1 sc) (.int .i64 x1) ∧ SN wz (.slice sa sl1 sc) s1 ∧ Below w.heap.size w wz) ⟨HR4.out.past, HF4.out.past, d4_new, HU1.out.below ((Below.refl _ _).alloc (Nat.le_refl _) _), HB4.out.alloc HB4.out.size _⟩ ?_
  have hl4 : gf < w4.heap.size := HF4.out.lt
  clear HR4 HF4 HB4 HU1
  generalize w4.heap.size = ga at *
  rintro w5 ⟨hr, hf, ha, hu, hb⟩
  have HR5 := Hid.mk' hr
  have HF5 := Hid.mk' hf
  have HA5 := Hid.mk' ha
  have HU5 := Hid.mk' hu
  have HB5 := Hid.mk' hb
  obtain ⟨q0, q1, q2⟩ := id hf
  clear hr hf ha hu hb
  go_wp2_with fail
  refine (KRb _).out.mono ?_
  rintro e w6 ⟨⟨u2, rfl, hu2⟩, hb⟩
  obtain ⟨sb, sd, rfl, -⟩ := id hu2
  have HR6 := Hid.mk' (HR5.out.keep hb)
  have HF6 := Hid.mk' (HF5.out.keep hb)
  have HA6 := Hid.mk' (HA5.out.keep hb)
  have HU6 := Hid.mk' (HU5.out.below hb)
  have HB6 := Hid.mk' (HB5.out.trans (hb.mono HB5.out.size))
  have HU2 := Hid.mk' hu2
  generalize (dg s2).length = sl2 at *
  clear hb KRb HR5 HF5 HA5 HU5 HB5 q0 q1 q2 hu2
  go_upto_region 7 with fail
  refine wp_gen (fun wz => RZ wz w.heap.size ∧ C3 wz gf (.int .i64 p) (.int .i64 e) (.int .i64 L) ∧ D4 wz ga (.int .i64 k1) (.bool g1) (.slice sa sl1 sc) (.int .i64 x1) ∧ D4 wz w6.heap.size (.int .i64 k2) (.bool g2) (.slice sb sl2 sd) (.int .i64 x2) ∧ SN wz (.slice sa sl1 sc) s1 ∧ SN wz (.slice sb sl2 sd) s2 ∧ Below w.heap.size w wz) ⟨HR6.out.past, HF6.out.past, HA6.out.past, d4_new, HU6.out.below ((Below.refl _ _).alloc (Nat.le_refl _) _), HU2.out.below ((Below.refl _ _).alloc (Nat.le_refl _) _), HB6.out.alloc HB6.out.size _⟩ ?_
  have hl6 : ga < w6.heap.size := HA6.out.1.lt
  clear HR6 HF6 HA6 HU6 HU2 HB6
  generalize w6.heap.size = gb at *
  rintro w7 ⟨hr, hf, ha, hc, hu, hv, hb⟩
  have HR := Hid.mk' hr
  have HF := Hid.mk' hf
  have HA := Hid.mk' ha
  have HC := Hid.mk' hc
  have HU := Hid.mk' hu
  have HV := Hid.mk' hv
  have HB := Hid.mk' hb
  obtain ⟨q0, q1, q2⟩ := id hf
  obtain ⟨⟨r0, r1, r2⟩, t0, t1, t2⟩ := id hr
  obtain ⟨⟨a0, a1, a2, a3⟩, -⟩ := id ha
  obtain ⟨⟨b0, b1, b2, b3⟩, z0, z1, z2, z3⟩ := id hc
  clear hr hf ha hc hu hv hb
  go_wp2_with (first | (go_at_call 49; refine (KO _ _ _ HU.out HV.out).out.mono ?_; rintro e w8 ⟨rfl, hb⟩; have HR := Hid.mk' (HR.out.keep hb); have HF := Hid.mk' (HF.out.keep hb); have HB := Hid.mk' (HB.out.trans (hb.mono HB.out.size)); clear q0 q1 q2 r0 r1 r2 t0 t1 t2; obtain ⟨q0, q1, q2⟩ := HF.out; obtain ⟨⟨r0, r1, r2⟩, t0, t1, t2⟩ := HR.out; clear hb) | (go_at_call 27; refine (KV _).out.mono ?_; rintro e w8 ⟨rfl, hb⟩; have HR := Hid.mk' (HR.out.keep hb); have HF := Hid.mk' (HF.out.keep hb); have HB := Hid.mk' (HB.out.trans (hb.mono HB.out.size)); clear q0 q1 q2 r0 r1 r2 t0 t1 t2; obtain ⟨q0, q1, q2⟩ := HF.out; obtain ⟨⟨r0, r1, r2⟩, t0, t1, t2⟩ := HR.out; clear hb))
  exact bodyPost_ret (v := RV true 0 R) (by simp [results, Tryd.results14, go_sem, r0, r1, r2]) rfl ⟨rfl, by repeat (first | exact HB.out | refine Below.setCell ?_ (by first | (simp; done) | (simp; omega) | omega) _ | refine Below.drew ?_)⟩
set_option maxHeartbeats 8000000 in
set_option maxRecDepth 100000 in
theorem sf2_4 (p e L : Int) (op a b R k1 k2 : Int) (g1 g2 : Bool) (x1 x2 : Int) (s1 s2 : Nat) (w : World) (KW1 : ∀ w, Hid (Calls Tryd.prog 22 #[.int .i64 op, .int .i64 91, .int .i64 97, .int .i64 6] w fun ed w' => ed = .returned (.tuple #[FSn, .int .i64 (-1)]) ∧ Below w.heap.size w w')) (KW2 : ∀ w, Hid (Calls Tryd.prog 22 #[.int .i64 op, .int .i64 146, .int .i64 160, .int .i64 7] w fun ed w' => ed = .returned (.tuple #[(.agg #[.int .i64 p, .int .i64 e, .int .i64 L]), .int .i64 4]) ∧ Below w.heap.size w w')) (KRa : ∀ w, Hid (Calls Tryd.prog 26 #[(.agg #[.int .i64 p, .int .i64 e, .int .i64 L]), .int .u64 a] w fun ed w' => (∃ v, ed = .returned (SV k1 g1 v x1) ∧ SN w' v s1) ∧ Below w.heap.size w w')) (KRb : ∀ w, Hid (Calls Tryd.prog 26 #[(.agg #[.int .i64 p, .int .i64 e, .int .i64 L]), .int .u64 b] w fun ed w' => (∃ v, ed = .returned (SV k2 g2 v x2) ∧ SN w' v s2) ∧ Below w.heap.size w w')) (KO : ∀ v1 v2 w, SN w v1 s1 → SN w v2 s2 → Hid (Calls Tryd.prog 50 #[(.agg #[.int .i64 p, .int .i64 e, .int .i64 L]), .bool false, SV k1 g1 v1 x1, SV k2 g2 v2 x2] w fun ed w' => ed = .returned (.int .u64 R) ∧ Below w.heap.size w w'))  :
    Calls Tryd.prog 14 #[.int .i64 op, .int .u64 a, .int .u64 b] w fun ed w' => ed = .returned (RV true 0 R) ∧ Below w.heap.size w w' := by
  have KV := fun (w : World) => Hid.mk' (val_eq R R w rfl)
  go_enter Tryd.func14, Tryd.ntmps14
  go_wp2_with fail
  refine (KW1 _).out.mono ?_
  rintro e w1 ⟨rfl, hb⟩
  have HR1 := Hid.mk' (r3_new.keep hb)
  have HB1 := Hid.mk' (below_box hb)
  have hl1 := HR1.out.1.lt
  clear hb KW1
  go_wp2_with fail
  refine (KW2 _).out.mono ?_
  rintro e w2 ⟨rfl, hb⟩
  have HR2 := Hid.mk' (HR1.out.past.keep hb)
  have HF2 := Hid.mk' (r3_new.keep hb)
  have HB2 := Hid.mk' ((HB1.out.alloc HB1.out.size _).trans (hb.mono (Nat.le_trans HB1.out.size (by simp))))
  clear hb KW2 HR1 HB1
  generalize w1.heap.size = gf at *
  clear w1
  obtain ⟨⟨j0, j1, j2⟩, i0, i1, i2⟩ := HF2.out
  go_upto_region 5 with fail
  refine wp_gen (fun wz => RZ wz w.heap.size ∧ C3 wz gf (.int .i64 p) (.int .i64 e) (.int .i64 L) ∧ Below w.heap.size w wz) ⟨((HR2.out.far (by omega)).far (by omega)).far (by omega), HF2.out.setAll.1, ((HB2.out.setCell (by show _ ≤ gf; omega) _).setCell (by show _ ≤ gf; omega) _).setCell (by show _ ≤ gf; omega) _⟩ ?_
  clear HR2 HF2 HB2 j0 j1 j2 i0 i1 i2
  rintro w3 ⟨hr, hf, hb⟩
  have HR3 := Hid.mk' hr
  have HF3 := Hid.mk' hf
  have HB3 := Hid.mk' hb
  obtain ⟨q0, q1, q2⟩ := id hf
  clear hr hf hb
  go_wp2_with fail
  refine (KRa _).out.mono ?_
  rintro e w4 ⟨⟨u1, rfl, hu1⟩, hb⟩
  obtain ⟨sa, sc, rfl, -⟩ := id hu1
  have HR4 := Hid.mk' (HR3.out.keep hb)
  have HF4 := Hid.mk' (HF3.out.keep hb)
  have HB4 := Hid.mk' (HB3.out.trans (hb.mono HB3.out.size))
  have HU1 := Hid.mk' hu1
  generalize (dg s1).length = sl1 at *
  clear hb KRa HR3 HF3 HB3 q0 q1 q2 hu1
  go_upto_region 6 with fail
  refine wp_gen (fun wz => RZ wz w.heap.size ∧ C3 wz gf (.int .i64 p) (.int .i64 e) (.int .i64 L) ∧ D4 wz w4.heap.size (.int .i64 k1) (.bool g1) (.slice sa sl1 sc) (.int .i64 x1) ∧ SN wz (.slice sa sl1 sc) s1 ∧ Below w.heap.size w wz) ⟨HR4.out.past, HF4.out.past, d4_new, HU1.out.below ((Below.refl _ _).alloc (Nat.le_refl _) _), HB4.out.alloc HB4.out.size _⟩ ?_
  have hl4 : gf < w4.heap.size := HF4.out.lt
  clear HR4 HF4 HB4 HU1
  generalize w4.heap.size = ga at *
  rintro w5 ⟨hr, hf, ha, hu, hb⟩
  have HR5 := Hid.mk' hr
  have HF5 := Hid.mk' hf
  have HA5 := Hid.mk' ha
  have HU5 := Hid.mk' hu
  have HB5 := Hid.mk' hb
  obtain ⟨q0, q1, q2⟩ := id hf
  clear hr hf ha hu hb
  go_wp2_with fail
  refine (KRb _).out.mono ?_
  rintro e w6 ⟨⟨u2, rfl, hu2⟩, hb⟩
  obtain ⟨sb, sd, rfl, -⟩ := id hu2
  have HR6 := Hid.mk' (HR5.out.keep hb)
  have HF6 := Hid.mk' (HF5.out.keep hb)
  have HA6 := Hid.mk' (HA5.out.keep hb)
  have HU6 := Hid.mk' (HU5.out.below hb)
  have HB6 := Hid.mk' (HB5.out.trans (hb.mono HB5.out.size))
  have HU2 := Hid.mk' hu2
  generalize (dg s2).length = sl2 at *
  clear hb KRb HR5 HF5 HA5 HU5 HB5 q0 q1 q2 hu2
  go_upto_region 7 with fail
  refine wp_gen (fun wz => RZ wz w.heap.size ∧ C3 wz gf (.int .i64 p) (.int .i64 e) (.int .i64 L) ∧ D4 wz ga (.int .i64 k1) (.bool g1) (.slice sa sl1 sc) (.int .i64 x1) ∧ D4 wz w6.heap.size (.int .i64 k2) (.bool g2) (.slice sb sl2 sd) (.int .i64 x2) ∧ SN wz (.slice sa sl1 sc) s1 ∧ SN wz (.slice sb sl2 sd) s2 ∧ Below w.heap.size w wz) ⟨HR6.out.past, HF6.out.past, HA6.out.past, d4_new, HU6.out.below ((Below.refl _ _).alloc (Nat.le_refl _) _), HU2.out.below ((Below.refl _ _).alloc (Nat.le_refl _) _), HB6.out.alloc HB6.out.size _⟩ ?_
  have hl6 : ga < w6.heap.size := HA6.out.1.lt
  clear HR6 HF6 HA6 HU6 HU2 HB6
  generalize w6.heap.size = gb at *
  rintro w7 ⟨hr, hf, ha, hc, hu, hv, hb⟩
  have HR := Hid.mk' hr
  have HF := Hid.mk' hf
  have HA := Hid.mk' ha
  have HC := Hid.mk' hc
  have HU := Hid.mk' hu
  have HV := Hid.mk' hv
  have HB := Hid.mk' hb
  obtain ⟨q0, q1, q2⟩ := id hf
  obtain ⟨⟨r0, r1, r2⟩, t0, t1, t2⟩ := id hr
  obtain ⟨⟨a0, a1, a2, a3⟩, -⟩ := id ha
  obtain ⟨⟨b0, b1, b2, b3⟩, z0, z1, z2, z3⟩ := id hc
  clear hr hf ha hc hu hv hb
  go_wp2_with (first | (go_at_call 50; refine (KO _ _ _ HU.out HV.out).out.mono ?_; rintro e w8 ⟨rfl, hb⟩; have HR := Hid.mk' (HR.out.keep hb); have HF := Hid.mk' (HF.out.keep hb); have HB := Hid.mk' (HB.out.trans (hb.mono HB.out.size)); clear q0 q1 q2 r0 r1 r2 t0 t1 t2; obtain ⟨q0, q1, q2⟩ := HF.out; obtain ⟨⟨r0, r1, r2⟩, t0, t1, t2⟩ := HR.out; clear hb) | (go_at_call 27; refine (KV _).out.mono ?_; rintro e w8 ⟨rfl, hb⟩; have HR := Hid.mk' (HR.out.keep hb); have HF := Hid.mk' (HF.out.keep hb); have HB := Hid.mk' (HB.out.trans (hb.mono HB.out.size)); clear q0 q1 q2 r0 r1 r2 t0 t1 t2; obtain ⟨q0, q1, q2⟩ := HF.out; obtain ⟨⟨r0, r1, r2⟩, t0, t1, t2⟩ := HR.out; clear hb))
  exact bodyPost_ret (v := RV true 0 R) (by simp [results, Tryd.results14, go_sem, r0, r1, r2]) rfl ⟨rfl, by repeat (first | exact HB.out | refine Below.setCell ?_ (by first | (simp; done) | (simp; omega) | omega) _ | refine Below.drew ?_)⟩
set_option maxHeartbeats 8000000 in
set_option maxRecDepth 100000 in
theorem sf2_5 (p e L : Int) (op a b R k1 k2 : Int) (g1 g2 : Bool) (x1 x2 : Int) (s1 s2 : Nat) (w : World) (KW1 : ∀ w, Hid (Calls Tryd.prog 22 #[.int .i64 op, .int .i64 91, .int .i64 97, .int .i64 6] w fun ed w' => ed = .returned (.tuple #[FSn, .int .i64 (-1)]) ∧ Below w.heap.size w w')) (KW2 : ∀ w, Hid (Calls Tryd.prog 22 #[.int .i64 op, .int .i64 146, .int .i64 160, .int .i64 7] w fun ed w' => ed = .returned (.tuple #[(.agg #[.int .i64 p, .int .i64 e, .int .i64 L]), .int .i64 5]) ∧ Below w.heap.size w w')) (KRa : ∀ w, Hid (Calls Tryd.prog 26 #[(.agg #[.int .i64 p, .int .i64 e, .int .i64 L]), .int .u64 a] w fun ed w' => (∃ v, ed = .returned (SV k1 g1 v x1) ∧ SN w' v s1) ∧ Below w.heap.size w w')) (KRb : ∀ w, Hid (Calls Tryd.prog 26 #[(.agg #[.int .i64 p, .int .i64 e, .int .i64 L]), .int .u64 b] w fun ed w' => (∃ v, ed = .returned (SV k2 g2 v x2) ∧ SN w' v s2) ∧ Below w.heap.size w w')) (KO : ∀ v1 v2 w, SN w v1 s1 → SN w v2 s2 → Hid (Calls Tryd.prog 50 #[(.agg #[.int .i64 p, .int .i64 e, .int .i64 L]), .bool true, SV k1 g1 v1 x1, SV k2 g2 v2 x2] w fun ed w' => ed = .returned (.int .u64 R) ∧ Below w.heap.size w w'))  :
    Calls Tryd.prog 14 #[.int .i64 op, .int .u64 a, .int .u64 b] w fun ed w' => ed = .returned (RV true 0 R) ∧ Below w.heap.size w w' := by
  have KV := fun (w : World) => Hid.mk' (val_eq R R w rfl)
  go_enter Tryd.func14, Tryd.ntmps14
  go_wp2_with fail
  refine (KW1 _).out.mono ?_
  rintro e w1 ⟨rfl, hb⟩
  have HR1 := Hid.mk' (r3_new.keep hb)
  have HB1 := Hid.mk' (below_box hb)
  have hl1 := HR1.out.1.lt
  clear hb KW1
  go_wp2_with fail
  refine (KW2 _).out.mono ?_
  rintro e w2 ⟨rfl, hb⟩
  have HR2 := Hid.mk' (HR1.out.past.keep hb)
  have HF2 := Hid.mk' (r3_new.keep hb)
  have HB2 := Hid.mk' ((HB1.out.alloc HB1.out.size _).trans (hb.mono (Nat.le_trans HB1.out.size (by simp))))
  clear hb KW2 HR1 HB1
  generalize w1.heap.size = gf at *
  clear w1
  obtain ⟨⟨j0, j1, j2⟩, i0, i1, i2⟩ := HF2.out
  go_upto_region 5 with fail
  refine wp_gen (fun wz => RZ wz w.heap.size ∧ C3 wz gf (.int .i64 p) (.int .i64 e) (.int .i64 L) ∧ Below w.heap.size w wz) ⟨((HR2.out.far (by omega)).far (by omega)).far (by omega), HF2.out.setAll.1, ((HB2.out.setCell (by show _ ≤ gf; omega) _).setCell (by show _ ≤ gf; omega) _).setCell (by show _ ≤ gf; omega) _⟩ ?_
  clear HR2 HF2 HB2 j0 j1 j2 i0 i1 i2
  rintro w3 ⟨hr, hf, hb⟩
  have HR3 := Hid.mk' hr
  have HF3 := Hid.mk' hf
  have HB3 := Hid.mk' hb
  obtain ⟨q0, q1, q2⟩ := id hf
  clear hr hf hb
  go_wp2_with fail
  refine (KRa _).out.mono ?_
  rintro e w4 ⟨⟨u1, rfl, hu1⟩, hb⟩
  obtain ⟨sa, sc, rfl, -⟩ := id hu1
  have HR4 := Hid.mk' (HR3.out.keep hb)
  have HF4 := Hid.mk' (HF3.out.keep hb)
  have HB4 := Hid.mk' (HB3.out.trans (hb.mono HB3.out.size))
  have HU1 := Hid.mk' hu1
  generalize (dg s1).length = sl1 at *
  clear hb KRa HR3 HF3 HB3 q0 q1 q2 hu1
  go_upto_region 6 with fail
  refine wp_gen (fun wz => RZ wz w.heap.size ∧ C3 wz gf (.int .i64 p) (.int .i64 e) (.int .i64 L) ∧ D4 wz w4.heap.size (.int .i64 k1) (.bool g1) (.slice sa sl1 sc) (.int .i64 x1) ∧ SN wz (.slice sa sl1 sc) s1 ∧ Below w.heap.size w wz) ⟨HR4.out.past, HF4.out.past, d4_new, HU1.out.below ((Below.refl _ _).alloc (Nat.le_refl _) _), HB4.out.alloc HB4.out.size _⟩ ?_
  have hl4 : gf < w4.heap.size := HF4.out.lt
  clear HR4 HF4 HB4 HU1
  generalize w4.heap.size = ga at *
  rintro w5 ⟨hr, hf, ha, hu, hb⟩
  have HR5 := Hid.mk' hr
  have HF5 := Hid.mk' hf
  have HA5 := Hid.mk' ha
  have HU5 := Hid.mk' hu
  have HB5 := Hid.mk' hb
  obtain ⟨q0, q1, q2⟩ := id hf
  clear hr hf ha hu hb
  go_wp2_with fail
  refine (KRb _).out.mono ?_
  rintro e w6 ⟨⟨u2, rfl, hu2⟩, hb⟩
  obtain ⟨sb, sd, rfl, -⟩ := id hu2
  have HR6 := Hid.mk' (HR5.out.keep hb)
  have HF6 := Hid.mk' (HF5.out.keep hb)
  have HA6 := Hid.mk' (HA5.out.keep hb)
  have HU6 := Hid.mk' (HU5.out.below hb)
  have HB6 := Hid.mk' (HB5.out.trans (hb.mono HB5.out.size))
  have HU2 := Hid.mk' hu2
  generalize (dg s2).length = sl2 at *
  clear hb KRb HR5 HF5 HA5 HU5 HB5 q0 q1 q2 hu2
  go_upto_region 7 with fail
  refine wp_gen (fun wz => RZ wz w.heap.size ∧ C3 wz gf (.int .i64 p) (.int .i64 e) (.int .i64 L) ∧ D4 wz ga (.int .i64 k1) (.bool g1) (.slice sa sl1 sc) (.int .i64 x1) ∧ D4 wz w6.heap.size (.int .i64 k2) (.bool g2) (.slice sb sl2 sd) (.int .i64 x2) ∧ SN wz (.slice sa sl1 sc) s1 ∧ SN wz (.slice sb sl2 sd) s2 ∧ Below w.heap.size w wz) ⟨HR6.out.past, HF6.out.past, HA6.out.past, d4_new, HU6.out.below ((Below.refl _ _).alloc (Nat.le_refl _) _), HU2.out.below ((Below.refl _ _).alloc (Nat.le_refl _) _), HB6.out.alloc HB6.out.size _⟩ ?_
  have hl6 : ga < w6.heap.size := HA6.out.1.lt
  clear HR6 HF6 HA6 HU6 HU2 HB6
  generalize w6.heap.size = gb at *
  rintro w7 ⟨hr, hf, ha, hc, hu, hv, hb⟩
  have HR := Hid.mk' hr
  have HF := Hid.mk' hf
  have HA := Hid.mk' ha
  have HC := Hid.mk' hc
  have HU := Hid.mk' hu
  have HV := Hid.mk' hv
  have HB := Hid.mk' hb
  obtain ⟨q0, q1, q2⟩ := id hf
  obtain ⟨⟨r0, r1, r2⟩, t0, t1, t2⟩ := id hr
  obtain ⟨⟨a0, a1, a2, a3⟩, -⟩ := id ha
  obtain ⟨⟨b0, b1, b2, b3⟩, z0, z1, z2, z3⟩ := id hc
  clear hr hf ha hc hu hv hb
  go_wp2_with (first | (go_at_call 50; refine (KO _ _ _ HU.out HV.out).out.mono ?_; rintro e w8 ⟨rfl, hb⟩; have HR := Hid.mk' (HR.out.keep hb); have HF := Hid.mk' (HF.out.keep hb); have HB := Hid.mk' (HB.out.trans (hb.mono HB.out.size)); clear q0 q1 q2 r0 r1 r2 t0 t1 t2; obtain ⟨q0, q1, q2⟩ := HF.out; obtain ⟨⟨r0, r1, r2⟩, t0, t1, t2⟩ := HR.out; clear hb) | (go_at_call 27; refine (KV _).out.mono ?_; rintro e w8 ⟨rfl, hb⟩; have HR := Hid.mk' (HR.out.keep hb); have HF := Hid.mk' (HF.out.keep hb); have HB := Hid.mk' (HB.out.trans (hb.mono HB.out.size)); clear q0 q1 q2 r0 r1 r2 t0 t1 t2; obtain ⟨q0, q1, q2⟩ := HF.out; obtain ⟨⟨r0, r1, r2⟩, t0, t1, t2⟩ := HR.out; clear hb))
  exact bodyPost_ret (v := RV true 0 R) (by simp [results, Tryd.results14, go_sem, r0, r1, r2]) rfl ⟨rfl, by repeat (first | exact HB.out | refine Below.setCell ?_ (by first | (simp; done) | (simp; omega) | omega) _ | refine Below.drew ?_)⟩
end Go.Proofs.YthmppcfhbbjhlaaDoor
namespace Go.Proofs.YthmppcfhbbjhlaaDoor
open Go.RowKit Go.Sort

set_option maxHeartbeats 8000000 in
set_option maxRecDepth 100000 in
theorem sf2_6n (A B0 : Int) (op a b R k1 k2 : Int) (g1 g2 : Bool) (x1 x2 : Int) (s1 s2 : Nat) (w : World) (KW1 : ∀ w, Hid (Calls Tryd.prog 22 #[.int .i64 op, .int .i64 91, .int .i64 97, .int .i64 6] w fun ed w' => ed = .returned (.tuple #[FSn, .int .i64 (-1)]) ∧ Below w.heap.size w w')) (KW2 : ∀ w, Hid (Calls Tryd.prog 22 #[.int .i64 op, .int .i64 146, .int .i64 160, .int .i64 7] w fun ed w' => ed = .returned (.tuple #[FSn, .int .i64 6]) ∧ Below w.heap.size w w')) (KRa : ∀ w, Hid (Calls Tryd.prog 26 #[FSn, .int .u64 a] w fun ed w' => (∃ v, ed = .returned (SV k1 g1 v x1) ∧ SN w' v s1) ∧ Below w.heap.size w w')) (KRb : ∀ w, Hid (Calls Tryd.prog 26 #[FSn, .int .u64 b] w fun ed w' => (∃ v, ed = .returned (SV k2 g2 v x2) ∧ SN w' v s2) ∧ Below w.heap.size w w'))
    (KLa : ∀ w, Hid (Calls Tryd.prog 23 #[.int .u64 a, .int .i64 32] w fun ed w' => ed = .returned (.int .u64 A) ∧ w = w')) (KLb : ∀ w, Hid (Calls Tryd.prog 23 #[.int .u64 b, .int .i64 32] w fun ed w' => ed = .returned (.int .u64 B0) ∧ w = w')) (hA : 0 ≤ A) (hA' : A < 4294967296) (hB : 0 ≤ B0) (hB' : B0 < 4294967296) (hR : R = A % 2147483648 + B0 / 2147483648 * 2147483648) :
    Calls Tryd.prog 14 #[.int .i64 op, .int .u64 a, .int .u64 b] w fun ed w' => ed = .returned (RV true 0 R) ∧ Below w.heap.size w w' := by
  have HCP : Hid (IntKind.u64.wrap (A.tmod 2147483648 + IntKind.u64.wrap (IntKind.u64.wrap (B0.tdiv 2147483648) * 2147483648)) = R) := Hid.mk' (by rw [hR, Int.tmod_eq_emod_of_nonneg hA, Int.tdiv_eq_ediv_of_nonneg hB]; simp only [IntKind.wrap_u64]; omega)
  clear hR
  go_enter Tryd.func14, Tryd.ntmps14
  go_wp2_with fail
  refine (KW1 _).out.mono ?_
  rintro e w1 ⟨rfl, hb⟩
  have HR1 := Hid.mk' (r3_new.keep hb)
  have HB1 := Hid.mk' (below_box hb)
  have hl1 := HR1.out.1.lt
  clear hb KW1
  go_wp2_with fail
  refine (KW2 _).out.mono ?_
  rintro e w2 ⟨rfl, hb⟩
  have HR2 := Hid.mk' (HR1.out.past.keep hb)
  have HF2 := Hid.mk' (r3_new.keep hb)
  have HB2 := Hid.mk' ((HB1.out.alloc HB1.out.size _).trans (hb.mono (Nat.le_trans HB1.out.size (by simp))))
  clear hb KW2 HR1 HB1
  generalize w1.heap.size = gf at *
  clear w1
  obtain ⟨⟨j0, j1, j2⟩, i0, i1, i2⟩ := HF2.out
  go_upto_region 5 with fail
  refine wp_gen (fun wz => RZ wz w.heap.size ∧ C3 wz gf (.int .i64 24) (.int .i64 8) (.int .i64 (-149)) ∧ Below w.heap.size w wz) ⟨((HR2.out.far (by omega)).far (by omega)).far (by omega), HF2.out.setAll.1, ((HB2.out.setCell (by show _ ≤ gf; omega) _).setCell (by show _ ≤ gf; omega) _).setCell (by show _ ≤ gf; omega) _⟩ ?_
  clear HR2 HF2 HB2 j0 j1 j2 i0 i1 i2
  rintro w3 ⟨hr, hf, hb⟩
  have HR3 := Hid.mk' hr
  have HF3 := Hid.mk' hf
  have HB3 := Hid.mk' hb
  obtain ⟨q0, q1, q2⟩ := id hf
  clear hr hf hb
  go_wp2_with fail
  refine (KRa _).out.mono ?_
  rintro e w4 ⟨⟨u1, rfl, hu1⟩, hb⟩
  obtain ⟨sa, sc, rfl, -⟩ := id hu1
  have HR4 := Hid.mk' (HR3.out.keep hb)
  have HF4 := Hid.mk' (HF3.out.keep hb)
  have HB4 := Hid.mk' (HB3.out.trans (hb.mono HB3.out.size))
  have HU1 := Hid.mk' hu1
  generalize (dg s1).length = sl1 at *
  clear hb KRa HR3 HF3 HB3 q0 q1 q2 hu1
  go_upto_region 6 with fail
  refine wp_gen (fun wz => RZ wz w.heap.size ∧ C3 wz gf (.int .i64 24) (.int .i64 8) (.int .i64 (-149)) ∧ D4 wz w4.heap.size (.int .i64 k1) (.bool g1) (.slice sa sl1 sc) (.int .i64 x1) ∧ SN wz (.slice sa sl1 sc) s1 ∧ Below w.heap.size w wz) ⟨HR4.out.past, HF4.out.past, d4_new, HU1.out.below ((Below.refl _ _).alloc (Nat.le_refl _) _), HB4.out.alloc HB4.out.size _⟩ ?_
  have hl4 : gf < w4.heap.size := HF4.out.lt
  clear HR4 HF4 HB4 HU1
  generalize w4.heap.size = ga at *
  rintro w5 ⟨hr, hf, ha, hu, hb⟩
  have HR5 := Hid.mk' hr
  have HF5 := Hid.mk' hf
  have HA5 := Hid.mk' ha
  have HU5 := Hid.mk' hu
  have HB5 := Hid.mk' hb
  obtain ⟨q0, q1, q2⟩ := id hf
  clear hr hf ha hu hb
  go_wp2_with fail
  refine (KRb _).out.mono ?_
  rintro e w6 ⟨⟨u2, rfl, hu2⟩, hb⟩
  obtain ⟨sb, sd, rfl, -⟩ := id hu2
  have HR6 := Hid.mk' (HR5.out.keep hb)
  have HF6 := Hid.mk' (HF5.out.keep hb)
  have HA6 := Hid.mk' (HA5.out.keep hb)
  have HU6 := Hid.mk' (HU5.out.below hb)
  have HB6 := Hid.mk' (HB5.out.trans (hb.mono HB5.out.size))
  have HU2 := Hid.mk' hu2
  generalize (dg s2).length = sl2 at *
  clear hb KRb HR5 HF5 HA5 HU5 HB5 q0 q1 q2 hu2
  go_upto_region 7 with fail
  refine wp_gen (fun wz => RZ wz w.heap.size ∧ C3 wz gf (.int .i64 24) (.int .i64 8) (.int .i64 (-149)) ∧ D4 wz ga (.int .i64 k1) (.bool g1) (.slice sa sl1 sc) (.int .i64 x1) ∧ D4 wz w6.heap.size (.int .i64 k2) (.bool g2) (.slice sb sl2 sd) (.int .i64 x2) ∧ SN wz (.slice sa sl1 sc) s1 ∧ SN wz (.slice sb sl2 sd) s2 ∧ Below w.heap.size w wz) ⟨HR6.out.past, HF6.out.past, HA6.out.past, d4_new, HU6.out.below ((Below.refl _ _).alloc (Nat.le_refl _) _), HU2.out.below ((Below.refl _ _).alloc (Nat.le_refl _) _), HB6.out.alloc HB6.out.size _⟩ ?_
  have hl6 : ga < w6.heap.size := HA6.out.1.lt
  clear HR6 HF6 HA6 HU6 HU2 HB6
  generalize w6.heap.size = gb at *
  rintro w7 ⟨hr, hf, ha, hc, hu, hv, hb⟩
  have HR := Hid.mk' hr
  have HF := Hid.mk' hf
  have HA := Hid.mk' ha
  have HC := Hid.mk' hc
  have HU := Hid.mk' hu
  have HV := Hid.mk' hv
  have HB := Hid.mk' hb
  obtain ⟨q0, q1, q2⟩ := id hf
  obtain ⟨⟨r0, r1, r2⟩, t0, t1, t2⟩ := id hr
  obtain ⟨⟨a0, a1, a2, a3⟩, -⟩ := id ha
  obtain ⟨⟨b0, b1, b2, b3⟩, z0, z1, z2, z3⟩ := id hc
  clear hr hf ha hc hu hv hb
  have KWd := fun (w : World) => Hid.mk' (width_n w)
  have KPw := fun (w : World) => Hid.mk' (pow_31 w)
  go_upto_region 23 with (first
    | (go_at_call 24; refine (KWd _).out.mono ?_; rintro e w8 ⟨rfl, hb⟩; have HR := Hid.mk' (HR.out.keep hb); have HF := Hid.mk' (HF.out.keep hb); have HB := Hid.mk' (HB.out.trans (hb.mono HB.out.size)); clear q0 q1 q2 r0 r1 r2 t0 t1 t2; obtain ⟨q0, q1, q2⟩ := HF.out; obtain ⟨⟨r0, r1, r2⟩, t0, t1, t2⟩ := HR.out; clear hb)
    | (go_at_call 25; refine (KPw _).out.mono ?_; rintro e w8 ⟨rfl, rfl⟩))
  go_region_held3 (fun w' => w'.cell? ⟨gf, 0, none⟩ = some (.int .i64 24) ∧ w'.cell? ⟨gf, 1, none⟩ = some (.int .i64 8) ∧ w'.cell? ⟨gf, 2, none⟩ = some (.int .i64 (-149))) (first | exact ⟨q0, q1, q2⟩ | exact ((HF.out.far (Nat.ne_of_lt hl1)).far (Nat.ne_of_lt hl1)).far (Nat.ne_of_lt hl1)) (first
    | (go_at_call 24; refine (KWd _).out.mono ?_; rintro e w8 ⟨rfl, hb⟩; (first | have hb := undrew hb | skip); have HR := Hid.mk' (HR.out.keep hb); have HF := Hid.mk' (HF.out.keep hb); have HB := Hid.mk' (HB.out.trans (hb.mono HB.out.size)); clear q0 q1 q2 r0 r1 r2 t0 t1 t2; obtain ⟨q0, q1, q2⟩ := HF.out; obtain ⟨⟨r0, r1, r2⟩, t0, t1, t2⟩ := HR.out; clear hb)
    | (go_at_call 23; (first | (with_reducible refine (KLa _).out.mono ?_) | (with_reducible refine (KLb _).out.mono ?_)); rintro e w8 ⟨rfl, rfl⟩)
    | (go_at_call 27; refine (val_eq _ R _ ?_).mono ?_; exact HCP.out; rintro e w8 ⟨rfl, hb⟩; (first | have hb := undrew hb | skip); have HR := Hid.mk' (HR.out.keep hb); have HF := Hid.mk' (HF.out.keep hb); have HB := Hid.mk' (HB.out.trans (hb.mono HB.out.size)); clear q0 q1 q2 r0 r1 r2 t0 t1 t2; obtain ⟨q0, q1, q2⟩ := HF.out; obtain ⟨⟨r0, r1, r2⟩, t0, t1, t2⟩ := HR.out; clear hb))
  all_goals go_wp2
  all_goals exact bodyPost_ret (v := RV true 0 R) (by simp [results, Tryd.results14, go_sem, r0, r1, r2]) rfl ⟨rfl, by repeat (first | exact HB.out | refine Below.setCell ?_ (by first | (simp; done) | (simp; omega) | omega) _ | refine Below.drew ?_)⟩
set_option maxHeartbeats 8000000 in
set_option maxRecDepth 100000 in
theorem sf2_6w (A B0 : Int) (op a b R k1 k2 : Int) (g1 g2 : Bool) (x1 x2 : Int) (s1 s2 : Nat) (w : World) (KW1 : ∀ w, Hid (Calls Tryd.prog 22 #[.int .i64 op, .int .i64 91, .int .i64 97, .int .i64 6] w fun ed w' => ed = .returned (.tuple #[FSn, .int .i64 (-1)]) ∧ Below w.heap.size w w')) (KW2 : ∀ w, Hid (Calls Tryd.prog 22 #[.int .i64 op, .int .i64 146, .int .i64 160, .int .i64 7] w fun ed w' => ed = .returned (.tuple #[FSw, .int .i64 6]) ∧ Below w.heap.size w w')) (KRa : ∀ w, Hid (Calls Tryd.prog 26 #[FSw, .int .u64 a] w fun ed w' => (∃ v, ed = .returned (SV k1 g1 v x1) ∧ SN w' v s1) ∧ Below w.heap.size w w')) (KRb : ∀ w, Hid (Calls Tryd.prog 26 #[FSw, .int .u64 b] w fun ed w' => (∃ v, ed = .returned (SV k2 g2 v x2) ∧ SN w' v s2) ∧ Below w.heap.size w w'))
    (KLa : ∀ w, Hid (Calls Tryd.prog 23 #[.int .u64 a, .int .i64 64] w fun ed w' => ed = .returned (.int .u64 A) ∧ w = w')) (KLb : ∀ w, Hid (Calls Tryd.prog 23 #[.int .u64 b, .int .i64 64] w fun ed w' => ed = .returned (.int .u64 B0) ∧ w = w')) (hA : 0 ≤ A) (hA' : A < 18446744073709551616) (hB : 0 ≤ B0) (hB' : B0 < 18446744073709551616) (hR : R = A % 9223372036854775808 + B0 / 9223372036854775808 * 9223372036854775808) :
    Calls Tryd.prog 14 #[.int .i64 op, .int .u64 a, .int .u64 b] w fun ed w' => ed = .returned (RV true 0 R) ∧ Below w.heap.size w w' := by
  have HCP : Hid (IntKind.u64.wrap (A.tmod 9223372036854775808 + IntKind.u64.wrap (IntKind.u64.wrap (B0.tdiv 9223372036854775808) * 9223372036854775808)) = R) := Hid.mk' (by rw [hR, Int.tmod_eq_emod_of_nonneg hA, Int.tdiv_eq_ediv_of_nonneg hB]; simp only [IntKind.wrap_u64]; omega)
  clear hR
  go_enter Tryd.func14, Tryd.ntmps14
  go_wp2_with fail
  refine (KW1 _).out.mono ?_
  rintro e w1 ⟨rfl, hb⟩
  have HR1 := Hid.mk' (r3_new.keep hb)
  have HB1 := Hid.mk' (below_box hb)
  have hl1 := HR1.out.1.lt
  clear hb KW1
  go_wp2_with fail
  refine (KW2 _).out.mono ?_
  rintro e w2 ⟨rfl, hb⟩
  have HR2 := Hid.mk' (HR1.out.past.keep hb)
  have HF2 := Hid.mk' (r3_new.keep hb)
  have HB2 := Hid.mk' ((HB1.out.alloc HB1.out.size _).trans (hb.mono (Nat.le_trans HB1.out.size (by simp))))
  clear hb KW2 HR1 HB1
  generalize w1.heap.size = gf at *
  clear w1
  obtain ⟨⟨j0, j1, j2⟩, i0, i1, i2⟩ := HF2.out
  go_upto_region 5 with fail
  refine wp_gen (fun wz => RZ wz w.heap.size ∧ C3 wz gf (.int .i64 53) (.int .i64 11) (.int .i64 (-1074)) ∧ Below w.heap.size w wz) ⟨((HR2.out.far (by omega)).far (by omega)).far (by omega), HF2.out.setAll.1, ((HB2.out.setCell (by show _ ≤ gf; omega) _).setCell (by show _ ≤ gf; omega) _).setCell (by show _ ≤ gf; omega) _⟩ ?_
  clear HR2 HF2 HB2 j0 j1 j2 i0 i1 i2
  rintro w3 ⟨hr, hf, hb⟩
  have HR3 := Hid.mk' hr
  have HF3 := Hid.mk' hf
  have HB3 := Hid.mk' hb
  obtain ⟨q0, q1, q2⟩ := id hf
  clear hr hf hb
  go_wp2_with fail
  refine (KRa _).out.mono ?_
  rintro e w4 ⟨⟨u1, rfl, hu1⟩, hb⟩
  obtain ⟨sa, sc, rfl, -⟩ := id hu1
  have HR4 := Hid.mk' (HR3.out.keep hb)
  have HF4 := Hid.mk' (HF3.out.keep hb)
  have HB4 := Hid.mk' (HB3.out.trans (hb.mono HB3.out.size))
  have HU1 := Hid.mk' hu1
  generalize (dg s1).length = sl1 at *
  clear hb KRa HR3 HF3 HB3 q0 q1 q2 hu1
  go_upto_region 6 with fail
  refine wp_gen (fun wz => RZ wz w.heap.size ∧ C3 wz gf (.int .i64 53) (.int .i64 11) (.int .i64 (-1074)) ∧ D4 wz w4.heap.size (.int .i64 k1) (.bool g1) (.slice sa sl1 sc) (.int .i64 x1) ∧ SN wz (.slice sa sl1 sc) s1 ∧ Below w.heap.size w wz) ⟨HR4.out.past, HF4.out.past, d4_new, HU1.out.below ((Below.refl _ _).alloc (Nat.le_refl _) _), HB4.out.alloc HB4.out.size _⟩ ?_
  have hl4 : gf < w4.heap.size := HF4.out.lt
  clear HR4 HF4 HB4 HU1
  generalize w4.heap.size = ga at *
  rintro w5 ⟨hr, hf, ha, hu, hb⟩
  have HR5 := Hid.mk' hr
  have HF5 := Hid.mk' hf
  have HA5 := Hid.mk' ha
  have HU5 := Hid.mk' hu
  have HB5 := Hid.mk' hb
  obtain ⟨q0, q1, q2⟩ := id hf
  clear hr hf ha hu hb
  go_wp2_with fail
  refine (KRb _).out.mono ?_
  rintro e w6 ⟨⟨u2, rfl, hu2⟩, hb⟩
  obtain ⟨sb, sd, rfl, -⟩ := id hu2
  have HR6 := Hid.mk' (HR5.out.keep hb)
  have HF6 := Hid.mk' (HF5.out.keep hb)
  have HA6 := Hid.mk' (HA5.out.keep hb)
  have HU6 := Hid.mk' (HU5.out.below hb)
  have HB6 := Hid.mk' (HB5.out.trans (hb.mono HB5.out.size))
  have HU2 := Hid.mk' hu2
  generalize (dg s2).length = sl2 at *
  clear hb KRb HR5 HF5 HA5 HU5 HB5 q0 q1 q2 hu2
  go_upto_region 7 with fail
  refine wp_gen (fun wz => RZ wz w.heap.size ∧ C3 wz gf (.int .i64 53) (.int .i64 11) (.int .i64 (-1074)) ∧ D4 wz ga (.int .i64 k1) (.bool g1) (.slice sa sl1 sc) (.int .i64 x1) ∧ D4 wz w6.heap.size (.int .i64 k2) (.bool g2) (.slice sb sl2 sd) (.int .i64 x2) ∧ SN wz (.slice sa sl1 sc) s1 ∧ SN wz (.slice sb sl2 sd) s2 ∧ Below w.heap.size w wz) ⟨HR6.out.past, HF6.out.past, HA6.out.past, d4_new, HU6.out.below ((Below.refl _ _).alloc (Nat.le_refl _) _), HU2.out.below ((Below.refl _ _).alloc (Nat.le_refl _) _), HB6.out.alloc HB6.out.size _⟩ ?_
  have hl6 : ga < w6.heap.size := HA6.out.1.lt
  clear HR6 HF6 HA6 HU6 HU2 HB6
  generalize w6.heap.size = gb at *
  rintro w7 ⟨hr, hf, ha, hc, hu, hv, hb⟩
  have HR := Hid.mk' hr
  have HF := Hid.mk' hf
  have HA := Hid.mk' ha
  have HC := Hid.mk' hc
  have HU := Hid.mk' hu
  have HV := Hid.mk' hv
  have HB := Hid.mk' hb
  obtain ⟨q0, q1, q2⟩ := id hf
  obtain ⟨⟨r0, r1, r2⟩, t0, t1, t2⟩ := id hr
  obtain ⟨⟨a0, a1, a2, a3⟩, -⟩ := id ha
  obtain ⟨⟨b0, b1, b2, b3⟩, z0, z1, z2, z3⟩ := id hc
  clear hr hf ha hc hu hv hb
  have KWd := fun (w : World) => Hid.mk' (width_w w)
  have KPw := fun (w : World) => Hid.mk' (pow_63 w)
  go_upto_region 23 with (first
    | (go_at_call 24; refine (KWd _).out.mono ?_; rintro e w8 ⟨rfl, hb⟩; have HR := Hid.mk' (HR.out.keep hb); have HF := Hid.mk' (HF.out.keep hb); have HB := Hid.mk' (HB.out.trans (hb.mono HB.out.size)); clear q0 q1 q2 r0 r1 r2 t0 t1 t2; obtain ⟨q0, q1, q2⟩ := HF.out; obtain ⟨⟨r0, r1, r2⟩, t0, t1, t2⟩ := HR.out; clear hb)
    | (go_at_call 25; refine (KPw _).out.mono ?_; rintro e w8 ⟨rfl, rfl⟩))
  go_region_held3 (fun w' => w'.cell? ⟨gf, 0, none⟩ = some (.int .i64 53) ∧ w'.cell? ⟨gf, 1, none⟩ = some (.int .i64 11) ∧ w'.cell? ⟨gf, 2, none⟩ = some (.int .i64 (-1074))) (first | exact ⟨q0, q1, q2⟩ | exact ((HF.out.far (Nat.ne_of_lt hl1)).far (Nat.ne_of_lt hl1)).far (Nat.ne_of_lt hl1)) (first
    | (go_at_call 24; refine (KWd _).out.mono ?_; rintro e w8 ⟨rfl, hb⟩; (first | have hb := undrew hb | skip); have HR := Hid.mk' (HR.out.keep hb); have HF := Hid.mk' (HF.out.keep hb); have HB := Hid.mk' (HB.out.trans (hb.mono HB.out.size)); clear q0 q1 q2 r0 r1 r2 t0 t1 t2; obtain ⟨q0, q1, q2⟩ := HF.out; obtain ⟨⟨r0, r1, r2⟩, t0, t1, t2⟩ := HR.out; clear hb)
    | (go_at_call 23; (first | (with_reducible refine (KLa _).out.mono ?_) | (with_reducible refine (KLb _).out.mono ?_)); rintro e w8 ⟨rfl, rfl⟩)
    | (go_at_call 27; refine (val_eq _ R _ ?_).mono ?_; exact HCP.out; rintro e w8 ⟨rfl, hb⟩; (first | have hb := undrew hb | skip); have HR := Hid.mk' (HR.out.keep hb); have HF := Hid.mk' (HF.out.keep hb); have HB := Hid.mk' (HB.out.trans (hb.mono HB.out.size)); clear q0 q1 q2 r0 r1 r2 t0 t1 t2; obtain ⟨q0, q1, q2⟩ := HF.out; obtain ⟨⟨r0, r1, r2⟩, t0, t1, t2⟩ := HR.out; clear hb))
  all_goals go_wp2
  all_goals exact bodyPost_ret (v := RV true 0 R) (by simp [results, Tryd.results14, go_sem, r0, r1, r2]) rfl ⟨rfl, by repeat (first | exact HB.out | refine Below.setCell ?_ (by first | (simp; done) | (simp; omega) | omega) _ | refine Below.drew ?_)⟩
set_option maxHeartbeats 8000000 in
set_option maxRecDepth 100000 in
theorem sf2_x (p e L : Int) (op a b R k1 k2 : Int) (g1 g2 : Bool) (x1 x2 : Int) (s1 s2 : Nat) (w : World) (KW1 : ∀ w, Hid (Calls Tryd.prog 22 #[.int .i64 op, .int .i64 91, .int .i64 97, .int .i64 6] w fun ed w' => ed = .returned (.tuple #[FSn, .int .i64 (-1)]) ∧ Below w.heap.size w w')) (KW2 : ∀ w, Hid (Calls Tryd.prog 22 #[.int .i64 op, .int .i64 146, .int .i64 160, .int .i64 7] w fun ed w' => ed = .returned (.tuple #[(.agg #[.int .i64 p, .int .i64 e, .int .i64 L]), .int .i64 (-1)]) ∧ Below w.heap.size w w')) (KRa : ∀ w, Hid (Calls Tryd.prog 26 #[(.agg #[.int .i64 p, .int .i64 e, .int .i64 L]), .int .u64 a] w fun ed w' => (∃ v, ed = .returned (SV k1 g1 v x1) ∧ SN w' v s1) ∧ Below w.heap.size w w')) (KRb : ∀ w, Hid (Calls Tryd.prog 26 #[(.agg #[.int .i64 p, .int .i64 e, .int .i64 L]), .int .u64 b] w fun ed w' => (∃ v, ed = .returned (SV k2 g2 v x2) ∧ SN w' v s2) ∧ Below w.heap.size w w')) :
    Calls Tryd.prog 14 #[.int .i64 op, .int .u64 a, .int .u64 b] w fun ed w' => ed = .returned (RV false 0 0) ∧ Below w.heap.size w w' := by
  go_enter Tryd.func14, Tryd.ntmps14
  go_wp2_with fail
  refine (KW1 _).out.mono ?_
  rintro e w1 ⟨rfl, hb⟩
  have HR1 := Hid.mk' (r3_new.keep hb)
  have HB1 := Hid.mk' (below_box hb)
  have hl1 := HR1.out.1.lt
  clear hb KW1
  go_wp2_with fail
  refine (KW2 _).out.mono ?_
  rintro e w2 ⟨rfl, hb⟩
  have HR2 := Hid.mk' (HR1.out.past.keep hb)
  have HF2 := Hid.mk' (r3_new.keep hb)
  have HB2 := Hid.mk' ((HB1.out.alloc HB1.out.size _).trans (hb.mono (Nat.le_trans HB1.out.size (by simp))))
  clear hb KW2 HR1 HB1
  generalize w1.heap.size = gf at *
  clear w1
  obtain ⟨⟨j0, j1, j2⟩, i0, i1, i2⟩ := HF2.out
  go_upto_region 5 with fail
  refine wp_gen (fun wz => RZ wz w.heap.size ∧ C3 wz gf (.int .i64 p) (.int .i64 e) (.int .i64 L) ∧ Below w.heap.size w wz) ⟨((HR2.out.far (by omega)).far (by omega)).far (by omega), HF2.out.setAll.1, ((HB2.out.setCell (by show _ ≤ gf; omega) _).setCell (by show _ ≤ gf; omega) _).setCell (by show _ ≤ gf; omega) _⟩ ?_
  clear HR2 HF2 HB2 j0 j1 j2 i0 i1 i2
  rintro w3 ⟨hr, hf, hb⟩
  have HR3 := Hid.mk' hr
  have HF3 := Hid.mk' hf
  have HB3 := Hid.mk' hb
  obtain ⟨q0, q1, q2⟩ := id hf
  clear hr hf hb
  go_wp2_with fail
  refine (KRa _).out.mono ?_
  rintro e w4 ⟨⟨u1, rfl, hu1⟩, hb⟩
  obtain ⟨sa, sc, rfl, -⟩ := id hu1
  have HR4 := Hid.mk' (HR3.out.keep hb)
  have HF4 := Hid.mk' (HF3.out.keep hb)
  have HB4 := Hid.mk' (HB3.out.trans (hb.mono HB3.out.size))
  have HU1 := Hid.mk' hu1
  generalize (dg s1).length = sl1 at *
  clear hb KRa HR3 HF3 HB3 q0 q1 q2 hu1
  go_upto_region 6 with fail
  refine wp_gen (fun wz => RZ wz w.heap.size ∧ C3 wz gf (.int .i64 p) (.int .i64 e) (.int .i64 L) ∧ D4 wz w4.heap.size (.int .i64 k1) (.bool g1) (.slice sa sl1 sc) (.int .i64 x1) ∧ SN wz (.slice sa sl1 sc) s1 ∧ Below w.heap.size w wz) ⟨HR4.out.past, HF4.out.past, d4_new, HU1.out.below ((Below.refl _ _).alloc (Nat.le_refl _) _), HB4.out.alloc HB4.out.size _⟩ ?_
  have hl4 : gf < w4.heap.size := HF4.out.lt
  clear HR4 HF4 HB4 HU1
  generalize w4.heap.size = ga at *
  rintro w5 ⟨hr, hf, ha, hu, hb⟩
  have HR5 := Hid.mk' hr
  have HF5 := Hid.mk' hf
  have HA5 := Hid.mk' ha
  have HU5 := Hid.mk' hu
  have HB5 := Hid.mk' hb
  obtain ⟨q0, q1, q2⟩ := id hf
  clear hr hf ha hu hb
  go_wp2_with fail
  refine (KRb _).out.mono ?_
  rintro e w6 ⟨⟨u2, rfl, hu2⟩, hb⟩
  obtain ⟨sb, sd, rfl, -⟩ := id hu2
  have HR6 := Hid.mk' (HR5.out.keep hb)
  have HF6 := Hid.mk' (HF5.out.keep hb)
  have HA6 := Hid.mk' (HA5.out.keep hb)
  have HU6 := Hid.mk' (HU5.out.below hb)
  have HB6 := Hid.mk' (HB5.out.trans (hb.mono HB5.out.size))
  have HU2 := Hid.mk' hu2
  generalize (dg s2).length = sl2 at *
  clear hb KRb HR5 HF5 HA5 HU5 HB5 q0 q1 q2 hu2
  go_upto_region 7 with fail
  refine wp_gen (fun wz => RZ wz w.heap.size ∧ C3 wz gf (.int .i64 p) (.int .i64 e) (.int .i64 L) ∧ D4 wz ga (.int .i64 k1) (.bool g1) (.slice sa sl1 sc) (.int .i64 x1) ∧ D4 wz w6.heap.size (.int .i64 k2) (.bool g2) (.slice sb sl2 sd) (.int .i64 x2) ∧ SN wz (.slice sa sl1 sc) s1 ∧ SN wz (.slice sb sl2 sd) s2 ∧ Below w.heap.size w wz) ⟨HR6.out.past, HF6.out.past, HA6.out.past, d4_new, HU6.out.below ((Below.refl _ _).alloc (Nat.le_refl _) _), HU2.out.below ((Below.refl _ _).alloc (Nat.le_refl _) _), HB6.out.alloc HB6.out.size _⟩ ?_
  have hl6 : ga < w6.heap.size := HA6.out.1.lt
  clear HR6 HF6 HA6 HU6 HU2 HB6
  generalize w6.heap.size = gb at *
  rintro w7 ⟨hr, hf, ha, hc, hu, hv, hb⟩
  have HR := Hid.mk' hr
  have HF := Hid.mk' hf
  have HA := Hid.mk' ha
  have HC := Hid.mk' hc
  have HU := Hid.mk' hu
  have HV := Hid.mk' hv
  have HB := Hid.mk' hb
  obtain ⟨q0, q1, q2⟩ := id hf
  obtain ⟨⟨r0, r1, r2⟩, t0, t1, t2⟩ := id hr
  obtain ⟨⟨a0, a1, a2, a3⟩, -⟩ := id ha
  obtain ⟨⟨b0, b1, b2, b3⟩, z0, z1, z2, z3⟩ := id hc
  clear hr hf ha hc hu hv hb
  go_wp2
  exact bodyPost_ret (v := RV false 0 0) (by simp [results, Tryd.results14, go_sem, r0, r1, r2]) rfl ⟨rfl, by repeat (first | exact HB.out | refine Below.setCell ?_ (by first | (simp; done) | (simp; omega) | omega) _ | refine Below.drew ?_)⟩
end Go.Proofs.YthmppcfhbbjhlaaDoor
