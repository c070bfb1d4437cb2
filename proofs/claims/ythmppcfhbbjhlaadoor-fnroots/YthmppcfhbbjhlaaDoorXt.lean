import Derived.Test.YthmppcfhbbjhlaaDoorXs
import Derived.Deep.RegionHeld3
set_option linter.all false
namespace Go.Proofs.YthmppcfhbbjhlaaDoor
open Go.RowKit Go.Sort

set_option maxHeartbeats 4000000 in
set_option maxRecDepth 100000 in
theorem tms_2x (k2 : Int) (p e L : Int) (g1 g2 : Bool) (v1 v2 : Value) (x1 x2 : Int) (s1 s2 : Nat) (w : World) (R : Int) (hS1 : SN w v1 s1) (hS2 : SN w v2 s2) (KN : ∀ w, Hid (Calls Tryd.prog 67 #[(.agg #[.int .i64 p, .int .i64 e, .int .i64 L])] w fun e w' => e = .returned (.int .u64 R) ∧ Below w.heap.size w w')) :
    Calls Tryd.prog 48 #[(.agg #[.int .i64 p, .int .i64 e, .int .i64 L]), SV 2 g1 v1 x1, SV k2 g2 v2 x2] w fun e w' => e = .returned (.int .u64 R) ∧ Below w.heap.size w w' := by
  go_enter Tryd.func48, Tryd.ntmps48
  go_upto_region 1 with fail
  refine wp_gen (fun wz => C3 wz w.heap.size (.int .i64 p) (.int .i64 e) (.int .i64 L) ∧ C4 wz (w.heap.size + 1) (.int .i64 2) (.bool g1) v1 (.int .i64 x1) ∧ C4 wz (w.heap.size + 1 + 1) (.int .i64 k2) (.bool g2) v2 (.int .i64 x2) ∧ SN wz v1 s1 ∧ SN wz v2 s2 ∧ Below w.heap.size w wz) ⟨c3_new.past.past, c4_mid.past, c4_third, hS1.below ((((Below.refl _ _).alloc (Nat.le_refl _) _).alloc (by simp) _).alloc (by simp; omega) _), hS2.below ((((Below.refl _ _).alloc (Nat.le_refl _) _).alloc (by simp) _).alloc (by simp; omega) _), ((((Below.refl _ _).alloc (Nat.le_refl _) _).alloc (by simp) _).alloc (by simp; omega) _)⟩ ?_
  rintro w1 ⟨cf, ca, cb, hs1, hs2, hb⟩
  have CF := Hid.mk' cf
  have CA := Hid.mk' ca
  have CB := Hid.mk' cb
  have H1 := Hid.mk' hs1
  have H2 := Hid.mk' hs2
  have HB := Hid.mk' hb
  clear cf ca cb hs1 hs2 hb hS1 hS2
  obtain ⟨q0, q1, q2⟩ := CF.out
  obtain ⟨a0, a1, a2, a3⟩ := CA.out
  obtain ⟨b0, b1, b2, b3⟩ := CB.out
  go_wp2_with (first | (go_at_call 67; refine (KN _).out.mono ?_; rintro e w6 ⟨rfl, hb⟩; have CF := Hid.mk' (CF.out.keep hb); have CA := Hid.mk' (CA.out.keep hb); have CB := Hid.mk' (CB.out.keep hb); have H1 := Hid.mk' (H1.out.below hb); have H2 := Hid.mk' (H2.out.below hb); have HB := Hid.mk' (HB.out.trans (hb.mono HB.out.size)); clear q0 q1 q2 a0 a1 a2 a3 b0 b1 b2 b3; obtain ⟨q0, q1, q2⟩ := CF.out; obtain ⟨a0, a1, a2, a3⟩ := CA.out; obtain ⟨b0, b1, b2, b3⟩ := CB.out; clear hb))
  go_ret
  exact ⟨rfl, HB.out⟩
set_option maxHeartbeats 4000000 in
set_option maxRecDepth 100000 in
theorem tms_x2 (k1 : Int) (p e L : Int) (g1 g2 : Bool) (v1 v2 : Value) (x1 x2 : Int) (s1 s2 : Nat) (w : World) (R : Int) (hS1 : SN w v1 s1) (hS2 : SN w v2 s2) (hk : (k1 == 2) = false) (KN : ∀ w, Hid (Calls Tryd.prog 67 #[(.agg #[.int .i64 p, .int .i64 e, .int .i64 L])] w fun e w' => e = .returned (.int .u64 R) ∧ Below w.heap.size w w')) :
    Calls Tryd.prog 48 #[(.agg #[.int .i64 p, .int .i64 e, .int .i64 L]), SV k1 g1 v1 x1, SV 2 g2 v2 x2] w fun e w' => e = .returned (.int .u64 R) ∧ Below w.heap.size w w' := by
  go_enter Tryd.func48, Tryd.ntmps48
  go_upto_region 1 with fail
  refine wp_gen (fun wz => C3 wz w.heap.size (.int .i64 p) (.int .i64 e) (.int .i64 L) ∧ C4 wz (w.heap.size + 1) (.int .i64 k1) (.bool g1) v1 (.int .i64 x1) ∧ C4 wz (w.heap.size + 1 + 1) (.int .i64 2) (.bool g2) v2 (.int .i64 x2) ∧ SN wz v1 s1 ∧ SN wz v2 s2 ∧ Below w.heap.size w wz) ⟨c3_new.past.past, c4_mid.past, c4_third, hS1.below ((((Below.refl _ _).alloc (Nat.le_refl _) _).alloc (by simp) _).alloc (by simp; omega) _), hS2.below ((((Below.refl _ _).alloc (Nat.le_refl _) _).alloc (by simp) _).alloc (by simp; omega) _), ((((Below.refl _ _).alloc (Nat.le_refl _) _).alloc (by simp) _).alloc (by simp; omega) _)⟩ ?_
  rintro w1 ⟨cf, ca, cb, hs1, hs2, hb⟩
  have CF := Hid.mk' cf
  have CA := Hid.mk' ca
  have CB := Hid.mk' cb
  have H1 := Hid.mk' hs1
  have H2 := Hid.mk' hs2
  have HB := Hid.mk' hb
  clear cf ca cb hs1 hs2 hb hS1 hS2
  obtain ⟨q0, q1, q2⟩ := CF.out
  obtain ⟨a0, a1, a2, a3⟩ := CA.out
  obtain ⟨b0, b1, b2, b3⟩ := CB.out
  go_wp2_with (first | (go_at_call 67; refine (KN _).out.mono ?_; rintro e w6 ⟨rfl, hb⟩; have CF := Hid.mk' (CF.out.keep hb); have CA := Hid.mk' (CA.out.keep hb); have CB := Hid.mk' (CB.out.keep hb); have H1 := Hid.mk' (H1.out.below hb); have H2 := Hid.mk' (H2.out.below hb); have HB := Hid.mk' (HB.out.trans (hb.mono HB.out.size)); clear q0 q1 q2 a0 a1 a2 a3 b0 b1 b2 b3; obtain ⟨q0, q1, q2⟩ := CF.out; obtain ⟨a0, a1, a2, a3⟩ := CA.out; obtain ⟨b0, b1, b2, b3⟩ := CB.out; clear hb))
  go_ret
  exact ⟨rfl, HB.out⟩
set_option maxHeartbeats 4000000 in
set_option maxRecDepth 100000 in
theorem tms_1z  (p e L : Int) (g1 g2 : Bool) (v1 v2 : Value) (x1 x2 : Int) (s1 s2 : Nat) (w : World) (R : Int) (hS1 : SN w v1 s1) (hS2 : SN w v2 s2) (KZ2 : ∀ w, SN w v2 s2 → Hid (Calls Tryd.prog 66 #[SV 0 g2 v2 x2] w fun e w' => e = .returned (.bool true) ∧ Below w.heap.size w w')) (KN : ∀ w, Hid (Calls Tryd.prog 67 #[(.agg #[.int .i64 p, .int .i64 e, .int .i64 L])] w fun e w' => e = .returned (.int .u64 R) ∧ Below w.heap.size w w')) :
    Calls Tryd.prog 48 #[(.agg #[.int .i64 p, .int .i64 e, .int .i64 L]), SV 1 g1 v1 x1, SV 0 g2 v2 x2] w fun e w' => e = .returned (.int .u64 R) ∧ Below w.heap.size w w' := by
  go_enter Tryd.func48, Tryd.ntmps48
  go_upto_region 1 with fail
  refine wp_gen (fun wz => C3 wz w.heap.size (.int .i64 p) (.int .i64 e) (.int .i64 L) ∧ C4 wz (w.heap.size + 1) (.int .i64 1) (.bool g1) v1 (.int .i64 x1) ∧ C4 wz (w.heap.size + 1 + 1) (.int .i64 0) (.bool g2) v2 (.int .i64 x2) ∧ SN wz v1 s1 ∧ SN wz v2 s2 ∧ Below w.heap.size w wz) ⟨c3_new.past.past, c4_mid.past, c4_third, hS1.below ((((Below.refl _ _).alloc (Nat.le_refl _) _).alloc (by simp) _).alloc (by simp; omega) _), hS2.below ((((Below.refl _ _).alloc (Nat.le_refl _) _).alloc (by simp) _).alloc (by simp; omega) _), ((((Below.refl _ _).alloc (Nat.le_refl _) _).alloc (by simp) _).alloc (by simp; omega) _)⟩ ?_
  rintro w1 ⟨cf, ca, cb, hs1, hs2, hb⟩
  have CF := Hid.mk' cf
  have CA := Hid.mk' ca
  have CB := Hid.mk' cb
  have H1 := Hid.mk' hs1
  have H2 := Hid.mk' hs2
  have HB := Hid.mk' hb
  clear cf ca cb hs1 hs2 hb hS1 hS2
  obtain ⟨q0, q1, q2⟩ := CF.out
  obtain ⟨a0, a1, a2, a3⟩ := CA.out
  obtain ⟨b0, b1, b2, b3⟩ := CB.out
  go_wp2_with (first | (go_at_call 66; (first | (with_reducible refine (KZ2 _ H2.out).out.mono ?_)); rintro e w6 ⟨rfl, hb⟩; have CF := Hid.mk' (CF.out.keep hb); have CA := Hid.mk' (CA.out.keep hb); have CB := Hid.mk' (CB.out.keep hb); have H1 := Hid.mk' (H1.out.below hb); have H2 := Hid.mk' (H2.out.below hb); have HB := Hid.mk' (HB.out.trans (hb.mono HB.out.size)); clear q0 q1 q2 a0 a1 a2 a3 b0 b1 b2 b3; obtain ⟨q0, q1, q2⟩ := CF.out; obtain ⟨a0, a1, a2, a3⟩ := CA.out; obtain ⟨b0, b1, b2, b3⟩ := CB.out; clear hb) | (go_at_call 67; refine (KN _).out.mono ?_; rintro e w6 ⟨rfl, hb⟩; have CF := Hid.mk' (CF.out.keep hb); have CA := Hid.mk' (CA.out.keep hb); have CB := Hid.mk' (CB.out.keep hb); have H1 := Hid.mk' (H1.out.below hb); have H2 := Hid.mk' (H2.out.below hb); have HB := Hid.mk' (HB.out.trans (hb.mono HB.out.size)); clear q0 q1 q2 a0 a1 a2 a3 b0 b1 b2 b3; obtain ⟨q0, q1, q2⟩ := CF.out; obtain ⟨a0, a1, a2, a3⟩ := CA.out; obtain ⟨b0, b1, b2, b3⟩ := CB.out; clear hb))
  go_ret
  exact ⟨rfl, HB.out⟩
set_option maxHeartbeats 4000000 in
set_option maxRecDepth 100000 in
theorem tms_z1  (p e L : Int) (g1 g2 : Bool) (v1 v2 : Value) (x1 x2 : Int) (s1 s2 : Nat) (w : World) (R : Int) (hS1 : SN w v1 s1) (hS2 : SN w v2 s2) (KZ1 : ∀ w, SN w v1 s1 → Hid (Calls Tryd.prog 66 #[SV 0 g1 v1 x1] w fun e w' => e = .returned (.bool true) ∧ Below w.heap.size w w')) (KN : ∀ w, Hid (Calls Tryd.prog 67 #[(.agg #[.int .i64 p, .int .i64 e, .int .i64 L])] w fun e w' => e = .returned (.int .u64 R) ∧ Below w.heap.size w w')) :
    Calls Tryd.prog 48 #[(.agg #[.int .i64 p, .int .i64 e, .int .i64 L]), SV 0 g1 v1 x1, SV 1 g2 v2 x2] w fun e w' => e = .returned (.int .u64 R) ∧ Below w.heap.size w w' := by
  go_enter Tryd.func48, Tryd.ntmps48
  go_upto_region 1 with fail
  refine wp_gen (fun wz => C3 wz w.heap.size (.int .i64 p) (.int .i64 e) (.int .i64 L) ∧ C4 wz (w.heap.size + 1) (.int .i64 0) (.bool g1) v1 (.int .i64 x1) ∧ C4 wz (w.heap.size + 1 + 1) (.int .i64 1) (.bool g2) v2 (.int .i64 x2) ∧ SN wz v1 s1 ∧ SN wz v2 s2 ∧ Below w.heap.size w wz) ⟨c3_new.past.past, c4_mid.past, c4_third, hS1.below ((((Below.refl _ _).alloc (Nat.le_refl _) _).alloc (by simp) _).alloc (by simp; omega) _), hS2.below ((((Below.refl _ _).alloc (Nat.le_refl _) _).alloc (by simp) _).alloc (by simp; omega) _), ((((Below.refl _ _).alloc (Nat.le_refl _) _).alloc (by simp) _).alloc (by simp; omega) _)⟩ ?_
  rintro w1 ⟨cf, ca, cb, hs1, hs2, hb⟩
  have CF := Hid.mk' cf
  have CA := Hid.mk' ca
  have CB := Hid.mk' cb
  have H1 := Hid.mk' hs1
  have H2 := Hid.mk' hs2
  have HB := Hid.mk' hb
  clear cf ca cb hs1 hs2 hb hS1 hS2
  obtain ⟨q0, q1, q2⟩ := CF.out
  obtain ⟨a0, a1, a2, a3⟩ := CA.out
  obtain ⟨b0, b1, b2, b3⟩ := CB.out
  go_wp2_with (first | (go_at_call 66; (first | (with_reducible refine (KZ1 _ H1.out).out.mono ?_)); rintro e w6 ⟨rfl, hb⟩; have CF := Hid.mk' (CF.out.keep hb); have CA := Hid.mk' (CA.out.keep hb); have CB := Hid.mk' (CB.out.keep hb); have H1 := Hid.mk' (H1.out.below hb); have H2 := Hid.mk' (H2.out.below hb); have HB := Hid.mk' (HB.out.trans (hb.mono HB.out.size)); clear q0 q1 q2 a0 a1 a2 a3 b0 b1 b2 b3; obtain ⟨q0, q1, q2⟩ := CF.out; obtain ⟨a0, a1, a2, a3⟩ := CA.out; obtain ⟨b0, b1, b2, b3⟩ := CB.out; clear hb) | (go_at_call 67; refine (KN _).out.mono ?_; rintro e w6 ⟨rfl, hb⟩; have CF := Hid.mk' (CF.out.keep hb); have CA := Hid.mk' (CA.out.keep hb); have CB := Hid.mk' (CB.out.keep hb); have H1 := Hid.mk' (H1.out.below hb); have H2 := Hid.mk' (H2.out.below hb); have HB := Hid.mk' (HB.out.trans (hb.mono HB.out.size)); clear q0 q1 q2 a0 a1 a2 a3 b0 b1 b2 b3; obtain ⟨q0, q1, q2⟩ := CF.out; obtain ⟨a0, a1, a2, a3⟩ := CA.out; obtain ⟨b0, b1, b2, b3⟩ := CB.out; clear hb))
  go_ret
  exact ⟨rfl, HB.out⟩
set_option maxHeartbeats 4000000 in
set_option maxRecDepth 100000 in
theorem tms_11 (g : Bool) (p e L : Int) (g1 g2 : Bool) (v1 v2 : Value) (x1 x2 : Int) (s1 s2 : Nat) (w : World) (R : Int) (hS1 : SN w v1 s1) (hS2 : SN w v2 s2) (hg : (!(g1 == g2)) = g) (KZ1 : ∀ w, SN w v1 s1 → Hid (Calls Tryd.prog 66 #[SV 1 g1 v1 x1] w fun e w' => e = .returned (.bool false) ∧ Below w.heap.size w w')) (KZ2 : ∀ w, SN w v2 s2 → Hid (Calls Tryd.prog 66 #[SV 1 g2 v2 x2] w fun e w' => e = .returned (.bool false) ∧ Below w.heap.size w w')) (KI : ∀ w, Hid (Calls Tryd.prog 72 #[(.agg #[.int .i64 p, .int .i64 e, .int .i64 L]), .bool g] w fun e w' => e = .returned (.int .u64 R) ∧ Below w.heap.size w w')) :
    Calls Tryd.prog 48 #[(.agg #[.int .i64 p, .int .i64 e, .int .i64 L]), SV 1 g1 v1 x1, SV 1 g2 v2 x2] w fun e w' => e = .returned (.int .u64 R) ∧ Below w.heap.size w w' := by
  go_enter Tryd.func48, Tryd.ntmps48
  go_upto_region 1 with fail
  refine wp_gen (fun wz => C3 wz w.heap.size (.int .i64 p) (.int .i64 e) (.int .i64 L) ∧ C4 wz (w.heap.size + 1) (.int .i64 1) (.bool g1) v1 (.int .i64 x1) ∧ C4 wz (w.heap.size + 1 + 1) (.int .i64 1) (.bool g2) v2 (.int .i64 x2) ∧ SN wz v1 s1 ∧ SN wz v2 s2 ∧ Below w.heap.size w wz) ⟨c3_new.past.past, c4_mid.past, c4_third, hS1.below ((((Below.refl _ _).alloc (Nat.le_refl _) _).alloc (by simp) _).alloc (by simp; omega) _), hS2.below ((((Below.refl _ _).alloc (Nat.le_refl _) _).alloc (by simp) _).alloc (by simp; omega) _), ((((Below.refl _ _).alloc (Nat.le_refl _) _).alloc (by simp) _).alloc (by simp; omega) _)⟩ ?_
  rintro w1 ⟨cf, ca, cb, hs1, hs2, hb⟩
  have CF := Hid.mk' cf
  have CA := Hid.mk' ca
  have CB := Hid.mk' cb
  have H1 := Hid.mk' hs1
  have H2 := Hid.mk' hs2
  have HB := Hid.mk' hb
  clear cf ca cb hs1 hs2 hb hS1 hS2
  obtain ⟨q0, q1, q2⟩ := CF.out
  obtain ⟨a0, a1, a2, a3⟩ := CA.out
  obtain ⟨b0, b1, b2, b3⟩ := CB.out
  go_wp2_with (first | (go_at_call 66; (first | (with_reducible refine (KZ1 _ H1.out).out.mono ?_) | (with_reducible refine (KZ2 _ H2.out).out.mono ?_)); rintro e w6 ⟨rfl, hb⟩; have CF := Hid.mk' (CF.out.keep hb); have CA := Hid.mk' (CA.out.keep hb); have CB := Hid.mk' (CB.out.keep hb); have H1 := Hid.mk' (H1.out.below hb); have H2 := Hid.mk' (H2.out.below hb); have HB := Hid.mk' (HB.out.trans (hb.mono HB.out.size)); clear q0 q1 q2 a0 a1 a2 a3 b0 b1 b2 b3; obtain ⟨q0, q1, q2⟩ := CF.out; obtain ⟨a0, a1, a2, a3⟩ := CA.out; obtain ⟨b0, b1, b2, b3⟩ := CB.out; clear hb) | (go_at_call 72; refine (KI _).out.mono ?_; rintro e w6 ⟨rfl, hb⟩; have CF := Hid.mk' (CF.out.keep hb); have CA := Hid.mk' (CA.out.keep hb); have CB := Hid.mk' (CB.out.keep hb); have H1 := Hid.mk' (H1.out.below hb); have H2 := Hid.mk' (H2.out.below hb); have HB := Hid.mk' (HB.out.trans (hb.mono HB.out.size)); clear q0 q1 q2 a0 a1 a2 a3 b0 b1 b2 b3; obtain ⟨q0, q1, q2⟩ := CF.out; obtain ⟨a0, a1, a2, a3⟩ := CA.out; obtain ⟨b0, b1, b2, b3⟩ := CB.out; clear hb))
  go_ret
  exact ⟨rfl, HB.out⟩
set_option maxHeartbeats 4000000 in
set_option maxRecDepth 100000 in
theorem tms_1n (g : Bool) (p e L : Int) (g1 g2 : Bool) (v1 v2 : Value) (x1 x2 : Int) (s1 s2 : Nat) (w : World) (R : Int) (hS1 : SN w v1 s1) (hS2 : SN w v2 s2) (hg : (!(g1 == g2)) = g) (KZ2 : ∀ w, SN w v2 s2 → Hid (Calls Tryd.prog 66 #[SV 0 g2 v2 x2] w fun e w' => e = .returned (.bool false) ∧ Below w.heap.size w w')) (KI : ∀ w, Hid (Calls Tryd.prog 72 #[(.agg #[.int .i64 p, .int .i64 e, .int .i64 L]), .bool g] w fun e w' => e = .returned (.int .u64 R) ∧ Below w.heap.size w w')) :
    Calls Tryd.prog 48 #[(.agg #[.int .i64 p, .int .i64 e, .int .i64 L]), SV 1 g1 v1 x1, SV 0 g2 v2 x2] w fun e w' => e = .returned (.int .u64 R) ∧ Below w.heap.size w w' := by
  go_enter Tryd.func48, Tryd.ntmps48
  go_upto_region 1 with fail
  refine wp_gen (fun wz => C3 wz w.heap.size (.int .i64 p) (.int .i64 e) (.int .i64 L) ∧ C4 wz (w.heap.size + 1) (.int .i64 1) (.bool g1) v1 (.int .i64 x1) ∧ C4 wz (w.heap.size + 1 + 1) (.int .i64 0) (.bool g2) v2 (.int .i64 x2) ∧ SN wz v1 s1 ∧ SN wz v2 s2 ∧ Below w.heap.size w wz) ⟨c3_new.past.past, c4_mid.past, c4_third, hS1.below ((((Below.refl _ _).alloc (Nat.le_refl _) _).alloc (by simp) _).alloc (by simp; omega) _), hS2.below ((((Below.refl _ _).alloc (Nat.le_refl _) _).alloc (by simp) _).alloc (by simp; omega) _), ((((Below.refl _ _).alloc (Nat.le_refl _) _).alloc (by simp) _).alloc (by simp; omega) _)⟩ ?_
  rintro w1 ⟨cf, ca, cb, hs1, hs2, hb⟩
  have CF := Hid.mk' cf
  have CA := Hid.mk' ca
  have CB := Hid.mk' cb
  have H1 := Hid.mk' hs1
  have H2 := Hid.mk' hs2
  have HB := Hid.mk' hb
  clear cf ca cb hs1 hs2 hb hS1 hS2
  obtain ⟨q0, q1, q2⟩ := CF.out
  obtain ⟨a0, a1, a2, a3⟩ := CA.out
  obtain ⟨b0, b1, b2, b3⟩ := CB.out
  go_wp2_with (first | (go_at_call 66; (first | (with_reducible refine (KZ2 _ H2.out).out.mono ?_)); rintro e w6 ⟨rfl, hb⟩; have CF := Hid.mk' (CF.out.keep hb); have CA := Hid.mk' (CA.out.keep hb); have CB := Hid.mk' (CB.out.keep hb); have H1 := Hid.mk' (H1.out.below hb); have H2 := Hid.mk' (H2.out.below hb); have HB := Hid.mk' (HB.out.trans (hb.mono HB.out.size)); clear q0 q1 q2 a0 a1 a2 a3 b0 b1 b2 b3; obtain ⟨q0, q1, q2⟩ := CF.out; obtain ⟨a0, a1, a2, a3⟩ := CA.out; obtain ⟨b0, b1, b2, b3⟩ := CB.out; clear hb) | (go_at_call 72; refine (KI _).out.mono ?_; rintro e w6 ⟨rfl, hb⟩; have CF := Hid.mk' (CF.out.keep hb); have CA := Hid.mk' (CA.out.keep hb); have CB := Hid.mk' (CB.out.keep hb); have H1 := Hid.mk' (H1.out.below hb); have H2 := Hid.mk' (H2.out.below hb); have HB := Hid.mk' (HB.out.trans (hb.mono HB.out.size)); clear q0 q1 q2 a0 a1 a2 a3 b0 b1 b2 b3; obtain ⟨q0, q1, q2⟩ := CF.out; obtain ⟨a0, a1, a2, a3⟩ := CA.out; obtain ⟨b0, b1, b2, b3⟩ := CB.out; clear hb))
  go_ret
  exact ⟨rfl, HB.out⟩
set_option maxHeartbeats 4000000 in
set_option maxRecDepth 100000 in
theorem tms_n1 (g : Bool) (p e L : Int) (g1 g2 : Bool) (v1 v2 : Value) (x1 x2 : Int) (s1 s2 : Nat) (w : World) (R : Int) (hS1 : SN w v1 s1) (hS2 : SN w v2 s2) (hg : (!(g1 == g2)) = g) (KZ1 : ∀ w, SN w v1 s1 → Hid (Calls Tryd.prog 66 #[SV 0 g1 v1 x1] w fun e w' => e = .returned (.bool false) ∧ Below w.heap.size w w')) (KI : ∀ w, Hid (Calls Tryd.prog 72 #[(.agg #[.int .i64 p, .int .i64 e, .int .i64 L]), .bool g] w fun e w' => e = .returned (.int .u64 R) ∧ Below w.heap.size w w')) :
    Calls Tryd.prog 48 #[(.agg #[.int .i64 p, .int .i64 e, .int .i64 L]), SV 0 g1 v1 x1, SV 1 g2 v2 x2] w fun e w' => e = .returned (.int .u64 R) ∧ Below w.heap.size w w' := by
  go_enter Tryd.func48, Tryd.ntmps48
  go_upto_region 1 with fail
  refine wp_gen (fun wz => C3 wz w.heap.size (.int .i64 p) (.int .i64 e) (.int .i64 L) ∧ C4 wz (w.heap.size + 1) (.int .i64 0) (.bool g1) v1 (.int .i64 x1) ∧ C4 wz (w.heap.size + 1 + 1) (.int .i64 1) (.bool g2) v2 (.int .i64 x2) ∧ SN wz v1 s1 ∧ SN wz v2 s2 ∧ Below w.heap.size w wz) ⟨c3_new.past.past, c4_mid.past, c4_third, hS1.below ((((Below.refl _ _).alloc (Nat.le_refl _) _).alloc (by simp) _).alloc (by simp; omega) _), hS2.below ((((Below.refl _ _).alloc (Nat.le_refl _) _).alloc (by simp) _).alloc (by simp; omega) _), ((((Below.refl _ _).alloc (Nat.le_refl _) _).alloc (by simp) _).alloc (by simp; omega) _)⟩ ?_
  rintro w1 ⟨cf, ca, cb, hs1, hs2, hb⟩
  have CF := Hid.mk' cf
  have CA := Hid.mk' ca
  have CB := Hid.mk' cb
  have H1 := Hid.mk' hs1
  have H2 := Hid.mk' hs2
  have HB := Hid.mk' hb
  clear cf ca cb hs1 hs2 hb hS1 hS2
  obtain ⟨q0, q1, q2⟩ := CF.out
  obtain ⟨a0, a1, a2, a3⟩ := CA.out
  obtain ⟨b0, b1, b2, b3⟩ := CB.out
  go_wp2_with (first | (go_at_call 66; (first | (with_reducible refine (KZ1 _ H1.out).out.mono ?_)); rintro e w6 ⟨rfl, hb⟩; have CF := Hid.mk' (CF.out.keep hb); have CA := Hid.mk' (CA.out.keep hb); have CB := Hid.mk' (CB.out.keep hb); have H1 := Hid.mk' (H1.out.below hb); have H2 := Hid.mk' (H2.out.below hb); have HB := Hid.mk' (HB.out.trans (hb.mono HB.out.size)); clear q0 q1 q2 a0 a1 a2 a3 b0 b1 b2 b3; obtain ⟨q0, q1, q2⟩ := CF.out; obtain ⟨a0, a1, a2, a3⟩ := CA.out; obtain ⟨b0, b1, b2, b3⟩ := CB.out; clear hb) | (go_at_call 72; refine (KI _).out.mono ?_; rintro e w6 ⟨rfl, hb⟩; have CF := Hid.mk' (CF.out.keep hb); have CA := Hid.mk' (CA.out.keep hb); have CB := Hid.mk' (CB.out.keep hb); have H1 := Hid.mk' (H1.out.below hb); have H2 := Hid.mk' (H2.out.below hb); have HB := Hid.mk' (HB.out.trans (hb.mono HB.out.size)); clear q0 q1 q2 a0 a1 a2 a3 b0 b1 b2 b3; obtain ⟨q0, q1, q2⟩ := CF.out; obtain ⟨a0, a1, a2, a3⟩ := CA.out; obtain ⟨b0, b1, b2, b3⟩ := CB.out; clear hb))
  go_ret
  exact ⟨rfl, HB.out⟩
set_option maxHeartbeats 8000000 in
set_option maxRecDepth 100000 in
theorem tms_00 (g : Bool) (p e L : Int) (g1 g2 : Bool) (v1 v2 : Value) (x1 x2 : Int) (s1 s2 : Nat) (w : World) (R : Int) (hS1 : SN w v1 s1) (hS2 : SN w v2 s2) (hg : (!(g1 == g2)) = g)  (hb1 : bl s1 ≤ 60) (hb2 : bl s2 ≤ 60) (hx1 : -1100 ≤ x1) (hx1' : x1 ≤ 1100) (hx2 : -1100 ≤ x2) (hx2' : x2 ≤ 1100) (KR : ∀ (v : Value) (w : World), SN w v (s1 * s2) → Hid (Calls Tryd.prog 30 #[(.agg #[.int .i64 p, .int .i64 e, .int .i64 L]), .bool g, v, .int .i64 (x1 + x2), .bool false] w fun e w' => e = .returned (.int .u64 R) ∧ Below w.heap.size w w')) :
    Calls Tryd.prog 48 #[(.agg #[.int .i64 p, .int .i64 e, .int .i64 L]), SV 0 g1 v1 x1, SV 0 g2 v2 x2] w fun e w' => e = .returned (.int .u64 R) ∧ Below w.heap.size w w' := by
  have KA : ∀ w, SN w v1 s1 → SN w v2 s2 → Hid (Calls Tryd.prog 71 #[v1, v2] w fun e w' => (∃ r, e = .returned r ∧ SN w' r (s1 * s2)) ∧ Below w.heap.size w w') := fun w h1 h2 => mulN_any v1 v2 s1 s2 w (by omega) (by omega) h1 h2
  have KR2 : ∀ (v : Value) (w : World) (y : Int), y = x1 + x2 → SN w v (s1 * s2) → Hid (Calls Tryd.prog 30 #[(.agg #[.int .i64 p, .int .i64 e, .int .i64 L]), .bool g, v, .int .i64 y, .bool false] w fun e w' => e = .returned (.int .u64 R) ∧ Below w.heap.size w w') := fun v w y hy hs => by subst hy; exact KR v w hs
  clear KR
  go_enter Tryd.func48, Tryd.ntmps48
  go_upto_region 1 with fail
  refine wp_gen (fun wz => C3 wz w.heap.size (.int .i64 p) (.int .i64 e) (.int .i64 L) ∧ C4 wz (w.heap.size + 1) (.int .i64 0) (.bool g1) v1 (.int .i64 x1) ∧ C4 wz (w.heap.size + 1 + 1) (.int .i64 0) (.bool g2) v2 (.int .i64 x2) ∧ SN wz v1 s1 ∧ SN wz v2 s2 ∧ Below w.heap.size w wz) ⟨c3_new.past.past, c4_mid.past, c4_third, hS1.below ((((Below.refl _ _).alloc (Nat.le_refl _) _).alloc (by simp) _).alloc (by simp; omega) _), hS2.below ((((Below.refl _ _).alloc (Nat.le_refl _) _).alloc (by simp) _).alloc (by simp; omega) _), ((((Below.refl _ _).alloc (Nat.le_refl _) _).alloc (by simp) _).alloc (by simp; omega) _)⟩ ?_
  rintro w1 ⟨cf, ca, cb, hs1, hs2, hb⟩
  have CF := Hid.mk' cf
  have CA := Hid.mk' ca
  have CB := Hid.mk' cb
  have H1 := Hid.mk' hs1
  have H2 := Hid.mk' hs2
  have HB := Hid.mk' hb
  clear cf ca cb hs1 hs2 hb hS1 hS2
  obtain ⟨q0, q1, q2⟩ := CF.out
  obtain ⟨a0, a1, a2, a3⟩ := CA.out
  obtain ⟨b0, b1, b2, b3⟩ := CB.out
  go_upto_region 6 with fail
  go_region_held3 (fun w' => w'.cell? ⟨w.heap.size, 0, none⟩ = some (.int .i64 p) ∧ w'.cell? ⟨w.heap.size, 1, none⟩ = some (.int .i64 e) ∧ w'.cell? ⟨w.heap.size, 2, none⟩ = some (.int .i64 L) ∧ w'.cell? ⟨w.heap.size + 1, 2, none⟩ = some v1 ∧ w'.cell? ⟨w.heap.size + 1, 3, none⟩ = some (.int .i64 x1) ∧ w'.cell? ⟨w.heap.size + 1 + 1, 2, none⟩ = some v2 ∧ w'.cell? ⟨w.heap.size + 1 + 1, 3, none⟩ = some (.int .i64 x2)) (exact ⟨q0, q1, q2, a2, a3, b2, b3⟩) (first
      | (go_at_call 71; refine (KA _ ?_ ?_).out.mono ?_; exact H1.out; exact H2.out; rintro e w6 ⟨⟨p6, rfl, hp6⟩, hb⟩; (first | have hb := undrew hb | skip); have CF := Hid.mk' (CF.out.keep hb); have CA := Hid.mk' (CA.out.keep hb); have CB := Hid.mk' (CB.out.keep hb); have H1 := Hid.mk' (H1.out.below hb); have H2 := Hid.mk' (H2.out.below hb); have HB := Hid.mk' (HB.out.trans (hb.mono HB.out.size)); clear q0 q1 q2 a0 a1 a2 a3 b0 b1 b2 b3; obtain ⟨q0, q1, q2⟩ := CF.out; obtain ⟨a0, a1, a2, a3⟩ := CA.out; obtain ⟨b0, b1, b2, b3⟩ := CB.out; have HP := Hid.mk' hp6; clear hb hp6)
      | (go_at_call 30; refine (KR2 _ _ _ ?_ ?_).out.mono ?_; (first | rfl | (rw [IntKind.wrap_i64]; omega) | (simp only [IntKind.wrap_i64]; omega)); exact HP.out; rintro e w8 ⟨rfl, hb⟩; (first | have hb := undrew hb | skip); have CF := Hid.mk' (CF.out.keep hb); have CA := Hid.mk' (CA.out.keep hb); have CB := Hid.mk' (CB.out.keep hb); have H1 := Hid.mk' (H1.out.below hb); have H2 := Hid.mk' (H2.out.below hb); have HB := Hid.mk' (HB.out.trans (hb.mono HB.out.size)); clear q0 q1 q2 a0 a1 a2 a3 b0 b1 b2 b3; obtain ⟨q0, q1, q2⟩ := CF.out; obtain ⟨a0, a1, a2, a3⟩ := CA.out; obtain ⟨b0, b1, b2, b3⟩ := CB.out; clear hb))
  all_goals go_wp2
  all_goals go_ret
  all_goals exact ⟨rfl, HB.out⟩
end Go.Proofs.YthmppcfhbbjhlaaDoor
namespace Go.Proofs.YthmppcfhbbjhlaaDoor
open Go.RowKit Go.Sort

set_option maxHeartbeats 4000000 in
set_option maxRecDepth 100000 in
theorem dvs_2x (k2 : Int) (p e L : Int) (g1 g2 : Bool) (v1 v2 : Value) (x1 x2 : Int) (s1 s2 : Nat) (w : World) (R : Int) (hS1 : SN w v1 s1) (hS2 : SN w v2 s2) (KN : ∀ w, Hid (Calls Tryd.prog 67 #[(.agg #[.int .i64 p, .int .i64 e, .int .i64 L])] w fun e w' => e = .returned (.int .u64 R) ∧ Below w.heap.size w w')) :
    Calls Tryd.prog 49 #[(.agg #[.int .i64 p, .int .i64 e, .int .i64 L]), SV 2 g1 v1 x1, SV k2 g2 v2 x2] w fun e w' => e = .returned (.int .u64 R) ∧ Below w.heap.size w w' := by
  go_enter Tryd.func49, Tryd.ntmps49
  go_upto_region 1 with fail
  refine wp_gen (fun wz => C3 wz w.heap.size (.int .i64 p) (.int .i64 e) (.int .i64 L) ∧ C4 wz (w.heap.size + 1) (.int .i64 2) (.bool g1) v1 (.int .i64 x1) ∧ C4 wz (w.heap.size + 1 + 1) (.int .i64 k2) (.bool g2) v2 (.int .i64 x2) ∧ SN wz v1 s1 ∧ SN wz v2 s2 ∧ Below w.heap.size w wz) ⟨c3_new.past.past, c4_mid.past, c4_third, hS1.below ((((Below.refl _ _).alloc (Nat.le_refl _) _).alloc (by simp) _).alloc (by simp; omega) _), hS2.below ((((Below.refl _ _).alloc (Nat.le_refl _) _).alloc (by simp) _).alloc (by simp; omega) _), ((((Below.refl _ _).alloc (Nat.le_refl _) _).alloc (by simp) _).alloc (by simp; omega) _)⟩ ?_
  rintro w1 ⟨cf, ca, cb, hs1, hs2, hb⟩
  have CF := Hid.mk' cf
  have CA := Hid.mk' ca
  have CB := Hid.mk' cb
  have H1 := Hid.mk' hs1
  have H2 := Hid.mk' hs2
  have HB := Hid.mk' hb
  clear cf ca cb hs1 hs2 hb hS1 hS2
  obtain ⟨q0, q1, q2⟩ := CF.out
  obtain ⟨a0, a1, a2, a3⟩ := CA.out
  obtain ⟨b0, b1, b2, b3⟩ := CB.out
  go_wp2_with (first | (go_at_call 67; refine (KN _).out.mono ?_; rintro e w6 ⟨rfl, hb⟩; have CF := Hid.mk' (CF.out.keep hb); have CA := Hid.mk' (CA.out.keep hb); have CB := Hid.mk' (CB.out.keep hb); have H1 := Hid.mk' (H1.out.below hb); have H2 := Hid.mk' (H2.out.below hb); have HB := Hid.mk' (HB.out.trans (hb.mono HB.out.size)); clear q0 q1 q2 a0 a1 a2 a3 b0 b1 b2 b3; obtain ⟨q0, q1, q2⟩ := CF.out; obtain ⟨a0, a1, a2, a3⟩ := CA.out; obtain ⟨b0, b1, b2, b3⟩ := CB.out; clear hb))
  go_ret
  exact ⟨rfl, HB.out⟩
set_option maxHeartbeats 4000000 in
set_option maxRecDepth 100000 in
theorem dvs_x2 (k1 : Int) (p e L : Int) (g1 g2 : Bool) (v1 v2 : Value) (x1 x2 : Int) (s1 s2 : Nat) (w : World) (R : Int) (hS1 : SN w v1 s1) (hS2 : SN w v2 s2) (hk : (k1 == 2) = false) (KN : ∀ w, Hid (Calls Tryd.prog 67 #[(.agg #[.int .i64 p, .int .i64 e, .int .i64 L])] w fun e w' => e = .returned (.int .u64 R) ∧ Below w.heap.size w w')) :
    Calls Tryd.prog 49 #[(.agg #[.int .i64 p, .int .i64 e, .int .i64 L]), SV k1 g1 v1 x1, SV 2 g2 v2 x2] w fun e w' => e = .returned (.int .u64 R) ∧ Below w.heap.size w w' := by
  go_enter Tryd.func49, Tryd.ntmps49
  go_upto_region 1 with fail
  refine wp_gen (fun wz => C3 wz w.heap.size (.int .i64 p) (.int .i64 e) (.int .i64 L) ∧ C4 wz (w.heap.size + 1) (.int .i64 k1) (.bool g1) v1 (.int .i64 x1) ∧ C4 wz (w.heap.size + 1 + 1) (.int .i64 2) (.bool g2) v2 (.int .i64 x2) ∧ SN wz v1 s1 ∧ SN wz v2 s2 ∧ Below w.heap.size w wz) ⟨c3_new.past.past, c4_mid.past, c4_third, hS1.below ((((Below.refl _ _).alloc (Nat.le_refl _) _).alloc (by simp) _).alloc (by simp; omega) _), hS2.below ((((Below.refl _ _).alloc (Nat.le_refl _) _).alloc (by simp) _).alloc (by simp; omega) _), ((((Below.refl _ _).alloc (Nat.le_refl _) _).alloc (by simp) _).alloc (by simp; omega) _)⟩ ?_
  rintro w1 ⟨cf, ca, cb, hs1, hs2, hb⟩
  have CF := Hid.mk' cf
  have CA := Hid.mk' ca
  have CB := Hid.mk' cb
  have H1 := Hid.mk' hs1
  have H2 := Hid.mk' hs2
  have HB := Hid.mk' hb
  clear cf ca cb hs1 hs2 hb hS1 hS2
  obtain ⟨q0, q1, q2⟩ := CF.out
  obtain ⟨a0, a1, a2, a3⟩ := CA.out
  obtain ⟨b0, b1, b2, b3⟩ := CB.out
  go_wp2_with (first | (go_at_call 67; refine (KN _).out.mono ?_; rintro e w6 ⟨rfl, hb⟩; have CF := Hid.mk' (CF.out.keep hb); have CA := Hid.mk' (CA.out.keep hb); have CB := Hid.mk' (CB.out.keep hb); have H1 := Hid.mk' (H1.out.below hb); have H2 := Hid.mk' (H2.out.below hb); have HB := Hid.mk' (HB.out.trans (hb.mono HB.out.size)); clear q0 q1 q2 a0 a1 a2 a3 b0 b1 b2 b3; obtain ⟨q0, q1, q2⟩ := CF.out; obtain ⟨a0, a1, a2, a3⟩ := CA.out; obtain ⟨b0, b1, b2, b3⟩ := CB.out; clear hb))
  go_ret
  exact ⟨rfl, HB.out⟩
set_option maxHeartbeats 4000000 in
set_option maxRecDepth 100000 in
theorem dvs_11  (p e L : Int) (g1 g2 : Bool) (v1 v2 : Value) (x1 x2 : Int) (s1 s2 : Nat) (w : World) (R : Int) (hS1 : SN w v1 s1) (hS2 : SN w v2 s2) (KN : ∀ w, Hid (Calls Tryd.prog 67 #[(.agg #[.int .i64 p, .int .i64 e, .int .i64 L])] w fun e w' => e = .returned (.int .u64 R) ∧ Below w.heap.size w w')) :
    Calls Tryd.prog 49 #[(.agg #[.int .i64 p, .int .i64 e, .int .i64 L]), SV 1 g1 v1 x1, SV 1 g2 v2 x2] w fun e w' => e = .returned (.int .u64 R) ∧ Below w.heap.size w w' := by
  go_enter Tryd.func49, Tryd.ntmps49
  go_upto_region 1 with fail
  refine wp_gen (fun wz => C3 wz w.heap.size (.int .i64 p) (.int .i64 e) (.int .i64 L) ∧ C4 wz (w.heap.size + 1) (.int .i64 1) (.bool g1) v1 (.int .i64 x1) ∧ C4 wz (w.heap.size + 1 + 1) (.int .i64 1) (.bool g2) v2 (.int .i64 x2) ∧ SN wz v1 s1 ∧ SN wz v2 s2 ∧ Below w.heap.size w wz) ⟨c3_new.past.past, c4_mid.past, c4_third, hS1.below ((((Below.refl _ _).alloc (Nat.le_refl _) _).alloc (by simp) _).alloc (by simp; omega) _), hS2.below ((((Below.refl _ _).alloc (Nat.le_refl _) _).alloc (by simp) _).alloc (by simp; omega) _), ((((Below.refl _ _).alloc (Nat.le_refl _) _).alloc (by simp) _).alloc (by simp; omega) _)⟩ ?_
  rintro w1 ⟨cf, ca, cb, hs1, hs2, hb⟩
  have CF := Hid.mk' cf
  have CA := Hid.mk' ca
  have CB := Hid.mk' cb
  have H1 := Hid.mk' hs1
  have H2 := Hid.mk' hs2
  have HB := Hid.mk' hb
  clear cf ca cb hs1 hs2 hb hS1 hS2
  obtain ⟨q0, q1, q2⟩ := CF.out
  obtain ⟨a0, a1, a2, a3⟩ := CA.out
  obtain ⟨b0, b1, b2, b3⟩ := CB.out
  go_wp2_with (first | (go_at_call 67; refine (KN _).out.mono ?_; rintro e w6 ⟨rfl, hb⟩; have CF := Hid.mk' (CF.out.keep hb); have CA := Hid.mk' (CA.out.keep hb); have CB := Hid.mk' (CB.out.keep hb); have H1 := Hid.mk' (H1.out.below hb); have H2 := Hid.mk' (H2.out.below hb); have HB := Hid.mk' (HB.out.trans (hb.mono HB.out.size)); clear q0 q1 q2 a0 a1 a2 a3 b0 b1 b2 b3; obtain ⟨q0, q1, q2⟩ := CF.out; obtain ⟨a0, a1, a2, a3⟩ := CA.out; obtain ⟨b0, b1, b2, b3⟩ := CB.out; clear hb))
  go_ret
  exact ⟨rfl, HB.out⟩
set_option maxHeartbeats 4000000 in
set_option maxRecDepth 100000 in
theorem dvs_zz  (p e L : Int) (g1 g2 : Bool) (v1 v2 : Value) (x1 x2 : Int) (s1 s2 : Nat) (w : World) (R : Int) (hS1 : SN w v1 s1) (hS2 : SN w v2 s2) (KZ1 : ∀ w, SN w v1 s1 → Hid (Calls Tryd.prog 66 #[SV 0 g1 v1 x1] w fun e w' => e = .returned (.bool true) ∧ Below w.heap.size w w')) (KZ2 : ∀ w, SN w v2 s2 → Hid (Calls Tryd.prog 66 #[SV 0 g2 v2 x2] w fun e w' => e = .returned (.bool true) ∧ Below w.heap.size w w')) (KN : ∀ w, Hid (Calls Tryd.prog 67 #[(.agg #[.int .i64 p, .int .i64 e, .int .i64 L])] w fun e w' => e = .returned (.int .u64 R) ∧ Below w.heap.size w w')) :
    Calls Tryd.prog 49 #[(.agg #[.int .i64 p, .int .i64 e, .int .i64 L]), SV 0 g1 v1 x1, SV 0 g2 v2 x2] w fun e w' => e = .returned (.int .u64 R) ∧ Below w.heap.size w w' := by
  go_enter Tryd.func49, Tryd.ntmps49
  go_upto_region 1 with fail
  refine wp_gen (fun wz => C3 wz w.heap.size (.int .i64 p) (.int .i64 e) (.int .i64 L) ∧ C4 wz (w.heap.size + 1) (.int .i64 0) (.bool g1) v1 (.int .i64 x1) ∧ C4 wz (w.heap.size + 1 + 1) (.int .i64 0) (.bool g2) v2 (.int .i64 x2) ∧ SN wz v1 s1 ∧ SN wz v2 s2 ∧ Below w.heap.size w wz) ⟨c3_new.past.past, c4_mid.past, c4_third, hS1.below ((((Below.refl _ _).alloc (Nat.le_refl _) _).alloc (by simp) _).alloc (by simp; omega) _), hS2.below ((((Below.refl _ _).alloc (Nat.le_refl _) _).alloc (by simp) _).alloc (by simp; omega) _), ((((Below.refl _ _).alloc (Nat.le_refl _) _).alloc (by simp) _).alloc (by simp; omega) _)⟩ ?_
  rintro w1 ⟨cf, ca, cb, hs1, hs2, hb⟩
  have CF := Hid.mk' cf
  have CA := Hid.mk' ca
  have CB := Hid.mk' cb
  have H1 := Hid.mk' hs1
  have H2 := Hid.mk' hs2
  have HB := Hid.mk' hb
  clear cf ca cb hs1 hs2 hb hS1 hS2
  obtain ⟨q0, q1, q2⟩ := CF.out
  obtain ⟨a0, a1, a2, a3⟩ := CA.out
  obtain ⟨b0, b1, b2, b3⟩ := CB.out
  go_wp2_with (first | (go_at_call 66; (first | (with_reducible refine (KZ1 _ H1.out).out.mono ?_) | (with_reducible refine (KZ2 _ H2.out).out.mono ?_)); rintro e w6 ⟨rfl, hb⟩; have CF := Hid.mk' (CF.out.keep hb); have CA := Hid.mk' (CA.out.keep hb); have CB := Hid.mk' (CB.out.keep hb); have H1 := Hid.mk' (H1.out.below hb); have H2 := Hid.mk' (H2.out.below hb); have HB := Hid.mk' (HB.out.trans (hb.mono HB.out.size)); clear q0 q1 q2 a0 a1 a2 a3 b0 b1 b2 b3; obtain ⟨q0, q1, q2⟩ := CF.out; obtain ⟨a0, a1, a2, a3⟩ := CA.out; obtain ⟨b0, b1, b2, b3⟩ := CB.out; clear hb) | (go_at_call 67; refine (KN _).out.mono ?_; rintro e w6 ⟨rfl, hb⟩; have CF := Hid.mk' (CF.out.keep hb); have CA := Hid.mk' (CA.out.keep hb); have CB := Hid.mk' (CB.out.keep hb); have H1 := Hid.mk' (H1.out.below hb); have H2 := Hid.mk' (H2.out.below hb); have HB := Hid.mk' (HB.out.trans (hb.mono HB.out.size)); clear q0 q1 q2 a0 a1 a2 a3 b0 b1 b2 b3; obtain ⟨q0, q1, q2⟩ := CF.out; obtain ⟨a0, a1, a2, a3⟩ := CA.out; obtain ⟨b0, b1, b2, b3⟩ := CB.out; clear hb))
  go_ret
  exact ⟨rfl, HB.out⟩
set_option maxHeartbeats 4000000 in
set_option maxRecDepth 100000 in
theorem dvs_10 (g : Bool) (p e L : Int) (g1 g2 : Bool) (v1 v2 : Value) (x1 x2 : Int) (s1 s2 : Nat) (w : World) (R : Int) (hS1 : SN w v1 s1) (hS2 : SN w v2 s2) (hg : (!(g1 == g2)) = g) (KZ1 : ∀ w, SN w v1 s1 → Hid (Calls Tryd.prog 66 #[SV 1 g1 v1 x1] w fun e w' => e = .returned (.bool false) ∧ Below w.heap.size w w')) (KI : ∀ w, Hid (Calls Tryd.prog 72 #[(.agg #[.int .i64 p, .int .i64 e, .int .i64 L]), .bool g] w fun e w' => e = .returned (.int .u64 R) ∧ Below w.heap.size w w')) :
    Calls Tryd.prog 49 #[(.agg #[.int .i64 p, .int .i64 e, .int .i64 L]), SV 1 g1 v1 x1, SV 0 g2 v2 x2] w fun e w' => e = .returned (.int .u64 R) ∧ Below w.heap.size w w' := by
  go_enter Tryd.func49, Tryd.ntmps49
  go_upto_region 1 with fail
  refine wp_gen (fun wz => C3 wz w.heap.size (.int .i64 p) (.int .i64 e) (.int .i64 L) ∧ C4 wz (w.heap.size + 1) (.int .i64 1) (.bool g1) v1 (.int .i64 x1) ∧ C4 wz (w.heap.size + 1 + 1) (.int .i64 0) (.bool g2) v2 (.int .i64 x2) ∧ SN wz v1 s1 ∧ SN wz v2 s2 ∧ Below w.heap.size w wz) ⟨c3_new.past.past, c4_mid.past, c4_third, hS1.below ((((Below.refl _ _).alloc (Nat.le_refl _) _).alloc (by simp) _).alloc (by simp; omega) _), hS2.below ((((Below.refl _ _).alloc (Nat.le_refl _) _).alloc (by simp) _).alloc (by simp; omega) _), ((((Below.refl _ _).alloc (Nat.le_refl _) _).alloc (by simp) _).alloc (by simp; omega) _)⟩ ?_
  rintro w1 ⟨cf, ca, cb, hs1, hs2, hb⟩
  have CF := Hid.mk' cf
  have CA := Hid.mk' ca
  have CB := Hid.mk' cb
  have H1 := Hid.mk' hs1
  have H2 := Hid.mk' hs2
  have HB := Hid.mk' hb
  clear cf ca cb hs1 hs2 hb hS1 hS2
  obtain ⟨q0, q1, q2⟩ := CF.out
  obtain ⟨a0, a1, a2, a3⟩ := CA.out
  obtain ⟨b0, b1, b2, b3⟩ := CB.out
  go_wp2_with (first | (go_at_call 66; (first | (with_reducible refine (KZ1 _ H1.out).out.mono ?_)); rintro e w6 ⟨rfl, hb⟩; have CF := Hid.mk' (CF.out.keep hb); have CA := Hid.mk' (CA.out.keep hb); have CB := Hid.mk' (CB.out.keep hb); have H1 := Hid.mk' (H1.out.below hb); have H2 := Hid.mk' (H2.out.below hb); have HB := Hid.mk' (HB.out.trans (hb.mono HB.out.size)); clear q0 q1 q2 a0 a1 a2 a3 b0 b1 b2 b3; obtain ⟨q0, q1, q2⟩ := CF.out; obtain ⟨a0, a1, a2, a3⟩ := CA.out; obtain ⟨b0, b1, b2, b3⟩ := CB.out; clear hb) | (go_at_call 72; refine (KI _).out.mono ?_; rintro e w6 ⟨rfl, hb⟩; have CF := Hid.mk' (CF.out.keep hb); have CA := Hid.mk' (CA.out.keep hb); have CB := Hid.mk' (CB.out.keep hb); have H1 := Hid.mk' (H1.out.below hb); have H2 := Hid.mk' (H2.out.below hb); have HB := Hid.mk' (HB.out.trans (hb.mono HB.out.size)); clear q0 q1 q2 a0 a1 a2 a3 b0 b1 b2 b3; obtain ⟨q0, q1, q2⟩ := CF.out; obtain ⟨a0, a1, a2, a3⟩ := CA.out; obtain ⟨b0, b1, b2, b3⟩ := CB.out; clear hb))
  go_ret
  exact ⟨rfl, HB.out⟩
set_option maxHeartbeats 4000000 in
set_option maxRecDepth 100000 in
theorem dvs_nz (g : Bool) (p e L : Int) (g1 g2 : Bool) (v1 v2 : Value) (x1 x2 : Int) (s1 s2 : Nat) (w : World) (R : Int) (hS1 : SN w v1 s1) (hS2 : SN w v2 s2) (hg : (!(g1 == g2)) = g) (KZ1 : ∀ w, SN w v1 s1 → Hid (Calls Tryd.prog 66 #[SV 0 g1 v1 x1] w fun e w' => e = .returned (.bool false) ∧ Below w.heap.size w w')) (KZ2 : ∀ w, SN w v2 s2 → Hid (Calls Tryd.prog 66 #[SV 0 g2 v2 x2] w fun e w' => e = .returned (.bool true) ∧ Below w.heap.size w w')) (KI : ∀ w, Hid (Calls Tryd.prog 72 #[(.agg #[.int .i64 p, .int .i64 e, .int .i64 L]), .bool g] w fun e w' => e = .returned (.int .u64 R) ∧ Below w.heap.size w w')) :
    Calls Tryd.prog 49 #[(.agg #[.int .i64 p, .int .i64 e, .int .i64 L]), SV 0 g1 v1 x1, SV 0 g2 v2 x2] w fun e w' => e = .returned (.int .u64 R) ∧ Below w.heap.size w w' := by
  go_enter Tryd.func49, Tryd.ntmps49
  go_upto_region 1 with fail
  refine wp_gen (fun wz => C3 wz w.heap.size (.int .i64 p) (.int .i64 e) (.int .i64 L) ∧ C4 wz (w.heap.size + 1) (.int .i64 0) (.bool g1) v1 (.int .i64 x1) ∧ C4 wz (w.heap.size + 1 + 1) (.int .i64 0) (.bool g2) v2 (.int .i64 x2) ∧ SN wz v1 s1 ∧ SN wz v2 s2 ∧ Below w.heap.size w wz) ⟨c3_new.past.past, c4_mid.past, c4_third, hS1.below ((((Below.refl _ _).alloc (Nat.le_refl _) _).alloc (by simp) _).alloc (by simp; omega) _), hS2.below ((((Below.refl _ _).alloc (Nat.le_refl _) _).alloc (by simp) _).alloc (by simp; omega) _), ((((Below.refl _ _).alloc (Nat.le_refl _) _).alloc (by simp) _).alloc (by simp; omega) _)⟩ ?_
  rintro w1 ⟨cf, ca, cb, hs1, hs2, hb⟩
  have CF := Hid.mk' cf
  have CA := Hid.mk' ca
  have CB := Hid.mk' cb
  have H1 := Hid.mk' hs1
  have H2 := Hid.mk' hs2
  have HB := Hid.mk' hb
  clear cf ca cb hs1 hs2 hb hS1 hS2
  obtain ⟨q0, q1, q2⟩ := CF.out
  obtain ⟨a0, a1, a2, a3⟩ := CA.out
  obtain ⟨b0, b1, b2, b3⟩ := CB.out
  go_wp2_with (first | (go_at_call 66; (first | (with_reducible refine (KZ1 _ H1.out).out.mono ?_) | (with_reducible refine (KZ2 _ H2.out).out.mono ?_)); rintro e w6 ⟨rfl, hb⟩; have CF := Hid.mk' (CF.out.keep hb); have CA := Hid.mk' (CA.out.keep hb); have CB := Hid.mk' (CB.out.keep hb); have H1 := Hid.mk' (H1.out.below hb); have H2 := Hid.mk' (H2.out.below hb); have HB := Hid.mk' (HB.out.trans (hb.mono HB.out.size)); clear q0 q1 q2 a0 a1 a2 a3 b0 b1 b2 b3; obtain ⟨q0, q1, q2⟩ := CF.out; obtain ⟨a0, a1, a2, a3⟩ := CA.out; obtain ⟨b0, b1, b2, b3⟩ := CB.out; clear hb) | (go_at_call 72; refine (KI _).out.mono ?_; rintro e w6 ⟨rfl, hb⟩; have CF := Hid.mk' (CF.out.keep hb); have CA := Hid.mk' (CA.out.keep hb); have CB := Hid.mk' (CB.out.keep hb); have H1 := Hid.mk' (H1.out.below hb); have H2 := Hid.mk' (H2.out.below hb); have HB := Hid.mk' (HB.out.trans (hb.mono HB.out.size)); clear q0 q1 q2 a0 a1 a2 a3 b0 b1 b2 b3; obtain ⟨q0, q1, q2⟩ := CF.out; obtain ⟨a0, a1, a2, a3⟩ := CA.out; obtain ⟨b0, b1, b2, b3⟩ := CB.out; clear hb))
  go_ret
  exact ⟨rfl, HB.out⟩
set_option maxHeartbeats 4000000 in
set_option maxRecDepth 100000 in
theorem dvs_z1 (g : Bool) (p e L : Int) (g1 g2 : Bool) (v1 v2 : Value) (x1 x2 : Int) (s1 s2 : Nat) (w : World) (R : Int) (hS1 : SN w v1 s1) (hS2 : SN w v2 s2) (hg : (!(g1 == g2)) = g) (KZ1 : ∀ w, SN w v1 s1 → Hid (Calls Tryd.prog 66 #[SV 0 g1 v1 x1] w fun e w' => e = .returned (.bool true) ∧ Below w.heap.size w w')) (KZ2 : ∀ w, SN w v2 s2 → Hid (Calls Tryd.prog 66 #[SV 1 g2 v2 x2] w fun e w' => e = .returned (.bool false) ∧ Below w.heap.size w w')) (KI : ∀ w, Hid (Calls Tryd.prog 76 #[(.agg #[.int .i64 p, .int .i64 e, .int .i64 L]), .bool g] w fun e w' => e = .returned (.int .u64 R) ∧ Below w.heap.size w w')) :
    Calls Tryd.prog 49 #[(.agg #[.int .i64 p, .int .i64 e, .int .i64 L]), SV 0 g1 v1 x1, SV 1 g2 v2 x2] w fun e w' => e = .returned (.int .u64 R) ∧ Below w.heap.size w w' := by
  go_enter Tryd.func49, Tryd.ntmps49
  go_upto_region 1 with fail
  refine wp_gen (fun wz => C3 wz w.heap.size (.int .i64 p) (.int .i64 e) (.int .i64 L) ∧ C4 wz (w.heap.size + 1) (.int .i64 0) (.bool g1) v1 (.int .i64 x1) ∧ C4 wz (w.heap.size + 1 + 1) (.int .i64 1) (.bool g2) v2 (.int .i64 x2) ∧ SN wz v1 s1 ∧ SN wz v2 s2 ∧ Below w.heap.size w wz) ⟨c3_new.past.past, c4_mid.past, c4_third, hS1.below ((((Below.refl _ _).alloc (Nat.le_refl _) _).alloc (by simp) _).alloc (by simp; omega) _), hS2.below ((((Below.refl _ _).alloc (Nat.le_refl _) _).alloc (by simp) _).alloc (by simp; omega) _), ((((Below.refl _ _).alloc (Nat.le_refl _) _).alloc (by simp) _).alloc (by simp; omega) _)⟩ ?_
  rintro w1 ⟨cf, ca, cb, hs1, hs2, hb⟩
  have CF := Hid.mk' cf
  have CA := Hid.mk' ca
  have CB := Hid.mk' cb
  have H1 := Hid.mk' hs1
  have H2 := Hid.mk' hs2
  have HB := Hid.mk' hb
  clear cf ca cb hs1 hs2 hb hS1 hS2
  obtain ⟨q0, q1, q2⟩ := CF.out
  obtain ⟨a0, a1, a2, a3⟩ := CA.out
  obtain ⟨b0, b1, b2, b3⟩ := CB.out
  go_wp2_with (first | (go_at_call 66; (first | (with_reducible refine (KZ1 _ H1.out).out.mono ?_) | (with_reducible refine (KZ2 _ H2.out).out.mono ?_)); rintro e w6 ⟨rfl, hb⟩; have CF := Hid.mk' (CF.out.keep hb); have CA := Hid.mk' (CA.out.keep hb); have CB := Hid.mk' (CB.out.keep hb); have H1 := Hid.mk' (H1.out.below hb); have H2 := Hid.mk' (H2.out.below hb); have HB := Hid.mk' (HB.out.trans (hb.mono HB.out.size)); clear q0 q1 q2 a0 a1 a2 a3 b0 b1 b2 b3; obtain ⟨q0, q1, q2⟩ := CF.out; obtain ⟨a0, a1, a2, a3⟩ := CA.out; obtain ⟨b0, b1, b2, b3⟩ := CB.out; clear hb) | (go_at_call 76; refine (KI _).out.mono ?_; rintro e w6 ⟨rfl, hb⟩; have CF := Hid.mk' (CF.out.keep hb); have CA := Hid.mk' (CA.out.keep hb); have CB := Hid.mk' (CB.out.keep hb); have H1 := Hid.mk' (H1.out.below hb); have H2 := Hid.mk' (H2.out.below hb); have HB := Hid.mk' (HB.out.trans (hb.mono HB.out.size)); clear q0 q1 q2 a0 a1 a2 a3 b0 b1 b2 b3; obtain ⟨q0, q1, q2⟩ := CF.out; obtain ⟨a0, a1, a2, a3⟩ := CA.out; obtain ⟨b0, b1, b2, b3⟩ := CB.out; clear hb))
  go_ret
  exact ⟨rfl, HB.out⟩
set_option maxHeartbeats 4000000 in
set_option maxRecDepth 100000 in
theorem dvs_n1 (g : Bool) (p e L : Int) (g1 g2 : Bool) (v1 v2 : Value) (x1 x2 : Int) (s1 s2 : Nat) (w : World) (R : Int) (hS1 : SN w v1 s1) (hS2 : SN w v2 s2) (hg : (!(g1 == g2)) = g) (KZ1 : ∀ w, SN w v1 s1 → Hid (Calls Tryd.prog 66 #[SV 0 g1 v1 x1] w fun e w' => e = .returned (.bool false) ∧ Below w.heap.size w w')) (KZ2 : ∀ w, SN w v2 s2 → Hid (Calls Tryd.prog 66 #[SV 1 g2 v2 x2] w fun e w' => e = .returned (.bool false) ∧ Below w.heap.size w w')) (KI : ∀ w, Hid (Calls Tryd.prog 76 #[(.agg #[.int .i64 p, .int .i64 e, .int .i64 L]), .bool g] w fun e w' => e = .returned (.int .u64 R) ∧ Below w.heap.size w w')) :
    Calls Tryd.prog 49 #[(.agg #[.int .i64 p, .int .i64 e, .int .i64 L]), SV 0 g1 v1 x1, SV 1 g2 v2 x2] w fun e w' => e = .returned (.int .u64 R) ∧ Below w.heap.size w w' := by
  go_enter Tryd.func49, Tryd.ntmps49
  go_upto_region 1 with fail
  refine wp_gen (fun wz => C3 wz w.heap.size (.int .i64 p) (.int .i64 e) (.int .i64 L) ∧ C4 wz (w.heap.size + 1) (.int .i64 0) (.bool g1) v1 (.int .i64 x1) ∧ C4 wz (w.heap.size + 1 + 1) (.int .i64 1) (.bool g2) v2 (.int .i64 x2) ∧ SN wz v1 s1 ∧ SN wz v2 s2 ∧ Below w.heap.size w wz) ⟨c3_new.past.past, c4_mid.past, c4_third, hS1.below ((((Below.refl _ _).alloc (Nat.le_refl _) _).alloc (by simp) _).alloc (by simp; omega) _), hS2.below ((((Below.refl _ _).alloc (Nat.le_refl _) _).alloc (by simp) _).alloc (by simp; omega) _), ((((Below.refl _ _).alloc (Nat.le_refl _) _).alloc (by simp) _).alloc (by simp; omega) _)⟩ ?_
  rintro w1 ⟨cf, ca, cb, hs1, hs2, hb⟩
  have CF := Hid.mk' cf
  have CA := Hid.mk' ca
  have CB := Hid.mk' cb
  have H1 := Hid.mk' hs1
  have H2 := Hid.mk' hs2
  have HB := Hid.mk' hb
  clear cf ca cb hs1 hs2 hb hS1 hS2
  obtain ⟨q0, q1, q2⟩ := CF.out
  obtain ⟨a0, a1, a2, a3⟩ := CA.out
  obtain ⟨b0, b1, b2, b3⟩ := CB.out
  go_wp2_with (first | (go_at_call 66; (first | (with_reducible refine (KZ1 _ H1.out).out.mono ?_) | (with_reducible refine (KZ2 _ H2.out).out.mono ?_)); rintro e w6 ⟨rfl, hb⟩; have CF := Hid.mk' (CF.out.keep hb); have CA := Hid.mk' (CA.out.keep hb); have CB := Hid.mk' (CB.out.keep hb); have H1 := Hid.mk' (H1.out.below hb); have H2 := Hid.mk' (H2.out.below hb); have HB := Hid.mk' (HB.out.trans (hb.mono HB.out.size)); clear q0 q1 q2 a0 a1 a2 a3 b0 b1 b2 b3; obtain ⟨q0, q1, q2⟩ := CF.out; obtain ⟨a0, a1, a2, a3⟩ := CA.out; obtain ⟨b0, b1, b2, b3⟩ := CB.out; clear hb) | (go_at_call 76; refine (KI _).out.mono ?_; rintro e w6 ⟨rfl, hb⟩; have CF := Hid.mk' (CF.out.keep hb); have CA := Hid.mk' (CA.out.keep hb); have CB := Hid.mk' (CB.out.keep hb); have H1 := Hid.mk' (H1.out.below hb); have H2 := Hid.mk' (H2.out.below hb); have HB := Hid.mk' (HB.out.trans (hb.mono HB.out.size)); clear q0 q1 q2 a0 a1 a2 a3 b0 b1 b2 b3; obtain ⟨q0, q1, q2⟩ := CF.out; obtain ⟨a0, a1, a2, a3⟩ := CA.out; obtain ⟨b0, b1, b2, b3⟩ := CB.out; clear hb))
  go_ret
  exact ⟨rfl, HB.out⟩
set_option maxHeartbeats 4000000 in
set_option maxRecDepth 100000 in
theorem dvs_zn (g : Bool) (p e L : Int) (g1 g2 : Bool) (v1 v2 : Value) (x1 x2 : Int) (s1 s2 : Nat) (w : World) (R : Int) (hS1 : SN w v1 s1) (hS2 : SN w v2 s2) (hg : (!(g1 == g2)) = g) (KZ1 : ∀ w, SN w v1 s1 → Hid (Calls Tryd.prog 66 #[SV 0 g1 v1 x1] w fun e w' => e = .returned (.bool true) ∧ Below w.heap.size w w')) (KZ2 : ∀ w, SN w v2 s2 → Hid (Calls Tryd.prog 66 #[SV 0 g2 v2 x2] w fun e w' => e = .returned (.bool false) ∧ Below w.heap.size w w')) (KI : ∀ w, Hid (Calls Tryd.prog 76 #[(.agg #[.int .i64 p, .int .i64 e, .int .i64 L]), .bool g] w fun e w' => e = .returned (.int .u64 R) ∧ Below w.heap.size w w')) :
    Calls Tryd.prog 49 #[(.agg #[.int .i64 p, .int .i64 e, .int .i64 L]), SV 0 g1 v1 x1, SV 0 g2 v2 x2] w fun e w' => e = .returned (.int .u64 R) ∧ Below w.heap.size w w' := by
  go_enter Tryd.func49, Tryd.ntmps49
  go_upto_region 1 with fail
  refine wp_gen (fun wz => C3 wz w.heap.size (.int .i64 p) (.int .i64 e) (.int .i64 L) ∧ C4 wz (w.heap.size + 1) (.int .i64 0) (.bool g1) v1 (.int .i64 x1) ∧ C4 wz (w.heap.size + 1 + 1) (.int .i64 0) (.bool g2) v2 (.int .i64 x2) ∧ SN wz v1 s1 ∧ SN wz v2 s2 ∧ Below w.heap.size w wz) ⟨c3_new.past.past, c4_mid.past, c4_third, hS1.below ((((Below.refl _ _).alloc (Nat.le_refl _) _).alloc (by simp) _).alloc (by simp; omega) _), hS2.below ((((Below.refl _ _).alloc (Nat.le_refl _) _).alloc (by simp) _).alloc (by simp; omega) _), ((((Below.refl _ _).alloc (Nat.le_refl _) _).alloc (by simp) _).alloc (by simp; omega) _)⟩ ?_
  rintro w1 ⟨cf, ca, cb, hs1, hs2, hb⟩
  have CF := Hid.mk' cf
  have CA := Hid.mk' ca
  have CB := Hid.mk' cb
  have H1 := Hid.mk' hs1
  have H2 := Hid.mk' hs2
  have HB := Hid.mk' hb
  clear cf ca cb hs1 hs2 hb hS1 hS2
  obtain ⟨q0, q1, q2⟩ := CF.out
  obtain ⟨a0, a1, a2, a3⟩ := CA.out
  obtain ⟨b0, b1, b2, b3⟩ := CB.out
  go_wp2_with (first | (go_at_call 66; (first | (with_reducible refine (KZ1 _ H1.out).out.mono ?_) | (with_reducible refine (KZ2 _ H2.out).out.mono ?_)); rintro e w6 ⟨rfl, hb⟩; have CF := Hid.mk' (CF.out.keep hb); have CA := Hid.mk' (CA.out.keep hb); have CB := Hid.mk' (CB.out.keep hb); have H1 := Hid.mk' (H1.out.below hb); have H2 := Hid.mk' (H2.out.below hb); have HB := Hid.mk' (HB.out.trans (hb.mono HB.out.size)); clear q0 q1 q2 a0 a1 a2 a3 b0 b1 b2 b3; obtain ⟨q0, q1, q2⟩ := CF.out; obtain ⟨a0, a1, a2, a3⟩ := CA.out; obtain ⟨b0, b1, b2, b3⟩ := CB.out; clear hb) | (go_at_call 76; refine (KI _).out.mono ?_; rintro e w6 ⟨rfl, hb⟩; have CF := Hid.mk' (CF.out.keep hb); have CA := Hid.mk' (CA.out.keep hb); have CB := Hid.mk' (CB.out.keep hb); have H1 := Hid.mk' (H1.out.below hb); have H2 := Hid.mk' (H2.out.below hb); have HB := Hid.mk' (HB.out.trans (hb.mono HB.out.size)); clear q0 q1 q2 a0 a1 a2 a3 b0 b1 b2 b3; obtain ⟨q0, q1, q2⟩ := CF.out; obtain ⟨a0, a1, a2, a3⟩ := CA.out; obtain ⟨b0, b1, b2, b3⟩ := CB.out; clear hb))
  go_ret
  exact ⟨rfl, HB.out⟩
end Go.Proofs.YthmppcfhbbjhlaaDoor
namespace Go.Proofs.YthmppcfhbbjhlaaDoor
open Go.RowKit Go.Sort

theorem quo_init {A D : Nat} (hD : D ≠ 0) (h : bl D ≤ bl A) : A = 0 * D + A ∧ A < D * 2 ^ (bl A - bl D + 1) := by
  refine ⟨by omega, ?_⟩
  have h1 := bl_lt A
  have h2 := bl_ge hD
  have h3 := bl_pos hD
  have h4 := Nat.mul_le_mul_right (2 ^ (bl A - bl D + 1)) h2
  rw [← Nat.pow_add, show bl D - 1 + (bl A - bl D + 1) = bl A by omega] at h4
  omega
theorem quo_yes {A D q r k : Nat} (h : A = q * D + r ∧ r < D * 2 ^ (k + 1)) (hle : D * 2 ^ k ≤ r) : A = (q + 1 * 2 ^ k) * D + (r - D * 2 ^ k) ∧ r - D * 2 ^ k < D * 2 ^ k := by
  obtain ⟨h1, h2⟩ := h
  have e : D * 2 ^ (k + 1) = D * 2 ^ k + D * 2 ^ k := by rw [Nat.pow_succ, Nat.mul_comm (2 ^ k) 2, Nat.mul_left_comm, Nat.two_mul]
  have e2 : (q + 1 * 2 ^ k) * D = q * D + D * 2 ^ k := by rw [Nat.add_mul, Nat.one_mul, Nat.mul_comm (2 ^ k)]
  rw [e2]
  omega
theorem quo_end {A D q r : Nat} (hD : D ≠ 0) (h : A = q * D + r ∧ r < D * 2 ^ 0) : q = A / D ∧ r = A % D := by
  obtain ⟨h1, h2⟩ := h
  rw [Nat.pow_zero, Nat.mul_one] at h2
  rw [h1, Nat.mul_comm q D, Nat.mul_add_div (by omega), Nat.div_eq_of_lt h2, Nat.mul_add_mod, Nat.mod_eq_of_lt h2]
  exact ⟨by omega, rfl⟩
theorem len_pos {r : Nat} : decide ((0 : Int) < ((dg r).length : Int)) = decide (r ≠ 0) := by
  rw [decide_eq_decide]
  constructor
  · intro h h0
    subst h0
    simp [dg_zero] at h
  · intro h
    have : (dg r).length ≠ 0 := fun h0 => h (by have := dg_lt r; rw [h0] at this; simpa using this)
    omega
theorem len_posN {r : Nat} : decide (0 < (dg r).length) = decide (r ≠ 0) := by
  rw [← len_pos, decide_eq_decide]; omega
theorem bdn {w : World} {k : Nat} : Below w.heap.size w (w.drewN k) := below_drewN (Below.refl _ _) _
set_option maxHeartbeats 16000000 in
set_option maxRecDepth 100000 in
theorem dvs_nn (g : Bool) (p e L : Int) (g1 g2 : Bool) (v1 v2 : Value) (x1 x2 : Int) (s1 s2 : Nat) (n : Int) (A : Nat) (w : World) (R : Int) (hS1 : SN w v1 s1) (hS2 : SN w v2 s2) (hg : (!(g1 == g2)) = g)  (KZ1 : ∀ w, SN w v1 s1 → Hid (Calls Tryd.prog 66 #[SV 0 g1 v1 x1] w fun e w' => e = .returned (.bool false) ∧ Below w.heap.size w w')) (KZ2 : ∀ w, SN w v2 s2 → Hid (Calls Tryd.prog 66 #[SV 0 g2 v2 x2] w fun e w' => e = .returned (.bool false) ∧ Below w.heap.size w w')) (h10 : s1 ≠ 0) (h20 : s2 ≠ 0) (hb1 : bl s1 ≤ 60) (hb2 : bl s2 ≤ 60) (hx1 : -1100 ≤ x1) (hx1' : x1 ≤ 1100) (hx2 : -1100 ≤ x2) (hx2' : x2 ≤ 1100) (hp : 1 ≤ p) (hp' : p ≤ 60) (hn : n = p + 2 + bl s2) (hA : A = s1 * 2 ^ n.toNat)
    (KR : ∀ (v : Value) (w : World), SN w v (A / s2) → Hid (Calls Tryd.prog 30 #[(.agg #[.int .i64 p, .int .i64 e, .int .i64 L]), .bool g, v, .int .i64 (x1 - x2 - n), .bool (decide (A % s2 ≠ 0))] w fun e w' => e = .returned (.int .u64 R) ∧ Below w.heap.size w w')) :
    Calls Tryd.prog 49 #[(.agg #[.int .i64 p, .int .i64 e, .int .i64 L]), SV 0 g1 v1 x1, SV 0 g2 v2 x2] w fun e w' => e = .returned (.int .u64 R) ∧ Below w.heap.size w w' := by
  have hbA : bl A = bl s1 + n.toNat := by rw [hA]; exact bl_mul h10 _
  have hp1 := bl_pos h10
  have hp2 := bl_pos h20
  have KL : ∀ w y, y = n → SN w v1 s1 → Hid (Calls Tryd.prog 64 #[v1, .int .i64 y] w fun e w' => (∃ u, e = .returned u ∧ SN w' u A) ∧ Below w.heap.size w w') := fun w y hy hs => by
    subst hy; rw [hA]; exact left_int v1 s1 y w (by omega) (by omega) (by omega) hs
  have KB2 : ∀ w, SN w v2 s2 → Hid (Calls Tryd.prog 68 #[v2] w fun e w' => e = .returned (.int .i64 (bl s2 : Int)) ∧ w' = w) := fun w h => (bits_any v2 s2 w (by omega) h).mono fun e w' h => ⟨h.1, h.2.symm⟩
  have KBA : ∀ u w, SN w u A → Hid (Calls Tryd.prog 68 #[u] w fun e w' => e = .returned (.int .i64 (bl A : Int)) ∧ w' = w) := fun u w h => (bits_any u A w (by omega) h).mono fun e w' h => ⟨h.1, h.2.symm⟩
  have HINIT := Hid.mk' (quo_init (A := A) h20 (by omega))
  have HR2 : Hid (∀ (q r : Nat), A = q * s2 + r ∧ r < s2 * 2 ^ 0 → ∀ (v : Value) (w : World) (y : Int) (b : Bool), y = x1 - x2 - n → b = decide (r ≠ 0) → SN w v q → Hid (Calls Tryd.prog 30 #[(.agg #[.int .i64 p, .int .i64 e, .int .i64 L]), .bool g, v, .int .i64 y, .bool b] w fun e w' => e = .returned (.int .u64 R) ∧ Below w.heap.size w w')) := Hid.mk' (fun q r h v w y b hy hb hs => by
    obtain ⟨e1, e2⟩ := quo_end h20 h
    subst hy
    rw [hb, e2]
    exact KR v w (by rw [← e1]; exact hs))
  have H20 := Hid.mk' h20
  obtain ⟨nA, hnA⟩ : ∃ k, k = bl A := ⟨_, rfl⟩
  obtain ⟨nD, hnD⟩ : ∃ k, k = bl s2 := ⟨_, rfl⟩
  rw [← hnD] at KB2 HINIT hn hb2 hp2
  rw [← hnA] at KBA HINIT hbA
  have hnA1 : nA ≤ 200 := by omega
  have hnD1 : nD ≤ nA := by omega
  have HBA : Hid (bl A ≤ 200) := Hid.mk' (by omega)
  have HBD : Hid (bl s2 ≤ 60) := Hid.mk' (by omega)
  clear KR hA hbA h10 h20 hnA hnD hb1
  go_enter Tryd.func49, Tryd.ntmps49
  go_upto_region 1 with fail
  refine wp_gen (fun wz => C3 wz w.heap.size (.int .i64 p) (.int .i64 e) (.int .i64 L) ∧ C4 wz (w.heap.size + 1) (.int .i64 0) (.bool g1) v1 (.int .i64 x1) ∧ C4 wz (w.heap.size + 1 + 1) (.int .i64 0) (.bool g2) v2 (.int .i64 x2) ∧ SN wz v1 s1 ∧ SN wz v2 s2 ∧ Below w.heap.size w wz) ⟨c3_new.past.past, c4_mid.past, c4_third, hS1.below ((((Below.refl _ _).alloc (Nat.le_refl _) _).alloc (by simp) _).alloc (by simp; omega) _), hS2.below ((((Below.refl _ _).alloc (Nat.le_refl _) _).alloc (by simp) _).alloc (by simp; omega) _), ((((Below.refl _ _).alloc (Nat.le_refl _) _).alloc (by simp) _).alloc (by simp; omega) _)⟩ ?_
  rintro w1 ⟨cf, ca, cb, hs1, hs2, hb⟩
  have CF := Hid.mk' cf
  have CA := Hid.mk' ca
  have CB := Hid.mk' cb
  have H1 := Hid.mk' hs1
  have H2 := Hid.mk' hs2
  have HB := Hid.mk' hb
  clear cf ca cb hs1 hs2 hb hS1 hS2
  obtain ⟨q0, q1, q2⟩ := CF.out
  obtain ⟨a0, a1, a2, a3⟩ := CA.out
  obtain ⟨b0, b1, b2, b3⟩ := CB.out
  go_upto_region 8 with (go_at_call 66; (first | (with_reducible refine (KZ1 _ H1.out).out.mono ?_) | (with_reducible refine (KZ2 _ H2.out).out.mono ?_)); rintro e w6 ⟨rfl, hb⟩; have CF := Hid.mk' (CF.out.keep hb); have CA := Hid.mk' (CA.out.keep hb); have CB := Hid.mk' (CB.out.keep hb); have H1 := Hid.mk' (H1.out.below hb); have H2 := Hid.mk' (H2.out.below hb); have HB := Hid.mk' (HB.out.trans (hb.mono HB.out.size)); clear q0 q1 q2 a0 a1 a2 a3 b0 b1 b2 b3; obtain ⟨q0, q1, q2⟩ := CF.out; obtain ⟨a0, a1, a2, a3⟩ := CA.out; obtain ⟨b0, b1, b2, b3⟩ := CB.out; clear hb)
  clear KZ1 KZ2
  go_quiet (first | (go_at_call 68; refine Calls.quiet_of_same (KB2 _ ?_).out; exact H2.out.below bdn))
  go_upto_region 9 with fail
  refine wp_gen (fun wz => C3 wz w.heap.size (.int .i64 p) (.int .i64 e) (.int .i64 L) ∧ C4 wz (w.heap.size + 1) (.int .i64 0) (.bool g1) v1 (.int .i64 x1) ∧ C4 wz (w.heap.size + 1 + 1) (.int .i64 0) (.bool g2) v2 (.int .i64 x2) ∧ SN wz v1 s1 ∧ SN wz v2 s2 ∧ Below w.heap.size w wz) ⟨CF.out.keep bdn, CA.out.keep bdn, CB.out.keep bdn, H1.out.below bdn, H2.out.below bdn, HB.out.trans (bdn.mono HB.out.size)⟩ ?_
  clear CF CA CB H1 H2 HB q0 q1 q2 a0 a1 a2 a3 b0 b1 b2 b3
  rintro wz ⟨cf, ca, cb, hs1, hs2, hb⟩
  have CF := Hid.mk' cf
  have CA := Hid.mk' ca
  have CB := Hid.mk' cb
  have H1 := Hid.mk' hs1
  have H2 := Hid.mk' hs2
  have HB := Hid.mk' hb
  clear cf ca cb hs1 hs2 hb
  obtain ⟨q0, q1, q2⟩ := CF.out
  obtain ⟨a0, a1, a2, a3⟩ := CA.out
  obtain ⟨b0, b1, b2, b3⟩ := CB.out
  go_upto_region 10 with fail
  refine wp_gen (fun wy => C3 wy w.heap.size (.int .i64 p) (.int .i64 e) (.int .i64 L) ∧ C4 wy (w.heap.size + 1) (.int .i64 0) (.bool g1) v1 (.int .i64 x1) ∧ C4 wy (w.heap.size + 1 + 1) (.int .i64 0) (.bool g2) v2 (.int .i64 x2) ∧ SN wy v1 s1 ∧ SN wy v2 s2 ∧ Below w.heap.size w wy) ⟨CF.out.keep ((Below.refl _ _).alloc (Nat.le_refl _) _), CA.out.keep ((Below.refl _ _).alloc (Nat.le_refl _) _), CB.out.keep ((Below.refl _ _).alloc (Nat.le_refl _) _), H1.out.below ((Below.refl _ _).alloc (Nat.le_refl _) _), H2.out.below ((Below.refl _ _).alloc (Nat.le_refl _) _), HB.out.trans (((Below.refl _ _).alloc (Nat.le_refl _) _).mono HB.out.size)⟩ ?_
  clear CF CA CB H1 H2 HB q0 q1 q2 a0 a1 a2 a3 b0 b1 b2 b3
  rintro wy ⟨cf, ca, cb, hs1, hs2, hb⟩
  have CF := Hid.mk' cf
  have CA := Hid.mk' ca
  have CB := Hid.mk' cb
  have H1 := Hid.mk' hs1
  have H2 := Hid.mk' hs2
  have HB := Hid.mk' hb
  clear cf ca cb hs1 hs2 hb
  obtain ⟨q0, q1, q2⟩ := CF.out
  obtain ⟨a0, a1, a2, a3⟩ := CA.out
  obtain ⟨b0, b1, b2, b3⟩ := CB.out
  go_wp2_with fail
  refine (KL _ _ ?_ ?_).out.mono ?_
  · omega
  · exact H1.out
  rintro e w3 ⟨⟨u, rfl, hu⟩, hb⟩
  have CF := Hid.mk' (CF.out.keep hb); have CA := Hid.mk' (CA.out.keep hb); have CB := Hid.mk' (CB.out.keep hb); have H1 := Hid.mk' (H1.out.below hb); have H2 := Hid.mk' (H2.out.below hb); have HB := Hid.mk' (HB.out.trans (hb.mono HB.out.size)); clear q0 q1 q2 a0 a1 a2 a3 b0 b1 b2 b3; obtain ⟨q0, q1, q2⟩ := CF.out; obtain ⟨a0, a1, a2, a3⟩ := CA.out; obtain ⟨b0, b1, b2, b3⟩ := CB.out
  have HU := Hid.mk' hu
  clear hb hu KL
  go_upto_region 11 with fail
  go_quiet (first | (go_at_call 68; first | (with_reducible refine Calls.quiet_of_same (KB2 _ ?_).out; exact H2.out.below bdn) | (refine Calls.quiet_of_same (KBA u _ ?_).out; exact HU.out.below bdn)))
  go_upto_region 12 with fail
  go_loopw [9, 10, 11] (fun qv rv iv wr => ∃ (k q r : Nat), iv = .int .i64 ((k : Int) - 1) ∧ k ≤ 201 ∧ SN wr qv q ∧ SN wr rv r ∧ Hid (A = q * s2 + r ∧ r < s2 * 2 ^ k) ∧ C3 wr w.heap.size (.int .i64 p) (.int .i64 e) (.int .i64 L) ∧ C4 wr (w.heap.size + 1) (.int .i64 0) (.bool g1) v1 (.int .i64 x1) ∧ C4 wr (w.heap.size + 1 + 1) (.int .i64 0) (.bool g2) v2 (.int .i64 x2) ∧ SN wr v2 s2 ∧ Below w.heap.size w wr) (fun _ _ iv _ => (intOf iv + 1).toNat)
  case atStart =>
    exact ⟨nA - nD + 1, 0, A, (by refine congrArg (Value.int .i64) ?_; omega), by omega, sn_nil, HU.out.below bdn, HINIT.out, CF.out.keep bdn, CA.out.keep bdn, CB.out.keep bdn, H2.out.below bdn, HB.out.trans (bdn.mono HB.out.size)⟩
  case round =>
    clear CF CA CB H1 H2 HB q0 q1 q2 a0 a1 a2 a3 b0 b1 b2 b3 HU HINIT KB2 KBA
    obtain ⟨k, q, r, rfl, hk, hq, hr, HQ, cf, ca, cb, hs2, hb⟩ := hrel
    have HBq : Hid (bl q ≤ 200) := Hid.mk' (by
      have h1 := HQ.out.1
      have h2 : q ≤ q * s2 := Nat.le_mul_of_pos_right q (by have := H20.out; omega)
      exact Nat.le_trans (bl_mono (show q ≤ A by omega)) HBA.out)
    have HBr : Hid (bl r ≤ 200) := Hid.mk' (Nat.le_trans (bl_mono (show r ≤ A by have h1 := HQ.out.1; omega)) HBA.out)
    have CF := Hid.mk' cf
    have CA := Hid.mk' ca
    have CB := Hid.mk' cb
    have H2 := Hid.mk' hs2
    have HB := Hid.mk' hb
    have HQV := Hid.mk' hq
    have HRV := Hid.mk' hr
    clear cf ca cb hs2 hb hq hr
    obtain ⟨q0, q1, q2⟩ := CF.out
    obtain ⟨a0, a1, a2, a3⟩ := CA.out
    obtain ⟨b0, b1, b2, b3⟩ := CB.out
    cases k with
    | zero =>
      have e0 : ((0 : Nat) : Int) - 1 = -1 := by omega
      rw [e0]
      obtain ⟨ra, rc, rfl, hrr⟩ := HRV.out
      have K4 := HR2.out q r HQ.out
      have HLP := Hid.mk' (len_posN (r := r))
      have hsh := dg_short (x := r) (by have := HBr.out; omega)
      generalize (dg r).length = lr at *
      go_wp2_with fail
      refine (K4 _ _ _ _ ?_ ?_ HQV.out).out.mono ?_
      · omega
      · exact HLP.out
      rintro e w8 ⟨rfl, hb8⟩
      have HB8 := Hid.mk' (HB.out.trans (hb8.mono HB.out.size))
      clear hb8
      go_wp2
      go_ret
      exact ⟨rfl, HB8.out⟩
    | succ j =>
      have e0 : ((j + 1 : Nat) : Int) - 1 = (j : Int) := by omega
      rw [e0]
      have hj : j ≤ 200 := by omega
      have hbD : bl (s2 * 2 ^ j) ≤ 400 := by
        rw [bl_mul H20.out]; have := HBD.out; omega
      have hbj : bl (1 * 2 ^ j) ≤ 300 := by rw [bl_mul (by decide), show bl 1 = 1 by decide]; omega
      have hbr := HBr.out
      have hbq := HBq.out
      have K1 : ∀ w, SN w v2 s2 → Hid (Calls Tryd.prog 64 #[v2, .int .i64 (j : Int)] w fun e w' => (∃ u, e = .returned u ∧ SN w' u (s2 * 2 ^ j)) ∧ Below w.heap.size w w') := fun w h => by
        have := left_int v2 s2 (j : Int) w (by omega) (by omega) (by have := HBD.out; omega) h
        rw [Int.toNat_natCast] at this
        exact this
      have K3h : Hid (s2 * 2 ^ j ≤ r → ∀ rv u w, SN w rv r → SN w u (s2 * 2 ^ j) → Hid (Calls Tryd.prog 91 #[rv, u] w fun e w' => (∃ z, e = .returned z ∧ SN w' z (r - s2 * 2 ^ j)) ∧ Below w.heap.size w w')) := Hid.mk' (fun hle rv u w h1 h2 => subN_any rv u r (s2 * 2 ^ j) w (by omega) hle h1 h2)
      have K2 : ∀ rv u w, SN w rv r → SN w u (s2 * 2 ^ j) → Hid (Calls Tryd.prog 70 #[rv, u] w fun e w' => e = .returned (.int .i64 (cmpI r (s2 * 2 ^ j))) ∧ w = w') := fun rv u w h1 h2 => compare_any rv u r (s2 * 2 ^ j) w (by omega) (by omega) h1 h2
      have K4 := Hid.mk' (fun (w' : World) => left_int (.slice (some ⟨w'.heap.size, 0, none⟩) 1 1) 1 (j : Int) (w'.alloc (.cells #[.int .u64 1] 22)) (by omega) (by omega) (by rw [show bl 1 = 1 by decide]; omega) sn_one)
      rw [Int.toNat_natCast] at K4
      have K5 : ∀ qv z w, SN w qv q → SN w z (1 * 2 ^ j) → Hid (Calls Tryd.prog 69 #[qv, z] w fun e w' => (∃ z, e = .returned z ∧ SN w' z (q + 1 * 2 ^ j)) ∧ Below w.heap.size w w') := fun qv z w h1 h2 => addN_any qv z q (1 * 2 ^ j) w (by omega) (by omega) h1 h2
      have hcz : decide (0 ≤ cmpI r (s2 * 2 ^ j)) = decide (s2 * 2 ^ j ≤ r) := by
        unfold cmpI; rw [decide_eq_decide]; split
        · omega
        · split <;> omega
      generalize cmpI r (s2 * 2 ^ j) = cz at *
      have HCZ := Hid.mk' hcz
      clear hcz hbD hbj hbr hbq HR2
      go_wp2_with fail
      refine (K1 _ H2.out).out.mono ?_
      rintro e w4 ⟨⟨u4, rfl, hu4⟩, hb⟩
      have CF := Hid.mk' (CF.out.keep hb); have CA := Hid.mk' (CA.out.keep hb); have CB := Hid.mk' (CB.out.keep hb); have H2 := Hid.mk' (H2.out.below hb); have HB := Hid.mk' (HB.out.trans (hb.mono HB.out.size)); have HQV := Hid.mk' (HQV.out.below hb); have HRV := Hid.mk' (HRV.out.below hb); clear q0 q1 q2 a0 a1 a2 a3 b0 b1 b2 b3; obtain ⟨q0, q1, q2⟩ := CF.out; obtain ⟨a0, a1, a2, a3⟩ := CA.out; obtain ⟨b0, b1, b2, b3⟩ := CB.out
      have HU4 := Hid.mk' hu4
      clear hb hu4 K1
      go_wp2_with fail
      refine (K2 _ _ _ HRV.out HU4.out).out.mono ?_
      rintro e w5 ⟨rfl, rfl⟩
      by_cases hle : s2 * 2 ^ j ≤ r
      · have t1 : (0 : Int) ≤ cz := by have := HCZ.out; rw [show decide (s2 * 2 ^ j ≤ r) = true from decide_eq_true hle] at this; exact of_decide_eq_true this
        have K3 := K3h.out hle
        have HI := Hid.mk' (quo_yes HQ.out hle)
        clear hle HQ K3h
        go_wp2_with fail
        refine (K3 _ _ _ HRV.out HU4.out).out.mono ?_
        rintro e w6 ⟨⟨u6, rfl, hu6⟩, hb⟩
        have CF := Hid.mk' (CF.out.keep hb); have CA := Hid.mk' (CA.out.keep hb); have CB := Hid.mk' (CB.out.keep hb); have H2 := Hid.mk' (H2.out.below hb); have HB := Hid.mk' (HB.out.trans (hb.mono HB.out.size)); have HQV := Hid.mk' (HQV.out.below hb); have HRV := Hid.mk' (HRV.out.below hb); clear q0 q1 q2 a0 a1 a2 a3 b0 b1 b2 b3; obtain ⟨q0, q1, q2⟩ := CF.out; obtain ⟨a0, a1, a2, a3⟩ := CA.out; obtain ⟨b0, b1, b2, b3⟩ := CB.out
        have HU6 := Hid.mk' hu6
        clear hb hu6 K3 HU4
        go_wp2_with fail
        refine (K4.out _).mono ?_
        rintro e w7 ⟨⟨u7, rfl, hu7⟩, hb⟩
        have hb := below_box hb
        have CF := Hid.mk' (CF.out.keep hb); have CA := Hid.mk' (CA.out.keep hb); have CB := Hid.mk' (CB.out.keep hb); have H2 := Hid.mk' (H2.out.below hb); have HB := Hid.mk' (HB.out.trans (hb.mono HB.out.size)); have HQV := Hid.mk' (HQV.out.below hb); have HRV := Hid.mk' (HRV.out.below hb); clear q0 q1 q2 a0 a1 a2 a3 b0 b1 b2 b3; obtain ⟨q0, q1, q2⟩ := CF.out; obtain ⟨a0, a1, a2, a3⟩ := CA.out; obtain ⟨b0, b1, b2, b3⟩ := CB.out
        have HU6 := Hid.mk' (HU6.out.below hb)
        have HU7 := Hid.mk' hu7
        clear hb hu7 K4
        go_wp2_with fail
        refine (K5 _ _ _ HQV.out HU7.out).out.mono ?_
        rintro e w8 ⟨⟨u8, rfl, hu8⟩, hb⟩
        have CF := Hid.mk' (CF.out.keep hb); have CA := Hid.mk' (CA.out.keep hb); have CB := Hid.mk' (CB.out.keep hb); have H2 := Hid.mk' (H2.out.below hb); have HB := Hid.mk' (HB.out.trans (hb.mono HB.out.size)); have HQV := Hid.mk' (HQV.out.below hb); have HRV := Hid.mk' (HRV.out.below hb); clear q0 q1 q2 a0 a1 a2 a3 b0 b1 b2 b3; obtain ⟨q0, q1, q2⟩ := CF.out; obtain ⟨a0, a1, a2, a3⟩ := CA.out; obtain ⟨b0, b1, b2, b3⟩ := CB.out
        have HU6 := Hid.mk' (HU6.out.below hb)
        have HU8 := Hid.mk' hu8
        clear hb hu8 K5 HU7
        go_wp2
        go_roundw
        case rel => exact ⟨j, q + 1 * 2 ^ j, r - s2 * 2 ^ j, rfl, by omega, HU8.out, HU6.out, HI.out, CF.out, CA.out, CB.out, H2.out, HB.out⟩
        case measure => simp [intOf]; try omega
      · have t1 : ¬ (0 : Int) ≤ cz := by have := HCZ.out; rw [show decide (s2 * 2 ^ j ≤ r) = false from decide_eq_false hle] at this; exact of_decide_eq_false this
        have HI : Hid (A = q * s2 + r ∧ r < s2 * 2 ^ j) := Hid.mk' ⟨HQ.out.1, by omega⟩
        clear hle HQ K3h
        go_wp2
        go_roundw
        case rel => exact ⟨j, q, r, rfl, by omega, HQV.out, HRV.out, HI.out, CF.out, CA.out, CB.out, H2.out, HB.out⟩
        case measure => simp [intOf]; try omega
end Go.Proofs.YthmppcfhbbjhlaaDoor
