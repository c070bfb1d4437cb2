import Derived.Test.YthmppcfhbbjhlaaDoorSRz
import Derived.Test.YthmppcfhbbjhlaaDoorCut
set_option linter.all false
namespace Go.Proofs.YthmppcfhbbjhlaaDoor
open Go.RowKit Go.Sort

set_option maxHeartbeats 4000000 in
theorem iroot_z (g : Bool) (x lo hi : Int) (w : World) (KZ : ∀ w, Hid (Calls Tryd.prog 79 #[NV 0 g x lo hi] w fun e w' => e = .returned (.bool true) ∧ Below w.heap.size w w')) :
    Calls Tryd.prog 38 #[NV 0 g x lo hi] w fun e w' => e = .returned (NV 0 g x lo hi) ∧ Below w.heap.size w w' := by
  go_enter Tryd.func38, Tryd.ntmps38
  go_wp2_with fail
  refine (KZ _).out.mono ?_
  rintro e w1 ⟨rfl, hb⟩
  obtain ⟨⟨c0, c1, c2, c3, c4⟩, -⟩ := c5_new.past.keep hb
  obtain ⟨⟨r0, r1, r2, r3, r4⟩, v0, v1, v2, v3, v4⟩ := c5_mid.keep hb
  have HB := Hid.mk' (below2 hb)
  clear hb KZ
  go_wp2
  exact bodyPost_ret (v := NV 0 g x lo hi) (by simp [results, Tryd.results38, go_sem, r0, r1, r2, r3, r4]) rfl ⟨rfl, by repeat (first | exact HB.out | refine Below.setCell ?_ (by first | (simp; done) | (simp; omega) | omega) _)⟩
set_option maxHeartbeats 4000000 in
theorem iroot_n (g : Bool) (x lo hi : Int) (w : World) (KZ : ∀ w, Hid (Calls Tryd.prog 79 #[NV 2 g x lo hi] w fun e w' => e = .returned (.bool false) ∧ Below w.heap.size w w')) :
    Calls Tryd.prog 38 #[NV 2 g x lo hi] w fun e w' => e = .returned (NV 2 false 0 0 0) ∧ Below w.heap.size w w' := by
  go_enter Tryd.func38, Tryd.ntmps38
  go_wp2_with fail
  refine (KZ _).out.mono ?_
  rintro e w1 ⟨rfl, hb⟩
  obtain ⟨⟨c0, c1, c2, c3, c4⟩, -⟩ := c5_new.past.keep hb
  obtain ⟨⟨r0, r1, r2, r3, r4⟩, v0, v1, v2, v3, v4⟩ := c5_mid.keep hb
  have HB := Hid.mk' (below2 hb)
  clear hb KZ
  go_wp2
  exact bodyPost_ret (v := NV 2 false 0 0 0) (by simp [results, Tryd.results38, go_sem, r0, r1, r2, r3, r4]) rfl ⟨rfl, by repeat (first | exact HB.out | refine Below.setCell ?_ (by first | (simp; done) | (simp; omega) | omega) _)⟩
set_option maxHeartbeats 4000000 in
theorem iroot_g0 (x lo hi : Int) (w : World) (KZ : ∀ w, Hid (Calls Tryd.prog 79 #[NV 0 true x lo hi] w fun e w' => e = .returned (.bool false) ∧ Below w.heap.size w w')) :
    Calls Tryd.prog 38 #[NV 0 true x lo hi] w fun e w' => e = .returned (NV 2 false 0 0 0) ∧ Below w.heap.size w w' := by
  go_enter Tryd.func38, Tryd.ntmps38
  go_wp2_with fail
  refine (KZ _).out.mono ?_
  rintro e w1 ⟨rfl, hb⟩
  obtain ⟨⟨c0, c1, c2, c3, c4⟩, -⟩ := c5_new.past.keep hb
  obtain ⟨⟨r0, r1, r2, r3, r4⟩, v0, v1, v2, v3, v4⟩ := c5_mid.keep hb
  have HB := Hid.mk' (below2 hb)
  clear hb KZ
  go_wp2
  exact bodyPost_ret (v := NV 2 false 0 0 0) (by simp [results, Tryd.results38, go_sem, r0, r1, r2, r3, r4]) rfl ⟨rfl, by repeat (first | exact HB.out | refine Below.setCell ?_ (by first | (simp; done) | (simp; omega) | omega) _)⟩
set_option maxHeartbeats 4000000 in
theorem iroot_g1 (x lo hi : Int) (w : World) (KZ : ∀ w, Hid (Calls Tryd.prog 79 #[NV 1 true x lo hi] w fun e w' => e = .returned (.bool false) ∧ Below w.heap.size w w')) :
    Calls Tryd.prog 38 #[NV 1 true x lo hi] w fun e w' => e = .returned (NV 2 false 0 0 0) ∧ Below w.heap.size w w' := by
  go_enter Tryd.func38, Tryd.ntmps38
  go_wp2_with fail
  refine (KZ _).out.mono ?_
  rintro e w1 ⟨rfl, hb⟩
  obtain ⟨⟨c0, c1, c2, c3, c4⟩, -⟩ := c5_new.past.keep hb
  obtain ⟨⟨r0, r1, r2, r3, r4⟩, v0, v1, v2, v3, v4⟩ := c5_mid.keep hb
  have HB := Hid.mk' (below2 hb)
  clear hb KZ
  go_wp2
  exact bodyPost_ret (v := NV 2 false 0 0 0) (by simp [results, Tryd.results38, go_sem, r0, r1, r2, r3, r4]) rfl ⟨rfl, by repeat (first | exact HB.out | refine Below.setCell ?_ (by first | (simp; done) | (simp; omega) | omega) _)⟩
set_option maxHeartbeats 4000000 in
theorem iroot_i (x lo hi : Int) (w : World) (KZ : ∀ w, Hid (Calls Tryd.prog 79 #[NV 1 false x lo hi] w fun e w' => e = .returned (.bool false) ∧ Below w.heap.size w w')) :
    Calls Tryd.prog 38 #[NV 1 false x lo hi] w fun e w' => e = .returned (NV 1 false x lo hi) ∧ Below w.heap.size w w' := by
  go_enter Tryd.func38, Tryd.ntmps38
  go_wp2_with fail
  refine (KZ _).out.mono ?_
  rintro e w1 ⟨rfl, hb⟩
  obtain ⟨⟨c0, c1, c2, c3, c4⟩, -⟩ := c5_new.past.keep hb
  obtain ⟨⟨r0, r1, r2, r3, r4⟩, v0, v1, v2, v3, v4⟩ := c5_mid.keep hb
  have HB := Hid.mk' (below2 hb)
  clear hb KZ
  go_wp2
  exact bodyPost_ret (v := NV 1 false x lo hi) (by simp [results, Tryd.results38, go_sem, r0, r1, r2, r3, r4]) rfl ⟨rfl, by repeat (first | exact HB.out | refine Below.setCell ?_ (by first | (simp; done) | (simp; omega) | omega) _)⟩
set_option maxHeartbeats 4000000 in
theorem sroot_n_n (g : Bool) (v : Value) (x : Int) (w : World) :
    Calls Tryd.prog 28 #[FSn, SV 2 g v x] w fun e w' => e = .returned (.int .u64 2143289344) ∧ Below w.heap.size w w' := by
  have HB := Hid.mk' (Below.refl w.heap.size w)
  go_enter Tryd.func28, Tryd.ntmps28
  go_wp2_with fail
  refine (nan_n _).mono ?_
  rintro e w9 ⟨rfl, hb9⟩
  have HB9 := Hid.mk' (below2 hb9)
  clear hb9
  go_wp2
  go_ret
  exact ⟨rfl, HB9.out⟩
set_option maxHeartbeats 4000000 in
set_option maxRecDepth 100000 in
theorem sroot_n_g0 (v : Value) (x : Int) (s : Nat) (w : World) (hS : SN w v s) (KZ : ∀ w, SN w v s → Hid (Calls Tryd.prog 66 #[SV 0 true v x] w fun e w' => e = .returned (.bool false) ∧ Below w.heap.size w w')) :
    Calls Tryd.prog 28 #[FSn, SV 0 true v x] w fun e w' => e = .returned (.int .u64 2143289344) ∧ Below w.heap.size w w' := by
  have HS := Hid.mk' hS
  clear hS
  go_enter Tryd.func28, Tryd.ntmps28
  go_wp2_with fail
  refine (KZ _ (HS.out.below (((Below.refl _ _).alloc (Nat.le_refl _) _).alloc (by simp) _))).out.mono ?_
  rintro e w1 ⟨rfl, hb⟩
  have CF := Hid.mk' (c3_new.past.keep hb)
  have CN := Hid.mk' ((d4_mid (a := .int .i64 0) (b := .bool true) (c := v) (d := .int .i64 x)).1.keep hb)
  have HB := Hid.mk' (below2 hb)
  clear hb
  obtain ⟨q0, q1, q2⟩ := CF.out
  obtain ⟨c0, c1, c2, c3⟩ := CN.out
  go_wp2_with fail
  refine (nan_n _).mono ?_
  rintro e w9 ⟨rfl, hb9⟩
  have HB9 := Hid.mk' (HB.out.trans (hb9.mono HB.out.size))
  clear hb9
  go_wp2
  go_ret
  exact ⟨rfl, HB9.out⟩
set_option maxHeartbeats 4000000 in
set_option maxRecDepth 100000 in
theorem sroot_n_g1 (v : Value) (x : Int) (s : Nat) (w : World) (hS : SN w v s) (KZ : ∀ w, SN w v s → Hid (Calls Tryd.prog 66 #[SV 1 true v x] w fun e w' => e = .returned (.bool false) ∧ Below w.heap.size w w')) :
    Calls Tryd.prog 28 #[FSn, SV 1 true v x] w fun e w' => e = .returned (.int .u64 2143289344) ∧ Below w.heap.size w w' := by
  have HS := Hid.mk' hS
  clear hS
  go_enter Tryd.func28, Tryd.ntmps28
  go_wp2_with fail
  refine (KZ _ (HS.out.below (((Below.refl _ _).alloc (Nat.le_refl _) _).alloc (by simp) _))).out.mono ?_
  rintro e w1 ⟨rfl, hb⟩
  have CF := Hid.mk' (c3_new.past.keep hb)
  have CN := Hid.mk' ((d4_mid (a := .int .i64 1) (b := .bool true) (c := v) (d := .int .i64 x)).1.keep hb)
  have HB := Hid.mk' (below2 hb)
  clear hb
  obtain ⟨q0, q1, q2⟩ := CF.out
  obtain ⟨c0, c1, c2, c3⟩ := CN.out
  go_wp2_with fail
  refine (nan_n _).mono ?_
  rintro e w9 ⟨rfl, hb9⟩
  have HB9 := Hid.mk' (HB.out.trans (hb9.mono HB.out.size))
  clear hb9
  go_wp2
  go_ret
  exact ⟨rfl, HB9.out⟩
set_option maxHeartbeats 4000000 in
set_option maxRecDepth 100000 in
theorem sroot_n_i (v : Value) (x : Int) (s : Nat) (w : World) (hS : SN w v s) (R : Int) (KW : ∀ w, SN w v s → Hid (Calls Tryd.prog 29 #[FSn, SV 1 false v x] w fun e w' => e = .returned (.int .u64 R) ∧ Below w.heap.size w w')) :
    Calls Tryd.prog 28 #[FSn, SV 1 false v x] w fun e w' => e = .returned (.int .u64 R) ∧ Below w.heap.size w w' := by
  have HS := Hid.mk' hS
  clear hS
  go_enter Tryd.func28, Tryd.ntmps28
  go_wp2_with fail
  refine (KW _ (HS.out.below (((Below.refl _ _).alloc (Nat.le_refl _) _).alloc (by simp) _))).out.mono ?_
  rintro e w9 ⟨rfl, hb9⟩
  have HB9 := Hid.mk' (below2 hb9)
  clear hb9
  go_wp2
  go_ret
  exact ⟨rfl, HB9.out⟩
set_option maxHeartbeats 4000000 in
set_option maxRecDepth 100000 in
theorem sroot_n_zf (v : Value) (x : Int) (s : Nat) (w : World) (hS : SN w v s) (KZ : ∀ w, SN w v s → Hid (Calls Tryd.prog 66 #[SV 0 false v x] w fun e w' => e = .returned (.bool true) ∧ Below w.heap.size w w')) (R : Int) (KW : ∀ w, SN w v s → Hid (Calls Tryd.prog 29 #[FSn, SV 0 false v x] w fun e w' => e = .returned (.int .u64 R) ∧ Below w.heap.size w w')) :
    Calls Tryd.prog 28 #[FSn, SV 0 false v x] w fun e w' => e = .returned (.int .u64 R) ∧ Below w.heap.size w w' := by
  have HS := Hid.mk' hS
  clear hS
  go_enter Tryd.func28, Tryd.ntmps28
  go_wp2_with fail
  refine (KZ _ (HS.out.below (((Below.refl _ _).alloc (Nat.le_refl _) _).alloc (by simp) _))).out.mono ?_
  rintro e w1 ⟨rfl, hb⟩
  have CF := Hid.mk' (c3_new.past.keep hb)
  have CN := Hid.mk' ((d4_mid (a := .int .i64 0) (b := .bool false) (c := v) (d := .int .i64 x)).1.keep hb)
  have HB := Hid.mk' (below2 hb)
  clear hb
  obtain ⟨q0, q1, q2⟩ := CF.out
  obtain ⟨c0, c1, c2, c3⟩ := CN.out
  go_wp2_with fail
  refine (KW _ (HS.out.below HB.out)).out.mono ?_
  rintro e w9 ⟨rfl, hb9⟩
  have HB9 := Hid.mk' (HB.out.trans (hb9.mono HB.out.size))
  clear hb9
  go_wp2
  go_ret
  exact ⟨rfl, HB9.out⟩
set_option maxHeartbeats 4000000 in
set_option maxRecDepth 100000 in
theorem sroot_n_zt (v : Value) (x : Int) (s : Nat) (w : World) (hS : SN w v s) (KZ : ∀ w, SN w v s → Hid (Calls Tryd.prog 66 #[SV 0 true v x] w fun e w' => e = .returned (.bool true) ∧ Below w.heap.size w w')) (R : Int) (KW : ∀ w, SN w v s → Hid (Calls Tryd.prog 29 #[FSn, SV 0 true v x] w fun e w' => e = .returned (.int .u64 R) ∧ Below w.heap.size w w')) :
    Calls Tryd.prog 28 #[FSn, SV 0 true v x] w fun e w' => e = .returned (.int .u64 R) ∧ Below w.heap.size w w' := by
  have HS := Hid.mk' hS
  clear hS
  go_enter Tryd.func28, Tryd.ntmps28
  go_wp2_with fail
  refine (KZ _ (HS.out.below (((Below.refl _ _).alloc (Nat.le_refl _) _).alloc (by simp) _))).out.mono ?_
  rintro e w1 ⟨rfl, hb⟩
  have CF := Hid.mk' (c3_new.past.keep hb)
  have CN := Hid.mk' ((d4_mid (a := .int .i64 0) (b := .bool true) (c := v) (d := .int .i64 x)).1.keep hb)
  have HB := Hid.mk' (below2 hb)
  clear hb
  obtain ⟨q0, q1, q2⟩ := CF.out
  obtain ⟨c0, c1, c2, c3⟩ := CN.out
  go_wp2_with fail
  refine (KZ _ (HS.out.below HB.out)).out.mono ?_
  rintro e w2 ⟨rfl, hb⟩
  have CF2 := Hid.mk' (CF.out.keep hb)
  have CN2 := Hid.mk' (CN.out.keep hb)
  have HB2 := Hid.mk' (HB.out.trans (hb.mono HB.out.size))
  clear hb CF CN HB q0 q1 q2 c0 c1 c2 c3
  have HB := HB2
  obtain ⟨q0, q1, q2⟩ := CF2.out
  obtain ⟨c0, c1, c2, c3⟩ := CN2.out
  go_wp2_with fail
  refine (KW _ (HS.out.below HB.out)).out.mono ?_
  rintro e w9 ⟨rfl, hb9⟩
  have HB9 := Hid.mk' (HB.out.trans (hb9.mono HB.out.size))
  clear hb9
  go_wp2
  go_ret
  exact ⟨rfl, HB9.out⟩
set_option maxHeartbeats 4000000 in
theorem sroot_w_n (g : Bool) (v : Value) (x : Int) (w : World) :
    Calls Tryd.prog 28 #[FSw, SV 2 g v x] w fun e w' => e = .returned (.int .u64 9221120237041090560) ∧ Below w.heap.size w w' := by
  have HB := Hid.mk' (Below.refl w.heap.size w)
  go_enter Tryd.func28, Tryd.ntmps28
  go_wp2_with fail
  refine (nan_w _).mono ?_
  rintro e w9 ⟨rfl, hb9⟩
  have HB9 := Hid.mk' (below2 hb9)
  clear hb9
  go_wp2
  go_ret
  exact ⟨rfl, HB9.out⟩
set_option maxHeartbeats 4000000 in
set_option maxRecDepth 100000 in
theorem sroot_w_g0 (v : Value) (x : Int) (s : Nat) (w : World) (hS : SN w v s) (KZ : ∀ w, SN w v s → Hid (Calls Tryd.prog 66 #[SV 0 true v x] w fun e w' => e = .returned (.bool false) ∧ Below w.heap.size w w')) :
    Calls Tryd.prog 28 #[FSw, SV 0 true v x] w fun e w' => e = .returned (.int .u64 9221120237041090560) ∧ Below w.heap.size w w' := by
  have HS := Hid.mk' hS
  clear hS
  go_enter Tryd.func28, Tryd.ntmps28
  go_wp2_with fail
  refine (KZ _ (HS.out.below (((Below.refl _ _).alloc (Nat.le_refl _) _).alloc (by simp) _))).out.mono ?_
  rintro e w1 ⟨rfl, hb⟩
  have CF := Hid.mk' (c3_new.past.keep hb)
  have CN := Hid.mk' ((d4_mid (a := .int .i64 0) (b := .bool true) (c := v) (d := .int .i64 x)).1.keep hb)
  have HB := Hid.mk' (below2 hb)
  clear hb
  obtain ⟨q0, q1, q2⟩ := CF.out
  obtain ⟨c0, c1, c2, c3⟩ := CN.out
  go_wp2_with fail
  refine (nan_w _).mono ?_
  rintro e w9 ⟨rfl, hb9⟩
  have HB9 := Hid.mk' (HB.out.trans (hb9.mono HB.out.size))
  clear hb9
  go_wp2
  go_ret
  exact ⟨rfl, HB9.out⟩
set_option maxHeartbeats 4000000 in
set_option maxRecDepth 100000 in
theorem sroot_w_g1 (v : Value) (x : Int) (s : Nat) (w : World) (hS : SN w v s) (KZ : ∀ w, SN w v s → Hid (Calls Tryd.prog 66 #[SV 1 true v x] w fun e w' => e = .returned (.bool false) ∧ Below w.heap.size w w')) :
    Calls Tryd.prog 28 #[FSw, SV 1 true v x] w fun e w' => e = .returned (.int .u64 9221120237041090560) ∧ Below w.heap.size w w' := by
  have HS := Hid.mk' hS
  clear hS
  go_enter Tryd.func28, Tryd.ntmps28
  go_wp2_with fail
  refine (KZ _ (HS.out.below (((Below.refl _ _).alloc (Nat.le_refl _) _).alloc (by simp) _))).out.mono ?_
  rintro e w1 ⟨rfl, hb⟩
  have CF := Hid.mk' (c3_new.past.keep hb)
  have CN := Hid.mk' ((d4_mid (a := .int .i64 1) (b := .bool true) (c := v) (d := .int .i64 x)).1.keep hb)
  have HB := Hid.mk' (below2 hb)
  clear hb
  obtain ⟨q0, q1, q2⟩ := CF.out
  obtain ⟨c0, c1, c2, c3⟩ := CN.out
  go_wp2_with fail
  refine (nan_w _).mono ?_
  rintro e w9 ⟨rfl, hb9⟩
  have HB9 := Hid.mk' (HB.out.trans (hb9.mono HB.out.size))
  clear hb9
  go_wp2
  go_ret
  exact ⟨rfl, HB9.out⟩
set_option maxHeartbeats 4000000 in
set_option maxRecDepth 100000 in
theorem sroot_w_i (v : Value) (x : Int) (s : Nat) (w : World) (hS : SN w v s) (R : Int) (KW : ∀ w, SN w v s → Hid (Calls Tryd.prog 29 #[FSw, SV 1 false v x] w fun e w' => e = .returned (.int .u64 R) ∧ Below w.heap.size w w')) :
    Calls Tryd.prog 28 #[FSw, SV 1 false v x] w fun e w' => e = .returned (.int .u64 R) ∧ Below w.heap.size w w' := by
  have HS := Hid.mk' hS
  clear hS
  go_enter Tryd.func28, Tryd.ntmps28
  go_wp2_with fail
  refine (KW _ (HS.out.below (((Below.refl _ _).alloc (Nat.le_refl _) _).alloc (by simp) _))).out.mono ?_
  rintro e w9 ⟨rfl, hb9⟩
  have HB9 := Hid.mk' (below2 hb9)
  clear hb9
  go_wp2
  go_ret
  exact ⟨rfl, HB9.out⟩
set_option maxHeartbeats 4000000 in
set_option maxRecDepth 100000 in
theorem sroot_w_zf (v : Value) (x : Int) (s : Nat) (w : World) (hS : SN w v s) (KZ : ∀ w, SN w v s → Hid (Calls Tryd.prog 66 #[SV 0 false v x] w fun e w' => e = .returned (.bool true) ∧ Below w.heap.size w w')) (R : Int) (KW : ∀ w, SN w v s → Hid (Calls Tryd.prog 29 #[FSw, SV 0 false v x] w fun e w' => e = .returned (.int .u64 R) ∧ Below w.heap.size w w')) :
    Calls Tryd.prog 28 #[FSw, SV 0 false v x] w fun e w' => e = .returned (.int .u64 R) ∧ Below w.heap.size w w' := by
  have HS := Hid.mk' hS
  clear hS
  go_enter Tryd.func28, Tryd.ntmps28
  go_wp2_with fail
  refine (KZ _ (HS.out.below (((Below.refl _ _).alloc (Nat.le_refl _) _).alloc (by simp) _))).out.mono ?_
  rintro e w1 ⟨rfl, hb⟩
  have CF := Hid.mk' (c3_new.past.keep hb)
  have CN := Hid.mk' ((d4_mid (a := .int .i64 0) (b := .bool false) (c := v) (d := .int .i64 x)).1.keep hb)
  have HB := Hid.mk' (below2 hb)
  clear hb
  obtain ⟨q0, q1, q2⟩ := CF.out
  obtain ⟨c0, c1, c2, c3⟩ := CN.out
  go_wp2_with fail
  refine (KW _ (HS.out.below HB.out)).out.mono ?_
  rintro e w9 ⟨rfl, hb9⟩
  have HB9 := Hid.mk' (HB.out.trans (hb9.mono HB.out.size))
  clear hb9
  go_wp2
  go_ret
  exact ⟨rfl, HB9.out⟩
set_option maxHeartbeats 4000000 in
set_option maxRecDepth 100000 in
theorem sroot_w_zt (v : Value) (x : Int) (s : Nat) (w : World) (hS : SN w v s) (KZ : ∀ w, SN w v s → Hid (Calls Tryd.prog 66 #[SV 0 true v x] w fun e w' => e = .returned (.bool true) ∧ Below w.heap.size w w')) (R : Int) (KW : ∀ w, SN w v s → Hid (Calls Tryd.prog 29 #[FSw, SV 0 true v x] w fun e w' => e = .returned (.int .u64 R) ∧ Below w.heap.size w w')) :
    Calls Tryd.prog 28 #[FSw, SV 0 true v x] w fun e w' => e = .returned (.int .u64 R) ∧ Below w.heap.size w w' := by
  have HS := Hid.mk' hS
  clear hS
  go_enter Tryd.func28, Tryd.ntmps28
  go_wp2_with fail
  refine (KZ _ (HS.out.below (((Below.refl _ _).alloc (Nat.le_refl _) _).alloc (by simp) _))).out.mono ?_
  rintro e w1 ⟨rfl, hb⟩
  have CF := Hid.mk' (c3_new.past.keep hb)
  have CN := Hid.mk' ((d4_mid (a := .int .i64 0) (b := .bool true) (c := v) (d := .int .i64 x)).1.keep hb)
  have HB := Hid.mk' (below2 hb)
  clear hb
  obtain ⟨q0, q1, q2⟩ := CF.out
  obtain ⟨c0, c1, c2, c3⟩ := CN.out
  go_wp2_with fail
  refine (KZ _ (HS.out.below HB.out)).out.mono ?_
  rintro e w2 ⟨rfl, hb⟩
  have CF2 := Hid.mk' (CF.out.keep hb)
  have CN2 := Hid.mk' (CN.out.keep hb)
  have HB2 := Hid.mk' (HB.out.trans (hb.mono HB.out.size))
  clear hb CF CN HB q0 q1 q2 c0 c1 c2 c3
  have HB := HB2
  obtain ⟨q0, q1, q2⟩ := CF2.out
  obtain ⟨c0, c1, c2, c3⟩ := CN2.out
  go_wp2_with fail
  refine (KW _ (HS.out.below HB.out)).out.mono ?_
  rintro e w9 ⟨rfl, hb9⟩
  have HB9 := Hid.mk' (HB.out.trans (hb9.mono HB.out.size))
  clear hb9
  go_wp2
  go_ret
  exact ⟨rfl, HB9.out⟩
end Go.Proofs.YthmppcfhbbjhlaaDoor
