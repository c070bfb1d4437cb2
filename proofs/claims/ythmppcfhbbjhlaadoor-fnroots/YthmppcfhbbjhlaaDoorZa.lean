import Derived.Test.YthmppcfhbbjhlaaDoorXs
import Derived.Test.YthmppcfhbbjhlaaDoorCut
import Derived.Test.YthmppcfhbbjhlaaDoorIvp
import Derived.Test.YthmppcfhbbjhlaaDoorFo
import Derived.Test.YthmppcfhbbjhlaaDoorTr
set_option linter.all false
namespace Go.Proofs.YthmppcfhbbjhlaaDoor
open Go.RowKit Go.Sort

set_option maxHeartbeats 4000000 in
theorem iroot_z (g : Bool) (x lo hi : Int) (w : World) (KZ : ∀ w, Hid (Calls Tryd.prog 79 #[NV 0 g x lo hi] w fun e w' => e = .returned (.bool true) ∧ Below w.heap.size w w')) :
    Calls Tryd.prog 38 #[NV 0 g x lo hi] w fun e w' => e = .returned (NV 0 g x lo hi) ∧ Below w.heap.size w w' := by
  go_enter Tryd.func38, Tryd.ntmps38
  go_wp2_with fail
  refine (KZ _).out.mono ?_
  rintro e w1 ⟨rfl, hb⟩
  obtain ⟨⟨c0, c1, c2, c3, c4⟩, -⟩ := c5_new.past.keep hb
  obtain ⟨⟨r0, r1, r2, r3, r4⟩, v0, v1, v2, v3, v4⟩ := c5_mid.keep hb
  have HB := Hid.mk' (below2 hb)
  clear hb KZ
  go_wp2
  exact bodyPost_ret (v := NV 0 g x lo hi) (by simp [results, Tryd.results38, go_sem, r0, r1, r2, r3, r4]) rfl ⟨rfl, by repeat (first | exact HB.out | refine Below.setCell ?_ (by first | (simp; done) | (simp; omega) | omega) _)⟩
set_option maxHeartbeats 4000000 in
theorem iroot_n (g : Bool) (x lo hi : Int) (w : World) (KZ : ∀ w, Hid (Calls Tryd.prog 79 #[NV 2 g x lo hi] w fun e w' => e = .returned (.bool false) ∧ Below w.heap.size w w')) :
    Calls Tryd.prog 38 #[NV 2 g x lo hi] w fun e w' => e = .returned (NV 2 false 0 0 0) ∧ Below w.heap.size w w' := by
  go_enter Tryd.func38, Tryd.ntmps38
  go_wp2_with fail
  refine (KZ _).out.mono ?_
  rintro e w1 ⟨rfl, hb⟩
  obtain ⟨⟨c0, c1, c2, c3, c4⟩, -⟩ := c5_new.past.keep hb
  obtain ⟨⟨r0, r1, r2, r3, r4⟩, v0, v1, v2, v3, v4⟩ := c5_mid.keep hb
  have HB := Hid.mk' (below2 hb)
  clear hb KZ
  go_wp2
  exact bodyPost_ret (v := NV 2 false 0 0 0) (by simp [results, Tryd.results38, go_sem, r0, r1, r2, r3, r4]) rfl ⟨rfl, by repeat (first | exact HB.out | refine Below.setCell ?_ (by first | (simp; done) | (simp; omega) | omega) _)⟩
set_option maxHeartbeats 4000000 in
theorem iroot_g0 (x lo hi : Int) (w : World) (KZ : ∀ w, Hid (Calls Tryd.prog 79 #[NV 0 true x lo hi] w fun e w' => e = .returned (.bool false) ∧ Below w.heap.size w w')) :
    Calls Tryd.prog 38 #[NV 0 true x lo hi] w fun e w' => e = .returned (NV 2 false 0 0 0) ∧ Below w.heap.size w w' := by
  go_enter Tryd.func38, Tryd.ntmps38
  go_wp2_with fail
  refine (KZ _).out.mono ?_
  rintro e w1 ⟨rfl, hb⟩
  obtain ⟨⟨c0, c1, c2, c3, c4⟩, -⟩ := c5_new.past.keep hb
  obtain ⟨⟨r0, r1, r2, r3, r4⟩, v0, v1, v2, v3, v4⟩ := c5_mid.keep hb
  have HB := Hid.mk' (below2 hb)
  clear hb KZ
  go_wp2
  exact bodyPost_ret (v := NV 2 false 0 0 0) (by simp [results, Tryd.results38, go_sem, r0, r1, r2, r3, r4]) rfl ⟨rfl, by repeat (first | exact HB.out | refine Below.setCell ?_ (by first | (simp; done) | (simp; omega) | omega) _)⟩
set_option maxHeartbeats 4000000 in
theorem iroot_g1 (x lo hi : Int) (w : World) (KZ : ∀ w, Hid (Calls Tryd.prog 79 #[NV 1 true x lo hi] w fun e w' => e = .returned (.bool false) ∧ Below w.heap.size w w')) :
    Calls Tryd.prog 38 #[NV 1 true x lo hi] w fun e w' => e = .returned (NV 2 false 0 0 0) ∧ Below w.heap.size w w' := by
  go_enter Tryd.func38, Tryd.ntmps38
  go_wp2_with fail
  refine (KZ _).out.mono ?_
  rintro e w1 ⟨rfl, hb⟩
  obtain ⟨⟨c0, c1, c2, c3, c4⟩, -⟩ := c5_new.past.keep hb
  obtain ⟨⟨r0, r1, r2, r3, r4⟩, v0, v1, v2, v3, v4⟩ := c5_mid.keep hb
  have HB := Hid.mk' (below2 hb)
  clear hb KZ
  go_wp2
  exact bodyPost_ret (v := NV 2 false 0 0 0) (by simp [results, Tryd.results38, go_sem, r0, r1, r2, r3, r4]) rfl ⟨rfl, by repeat (first | exact HB.out | refine Below.setCell ?_ (by first | (simp; done) | (simp; omega) | omega) _)⟩
set_option maxHeartbeats 4000000 in
theorem iroot_i (x lo hi : Int) (w : World) (KZ : ∀ w, Hid (Calls Tryd.prog 79 #[NV 1 false x lo hi] w fun e w' => e = .returned (.bool false) ∧ Below w.heap.size w w')) :
    Calls Tryd.prog 38 #[NV 1 false x lo hi] w fun e w' => e = .returned (NV 1 false x lo hi) ∧ Below w.heap.size w w' := by
  go_enter Tryd.func38, Tryd.ntmps38
  go_wp2_with fail
  refine (KZ _).out.mono ?_
  rintro e w1 ⟨rfl, hb⟩
  obtain ⟨⟨c0, c1, c2, c3, c4⟩, -⟩ := c5_new.past.keep hb
  obtain ⟨⟨r0, r1, r2, r3, r4⟩, v0, v1, v2, v3, v4⟩ := c5_mid.keep hb
  have HB := Hid.mk' (below2 hb)
  clear hb KZ
  go_wp2
  exact bodyPost_ret (v := NV 1 false x lo hi) (by simp [results, Tryd.results38, go_sem, r0, r1, r2, r3, r4]) rfl ⟨rfl, by repeat (first | exact HB.out | refine Below.setCell ?_ (by first | (simp; done) | (simp; omega) | omega) _)⟩
set_option maxHeartbeats 4000000 in
theorem sroot_w_n (g : Bool) (v : Value) (x : Int) (w : World) :
    Calls Tryd.prog 28 #[FSw, SV 2 g v x] w fun e w' => e = .returned (.int .u64 9221120237041090560) ∧ Below w.heap.size w w' := by
  have HB := Hid.mk' (Below.refl w.heap.size w)
  go_enter Tryd.func28, Tryd.ntmps28
  go_wp2_with fail
  refine (nan_w _).mono ?_
  rintro e w9 ⟨rfl, hb9⟩
  have HB9 := Hid.mk' (below2 hb9)
  clear hb9
  go_wp2
  go_ret
  exact ⟨rfl, HB9.out⟩
set_option maxHeartbeats 4000000 in
set_option maxRecDepth 100000 in
theorem sroot_w_g0 (v : Value) (x : Int) (s : Nat) (w : World) (hS : SN w v s) (KZ : ∀ w, SN w v s → Hid (Calls Tryd.prog 66 #[SV 0 true v x] w fun e w' => e = .returned (.bool false) ∧ Below w.heap.size w w')) :
    Calls Tryd.prog 28 #[FSw, SV 0 true v x] w fun e w' => e = .returned (.int .u64 9221120237041090560) ∧ Below w.heap.size w w' := by
  have HS := Hid.mk' hS
  clear hS
  go_enter Tryd.func28, Tryd.ntmps28
  go_wp2_with fail
  refine (KZ _ (HS.out.below (((Below.refl _ _).alloc (Nat.le_refl _) _).alloc (by simp) _))).out.mono ?_
  rintro e w1 ⟨rfl, hb⟩
  have CF := Hid.mk' (c3_new.past.keep hb)
  have CN := Hid.mk' ((d4_mid (a := .int .i64 0) (b := .bool true) (c := v) (d := .int .i64 x)).1.keep hb)
  have HB := Hid.mk' (below2 hb)
  clear hb
  obtain ⟨q0, q1, q2⟩ := CF.out
  obtain ⟨c0, c1, c2, c3⟩ := CN.out
  go_wp2_with fail
  refine (nan_w _).mono ?_
  rintro e w9 ⟨rfl, hb9⟩
  have HB9 := Hid.mk' (HB.out.trans (hb9.mono HB.out.size))
  clear hb9
  go_wp2
  go_ret
  exact ⟨rfl, HB9.out⟩
set_option maxHeartbeats 4000000 in
set_option maxRecDepth 100000 in
theorem sroot_w_g1 (v : Value) (x : Int) (s : Nat) (w : World) (hS : SN w v s) (KZ : ∀ w, SN w v s → Hid (Calls Tryd.prog 66 #[SV 1 true v x] w fun e w' => e = .returned (.bool false) ∧ Below w.heap.size w w')) :
    Calls Tryd.prog 28 #[FSw, SV 1 true v x] w fun e w' => e = .returned (.int .u64 9221120237041090560) ∧ Below w.heap.size w w' := by
  have HS := Hid.mk' hS
  clear hS
  go_enter Tryd.func28, Tryd.ntmps28
  go_wp2_with fail
  refine (KZ _ (HS.out.below (((Below.refl _ _).alloc (Nat.le_refl _) _).alloc (by simp) _))).out.mono ?_
  rintro e w1 ⟨rfl, hb⟩
  have CF := Hid.mk' (c3_new.past.keep hb)
  have CN := Hid.mk' ((d4_mid (a := .int .i64 1) (b := .bool true) (c := v) (d := .int .i64 x)).1.keep hb)
  have HB := Hid.mk' (below2 hb)
  clear hb
  obtain ⟨q0, q1, q2⟩ := CF.out
  obtain ⟨c0, c1, c2, c3⟩ := CN.out
  go_wp2_with fail
  refine (nan_w _).mono ?_
  rintro e w9 ⟨rfl, hb9⟩
  have HB9 := Hid.mk' (HB.out.trans (hb9.mono HB.out.size))
  clear hb9
  go_wp2
  go_ret
  exact ⟨rfl, HB9.out⟩
set_option maxHeartbeats 4000000 in
set_option maxRecDepth 100000 in
theorem sroot_w_i (v : Value) (x : Int) (s : Nat) (w : World) (hS : SN w v s) (R : Int) (KW : ∀ w, SN w v s → Hid (Calls Tryd.prog 29 #[FSw, SV 1 false v x] w fun e w' => e = .returned (.int .u64 R) ∧ Below w.heap.size w w')) :
    Calls Tryd.prog 28 #[FSw, SV 1 false v x] w fun e w' => e = .returned (.int .u64 R) ∧ Below w.heap.size w w' := by
  have HS := Hid.mk' hS
  clear hS
  go_enter Tryd.func28, Tryd.ntmps28
  go_wp2_with fail
  refine (KW _ (HS.out.below (((Below.refl _ _).alloc (Nat.le_refl _) _).alloc (by simp) _))).out.mono ?_
  rintro e w9 ⟨rfl, hb9⟩
  have HB9 := Hid.mk' (below2 hb9)
  clear hb9
  go_wp2
  go_ret
  exact ⟨rfl, HB9.out⟩
set_option maxHeartbeats 4000000 in
set_option maxRecDepth 100000 in
theorem sroot_w_zf (v : Value) (x : Int) (s : Nat) (w : World) (hS : SN w v s) (KZ : ∀ w, SN w v s → Hid (Calls Tryd.prog 66 #[SV 0 false v x] w fun e w' => e = .returned (.bool true) ∧ Below w.heap.size w w')) (R : Int) (KW : ∀ w, SN w v s → Hid (Calls Tryd.prog 29 #[FSw, SV 0 false v x] w fun e w' => e = .returned (.int .u64 R) ∧ Below w.heap.size w w')) :
    Calls Tryd.prog 28 #[FSw, SV 0 false v x] w fun e w' => e = .returned (.int .u64 R) ∧ Below w.heap.size w w' := by
  have HS := Hid.mk' hS
  clear hS
  go_enter Tryd.func28, Tryd.ntmps28
  go_wp2_with fail
  refine (KZ _ (HS.out.below (((Below.refl _ _).alloc (Nat.le_refl _) _).alloc (by simp) _))).out.mono ?_
  rintro e w1 ⟨rfl, hb⟩
  have CF := Hid.mk' (c3_new.past.keep hb)
  have CN := Hid.mk' ((d4_mid (a := .int .i64 0) (b := .bool false) (c := v) (d := .int .i64 x)).1.keep hb)
  have HB := Hid.mk' (below2 hb)
  clear hb
  obtain ⟨q0, q1, q2⟩ := CF.out
  obtain ⟨c0, c1, c2, c3⟩ := CN.out
  go_wp2_with fail
  refine (KW _ (HS.out.below HB.out)).out.mono ?_
  rintro e w9 ⟨rfl, hb9⟩
  have HB9 := Hid.mk' (HB.out.trans (hb9.mono HB.out.size))
  clear hb9
  go_wp2
  go_ret
  exact ⟨rfl, HB9.out⟩
set_option maxHeartbeats 4000000 in
set_option maxRecDepth 100000 in
theorem sroot_w_zt (v : Value) (x : Int) (s : Nat) (w : World) (hS : SN w v s) (KZ : ∀ w, SN w v s → Hid (Calls Tryd.prog 66 #[SV 0 true v x] w fun e w' => e = .returned (.bool true) ∧ Below w.heap.size w w')) (R : Int) (KW : ∀ w, SN w v s → Hid (Calls Tryd.prog 29 #[FSw, SV 0 true v x] w fun e w' => e = .returned (.int .u64 R) ∧ Below w.heap.size w w')) :
    Calls Tryd.prog 28 #[FSw, SV 0 true v x] w fun e w' => e = .returned (.int .u64 R) ∧ Below w.heap.size w w' := by
  have HS := Hid.mk' hS
  clear hS
  go_enter Tryd.func28, Tryd.ntmps28
  go_wp2_with fail
  refine (KZ _ (HS.out.below (((Below.refl _ _).alloc (Nat.le_refl _) _).alloc (by simp) _))).out.mono ?_
  rintro e w1 ⟨rfl, hb⟩
  have CF := Hid.mk' (c3_new.past.keep hb)
  have CN := Hid.mk' ((d4_mid (a := .int .i64 0) (b := .bool true) (c := v) (d := .int .i64 x)).1.keep hb)
  have HB := Hid.mk' (below2 hb)
  clear hb
  obtain ⟨q0, q1, q2⟩ := CF.out
  obtain ⟨c0, c1, c2, c3⟩ := CN.out
  go_wp2_with fail
  refine (KZ _ (HS.out.below HB.out)).out.mono ?_
  rintro e w2 ⟨rfl, hb⟩
  have CF2 := Hid.mk' (CF.out.keep hb)
  have CN2 := Hid.mk' (CN.out.keep hb)
  have HB2 := Hid.mk' (HB.out.trans (hb.mono HB.out.size))
  clear hb CF CN HB q0 q1 q2 c0 c1 c2 c3
  have HB := HB2
  obtain ⟨q0, q1, q2⟩ := CF2.out
  obtain ⟨c0, c1, c2, c3⟩ := CN2.out
  go_wp2_with fail
  refine (KW _ (HS.out.below HB.out)).out.mono ?_
  rintro e w9 ⟨rfl, hb9⟩
  have HB9 := Hid.mk' (HB.out.trans (hb9.mono HB.out.size))
  clear hb9
  go_wp2
  go_ret
  exact ⟨rfl, HB9.out⟩
end Go.Proofs.YthmppcfhbbjhlaaDoor
namespace Go.Proofs.YthmppcfhbbjhlaaDoor
open Go.RowKit Go.Sort

set_option maxHeartbeats 4000000 in
set_option maxRecDepth 100000 in
theorem iconv_184 (a : Int) (g : Bool) (x lo hi R : Int) (w : World) (hT : Tab0 w) (hz : 0 < w.heap.size)
    (KO : ∀ w, Hid (Calls Tryd.prog 45 #[.int .i64 1, .int .u64 a] w fun e w' => e = .returned (NV 0 g x lo hi) ∧ Below w.heap.size w w'))
    (KW : ∀ w, Hid (Calls Tryd.prog 39 #[FVw, NV 0 g x lo hi] w fun e w' => e = .returned (.int .u64 R) ∧ Below w.heap.size w w')) :
    Calls Tryd.prog 13 #[.int .i64 184, .int .u64 a] w fun e w' => e = .returned (RV true 0 R) ∧ Below w.heap.size w w' := by
  have HT := Hid.mk' hT
  obtain ⟨⟨h0, h1, h2, h3⟩, h4, h5, h6, h7⟩ := hT
  go_enter Tryd.func13, Tryd.ntmps13
  go_upto_region 1 with fail
  go_cut [5, 6] from 7 (fun v5 v6 wz => ∃ gn gw : Nat, v5 = .pointer (some ⟨gn, 0, none⟩) ∧ v6 = .pointer (some ⟨gw, 0, none⟩) ∧ RZ wz w.heap.size ∧ C4 wz gn (.int .i64 32) (.int .i64 23) (.int .i64 (-149)) (.int .u64 2143289344) ∧ C4 wz gw (.int .i64 64) (.int .i64 52) (.int .i64 (-1074)) (.int .u64 9221120237041090560) ∧ Below w.heap.size w wz)
  case first =>
    go_region
    · go_wp2
      go_meet
      case rel => first | exact ⟨w.heap.size + 1, w.heap.size + 2, rfl, rfl, r3_new.past.past.drew, c4_newA.drew, c4_newB.drew, ((((Below.refl _ _).alloc (Nat.le_refl _) _).alloc (by simp) _).alloc (by simp; omega) _).drew⟩ | exact ⟨w.heap.size + 2, w.heap.size + 1, rfl, rfl, r3_new.past.past.drew, c4_newB.drew, c4_newA.drew, ((((Below.refl _ _).alloc (Nat.le_refl _) _).alloc (by simp) _).alloc (by simp; omega) _).drew⟩
    · go_wp2
      go_meet
      case rel => first | exact ⟨w.heap.size + 1, w.heap.size + 2, rfl, rfl, r3_new.past.past.drew, c4_newA.drew, c4_newB.drew, ((((Below.refl _ _).alloc (Nat.le_refl _) _).alloc (by simp) _).alloc (by simp; omega) _).drew⟩ | exact ⟨w.heap.size + 2, w.heap.size + 1, rfl, rfl, r3_new.past.past.drew, c4_newB.drew, c4_newA.drew, ((((Below.refl _ _).alloc (Nat.le_refl _) _).alloc (by simp) _).alloc (by simp; omega) _).drew⟩
  case rest =>
  obtain ⟨gn, gw, rfl, rfl, hr, hn, hw, hb⟩ := hcut
  clear h0 h1 h2 h3 h4 h5 h6 h7
  have HR := Hid.mk' hr
  have HNn := Hid.mk' hn
  have HNw := Hid.mk' hw
  have HB := Hid.mk' hb
  have HT1 := Hid.mk' (HT.out.below hb hz)
  have hz1 : 0 < wc.heap.size := Nat.lt_of_lt_of_le hz hb.size
  clear hr hn hw hb HT
  obtain ⟨q0, q1, q2, q3⟩ := HNw.out
  clear HT1
  go_upto_region 22 with fail
  go_region_with (first
    | (go_at_call 45; refine (KO _).out.mono ?_; rintro e w6 ⟨rfl, hb6⟩; have hb6 := undrew hb6; obtain ⟨q0', q1', q2', q3'⟩ := HNw.out.keep hb6; have hr6 := HR.out.keep hb6; have hB6 := HB.out.trans (hb6.mono HB.out.size); clear hb6)
    | (go_at_call 39; refine (KW _).out.mono ?_; rintro e w7 ⟨rfl, hb7⟩; have hr7 := R3.keep hr6 hb7; have hB7 := hB6.trans (hb7.mono hB6.size); clear hb7)
    | (go_at_call 34; refine (done_any R _).mono ?_; rintro e w8 ⟨rfl, hb8⟩; obtain ⟨⟨r0, r1, r2⟩, v0, v1, v2⟩ := R3.keep hr7 hb8; have hB8 := hB7.trans (hb8.mono hB7.size); have HB8 := Hid.mk' hB8; clear hb8 hB8))
  all_goals go_wp2
  all_goals (exact bodyPost_ret (v := RV true 0 R) (by simp [results, Tryd.results13, go_sem, r0, r1, r2]) rfl ⟨rfl, by repeat (first | exact HB8.out | refine Below.setCell ?_ (by first | (simp; done) | (simp; omega) | omega) _ | refine Below.drew ?_)⟩)
end Go.Proofs.YthmppcfhbbjhlaaDoor
namespace Go.Proofs.YthmppcfhbbjhlaaDoor
open Go.RowKit Go.Sort

set_option maxHeartbeats 4000000 in
set_option maxRecDepth 100000 in
theorem if1_w_145 (op a k : Int) (g : Bool) (x lo hi : Int) (w : World) (hT : Tab0 w) (hz : 0 < w.heap.size)
    (KF : ∀ w, Tab0 w → 0 < w.heap.size → Hid (Calls Tryd.prog 32 #[.int .i64 op] w fun e w' => e = .returned (.tuple #[.int .i64 145, FVw]) ∧ Below w.heap.size w w'))
    (KR : ∀ w, Hid (Calls Tryd.prog 33 #[FVw, .int .u64 a] w fun e w' => e = .returned (NV k g x lo hi) ∧ Below w.heap.size w w'))
    (k2 : Int) (g2 : Bool) (x2 lo2 hi2 R : Int) (KX : ∀ w, Hid (Calls Tryd.prog 38 #[NV k g x lo hi] w fun e w' => e = .returned (NV k2 g2 x2 lo2 hi2) ∧ Below w.heap.size w w'))
    (KW : ∀ w, Hid (Calls Tryd.prog 39 #[FVw, NV k2 g2 x2 lo2 hi2] w fun e w' => e = .returned (.int .u64 R) ∧ Below w.heap.size w w')) :
    Calls Tryd.prog 10 #[.int .i64 op, .int .u64 a] w fun e w' => e = .returned (RV true 0 R) ∧ Below w.heap.size w w' := by
  go_enter Tryd.func10, Tryd.ntmps10
  go_wp2_with fail
  refine (KF _ (hT.below ((Below.refl _ _).alloc (Nat.le_refl _) _) hz) (by simp)).out.mono ?_
  rintro e w1 ⟨rfl, hb⟩
  have HR1 := Hid.mk' (r3_new.keep hb)
  have HB1 := Hid.mk' (below_box hb)
  have hl1 := HR1.out.1.lt
  clear hb KF hT
  go_wp2_with fail
  refine (KR _).out.mono ?_
  rintro e w2 ⟨rfl, hb⟩
  have HR2 := Hid.mk' (HR1.out.past.keep hb)
  have HF2 := Hid.mk' (c4_new.keep hb)
  have HB2 := Hid.mk' ((HB1.out.alloc HB1.out.size _).trans (hb.mono (Nat.le_trans HB1.out.size (by simp))))
  have hl2 := HF2.out.lt
  clear hb KR HR1 HB1
  go_upto_region 3 with fail
  refine wp_gen (fun wz => RZ wz w.heap.size ∧ C4 wz w1.heap.size (.int .i64 64) (.int .i64 52) (.int .i64 (-1074)) (.int .u64 9221120237041090560) ∧ C5 wz w2.heap.size (.int .i64 k) (.bool g) (.int .i64 x) (.int .u64 lo) (.int .u64 hi) ∧ Below w.heap.size w wz) ⟨HR2.out.past, HF2.out.past, c5_new, HB2.out.alloc HB2.out.size _⟩ ?_
  clear HR2 HF2 HB2
  generalize w1.heap.size = gf at *
  generalize w2.heap.size = gn at *
  clear w1 w2
  rintro w3 ⟨hr, hf, hn, hb⟩
  have HR := Hid.mk' hr
  have HF := Hid.mk' hf
  have HNn := Hid.mk' hn
  have HB := Hid.mk' hb
  obtain ⟨q0, q1, q2, q3⟩ := id hf
  obtain ⟨⟨n0, n1, n2, n3, n4⟩, m0, m1, m2, m3, m4⟩ := id hn
  clear hr hf hn hb
  go_wp2_with fail
  refine (KX _).out.mono ?_
  rintro e w4 ⟨rfl, hb⟩
  have HR4 := Hid.mk' (HR.out.keep hb)
  have HF4 := Hid.mk' (HF.out.keep hb)
  have HN4 := Hid.mk' (HNn.out.keep hb)
  have HB4 := Hid.mk' (HB.out.trans (hb.mono HB.out.size))
  clear hb KX HR HF HNn HB q0 q1 q2 q3 n0 n1 n2 n3 n4 m0 m1 m2 m3 m4
  obtain ⟨⟨n0, n1, n2, n3, n4⟩, m0, m1, m2, m3, m4⟩ := HN4.out
  go_upto_region 19 with fail
  refine wp_gen (fun wz => RZ wz w.heap.size ∧ C4 wz gf (.int .i64 64) (.int .i64 52) (.int .i64 (-1074)) (.int .u64 9221120237041090560) ∧ C5 wz gn (.int .i64 k2) (.bool g2) (.int .i64 x2) (.int .u64 lo2) (.int .u64 hi2) ∧ Below w.heap.size w wz) ⟨((((HR4.out.far (by omega)).far (by omega)).far (by omega)).far (by omega)).far (by omega), ((((HF4.out.far (by omega)).far (by omega)).far (by omega)).far (by omega)).far (by omega), HN4.out.setAll, ((((HB4.out.setCell (by simp; omega) _).setCell (by simp; omega) _).setCell (by simp; omega) _).setCell (by simp; omega) _).setCell (by simp; omega) _⟩ ?_
  clear HR4 HF4 HN4 HB4 n0 n1 n2 n3 n4 m0 m1 m2 m3 m4
  rintro w5 ⟨hr, ⟨q0, q1, q2, q3⟩, ⟨⟨n0, n1, n2, n3, n4⟩, -⟩, hb⟩
  have HR := Hid.mk' hr
  have HB := Hid.mk' hb
  clear hr hb
  go_wp2_with fail
  refine (KW _).out.mono ?_
  rintro e w6 ⟨rfl, hb⟩
  have HR6 := Hid.mk' (HR.out.keep hb)
  have HB6 := Hid.mk' (HB.out.trans (hb.mono HB.out.size))
  clear hb KW HR HB q0 q1 q2 q3 n0 n1 n2 n3 n4
  go_wp2_with fail
  refine (done_any R _).mono ?_
  rintro e w7 ⟨rfl, hb⟩
  obtain ⟨⟨r0, r1, r2⟩, v0, v1, v2⟩ := HR6.out.keep hb
  have HB7 := Hid.mk' (HB6.out.trans (hb.mono HB6.out.size))
  clear hb HR6 HB6
  go_wp2
  exact bodyPost_ret (v := RV true 0 R) (by simp [results, Tryd.results10, go_sem, r0, r1, r2]) rfl ⟨rfl, by repeat (first | exact HB7.out | refine Below.setCell ?_ (by first | (simp; done) | (simp; omega) | omega) _ | refine Below.drew ?_)⟩
end Go.Proofs.YthmppcfhbbjhlaaDoor
namespace Go.Proofs.YthmppcfhbbjhlaaDoor
open Go.RowKit Go.Sort

set_option maxHeartbeats 4000000 in
set_option maxRecDepth 100000 in
theorem sf1_w_6 (op a A kd : Int) (g : Bool) (x : Int) (s : Nat) (w : World)
    (KF : ∀ w, Hid (Calls Tryd.prog 22 #[.int .i64 op, .int .i64 139, .int .i64 153, .int .i64 7] w fun e w' => e = .returned (.tuple #[FSw, .int .i64 6]) ∧ Below w.heap.size w w'))
    (KLo : ∀ w, Hid (Calls Tryd.prog 23 #[.int .u64 a, .int .i64 64] w fun e w' => e = .returned (.int .u64 A) ∧ w = w'))
    (KR : ∀ w, Hid (Calls Tryd.prog 26 #[FSw, .int .u64 A] w fun e w' => (∃ v, e = .returned (SV kd g v x) ∧ SN w' v s) ∧ Below w.heap.size w w'))
    (R : Int) (KX : ∀ v w, SN w v s → Hid (Calls Tryd.prog 28 #[FSw, SV kd g v x] w fun e w' => e = .returned (.int .u64 R) ∧ Below w.heap.size w w')) :
    Calls Tryd.prog 9 #[.int .i64 op, .int .u64 a] w fun e w' => e = .returned (RV true 0 R) ∧ Below w.heap.size w w' := by
  go_enter Tryd.func9, Tryd.ntmps9
  go_wp2_with fail
  refine (KF _).out.mono ?_
  rintro e w1 ⟨rfl, hb⟩
  have HR1 := Hid.mk' (r3_new.keep hb)
  have HB1 := Hid.mk' (below_box hb)
  have hl1 := HR1.out.1.lt
  clear hb KF
  go_wp2_with fail
  refine (width_w _).mono ?_
  rintro e w2 ⟨rfl, hb⟩
  have HR2 := Hid.mk' (HR1.out.past.keep hb)
  have HF2 := Hid.mk' (c3_new.keep hb)
  have HB2 := Hid.mk' ((HB1.out.alloc HB1.out.size _).trans (hb.mono (Nat.le_trans HB1.out.size (by simp))))
  clear hb HR1 HB1
  generalize w1.heap.size = gf at *
  obtain ⟨q0, q1, q2⟩ := HF2.out
  go_wp2_with fail
  refine (KLo _).out.mono ?_
  rintro e w' ⟨rfl, rfl⟩
  clear KLo
  go_wp2_with fail
  refine (width_w _).mono ?_
  rintro e w3 ⟨rfl, hb⟩
  have HR3 := Hid.mk' (HR2.out.keep hb)
  have HF3 := Hid.mk' (HF2.out.keep hb)
  have HB3 := Hid.mk' (HB2.out.trans (hb.mono HB2.out.size))
  clear hb HR2 HF2 HB2 q0 q1 q2
  obtain ⟨q0, q1, q2⟩ := HF3.out
  go_wp2_with (go_at_call_of 25 (Value.int IntKind.i64 63); refine ((pow_63 _).mono fun e w' h => (⟨h.1, h.2.symm⟩ : e = _ ∧ _ = w')).mono ?_; rintro e w' ⟨rfl, rfl⟩)
  refine (KR _).out.mono ?_
  rintro e w4 ⟨⟨v4, rfl, hv4⟩, hb⟩
  obtain ⟨sa, scap, rfl, -⟩ := id hv4
  generalize (dg s).length = sl at *
  have HR4 := Hid.mk' (HR3.out.keep hb)
  have HF4 := Hid.mk' (HF3.out.keep hb)
  have HB4 := Hid.mk' (HB3.out.trans (hb.mono HB3.out.size))
  have HV4 := Hid.mk' hv4
  have hl4 := HF4.out.lt
  clear hb KR HR3 HF3 HB3 q0 q1 q2 hv4
  go_upto_region 7 with fail
  refine wp_gen (fun wz => RZ wz w.heap.size ∧ C3 wz gf (.int .i64 53) (.int .i64 11) (.int .i64 (-1074)) ∧ C4 wz w4.heap.size (.int .i64 kd) (.bool g) (.slice sa sl scap) (.int .i64 x) ∧ SN wz (.slice sa sl scap) s ∧ Below w.heap.size w wz) ⟨HR4.out.past, HF4.out.past, c4_new, HV4.out.below ((Below.refl _ _).alloc (Nat.le_refl _) _), HB4.out.alloc HB4.out.size _⟩ ?_
  clear HR4 HF4 HB4 HV4
  generalize w4.heap.size = gn at *
  rintro w5 ⟨hr, hf, hn, hv, hb⟩
  have HR := Hid.mk' hr
  have HF := Hid.mk' hf
  have HNn := Hid.mk' hn
  have HV := Hid.mk' hv
  have HB := Hid.mk' hb
  obtain ⟨q0, q1, q2⟩ := id hf
  obtain ⟨n0, n1, n2, n3⟩ := id hn
  clear hr hf hn hv hb
  go_wp2_with fail
  refine (KX _ _ HV.out).out.mono ?_
  rintro e w6 ⟨rfl, hb⟩
  have HR6 := Hid.mk' (HR.out.keep hb)
  have HB6 := Hid.mk' (HB.out.trans (hb.mono HB.out.size))
  clear hb
  go_wp2_with fail
  refine (val_eq R R _ rfl).mono ?_
  rintro e w9 ⟨rfl, hb⟩
  obtain ⟨⟨r0, r1, r2⟩, v0, v1, v2⟩ := HR6.out.keep hb
  have HB9 := Hid.mk' (HB6.out.trans (hb.mono HB6.out.size))
  clear hb HR6 HB6 HR HB HF HNn HV q0 q1 q2 n0 n1 n2 n3
  go_wp2
  exact bodyPost_ret (v := RV true 0 R) (by simp [results, Tryd.results9, go_sem, r0, r1, r2]) rfl ⟨rfl, by repeat (first | exact HB9.out | refine Below.setCell ?_ (by first | (simp; done) | (simp; omega) | omega) _ | refine Below.drew ?_)⟩
end Go.Proofs.YthmppcfhbbjhlaaDoor
