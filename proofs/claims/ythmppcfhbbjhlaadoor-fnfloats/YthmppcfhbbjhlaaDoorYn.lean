import Derived.Test.YthmppcfhbbjhlaaDoorFo
import Derived.Test.YthmppcfhbbjhlaaDoorIvp
set_option linter.all false
namespace Go.Proofs.YthmppcfhbbjhlaaDoor
open Go.RowKit Go.Sort

set_option maxHeartbeats 4000000 in
set_option maxRecDepth 100000 in
theorem if1_n_141 (op a k : Int) (g : Bool) (x lo hi : Int) (w : World) (hT : Tab0 w) (hz : 0 < w.heap.size)
    (KF : ∀ w, Tab0 w → 0 < w.heap.size → Hid (Calls Tryd.prog 32 #[.int .i64 op] w fun e w' => e = .returned (.tuple #[.int .i64 141, FVn]) ∧ Below w.heap.size w w'))
    (KR : ∀ w, Hid (Calls Tryd.prog 33 #[FVn, .int .u64 a] w fun e w' => e = .returned (NV k g x lo hi) ∧ Below w.heap.size w w'))
    (k2 : Int) (g2 : Bool) (x2 lo2 hi2 R : Int) (KX : ∀ w, Hid (Calls Tryd.prog 37 #[NV k g x lo hi, .int .i64 1] w fun e w' => e = .returned (NV k2 g2 x2 lo2 hi2) ∧ Below w.heap.size w w'))
    (KW : ∀ w, Hid (Calls Tryd.prog 39 #[FVn, NV k2 g2 x2 lo2 hi2] w fun e w' => e = .returned (.int .u64 R) ∧ Below w.heap.size w w')) :
    Calls Tryd.prog 10 #[.int .i64 op, .int .u64 a] w fun e w' => e = .returned (RV true 0 R) ∧ Below w.heap.size w w' := by
  go_enter Tryd.func10, Tryd.ntmps10
  go_wp2_with fail
  refine (KF _ (hT.below ((Below.refl _ _).alloc (Nat.le_refl _) _) hz) (by simp)).out.mono ?_
  rintro e w1 ⟨rfl, hb⟩
  have HR1 := Hid.mk' (r3_new.keep hb)
  have HB1 := Hid.mk' (below_box hb)
  have hl1 := HR1.out.1.lt
  clear hb KF hT
  go_wp2_with fail
  refine (KR _).out.mono ?_
  rintro e w2 ⟨rfl, hb⟩
  have HR2 := Hid.mk' (HR1.out.past.keep hb)
  have HF2 := Hid.mk' (c4_new.keep hb)
  have HB2 := Hid.mk' ((HB1.out.alloc HB1.out.size _).trans (hb.mono (Nat.le_trans HB1.out.size (by simp))))
  have hl2 := HF2.out.lt
  clear hb KR HR1 HB1
  go_upto_region 3 with fail
  refine wp_gen (fun wz => RZ wz w.heap.size ∧ C4 wz w1.heap.size (.int .i64 32) (.int .i64 23) (.int .i64 (-149)) (.int .u64 2143289344) ∧ C5 wz w2.heap.size (.int .i64 k) (.bool g) (.int .i64 x) (.int .u64 lo) (.int .u64 hi) ∧ Below w.heap.size w wz) ⟨HR2.out.past, HF2.out.past, c5_new, HB2.out.alloc HB2.out.size _⟩ ?_
  clear HR2 HF2 HB2
  generalize w1.heap.size = gf at *
  generalize w2.heap.size = gn at *
  clear w1 w2
  rintro w3 ⟨hr, hf, hn, hb⟩
  have HR := Hid.mk' hr
  have HF := Hid.mk' hf
  have HNn := Hid.mk' hn
  have HB := Hid.mk' hb
  obtain ⟨q0, q1, q2, q3⟩ := id hf
  obtain ⟨⟨n0, n1, n2, n3, n4⟩, m0, m1, m2, m3, m4⟩ := id hn
  clear hr hf hn hb
  go_wp2_with fail
  refine (KX _).out.mono ?_
  rintro e w4 ⟨rfl, hb⟩
  have HR4 := Hid.mk' (HR.out.keep hb)
  have HF4 := Hid.mk' (HF.out.keep hb)
  have HN4 := Hid.mk' (HNn.out.keep hb)
  have HB4 := Hid.mk' (HB.out.trans (hb.mono HB.out.size))
  clear hb KX HR HF HNn HB q0 q1 q2 q3 n0 n1 n2 n3 n4 m0 m1 m2 m3 m4
  obtain ⟨⟨n0, n1, n2, n3, n4⟩, m0, m1, m2, m3, m4⟩ := HN4.out
  go_upto_region 19 with fail
  refine wp_gen (fun wz => RZ wz w.heap.size ∧ C4 wz gf (.int .i64 32) (.int .i64 23) (.int .i64 (-149)) (.int .u64 2143289344) ∧ C5 wz gn (.int .i64 k2) (.bool g2) (.int .i64 x2) (.int .u64 lo2) (.int .u64 hi2) ∧ Below w.heap.size w wz) ⟨((((HR4.out.far (by omega)).far (by omega)).far (by omega)).far (by omega)).far (by omega), ((((HF4.out.far (by omega)).far (by omega)).far (by omega)).far (by omega)).far (by omega), HN4.out.setAll, ((((HB4.out.setCell (by simp; omega) _).setCell (by simp; omega) _).setCell (by simp; omega) _).setCell (by simp; omega) _).setCell (by simp; omega) _⟩ ?_
  clear HR4 HF4 HN4 HB4 n0 n1 n2 n3 n4 m0 m1 m2 m3 m4
  rintro w5 ⟨hr, ⟨q0, q1, q2, q3⟩, ⟨⟨n0, n1, n2, n3, n4⟩, -⟩, hb⟩
  have HR := Hid.mk' hr
  have HB := Hid.mk' hb
  clear hr hb
  go_wp2_with fail
  refine (KW _).out.mono ?_
  rintro e w6 ⟨rfl, hb⟩
  have HR6 := Hid.mk' (HR.out.keep hb)
  have HB6 := Hid.mk' (HB.out.trans (hb.mono HB.out.size))
  clear hb KW HR HB q0 q1 q2 q3 n0 n1 n2 n3 n4
  go_wp2_with fail
  refine (done_any R _).mono ?_
  rintro e w7 ⟨rfl, hb⟩
  obtain ⟨⟨r0, r1, r2⟩, v0, v1, v2⟩ := HR6.out.keep hb
  have HB7 := Hid.mk' (HB6.out.trans (hb.mono HB6.out.size))
  clear hb HR6 HB6
  go_wp2
  exact bodyPost_ret (v := RV true 0 R) (by simp [results, Tryd.results10, go_sem, r0, r1, r2]) rfl ⟨rfl, by repeat (first | exact HB7.out | refine Below.setCell ?_ (by first | (simp; done) | (simp; omega) | omega) _ | refine Below.drew ?_)⟩
set_option maxHeartbeats 4000000 in
set_option maxRecDepth 100000 in
theorem if1_n_142 (op a k : Int) (g : Bool) (x lo hi : Int) (w : World) (hT : Tab0 w) (hz : 0 < w.heap.size)
    (KF : ∀ w, Tab0 w → 0 < w.heap.size → Hid (Calls Tryd.prog 32 #[.int .i64 op] w fun e w' => e = .returned (.tuple #[.int .i64 142, FVn]) ∧ Below w.heap.size w w'))
    (KR : ∀ w, Hid (Calls Tryd.prog 33 #[FVn, .int .u64 a] w fun e w' => e = .returned (NV k g x lo hi) ∧ Below w.heap.size w w'))
    (k2 : Int) (g2 : Bool) (x2 lo2 hi2 R : Int) (KX : ∀ w, Hid (Calls Tryd.prog 37 #[NV k g x lo hi, .int .i64 2] w fun e w' => e = .returned (NV k2 g2 x2 lo2 hi2) ∧ Below w.heap.size w w'))
    (KW : ∀ w, Hid (Calls Tryd.prog 39 #[FVn, NV k2 g2 x2 lo2 hi2] w fun e w' => e = .returned (.int .u64 R) ∧ Below w.heap.size w w')) :
    Calls Tryd.prog 10 #[.int .i64 op, .int .u64 a] w fun e w' => e = .returned (RV true 0 R) ∧ Below w.heap.size w w' := by
  go_enter Tryd.func10, Tryd.ntmps10
  go_wp2_with fail
  refine (KF _ (hT.below ((Below.refl _ _).alloc (Nat.le_refl _) _) hz) (by simp)).out.mono ?_
  rintro e w1 ⟨rfl, hb⟩
  have HR1 := Hid.mk' (r3_new.keep hb)
  have HB1 := Hid.mk' (below_box hb)
  have hl1 := HR1.out.1.lt
  clear hb KF hT
  go_wp2_with fail
  refine (KR _).out.mono ?_
  rintro e w2 ⟨rfl, hb⟩
  have HR2 := Hid.mk' (HR1.out.past.keep hb)
  have HF2 := Hid.mk' (c4_new.keep hb)
  have HB2 := Hid.mk' ((HB1.out.alloc HB1.out.size _).trans (hb.mono (Nat.le_trans HB1.out.size (by simp))))
  have hl2 := HF2.out.lt
  clear hb KR HR1 HB1
  go_upto_region 3 with fail
  refine wp_gen (fun wz => RZ wz w.heap.size ∧ C4 wz w1.heap.size (.int .i64 32) (.int .i64 23) (.int .i64 (-149)) (.int .u64 2143289344) ∧ C5 wz w2.heap.size (.int .i64 k) (.bool g) (.int .i64 x) (.int .u64 lo) (.int .u64 hi) ∧ Below w.heap.size w wz) ⟨HR2.out.past, HF2.out.past, c5_new, HB2.out.alloc HB2.out.size _⟩ ?_
  clear HR2 HF2 HB2
  generalize w1.heap.size = gf at *
  generalize w2.heap.size = gn at *
  clear w1 w2
  rintro w3 ⟨hr, hf, hn, hb⟩
  have HR := Hid.mk' hr
  have HF := Hid.mk' hf
  have HNn := Hid.mk' hn
  have HB := Hid.mk' hb
  obtain ⟨q0, q1, q2, q3⟩ := id hf
  obtain ⟨⟨n0, n1, n2, n3, n4⟩, m0, m1, m2, m3, m4⟩ := id hn
  clear hr hf hn hb
  go_wp2_with fail
  refine (KX _).out.mono ?_
  rintro e w4 ⟨rfl, hb⟩
  have HR4 := Hid.mk' (HR.out.keep hb)
  have HF4 := Hid.mk' (HF.out.keep hb)
  have HN4 := Hid.mk' (HNn.out.keep hb)
  have HB4 := Hid.mk' (HB.out.trans (hb.mono HB.out.size))
  clear hb KX HR HF HNn HB q0 q1 q2 q3 n0 n1 n2 n3 n4 m0 m1 m2 m3 m4
  obtain ⟨⟨n0, n1, n2, n3, n4⟩, m0, m1, m2, m3, m4⟩ := HN4.out
  go_upto_region 19 with fail
  refine wp_gen (fun wz => RZ wz w.heap.size ∧ C4 wz gf (.int .i64 32) (.int .i64 23) (.int .i64 (-149)) (.int .u64 2143289344) ∧ C5 wz gn (.int .i64 k2) (.bool g2) (.int .i64 x2) (.int .u64 lo2) (.int .u64 hi2) ∧ Below w.heap.size w wz) ⟨((((HR4.out.far (by omega)).far (by omega)).far (by omega)).far (by omega)).far (by omega), ((((HF4.out.far (by omega)).far (by omega)).far (by omega)).far (by omega)).far (by omega), HN4.out.setAll, ((((HB4.out.setCell (by simp; omega) _).setCell (by simp; omega) _).setCell (by simp; omega) _).setCell (by simp; omega) _).setCell (by simp; omega) _⟩ ?_
  clear HR4 HF4 HN4 HB4 n0 n1 n2 n3 n4 m0 m1 m2 m3 m4
  rintro w5 ⟨hr, ⟨q0, q1, q2, q3⟩, ⟨⟨n0, n1, n2, n3, n4⟩, -⟩, hb⟩
  have HR := Hid.mk' hr
  have HB := Hid.mk' hb
  clear hr hb
  go_wp2_with fail
  refine (KW _).out.mono ?_
  rintro e w6 ⟨rfl, hb⟩
  have HR6 := Hid.mk' (HR.out.keep hb)
  have HB6 := Hid.mk' (HB.out.trans (hb.mono HB.out.size))
  clear hb KW HR HB q0 q1 q2 q3 n0 n1 n2 n3 n4
  go_wp2_with fail
  refine (done_any R _).mono ?_
  rintro e w7 ⟨rfl, hb⟩
  obtain ⟨⟨r0, r1, r2⟩, v0, v1, v2⟩ := HR6.out.keep hb
  have HB7 := Hid.mk' (HB6.out.trans (hb.mono HB6.out.size))
  clear hb HR6 HB6
  go_wp2
  exact bodyPost_ret (v := RV true 0 R) (by simp [results, Tryd.results10, go_sem, r0, r1, r2]) rfl ⟨rfl, by repeat (first | exact HB7.out | refine Below.setCell ?_ (by first | (simp; done) | (simp; omega) | omega) _ | refine Below.drew ?_)⟩
end Go.Proofs.YthmppcfhbbjhlaaDoor
namespace Go.Proofs.YthmppcfhbbjhlaaDoor
open Go.RowKit Go.Sort

set_option maxHeartbeats 4000000 in
set_option maxRecDepth 100000 in
theorem if1_w_141 (op a k : Int) (g : Bool) (x lo hi : Int) (w : World) (hT : Tab0 w) (hz : 0 < w.heap.size)
    (KF : ∀ w, Tab0 w → 0 < w.heap.size → Hid (Calls Tryd.prog 32 #[.int .i64 op] w fun e w' => e = .returned (.tuple #[.int .i64 141, FVw]) ∧ Below w.heap.size w w'))
    (KR : ∀ w, Hid (Calls Tryd.prog 33 #[FVw, .int .u64 a] w fun e w' => e = .returned (NV k g x lo hi) ∧ Below w.heap.size w w'))
    (k2 : Int) (g2 : Bool) (x2 lo2 hi2 R : Int) (KX : ∀ w, Hid (Calls Tryd.prog 37 #[NV k g x lo hi, .int .i64 1] w fun e w' => e = .returned (NV k2 g2 x2 lo2 hi2) ∧ Below w.heap.size w w'))
    (KW : ∀ w, Hid (Calls Tryd.prog 39 #[FVw, NV k2 g2 x2 lo2 hi2] w fun e w' => e = .returned (.int .u64 R) ∧ Below w.heap.size w w')) :
    Calls Tryd.prog 10 #[.int .i64 op, .int .u64 a] w fun e w' => e = .returned (RV true 0 R) ∧ Below w.heap.size w w' := by
  go_enter Tryd.func10, Tryd.ntmps10
  go_wp2_with fail
  refine (KF _ (hT.below ((Below.refl _ _).alloc (Nat.le_refl _) _) hz) (by simp)).out.mono ?_
  rintro e w1 ⟨rfl, hb⟩
  have HR1 := Hid.mk' (r3_new.keep hb)
  have HB1 := Hid.mk' (below_box hb)
  have hl1 := HR1.out.1.lt
  clear hb KF hT
  go_wp2_with fail
  refine (KR _).out.mono ?_
  rintro e w2 ⟨rfl, hb⟩
  have HR2 := Hid.mk' (HR1.out.past.keep hb)
  have HF2 := Hid.mk' (c4_new.keep hb)
  have HB2 := Hid.mk' ((HB1.out.alloc HB1.out.size _).trans (hb.mono (Nat.le_trans HB1.out.size (by simp))))
  have hl2 := HF2.out.lt
  clear hb KR HR1 HB1
  go_upto_region 3 with fail
  refine wp_gen (fun wz => RZ wz w.heap.size ∧ C4 wz w1.heap.size (.int .i64 64) (.int .i64 52) (.int .i64 (-1074)) (.int .u64 9221120237041090560) ∧ C5 wz w2.heap.size (.int .i64 k) (.bool g) (.int .i64 x) (.int .u64 lo) (.int .u64 hi) ∧ Below w.heap.size w wz) ⟨HR2.out.past, HF2.out.past, c5_new, HB2.out.alloc HB2.out.size _⟩ ?_
  clear HR2 HF2 HB2
  generalize w1.heap.size = gf at *
  generalize w2.heap.size = gn at *
  clear w1 w2
  rintro w3 ⟨hr, hf, hn, hb⟩
  have HR := Hid.mk' hr
  have HF := Hid.mk' hf
  have HNn := Hid.mk' hn
  have HB := Hid.mk' hb
  obtain ⟨q0, q1, q2, q3⟩ := id hf
  obtain ⟨⟨n0, n1, n2, n3, n4⟩, m0, m1, m2, m3, m4⟩ := id hn
  clear hr hf hn hb
  go_wp2_with fail
  refine (KX _).out.mono ?_
  rintro e w4 ⟨rfl, hb⟩
  have HR4 := Hid.mk' (HR.out.keep hb)
  have HF4 := Hid.mk' (HF.out.keep hb)
  have HN4 := Hid.mk' (HNn.out.keep hb)
  have HB4 := Hid.mk' (HB.out.trans (hb.mono HB.out.size))
  clear hb KX HR HF HNn HB q0 q1 q2 q3 n0 n1 n2 n3 n4 m0 m1 m2 m3 m4
  obtain ⟨⟨n0, n1, n2, n3, n4⟩, m0, m1, m2, m3, m4⟩ := HN4.out
  go_upto_region 19 with fail
  refine wp_gen (fun wz => RZ wz w.heap.size ∧ C4 wz gf (.int .i64 64) (.int .i64 52) (.int .i64 (-1074)) (.int .u64 9221120237041090560) ∧ C5 wz gn (.int .i64 k2) (.bool g2) (.int .i64 x2) (.int .u64 lo2) (.int .u64 hi2) ∧ Below w.heap.size w wz) ⟨((((HR4.out.far (by omega)).far (by omega)).far (by omega)).far (by omega)).far (by omega), ((((HF4.out.far (by omega)).far (by omega)).far (by omega)).far (by omega)).far (by omega), HN4.out.setAll, ((((HB4.out.setCell (by simp; omega) _).setCell (by simp; omega) _).setCell (by simp; omega) _).setCell (by simp; omega) _).setCell (by simp; omega) _⟩ ?_
  clear HR4 HF4 HN4 HB4 n0 n1 n2 n3 n4 m0 m1 m2 m3 m4
  rintro w5 ⟨hr, ⟨q0, q1, q2, q3⟩, ⟨⟨n0, n1, n2, n3, n4⟩, -⟩, hb⟩
  have HR := Hid.mk' hr
  have HB := Hid.mk' hb
  clear hr hb
  go_wp2_with fail
  refine (KW _).out.mono ?_
  rintro e w6 ⟨rfl, hb⟩
  have HR6 := Hid.mk' (HR.out.keep hb)
  have HB6 := Hid.mk' (HB.out.trans (hb.mono HB.out.size))
  clear hb KW HR HB q0 q1 q2 q3 n0 n1 n2 n3 n4
  go_wp2_with fail
  refine (done_any R _).mono ?_
  rintro e w7 ⟨rfl, hb⟩
  obtain ⟨⟨r0, r1, r2⟩, v0, v1, v2⟩ := HR6.out.keep hb
  have HB7 := Hid.mk' (HB6.out.trans (hb.mono HB6.out.size))
  clear hb HR6 HB6
  go_wp2
  exact bodyPost_ret (v := RV true 0 R) (by simp [results, Tryd.results10, go_sem, r0, r1, r2]) rfl ⟨rfl, by repeat (first | exact HB7.out | refine Below.setCell ?_ (by first | (simp; done) | (simp; omega) | omega) _ | refine Below.drew ?_)⟩
set_option maxHeartbeats 4000000 in
set_option maxRecDepth 100000 in
theorem if1_w_142 (op a k : Int) (g : Bool) (x lo hi : Int) (w : World) (hT : Tab0 w) (hz : 0 < w.heap.size)
    (KF : ∀ w, Tab0 w → 0 < w.heap.size → Hid (Calls Tryd.prog 32 #[.int .i64 op] w fun e w' => e = .returned (.tuple #[.int .i64 142, FVw]) ∧ Below w.heap.size w w'))
    (KR : ∀ w, Hid (Calls Tryd.prog 33 #[FVw, .int .u64 a] w fun e w' => e = .returned (NV k g x lo hi) ∧ Below w.heap.size w w'))
    (k2 : Int) (g2 : Bool) (x2 lo2 hi2 R : Int) (KX : ∀ w, Hid (Calls Tryd.prog 37 #[NV k g x lo hi, .int .i64 2] w fun e w' => e = .returned (NV k2 g2 x2 lo2 hi2) ∧ Below w.heap.size w w'))
    (KW : ∀ w, Hid (Calls Tryd.prog 39 #[FVw, NV k2 g2 x2 lo2 hi2] w fun e w' => e = .returned (.int .u64 R) ∧ Below w.heap.size w w')) :
    Calls Tryd.prog 10 #[.int .i64 op, .int .u64 a] w fun e w' => e = .returned (RV true 0 R) ∧ Below w.heap.size w w' := by
  go_enter Tryd.func10, Tryd.ntmps10
  go_wp2_with fail
  refine (KF _ (hT.below ((Below.refl _ _).alloc (Nat.le_refl _) _) hz) (by simp)).out.mono ?_
  rintro e w1 ⟨rfl, hb⟩
  have HR1 := Hid.mk' (r3_new.keep hb)
  have HB1 := Hid.mk' (below_box hb)
  have hl1 := HR1.out.1.lt
  clear hb KF hT
  go_wp2_with fail
  refine (KR _).out.mono ?_
  rintro e w2 ⟨rfl, hb⟩
  have HR2 := Hid.mk' (HR1.out.past.keep hb)
  have HF2 := Hid.mk' (c4_new.keep hb)
  have HB2 := Hid.mk' ((HB1.out.alloc HB1.out.size _).trans (hb.mono (Nat.le_trans HB1.out.size (by simp))))
  have hl2 := HF2.out.lt
  clear hb KR HR1 HB1
  go_upto_region 3 with fail
  refine wp_gen (fun wz => RZ wz w.heap.size ∧ C4 wz w1.heap.size (.int .i64 64) (.int .i64 52) (.int .i64 (-1074)) (.int .u64 9221120237041090560) ∧ C5 wz w2.heap.size (.int .i64 k) (.bool g) (.int .i64 x) (.int .u64 lo) (.int .u64 hi) ∧ Below w.heap.size w wz) ⟨HR2.out.past, HF2.out.past, c5_new, HB2.out.alloc HB2.out.size _⟩ ?_
  clear HR2 HF2 HB2
  generalize w1.heap.size = gf at *
  generalize w2.heap.size = gn at *
  clear w1 w2
  rintro w3 ⟨hr, hf, hn, hb⟩
  have HR := Hid.mk' hr
  have HF := Hid.mk' hf
  have HNn := Hid.mk' hn
  have HB := Hid.mk' hb
  obtain ⟨q0, q1, q2, q3⟩ := id hf
  obtain ⟨⟨n0, n1, n2, n3, n4⟩, m0, m1, m2, m3, m4⟩ := id hn
  clear hr hf hn hb
  go_wp2_with fail
  refine (KX _).out.mono ?_
  rintro e w4 ⟨rfl, hb⟩
  have HR4 := Hid.mk' (HR.out.keep hb)
  have HF4 := Hid.mk' (HF.out.keep hb)
  have HN4 := Hid.mk' (HNn.out.keep hb)
  have HB4 := Hid.mk' (HB.out.trans (hb.mono HB.out.size))
  clear hb KX HR HF HNn HB q0 q1 q2 q3 n0 n1 n2 n3 n4 m0 m1 m2 m3 m4
  obtain ⟨⟨n0, n1, n2, n3, n4⟩, m0, m1, m2, m3, m4⟩ := HN4.out
  go_upto_region 19 with fail
  refine wp_gen (fun wz => RZ wz w.heap.size ∧ C4 wz gf (.int .i64 64) (.int .i64 52) (.int .i64 (-1074)) (.int .u64 9221120237041090560) ∧ C5 wz gn (.int .i64 k2) (.bool g2) (.int .i64 x2) (.int .u64 lo2) (.int .u64 hi2) ∧ Below w.heap.size w wz) ⟨((((HR4.out.far (by omega)).far (by omega)).far (by omega)).far (by omega)).far (by omega), ((((HF4.out.far (by omega)).far (by omega)).far (by omega)).far (by omega)).far (by omega), HN4.out.setAll, ((((HB4.out.setCell (by simp; omega) _).setCell (by simp; omega) _).setCell (by simp; omega) _).setCell (by simp; omega) _).setCell (by simp; omega) _⟩ ?_
  clear HR4 HF4 HN4 HB4 n0 n1 n2 n3 n4 m0 m1 m2 m3 m4
  rintro w5 ⟨hr, ⟨q0, q1, q2, q3⟩, ⟨⟨n0, n1, n2, n3, n4⟩, -⟩, hb⟩
  have HR := Hid.mk' hr
  have HB := Hid.mk' hb
  clear hr hb
  go_wp2_with fail
  refine (KW _).out.mono ?_
  rintro e w6 ⟨rfl, hb⟩
  have HR6 := Hid.mk' (HR.out.keep hb)
  have HB6 := Hid.mk' (HB.out.trans (hb.mono HB.out.size))
  clear hb KW HR HB q0 q1 q2 q3 n0 n1 n2 n3 n4
  go_wp2_with fail
  refine (done_any R _).mono ?_
  rintro e w7 ⟨rfl, hb⟩
  obtain ⟨⟨r0, r1, r2⟩, v0, v1, v2⟩ := HR6.out.keep hb
  have HB7 := Hid.mk' (HB6.out.trans (hb.mono HB6.out.size))
  clear hb HR6 HB6
  go_wp2
  exact bodyPost_ret (v := RV true 0 R) (by simp [results, Tryd.results10, go_sem, r0, r1, r2]) rfl ⟨rfl, by repeat (first | exact HB7.out | refine Below.setCell ?_ (by first | (simp; done) | (simp; omega) | omega) _ | refine Below.drew ?_)⟩
end Go.Proofs.YthmppcfhbbjhlaaDoor
