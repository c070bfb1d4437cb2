import Derived.Test.YthmppcfhbbjhlaaDoorFo
import Derived.Deep.RegionHeld3
import Derived.Test.YthmppcfhbbjhlaaDoorXs
import Derived.Test.YthmppcfhbbjhlaaDoorIvp
import Derived.Test.YthmppcfhbbjhlaaDoorRm
set_option linter.all false
namespace Go.Proofs.YthmppcfhbbjhlaaDoor
open Go.RowKit Go.Sort

set_option maxHeartbeats 8000000 in
set_option maxRecDepth 100000 in
theorem wht_c (op : Int) (w : World) (ha : 103 ≤ op) (hl : -9223372036854775808 ≤ op) (hr : op ≤ 9223372036854775807) :
    Calls Tryd.prog 22 #[.int .i64 op, .int .i64 91, .int .i64 97, .int .i64 6] w fun e w' => e = .returned (.tuple #[FSn, .int .i64 (-1)]) ∧ Below w.heap.size w w' := by
  go_enter Tryd.func22, Tryd.ntmps22
  go_wp2_with fail
  refine (form_n _).mono ?_
  rintro e w1 ⟨rfl, hb⟩
  obtain ⟨⟨r0, r1, r2⟩, v0, v1, v2⟩ := r3_new.keep hb
  have HB := Hid.mk' (below_box hb)
  clear hb
  go_wp2
  exact bodyPost_ret (v := (.tuple #[FSn, .int .i64 (-1)])) (by simp [results, Tryd.results22, go_sem, r0, r1, r2]) rfl ⟨rfl, by repeat (first | exact HB.out | refine Below.setCell ?_ (by first | (simp; done) | (simp; omega) | omega) _)⟩
set_option maxHeartbeats 8000000 in
set_option maxRecDepth 100000 in
theorem whb_n (op : Int) (w : World) (ha : 146 ≤ op) (hb : op < 153) (hl : -9223372036854775808 ≤ op) (hr : op ≤ 9223372036854775807) :
    Calls Tryd.prog 22 #[.int .i64 op, .int .i64 146, .int .i64 160, .int .i64 7] w fun e w' => e = .returned (.tuple #[FSn, .int .i64 (op - 146)]) ∧ Below w.heap.size w w' := by
  go_enter Tryd.func22, Tryd.ntmps22
  go_wp2_with fail
  refine (form_n _).mono ?_
  rintro e w1 ⟨rfl, hb⟩
  obtain ⟨⟨r0, r1, r2⟩, v0, v1, v2⟩ := r3_new.keep hb
  have HB := Hid.mk' (below_box hb)
  clear hb
  go_wp2
  exact bodyPost_ret (v := (.tuple #[FSn, .int .i64 (op - 146)])) (by simp [results, Tryd.results22, go_sem, r0, r1, r2]) rfl ⟨rfl, by repeat (first | exact HB.out | refine Below.setCell ?_ (by first | (simp; done) | (simp; omega) | omega) _)⟩
set_option maxHeartbeats 8000000 in
set_option maxRecDepth 100000 in
theorem whb_w (op : Int) (w : World) (ha : 160 ≤ op) (hb : op < 167) (hl : -9223372036854775808 ≤ op) (hr : op ≤ 9223372036854775807) :
    Calls Tryd.prog 22 #[.int .i64 op, .int .i64 146, .int .i64 160, .int .i64 7] w fun e w' => e = .returned (.tuple #[FSw, .int .i64 (op - 160)]) ∧ Below w.heap.size w w' := by
  go_enter Tryd.func22, Tryd.ntmps22
  go_wp2_with fail
  refine (form_w _).mono ?_
  rintro e w1 ⟨rfl, hb⟩
  obtain ⟨⟨r0, r1, r2⟩, v0, v1, v2⟩ := r3_new.keep hb
  have HB := Hid.mk' (below_box hb)
  clear hb
  go_wp2
  exact bodyPost_ret (v := (.tuple #[FSw, .int .i64 (op - 160)])) (by simp [results, Tryd.results22, go_sem, r0, r1, r2]) rfl ⟨rfl, by repeat (first | exact HB.out | refine Below.setCell ?_ (by first | (simp; done) | (simp; omega) | omega) _)⟩
end Go.Proofs.YthmppcfhbbjhlaaDoor
namespace Go.Proofs.YthmppcfhbbjhlaaDoor
open Go.RowKit Go.Sort

theorem D4.set1 {w : World} {g : Nat} {v a b c d : Value} (h : D4 w g a b c d) : D4 (w.setCell ⟨g, 1, none⟩ v) g a v c d := by
  obtain ⟨⟨h0, h1, h2, h3⟩, f0, f1, f2, f3⟩ := h
  exact ⟨⟨set_off h0 (by decide), set_same h1, set_off h2 (by decide), set_off h3 (by decide)⟩, by rw [World.frozen?_setCell]; exact f0, by rw [World.frozen?_setCell]; exact f1, by rw [World.frozen?_setCell]; exact f2, by rw [World.frozen?_setCell]; exact f3⟩
set_option maxHeartbeats 8000000 in
set_option maxRecDepth 100000 in
theorem sf2_0 (p e L : Int) (op a b R k1 k2 : Int) (g1 g2 : Bool) (x1 x2 : Int) (s1 s2 : Nat) (w : World) (KW1 : ∀ w, Hid (Calls Tryd.prog 22 #[.int .i64 op, .int .i64 91, .int .i64 97, .int .i64 6] w fun ed w' => ed = .returned (.tuple #[FSn, .int .i64 (-1)]) ∧ Below w.heap.size w w')) (KW2 : ∀ w, Hid (Calls Tryd.prog 22 #[.int .i64 op, .int .i64 146, .int .i64 160, .int .i64 7] w fun ed w' => ed = .returned (.tuple #[(.agg #[.int .i64 p, .int .i64 e, .int .i64 L]), .int .i64 0]) ∧ Below w.heap.size w w')) (KRa : ∀ w, Hid (Calls Tryd.prog 26 #[(.agg #[.int .i64 p, .int .i64 e, .int .i64 L]), .int .u64 a] w fun ed w' => (∃ v, ed = .returned (SV k1 g1 v x1) ∧ SN w' v s1) ∧ Below w.heap.size w w')) (KRb : ∀ w, Hid (Calls Tryd.prog 26 #[(.agg #[.int .i64 p, .int .i64 e, .int .i64 L]), .int .u64 b] w fun ed w' => (∃ v, ed = .returned (SV k2 g2 v x2) ∧ SN w' v s2) ∧ Below w.heap.size w w')) (KO : ∀ v1 v2 w, SN w v1 s1 → SN w v2 s2 → Hid (Calls Tryd.prog 47 #[(.agg #[.int .i64 p, .int .i64 e, .int .i64 L]), SV k1 g1 v1 x1, SV k2 g2 v2 x2] w fun ed w' => ed = .returned (.int .u64 R) ∧ Below w.heap.size w w'))  :
    Calls Tryd.prog 14 #[.int .i64 op, .int .u64 a, .int .u64 b] w fun ed w' => ed = .returned (RV true 0 R) ∧ Below w.heap.size w w' := by
  have KV := fun (w : World) => Hid.mk' (val_eq R R w rfl)
  go_enter Tryd.func14, Tryd.ntmps14
  go_wp2_with fail
  refine (KW1 _).out.mono ?_
  rintro e w1 ⟨rfl, hb⟩
  have HR1 := Hid.mk' (r3_new.keep hb)
  have HB1 := Hid.mk' (below_box hb)
  have hl1 := HR1.out.1.lt
  clear hb KW1
  go_wp2_with fail
  refine (KW2 _).out.mono ?_
  rintro e w2 ⟨rfl, hb⟩
  have HR2 := Hid.mk' (HR1.out.past.keep hb)
  have HF2 := Hid.mk' (r3_new.keep hb)
  have HB2 := Hid.mk' ((HB1.out.alloc HB1.out.size _).trans (hb.mono (Nat.le_trans HB1.out.size (by simp))))
  clear hb KW2 HR1 HB1
  generalize w1.heap.size = gf at *
  clear w1
  obtain ⟨⟨j0, j1, j2⟩, i0, i1, i2⟩ := HF2.out
  go_upto_region 5 with fail
  refine wp_gen (fun wz => RZ wz w.heap.size ∧ C3 wz gf (.int .i64 p) (.int .i64 e) (.int .i64 L) ∧ Below w.heap.size w wz) ⟨((HR2.out.far (by omega)).far (by omega)).far (by omega), HF2.out.setAll.1, ((HB2.out.setCell (by show _ ≤ gf; omega) _).setCell (by show _ ≤ gf; omega) _).setCell (by show _ ≤ gf; omega) _⟩ ?_
  clear HR2 HF2 HB2 j0 j1 j2 i0 i1 i2
  rintro w3 ⟨hr, hf, hb⟩
  have HR3 := Hid.mk' hr
  have HF3 := Hid.mk' hf
  have HB3 := Hid.mk' hb
  obtain ⟨q0, q1, q2⟩ := id hf
  clear hr hf hb
  go_wp2_with fail
  refine (KRa _).out.mono ?_
  rintro e w4 ⟨⟨u1, rfl, hu1⟩, hb⟩
  obtain ⟨sa, sc, rfl, -⟩ := id hu1
  have HR4 := Hid.mk' (HR3.out.keep hb)
  have HF4 := Hid.mk' (HF3.out.keep hb)
  have HB4 := Hid.mk' (HB3.out.trans (hb.mono HB3.out.size))
  have HU1 := Hid.mk' hu1
  generalize (dg s1).length = sl1 at *
  clear hb KRa HR3 HF3 HB3 q0 q1 q2 hu1
  go_upto_region 6 with fail
  refine wp_gen (fun wz => RZ wz w.heap.size ∧ C3 wz gf (.int .i64 p) (.int .i64 e) (.int .i64 L) ∧ D4 wz w4.heap.size (.int .i64 k1) (.bool g1) (.slice sa sl1 sc) (.int .i64 x1) ∧ SN wz (.slice sa sl1 sc) s1 ∧ Below w.heap.size w wz) ⟨HR4.out.past, HF4.out.past, d4_new, HU1.out.below ((Below.refl _ _).alloc (Nat.le_refl _) _), HB4.out.alloc HB4.out.size _⟩ ?_
  have hl4 : gf < w4.heap.size := HF4.out.lt
  clear HR4 HF4 HB4 HU1
  generalize w4.heap.size = ga at *
  rintro w5 ⟨hr, hf, ha, hu, hb⟩
  have HR5 := Hid.mk' hr
  have HF5 := Hid.mk' hf
  have HA5 := Hid.mk' ha
  have HU5 := Hid.mk' hu
  have HB5 := Hid.mk' hb
  obtain ⟨q0, q1, q2⟩ := id hf
  clear hr hf ha hu hb
  go_wp2_with fail
  refine (KRb _).out.mono ?_
  rintro e w6 ⟨⟨u2, rfl, hu2⟩, hb⟩
  obtain ⟨sb, sd, rfl, -⟩ := id hu2
  have HR6 := Hid.mk' (HR5.out.keep hb)
  have HF6 := Hid.mk' (HF5.out.keep hb)
  have HA6 := Hid.mk' (HA5.out.keep hb)
  have HU6 := Hid.mk' (HU5.out.below hb)
  have HB6 := Hid.mk' (HB5.out.trans (hb.mono HB5.out.size))
  have HU2 := Hid.mk' hu2
  generalize (dg s2).length = sl2 at *
  clear hb KRb HR5 HF5 HA5 HU5 HB5 q0 q1 q2 hu2
  go_upto_region 7 with fail
  refine wp_gen (fun wz => RZ wz w.heap.size ∧ C3 wz gf (.int .i64 p) (.int .i64 e) (.int .i64 L) ∧ D4 wz ga (.int .i64 k1) (.bool g1) (.slice sa sl1 sc) (.int .i64 x1) ∧ D4 wz w6.heap.size (.int .i64 k2) (.bool g2) (.slice sb sl2 sd) (.int .i64 x2) ∧ SN wz (.slice sa sl1 sc) s1 ∧ SN wz (.slice sb sl2 sd) s2 ∧ Below w.heap.size w wz) ⟨HR6.out.past, HF6.out.past, HA6.out.past, d4_new, HU6.out.below ((Below.refl _ _).alloc (Nat.le_refl _) _), HU2.out.below ((Below.refl _ _).alloc (Nat.le_refl _) _), HB6.out.alloc HB6.out.size _⟩ ?_
  have hl6 : ga < w6.heap.size := HA6.out.1.lt
  clear HR6 HF6 HA6 HU6 HU2 HB6
  generalize w6.heap.size = gb at *
  rintro w7 ⟨hr, hf, ha, hc, hu, hv, hb⟩
  have HR := Hid.mk' hr
  have HF := Hid.mk' hf
  have HA := Hid.mk' ha
  have HC := Hid.mk' hc
  have HU := Hid.mk' hu
  have HV := Hid.mk' hv
  have HB := Hid.mk' hb
  obtain ⟨q0, q1, q2⟩ := id hf
  obtain ⟨⟨r0, r1, r2⟩, t0, t1, t2⟩ := id hr
  obtain ⟨⟨a0, a1, a2, a3⟩, -⟩ := id ha
  obtain ⟨⟨b0, b1, b2, b3⟩, z0, z1, z2, z3⟩ := id hc
  clear hr hf ha hc hu hv hb
  go_wp2_with (first | (go_at_call 47; refine (KO _ _ _ HU.out HV.out).out.mono ?_; rintro e w8 ⟨rfl, hb⟩; have HR := Hid.mk' (HR.out.keep hb); have HF := Hid.mk' (HF.out.keep hb); have HB := Hid.mk' (HB.out.trans (hb.mono HB.out.size)); clear q0 q1 q2 r0 r1 r2 t0 t1 t2; obtain ⟨q0, q1, q2⟩ := HF.out; obtain ⟨⟨r0, r1, r2⟩, t0, t1, t2⟩ := HR.out; clear hb) | (go_at_call 27; refine (KV _).out.mono ?_; rintro e w8 ⟨rfl, hb⟩; have HR := Hid.mk' (HR.out.keep hb); have HF := Hid.mk' (HF.out.keep hb); have HB := Hid.mk' (HB.out.trans (hb.mono HB.out.size)); clear q0 q1 q2 r0 r1 r2 t0 t1 t2; obtain ⟨q0, q1, q2⟩ := HF.out; obtain ⟨⟨r0, r1, r2⟩, t0, t1, t2⟩ := HR.out; clear hb))
  exact bodyPost_ret (v := RV true 0 R) (by simp [results, Tryd.results14, go_sem, r0, r1, r2]) rfl ⟨rfl, by repeat (first | exact HB.out | refine Below.setCell ?_ (by first | (simp; done) | (simp; omega) | omega) _ | refine Below.drew ?_)⟩
set_option maxHeartbeats 8000000 in
set_option maxRecDepth 100000 in
theorem sf2_2 (p e L : Int) (op a b R k1 k2 : Int) (g1 g2 : Bool) (x1 x2 : Int) (s1 s2 : Nat) (w : World) (KW1 : ∀ w, Hid (Calls Tryd.prog 22 #[.int .i64 op, .int .i64 91, .int .i64 97, .int .i64 6] w fun ed w' => ed = .returned (.tuple #[FSn, .int .i64 (-1)]) ∧ Below w.heap.size w w')) (KW2 : ∀ w, Hid (Calls Tryd.prog 22 #[.int .i64 op, .int .i64 146, .int .i64 160, .int .i64 7] w fun ed w' => ed = .returned (.tuple #[(.agg #[.int .i64 p, .int .i64 e, .int .i64 L]), .int .i64 2]) ∧ Below w.heap.size w w')) (KRa : ∀ w, Hid (Calls Tryd.prog 26 #[(.agg #[.int .i64 p, .int .i64 e, .int .i64 L]), .int .u64 a] w fun ed w' => (∃ v, ed = .returned (SV k1 g1 v x1) ∧ SN w' v s1) ∧ Below w.heap.size w w')) (KRb : ∀ w, Hid (Calls Tryd.prog 26 #[(.agg #[.int .i64 p, .int .i64 e, .int .i64 L]), .int .u64 b] w fun ed w' => (∃ v, ed = .returned (SV k2 g2 v x2) ∧ SN w' v s2) ∧ Below w.heap.size w w')) (KO : ∀ v1 v2 w, SN w v1 s1 → SN w v2 s2 → Hid (Calls Tryd.prog 48 #[(.agg #[.int .i64 p, .int .i64 e, .int .i64 L]), SV k1 g1 v1 x1, SV k2 g2 v2 x2] w fun ed w' => ed = .returned (.int .u64 R) ∧ Below w.heap.size w w'))  :
    Calls Tryd.prog 14 #[.int .i64 op, .int .u64 a, .int .u64 b] w fun ed w' => ed = .returned (RV true 0 R) ∧ Below w.heap.size w w' := by
  have KV := fun (w : World) => Hid.mk' (val_eq R R w rfl)
  go_enter Tryd.func14, Tryd.ntmps14
  go_wp2_with fail
  refine (KW1 _).out.mono ?_
  rintro e w1 ⟨rfl, hb⟩
  have HR1 := Hid.mk' (r3_new.keep hb)
  have HB1 := Hid.mk' (below_box hb)
  have hl1 := HR1.out.1.lt
  clear hb KW1
  go_wp2_with fail
  refine (KW2 _).out.mono ?_
  rintro e w2 ⟨rfl, hb⟩
  have HR2 := Hid.mk' (HR1.out.past.keep hb)
  have HF2 := Hid.mk' (r3_new.keep hb)
  have HB2 := Hid.mk' ((HB1.out.alloc HB1.out.size _).trans (hb.mono (Nat.le_trans HB1.out.size (by simp))))
  clear hb KW2 HR1 HB1
  generalize w1.heap.size = gf at *
  clear w1
  obtain ⟨⟨j0, j1, j2⟩, i0, i1, i2⟩ := HF2.out
  go_upto_region 5 with fail
  refine wp_gen (fun wz => RZ wz w.heap.size ∧ C3 wz gf (.int .i64 p) (.int .i64 e) (.int .i64 L) ∧ Below w.heap.size w wz) ⟨((HR2.out.far (by omega)).far (by omega)).far (by omega), HF2.out.setAll.1, ((HB2.out.setCell (by show _ ≤ gf; omega) _).setCell (by show _ ≤ gf; omega) _).setCell (by show _ ≤ gf; omega) _⟩ ?_
  clear HR2 HF2 HB2 j0 j1 j2 i0 i1 i2
  rintro w3 ⟨hr, hf, hb⟩
  have HR3 := Hid.mk' hr
  have HF3 := Hid.mk' hf
  have HB3 := Hid.mk' hb
  obtain ⟨q0, q1, q2⟩ := id hf
  clear hr hf hb
  go_wp2_with fail
  refine (KRa _).out.mono ?_
  rintro e w4 ⟨⟨u1, rfl, hu1⟩, hb⟩
  obtain ⟨sa, sc, rfl, -⟩ := id hu1
  have HR4 := Hid.mk' (HR3.out.keep hb)
  have HF4 := Hid.mk' (HF3.out.keep hb)
  have HB4 := Hid.mk' (HB3.out.trans (hb.mono HB3.out.size))
  have HU1 := Hid.mk' hu1
  generalize (dg s1).length = sl1 at *
  clear hb KRa HR3 HF3 HB3 q0 q1 q2 hu1
  go_upto_region 6 with fail
  refine wp_gen (fun wz => RZ wz w.heap.size ∧ C3 wz gf (.int .i64 p) (.int .i64 e) (.int .i64 L) ∧ D4 wz w4.heap.size (.int .i64 k1) (.bool g1) (.slice sa sl1 sc) (.int .i64 x1) ∧ SN wz (.slice sa sl1 sc) s1 ∧ Below w.heap.size w wz) ⟨HR4.out.past, HF4.out.past, d4_new, HU1.out.below ((Below.refl _ _).alloc (Nat.le_refl _) _), HB4.out.alloc HB4.out.size _⟩ ?_
  have hl4 : gf < w4.heap.size := HF4.out.lt
  clear HR4 HF4 HB4 HU1
  generalize w4.heap.size = ga at *
  rintro w5 ⟨hr, hf, ha, hu, hb⟩
  have HR5 := Hid.mk' hr
  have HF5 := Hid.mk' hf
  have HA5 := Hid.mk' ha
  have HU5 := Hid.mk' hu
  have HB5 := Hid.mk' hb
  obtain ⟨q0, q1, q2⟩ := id hf
  clear hr hf ha hu hb
  go_wp2_with fail
  refine (KRb _).out.mono ?_
  rintro e w6 ⟨⟨u2, rfl, hu2⟩, hb⟩
  obtain ⟨sb, sd, rfl, -⟩ := id hu2
  have HR6 := Hid.mk' (HR5.out.keep hb)
  have HF6 := Hid.mk' (HF5.out.keep hb)
  have HA6 := Hid.mk' (HA5.out.keep hb)
  have HU6 := Hid.mk' (HU5.out.below hb)
  have HB6 := Hid.mk' (HB5.out.trans (hb.mono HB5.out.size))
  have HU2 := Hid.mk' hu2
  generalize (dg s2).length = sl2 at *
  clear hb KRb HR5 HF5 HA5 HU5 HB5 q0 q1 q2 hu2
  go_upto_region 7 with fail
  refine wp_gen (fun wz => RZ wz w.heap.size ∧ C3 wz gf (.int .i64 p) (.int .i64 e) (.int .i64 L) ∧ D4 wz ga (.int .i64 k1) (.bool g1) (.slice sa sl1 sc) (.int .i64 x1) ∧ D4 wz w6.heap.size (.int .i64 k2) (.bool g2) (.slice sb sl2 sd) (.int .i64 x2) ∧ SN wz (.slice sa sl1 sc) s1 ∧ SN wz (.slice sb sl2 sd) s2 ∧ Below w.heap.size w wz) ⟨HR6.out.past, HF6.out.past, HA6.out.past, d4_new, HU6.out.below ((Below.refl _ _).alloc (Nat.le_refl _) _), HU2.out.below ((Below.refl _ _).alloc (Nat.le_refl _) _), HB6.out.alloc HB6.out.size _⟩ ?_
  have hl6 : ga < w6.heap.size := HA6.out.1.lt
  clear HR6 HF6 HA6 HU6 HU2 HB6
  generalize w6.heap.size = gb at *
  rintro w7 ⟨hr, hf, ha, hc, hu, hv, hb⟩
  have HR := Hid.mk' hr
  have HF := Hid.mk' hf
  have HA := Hid.mk' ha
  have HC := Hid.mk' hc
  have HU := Hid.mk' hu
  have HV := Hid.mk' hv
  have HB := Hid.mk' hb
  obtain ⟨q0, q1, q2⟩ := id hf
  obtain ⟨⟨r0, r1, r2⟩, t0, t1, t2⟩ := id hr
  obtain ⟨⟨a0, a1, a2, a3⟩, -⟩ := id ha
  obtain ⟨⟨b0, b1, b2, b3⟩, z0, z1, z2, z3⟩ := id hc
  clear hr hf ha hc hu hv hb
  go_wp2_with (first | (go_at_call 48; refine (KO _ _ _ HU.out HV.out).out.mono ?_; rintro e w8 ⟨rfl, hb⟩; have HR := Hid.mk' (HR.out.keep hb); have HF := Hid.mk' (HF.out.keep hb); have HB := Hid.mk' (HB.out.trans (hb.mono HB.out.size)); clear q0 q1 q2 r0 r1 r2 t0 t1 t2; obtain ⟨q0, q1, q2⟩ := HF.out; obtain ⟨⟨r0, r1, r2⟩, t0, t1, t2⟩ := HR.out; clear hb) | (go_at_call 27; refine (KV _).out.mono ?_; rintro e w8 ⟨rfl, hb⟩; have HR := Hid.mk' (HR.out.keep hb); have HF := Hid.mk' (HF.out.keep hb); have HB := Hid.mk' (HB.out.trans (hb.mono HB.out.size)); clear q0 q1 q2 r0 r1 r2 t0 t1 t2; obtain ⟨q0, q1, q2⟩ := HF.out; obtain ⟨⟨r0, r1, r2⟩, t0, t1, t2⟩ := HR.out; clear hb))
  exact bodyPost_ret (v := RV true 0 R) (by simp [results, Tryd.results14, go_sem, r0, r1, r2]) rfl ⟨rfl, by repeat (first | exact HB.out | refine Below.setCell ?_ (by first | (simp; done) | (simp; omega) | omega) _ | refine Below.drew ?_)⟩
end Go.Proofs.YthmppcfhbbjhlaaDoor
