import Derived.Test.YthmppcfhbbjhlaaDoorFo
import Derived.Test.YthmppcfhbbjhlaaDoorTr
set_option linter.all false
namespace Go.Proofs.YthmppcfhbbjhlaaDoor
open Go.RowKit Go.Sort

set_option maxHeartbeats 4000000 in
set_option maxRecDepth 100000 in
theorem sf1_w_3f (op a A : Int) (g : Bool) (x : Int) (s : Nat) (w : World)
    (KF : ∀ w, Hid (Calls Tryd.prog 22 #[.int .i64 op, .int .i64 139, .int .i64 153, .int .i64 7] w fun e w' => e = .returned (.tuple #[FSw, .int .i64 3]) ∧ Below w.heap.size w w'))
    (KLo : ∀ w, Hid (Calls Tryd.prog 23 #[.int .u64 a, .int .i64 64] w fun e w' => e = .returned (.int .u64 A) ∧ w = w'))
    (KR : ∀ w, Hid (Calls Tryd.prog 26 #[FSw, .int .u64 A] w fun e w' => (∃ v, e = .returned (SV 0 g v x) ∧ SN w' v s) ∧ Below w.heap.size w w'))
    (t : Nat) (R : Int) (KX : ∀ v w, SN w v s → Hid (Calls Tryd.prog 31 #[SV 0 g v x, .int .i64 1] w fun e w' => (∃ u, e = .returned u ∧ SN w' u t) ∧ Below w.heap.size w w'))
    (KW : ∀ v w, SN w v t → Hid (Calls Tryd.prog 30 #[FSw, .bool g, v, .int .i64 0, .bool false] w fun e w' => e = .returned (.int .u64 R) ∧ Below w.heap.size w w')) :
    Calls Tryd.prog 9 #[.int .i64 op, .int .u64 a] w fun e w' => e = .returned (RV true 0 R) ∧ Below w.heap.size w w' := by
  go_enter Tryd.func9, Tryd.ntmps9
  go_wp2_with fail
  refine (KF _).out.mono ?_
  rintro e w1 ⟨rfl, hb⟩
  have HR1 := Hid.mk' (r3_new.keep hb)
  have HB1 := Hid.mk' (below_box hb)
  have hl1 := HR1.out.1.lt
  clear hb KF
  go_wp2_with fail
  refine (width_w _).mono ?_
  rintro e w2 ⟨rfl, hb⟩
  have HR2 := Hid.mk' (HR1.out.past.keep hb)
  have HF2 := Hid.mk' (c3_new.keep hb)
  have HB2 := Hid.mk' ((HB1.out.alloc HB1.out.size _).trans (hb.mono (Nat.le_trans HB1.out.size (by simp))))
  clear hb HR1 HB1
  generalize w1.heap.size = gf at *
  obtain ⟨q0, q1, q2⟩ := HF2.out
  go_wp2_with fail
  refine (KLo _).out.mono ?_
  rintro e w' ⟨rfl, rfl⟩
  clear KLo
  go_wp2_with fail
  refine (width_w _).mono ?_
  rintro e w3 ⟨rfl, hb⟩
  have HR3 := Hid.mk' (HR2.out.keep hb)
  have HF3 := Hid.mk' (HF2.out.keep hb)
  have HB3 := Hid.mk' (HB2.out.trans (hb.mono HB2.out.size))
  clear hb HR2 HF2 HB2 q0 q1 q2
  obtain ⟨q0, q1, q2⟩ := HF3.out
  go_wp2_with (go_at_call_of 25 (Value.int IntKind.i64 63); refine ((pow_63 _).mono fun e w' h => (⟨h.1, h.2.symm⟩ : e = _ ∧ _ = w')).mono ?_; rintro e w' ⟨rfl, rfl⟩)
  refine (KR _).out.mono ?_
  rintro e w4 ⟨⟨v4, rfl, hv4⟩, hb⟩
  obtain ⟨sa, scap, rfl, -⟩ := id hv4
  generalize (dg s).length = sl at *
  have HR4 := Hid.mk' (HR3.out.keep hb)
  have HF4 := Hid.mk' (HF3.out.keep hb)
  have HB4 := Hid.mk' (HB3.out.trans (hb.mono HB3.out.size))
  have HV4 := Hid.mk' hv4
  have hl4 := HF4.out.lt
  clear hb KR HR3 HF3 HB3 q0 q1 q2 hv4
  go_upto_region 7 with fail
  refine wp_gen (fun wz => RZ wz w.heap.size ∧ C3 wz gf (.int .i64 53) (.int .i64 11) (.int .i64 (-1074)) ∧ C4 wz w4.heap.size (.int .i64 0) (.bool g) (.slice sa sl scap) (.int .i64 x) ∧ SN wz (.slice sa sl scap) s ∧ Below w.heap.size w wz) ⟨HR4.out.past, HF4.out.past, c4_new, HV4.out.below ((Below.refl _ _).alloc (Nat.le_refl _) _), HB4.out.alloc HB4.out.size _⟩ ?_
  clear HR4 HF4 HB4 HV4
  generalize w4.heap.size = gn at *
  rintro w5 ⟨hr, hf, hn, hv, hb⟩
  have HR := Hid.mk' hr
  have HF := Hid.mk' hf
  have HNn := Hid.mk' hn
  have HV := Hid.mk' hv
  have HB := Hid.mk' hb
  obtain ⟨q0, q1, q2⟩ := id hf
  obtain ⟨n0, n1, n2, n3⟩ := id hn
  clear hr hf hn hv hb
  go_upto_region 15 with fail
  go_region_with (first
    | (go_at_call 31; refine (KX _ w5.drew HV.out).out.mono ?_; rintro e w6 ⟨⟨u6, rfl, hu6⟩, hb6⟩; have hb6 := undrew hb6; obtain ⟨q0', q1', q2'⟩ := HF.out.keep hb6; obtain ⟨n0', n1', n2', n3'⟩ := HNn.out.keep hb6; have hr6 := HR.out.keep hb6; have hB6 := HB.out.trans (hb6.mono HB.out.size); clear hb6)
    | (go_at_call 30; refine (KW _ _ hu6).out.mono ?_; rintro e w7 ⟨rfl, hb7⟩; have hr7 := R3.keep hr6 hb7; have hB7 := hB6.trans (hb7.mono hB6.size); clear hb7)
    | (go_at_call 27; refine (val_eq R R _ rfl).mono ?_; rintro e w8 ⟨rfl, hb8⟩; obtain ⟨⟨r0, r1, r2⟩, v0, v1, v2⟩ := R3.keep hr7 hb8; have hB8 := hB7.trans (hb8.mono hB7.size); have HB8 := Hid.mk' hB8; clear hb8 hB8))
  all_goals go_wp2
  all_goals (exact bodyPost_ret (v := RV true 0 R) (by simp [results, Tryd.results9, go_sem, r0, r1, r2]) rfl ⟨rfl, by repeat (first | exact HB8.out | refine Below.setCell ?_ (by first | (simp; done) | (simp; omega) | omega) _ | refine Below.drew ?_)⟩)
end Go.Proofs.YthmppcfhbbjhlaaDoor
