import Derived.Test.YthmppcfhbbjhlaaDoorTr
set_option linter.all false
namespace Go.Proofs.YthmppcfhbbjhlaaDoor
open Go.RowKit Go.Sort

theorem R3.far {w : World} {g g' i : Nat} {v a b c : Value} (h : R3 w g a b c) (hg : g' ≠ g) : R3 (w.setCell ⟨g', i, none⟩ v) g a b c := by
  obtain ⟨⟨h0, h1, h2⟩, f0, f1, f2⟩ := h
  have e : ∀ j, (⟨g', i, none⟩ : Addr) ≠ ⟨g, j, none⟩ := fun j hj => hg (congrArg Addr.block hj)
  refine ⟨⟨?_, ?_, ?_⟩, by rw [World.frozen?_setCell]; exact f0, by rw [World.frozen?_setCell]; exact f1, by rw [World.frozen?_setCell]; exact f2⟩
  · rw [World.cell?_setCell_other _ _ _ _ (e 0)]; exact h0
  · rw [World.cell?_setCell_other _ _ _ _ (e 1)]; exact h1
  · rw [World.cell?_setCell_other _ _ _ _ (e 2)]; exact h2
theorem R3.setAll {w : World} {g : Nat} {a b c a' b' c' : Value} (h : R3 w g a b c) : R3 (((w.setCell ⟨g, 0, none⟩ a').setCell ⟨g, 1, none⟩ b').setCell ⟨g, 2, none⟩ c') g a' b' c' := by
  obtain ⟨⟨h0, h1, h2⟩, f0, f1, f2⟩ := h
  refine ⟨⟨set_off (set_off (set_same h0) (by decide)) (by decide), set_off (set_same (set_off h1 (by decide))) (by decide), set_same (set_off (set_off h2 (by decide)) (by decide))⟩, ?_, ?_, ?_⟩
  · rw [World.frozen?_setCell, World.frozen?_setCell, World.frozen?_setCell]; exact f0
  · rw [World.frozen?_setCell, World.frozen?_setCell, World.frozen?_setCell]; exact f1
  · rw [World.frozen?_setCell, World.frozen?_setCell, World.frozen?_setCell]; exact f2

set_option maxHeartbeats 4000000 in
set_option maxRecDepth 100000 in
theorem sconv_168 (a k : Int) (g : Bool) (x : Int) (s : Nat) (t r : Int) (w : World)
    (KR : ∀ w, Hid (Calls Tryd.prog 26 #[FSn, .int .u64 a] w fun e w' => (∃ v, e = .returned (SV k g v x) ∧ SN w' v s) ∧ Below w.heap.size w w'))
    (KT : ∀ v w, SN w v s → Hid (Calls Tryd.prog 42 #[SV k g v x, .int .i64 32, .bool true] w fun e w' => e = .returned (RV true t r) ∧ Below w.heap.size w w')) :
    Calls Tryd.prog 12 #[.int .i64 168, .int .u64 a] w fun e w' => e = .returned (RV true t r) ∧ Below w.heap.size w w' := by
  go_enter Tryd.func12, Tryd.ntmps12
  go_wp2_with fail
  refine (form_n _).mono ?_
  rintro e w1 ⟨rfl, hb⟩
  have HR := Hid.mk' (r3_new.keep hb)
  have HB := Hid.mk' (below_box hb)
  have hl := HR.out.1.lt
  clear hb
  go_wp2_with fail
  refine (KR _).out.mono ?_
  rintro e w4 ⟨⟨v4, rfl, hv4⟩, hb⟩
  have HR4 := Hid.mk' (HR.out.past.keep hb)
  have HB4 := Hid.mk' ((HB.out.alloc HB.out.size _).trans (hb.mono (Nat.le_trans HB.out.size (by simp))))
  have KT4 := KT v4 w4 hv4
  clear hb hv4 KT KR
  go_wp2_with fail
  refine KT4.out.mono ?_
  rintro e w9 ⟨rfl, hb⟩
  have HB9 := Hid.mk' (HB4.out.trans (hb.mono HB4.out.size))
  obtain ⟨⟨r0, r1, r2⟩, v0, v1, v2⟩ := HR4.out.keep hb
  clear hb HR4 HB4 KT4
  go_wp2
  exact bodyPost_ret (v := RV true t r) (by simp [results, Tryd.results12, go_sem, r0, r1, r2]) rfl ⟨rfl, by repeat (first | exact HB9.out | refine Below.setCell ?_ (by first | (simp; done) | (simp; omega) | omega) _ | refine Below.drew ?_)⟩
set_option maxHeartbeats 4000000 in
set_option maxRecDepth 100000 in
theorem sconv_169 (a k : Int) (g : Bool) (x : Int) (s : Nat) (t r : Int) (w : World)
    (KR : ∀ w, Hid (Calls Tryd.prog 26 #[FSn, .int .u64 a] w fun e w' => (∃ v, e = .returned (SV k g v x) ∧ SN w' v s) ∧ Below w.heap.size w w'))
    (KT : ∀ v w, SN w v s → Hid (Calls Tryd.prog 42 #[SV k g v x, .int .i64 32, .bool false] w fun e w' => e = .returned (RV true t r) ∧ Below w.heap.size w w')) :
    Calls Tryd.prog 12 #[.int .i64 169, .int .u64 a] w fun e w' => e = .returned (RV true t r) ∧ Below w.heap.size w w' := by
  go_enter Tryd.func12, Tryd.ntmps12
  go_wp2_with fail
  refine (form_n _).mono ?_
  rintro e w1 ⟨rfl, hb⟩
  have HR := Hid.mk' (r3_new.keep hb)
  have HB := Hid.mk' (below_box hb)
  have hl := HR.out.1.lt
  clear hb
  go_wp2_with fail
  refine (KR _).out.mono ?_
  rintro e w4 ⟨⟨v4, rfl, hv4⟩, hb⟩
  have HR4 := Hid.mk' (HR.out.past.keep hb)
  have HB4 := Hid.mk' ((HB.out.alloc HB.out.size _).trans (hb.mono (Nat.le_trans HB.out.size (by simp))))
  have KT4 := KT v4 w4 hv4
  clear hb hv4 KT KR
  go_wp2_with fail
  refine KT4.out.mono ?_
  rintro e w9 ⟨rfl, hb⟩
  have HB9 := Hid.mk' (HB4.out.trans (hb.mono HB4.out.size))
  obtain ⟨⟨r0, r1, r2⟩, v0, v1, v2⟩ := HR4.out.keep hb
  clear hb HR4 HB4 KT4
  go_wp2
  exact bodyPost_ret (v := RV true t r) (by simp [results, Tryd.results12, go_sem, r0, r1, r2]) rfl ⟨rfl, by repeat (first | exact HB9.out | refine Below.setCell ?_ (by first | (simp; done) | (simp; omega) | omega) _ | refine Below.drew ?_)⟩
set_option maxHeartbeats 4000000 in
set_option maxRecDepth 100000 in
theorem sconv_170 (a k : Int) (g : Bool) (x : Int) (s : Nat) (t r : Int) (w : World)
    (KR : ∀ w, Hid (Calls Tryd.prog 26 #[FSw, .int .u64 a] w fun e w' => (∃ v, e = .returned (SV k g v x) ∧ SN w' v s) ∧ Below w.heap.size w w'))
    (KT : ∀ v w, SN w v s → Hid (Calls Tryd.prog 42 #[SV k g v x, .int .i64 32, .bool true] w fun e w' => e = .returned (RV true t r) ∧ Below w.heap.size w w')) :
    Calls Tryd.prog 12 #[.int .i64 170, .int .u64 a] w fun e w' => e = .returned (RV true t r) ∧ Below w.heap.size w w' := by
  go_enter Tryd.func12, Tryd.ntmps12
  go_wp2_with fail
  refine (form_n _).mono ?_
  rintro e w1 ⟨rfl, hb⟩
  have HR := Hid.mk' (r3_new.keep hb)
  have HB := Hid.mk' (below_box hb)
  have hl := HR.out.1.lt
  clear hb
  go_wp2_with fail
  refine (form_w _).mono ?_
  rintro e w2 ⟨rfl, hb⟩
  have HR2 := Hid.mk' (HR.out.past.keep hb)
  have HB2 := Hid.mk' ((HB.out.alloc HB.out.size _).trans (hb.mono (Nat.le_trans HB.out.size (by simp))))
  have HF2 := Hid.mk' (r3_new.keep hb)
  obtain ⟨⟨f0, f1, f2⟩, y0, y1, y2⟩ := HF2.out
  have hsz := HB.out.size
  clear hb HR HB
  go_upto_region 5 with fail
  refine wp_gen (fun wz => R3 wz w1.heap.size (.int .i64 53) (.int .i64 11) (.int .i64 (-1074)) ∧ RZ wz w.heap.size ∧ Below w.heap.size w wz) ⟨HF2.out.setAll, ((HR2.out.far (by omega)).far (by omega)).far (by omega), ((HB2.out.setCell (by simp; omega) _).setCell (by simp; omega) _).setCell (by simp; omega) _⟩ ?_
  generalize w1.heap.size = gf at *
  clear HF2 f0 f1 f2 y0 y1 y2 HR2 HB2
  rintro w3 ⟨⟨⟨f0, f1, f2⟩, -⟩, hr3, hb3⟩
  have HR := Hid.mk' hr3
  have HB := Hid.mk' hb3
  clear hr3 hb3
  go_wp2_with fail
  refine (KR _).out.mono ?_
  rintro e w4 ⟨⟨v4, rfl, hv4⟩, hb⟩
  have HR4 := Hid.mk' (HR.out.keep hb)
  have HB4 := Hid.mk' (HB.out.trans (hb.mono HB.out.size))
  have KT4 := KT v4 w4 hv4
  clear hb hv4 KT KR
  go_wp2_with fail
  refine KT4.out.mono ?_
  rintro e w9 ⟨rfl, hb⟩
  have HB9 := Hid.mk' (HB4.out.trans (hb.mono HB4.out.size))
  obtain ⟨⟨r0, r1, r2⟩, v0, v1, v2⟩ := HR4.out.keep hb
  clear hb HR4 HB4 KT4
  go_wp2
  exact bodyPost_ret (v := RV true t r) (by simp [results, Tryd.results12, go_sem, r0, r1, r2]) rfl ⟨rfl, by repeat (first | exact HB9.out | refine Below.setCell ?_ (by first | (simp; done) | (simp; omega) | omega) _ | refine Below.drew ?_)⟩
set_option maxHeartbeats 4000000 in
set_option maxRecDepth 100000 in
theorem sconv_171 (a k : Int) (g : Bool) (x : Int) (s : Nat) (t r : Int) (w : World)
    (KR : ∀ w, Hid (Calls Tryd.prog 26 #[FSw, .int .u64 a] w fun e w' => (∃ v, e = .returned (SV k g v x) ∧ SN w' v s) ∧ Below w.heap.size w w'))
    (KT : ∀ v w, SN w v s → Hid (Calls Tryd.prog 42 #[SV k g v x, .int .i64 32, .bool false] w fun e w' => e = .returned (RV true t r) ∧ Below w.heap.size w w')) :
    Calls Tryd.prog 12 #[.int .i64 171, .int .u64 a] w fun e w' => e = .returned (RV true t r) ∧ Below w.heap.size w w' := by
  go_enter Tryd.func12, Tryd.ntmps12
  go_wp2_with fail
  refine (form_n _).mono ?_
  rintro e w1 ⟨rfl, hb⟩
  have HR := Hid.mk' (r3_new.keep hb)
  have HB := Hid.mk' (below_box hb)
  have hl := HR.out.1.lt
  clear hb
  go_wp2_with fail
  refine (form_w _).mono ?_
  rintro e w2 ⟨rfl, hb⟩
  have HR2 := Hid.mk' (HR.out.past.keep hb)
  have HB2 := Hid.mk' ((HB.out.alloc HB.out.size _).trans (hb.mono (Nat.le_trans HB.out.size (by simp))))
  have HF2 := Hid.mk' (r3_new.keep hb)
  obtain ⟨⟨f0, f1, f2⟩, y0, y1, y2⟩ := HF2.out
  have hsz := HB.out.size
  clear hb HR HB
  go_upto_region 5 with fail
  refine wp_gen (fun wz => R3 wz w1.heap.size (.int .i64 53) (.int .i64 11) (.int .i64 (-1074)) ∧ RZ wz w.heap.size ∧ Below w.heap.size w wz) ⟨HF2.out.setAll, ((HR2.out.far (by omega)).far (by omega)).far (by omega), ((HB2.out.setCell (by simp; omega) _).setCell (by simp; omega) _).setCell (by simp; omega) _⟩ ?_
  generalize w1.heap.size = gf at *
  clear HF2 f0 f1 f2 y0 y1 y2 HR2 HB2
  rintro w3 ⟨⟨⟨f0, f1, f2⟩, -⟩, hr3, hb3⟩
  have HR := Hid.mk' hr3
  have HB := Hid.mk' hb3
  clear hr3 hb3
  go_wp2_with fail
  refine (KR _).out.mono ?_
  rintro e w4 ⟨⟨v4, rfl, hv4⟩, hb⟩
  have HR4 := Hid.mk' (HR.out.keep hb)
  have HB4 := Hid.mk' (HB.out.trans (hb.mono HB.out.size))
  have KT4 := KT v4 w4 hv4
  clear hb hv4 KT KR
  go_wp2_with fail
  refine KT4.out.mono ?_
  rintro e w9 ⟨rfl, hb⟩
  have HB9 := Hid.mk' (HB4.out.trans (hb.mono HB4.out.size))
  obtain ⟨⟨r0, r1, r2⟩, v0, v1, v2⟩ := HR4.out.keep hb
  clear hb HR4 HB4 KT4
  go_wp2
  exact bodyPost_ret (v := RV true t r) (by simp [results, Tryd.results12, go_sem, r0, r1, r2]) rfl ⟨rfl, by repeat (first | exact HB9.out | refine Below.setCell ?_ (by first | (simp; done) | (simp; omega) | omega) _ | refine Below.drew ?_)⟩
set_option maxHeartbeats 4000000 in
set_option maxRecDepth 100000 in
theorem sconv_174 (a k : Int) (g : Bool) (x : Int) (s : Nat) (t r : Int) (w : World)
    (KR : ∀ w, Hid (Calls Tryd.prog 26 #[FSn, .int .u64 a] w fun e w' => (∃ v, e = .returned (SV k g v x) ∧ SN w' v s) ∧ Below w.heap.size w w'))
    (KT : ∀ v w, SN w v s → Hid (Calls Tryd.prog 42 #[SV k g v x, .int .i64 64, .bool true] w fun e w' => e = .returned (RV true t r) ∧ Below w.heap.size w w')) :
    Calls Tryd.prog 12 #[.int .i64 174, .int .u64 a] w fun e w' => e = .returned (RV true t r) ∧ Below w.heap.size w w' := by
  go_enter Tryd.func12, Tryd.ntmps12
  go_wp2_with fail
  refine (form_n _).mono ?_
  rintro e w1 ⟨rfl, hb⟩
  have HR := Hid.mk' (r3_new.keep hb)
  have HB := Hid.mk' (below_box hb)
  have hl := HR.out.1.lt
  clear hb
  go_wp2_with fail
  refine (KR _).out.mono ?_
  rintro e w4 ⟨⟨v4, rfl, hv4⟩, hb⟩
  have HR4 := Hid.mk' (HR.out.past.keep hb)
  have HB4 := Hid.mk' ((HB.out.alloc HB.out.size _).trans (hb.mono (Nat.le_trans HB.out.size (by simp))))
  have KT4 := KT v4 w4 hv4
  clear hb hv4 KT KR
  go_wp2_with fail
  refine KT4.out.mono ?_
  rintro e w9 ⟨rfl, hb⟩
  have HB9 := Hid.mk' (HB4.out.trans (hb.mono HB4.out.size))
  obtain ⟨⟨r0, r1, r2⟩, v0, v1, v2⟩ := HR4.out.keep hb
  clear hb HR4 HB4 KT4
  go_wp2
  exact bodyPost_ret (v := RV true t r) (by simp [results, Tryd.results12, go_sem, r0, r1, r2]) rfl ⟨rfl, by repeat (first | exact HB9.out | refine Below.setCell ?_ (by first | (simp; done) | (simp; omega) | omega) _ | refine Below.drew ?_)⟩
set_option maxHeartbeats 4000000 in
set_option maxRecDepth 100000 in
theorem sconv_175 (a k : Int) (g : Bool) (x : Int) (s : Nat) (t r : Int) (w : World)
    (KR : ∀ w, Hid (Calls Tryd.prog 26 #[FSn, .int .u64 a] w fun e w' => (∃ v, e = .returned (SV k g v x) ∧ SN w' v s) ∧ Below w.heap.size w w'))
    (KT : ∀ v w, SN w v s → Hid (Calls Tryd.prog 42 #[SV k g v x, .int .i64 64, .bool false] w fun e w' => e = .returned (RV true t r) ∧ Below w.heap.size w w')) :
    Calls Tryd.prog 12 #[.int .i64 175, .int .u64 a] w fun e w' => e = .returned (RV true t r) ∧ Below w.heap.size w w' := by
  go_enter Tryd.func12, Tryd.ntmps12
  go_wp2_with fail
  refine (form_n _).mono ?_
  rintro e w1 ⟨rfl, hb⟩
  have HR := Hid.mk' (r3_new.keep hb)
  have HB := Hid.mk' (below_box hb)
  have hl := HR.out.1.lt
  clear hb
  go_wp2_with fail
  refine (KR _).out.mono ?_
  rintro e w4 ⟨⟨v4, rfl, hv4⟩, hb⟩
  have HR4 := Hid.mk' (HR.out.past.keep hb)
  have HB4 := Hid.mk' ((HB.out.alloc HB.out.size _).trans (hb.mono (Nat.le_trans HB.out.size (by simp))))
  have KT4 := KT v4 w4 hv4
  clear hb hv4 KT KR
  go_wp2_with fail
  refine KT4.out.mono ?_
  rintro e w9 ⟨rfl, hb⟩
  have HB9 := Hid.mk' (HB4.out.trans (hb.mono HB4.out.size))
  obtain ⟨⟨r0, r1, r2⟩, v0, v1, v2⟩ := HR4.out.keep hb
  clear hb HR4 HB4 KT4
  go_wp2
  exact bodyPost_ret (v := RV true t r) (by simp [results, Tryd.results12, go_sem, r0, r1, r2]) rfl ⟨rfl, by repeat (first | exact HB9.out | refine Below.setCell ?_ (by first | (simp; done) | (simp; omega) | omega) _ | refine Below.drew ?_)⟩
set_option maxHeartbeats 4000000 in
set_option maxRecDepth 100000 in
theorem sconv_176 (a k : Int) (g : Bool) (x : Int) (s : Nat) (t r : Int) (w : World)
    (KR : ∀ w, Hid (Calls Tryd.prog 26 #[FSw, .int .u64 a] w fun e w' => (∃ v, e = .returned (SV k g v x) ∧ SN w' v s) ∧ Below w.heap.size w w'))
    (KT : ∀ v w, SN w v s → Hid (Calls Tryd.prog 42 #[SV k g v x, .int .i64 64, .bool true] w fun e w' => e = .returned (RV true t r) ∧ Below w.heap.size w w')) :
    Calls Tryd.prog 12 #[.int .i64 176, .int .u64 a] w fun e w' => e = .returned (RV true t r) ∧ Below w.heap.size w w' := by
  go_enter Tryd.func12, Tryd.ntmps12
  go_wp2_with fail
  refine (form_n _).mono ?_
  rintro e w1 ⟨rfl, hb⟩
  have HR := Hid.mk' (r3_new.keep hb)
  have HB := Hid.mk' (below_box hb)
  have hl := HR.out.1.lt
  clear hb
  go_wp2_with fail
  refine (form_w _).mono ?_
  rintro e w2 ⟨rfl, hb⟩
  have HR2 := Hid.mk' (HR.out.past.keep hb)
  have HB2 := Hid.mk' ((HB.out.alloc HB.out.size _).trans (hb.mono (Nat.le_trans HB.out.size (by simp))))
  have HF2 := Hid.mk' (r3_new.keep hb)
  obtain ⟨⟨f0, f1, f2⟩, y0, y1, y2⟩ := HF2.out
  have hsz := HB.out.size
  clear hb HR HB
  go_upto_region 10 with fail
  refine wp_gen (fun wz => R3 wz w1.heap.size (.int .i64 53) (.int .i64 11) (.int .i64 (-1074)) ∧ RZ wz w.heap.size ∧ Below w.heap.size w wz) ⟨HF2.out.setAll, ((HR2.out.far (by omega)).far (by omega)).far (by omega), ((HB2.out.setCell (by simp; omega) _).setCell (by simp; omega) _).setCell (by simp; omega) _⟩ ?_
  generalize w1.heap.size = gf at *
  clear HF2 f0 f1 f2 y0 y1 y2 HR2 HB2
  rintro w3 ⟨⟨⟨f0, f1, f2⟩, -⟩, hr3, hb3⟩
  have HR := Hid.mk' hr3
  have HB := Hid.mk' hb3
  clear hr3 hb3
  go_wp2_with fail
  refine (KR _).out.mono ?_
  rintro e w4 ⟨⟨v4, rfl, hv4⟩, hb⟩
  have HR4 := Hid.mk' (HR.out.keep hb)
  have HB4 := Hid.mk' (HB.out.trans (hb.mono HB.out.size))
  have KT4 := KT v4 w4 hv4
  clear hb hv4 KT KR
  go_wp2_with fail
  refine KT4.out.mono ?_
  rintro e w9 ⟨rfl, hb⟩
  have HB9 := Hid.mk' (HB4.out.trans (hb.mono HB4.out.size))
  obtain ⟨⟨r0, r1, r2⟩, v0, v1, v2⟩ := HR4.out.keep hb
  clear hb HR4 HB4 KT4
  go_wp2
  exact bodyPost_ret (v := RV true t r) (by simp [results, Tryd.results12, go_sem, r0, r1, r2]) rfl ⟨rfl, by repeat (first | exact HB9.out | refine Below.setCell ?_ (by first | (simp; done) | (simp; omega) | omega) _ | refine Below.drew ?_)⟩
set_option maxHeartbeats 4000000 in
set_option maxRecDepth 100000 in
theorem sconv_177 (a k : Int) (g : Bool) (x : Int) (s : Nat) (t r : Int) (w : World)
    (KR : ∀ w, Hid (Calls Tryd.prog 26 #[FSw, .int .u64 a] w fun e w' => (∃ v, e = .returned (SV k g v x) ∧ SN w' v s) ∧ Below w.heap.size w w'))
    (KT : ∀ v w, SN w v s → Hid (Calls Tryd.prog 42 #[SV k g v x, .int .i64 64, .bool false] w fun e w' => e = .returned (RV true t r) ∧ Below w.heap.size w w')) :
    Calls Tryd.prog 12 #[.int .i64 177, .int .u64 a] w fun e w' => e = .returned (RV true t r) ∧ Below w.heap.size w w' := by
  go_enter Tryd.func12, Tryd.ntmps12
  go_wp2_with fail
  refine (form_n _).mono ?_
  rintro e w1 ⟨rfl, hb⟩
  have HR := Hid.mk' (r3_new.keep hb)
  have HB := Hid.mk' (below_box hb)
  have hl := HR.out.1.lt
  clear hb
  go_wp2_with fail
  refine (form_w _).mono ?_
  rintro e w2 ⟨rfl, hb⟩
  have HR2 := Hid.mk' (HR.out.past.keep hb)
  have HB2 := Hid.mk' ((HB.out.alloc HB.out.size _).trans (hb.mono (Nat.le_trans HB.out.size (by simp))))
  have HF2 := Hid.mk' (r3_new.keep hb)
  obtain ⟨⟨f0, f1, f2⟩, y0, y1, y2⟩ := HF2.out
  have hsz := HB.out.size
  clear hb HR HB
  go_upto_region 10 with fail
  refine wp_gen (fun wz => R3 wz w1.heap.size (.int .i64 53) (.int .i64 11) (.int .i64 (-1074)) ∧ RZ wz w.heap.size ∧ Below w.heap.size w wz) ⟨HF2.out.setAll, ((HR2.out.far (by omega)).far (by omega)).far (by omega), ((HB2.out.setCell (by simp; omega) _).setCell (by simp; omega) _).setCell (by simp; omega) _⟩ ?_
  generalize w1.heap.size = gf at *
  clear HF2 f0 f1 f2 y0 y1 y2 HR2 HB2
  rintro w3 ⟨⟨⟨f0, f1, f2⟩, -⟩, hr3, hb3⟩
  have HR := Hid.mk' hr3
  have HB := Hid.mk' hb3
  clear hr3 hb3
  go_wp2_with fail
  refine (KR _).out.mono ?_
  rintro e w4 ⟨⟨v4, rfl, hv4⟩, hb⟩
  have HR4 := Hid.mk' (HR.out.keep hb)
  have HB4 := Hid.mk' (HB.out.trans (hb.mono HB.out.size))
  have KT4 := KT v4 w4 hv4
  clear hb hv4 KT KR
  go_wp2_with fail
  refine KT4.out.mono ?_
  rintro e w9 ⟨rfl, hb⟩
  have HB9 := Hid.mk' (HB4.out.trans (hb.mono HB4.out.size))
  obtain ⟨⟨r0, r1, r2⟩, v0, v1, v2⟩ := HR4.out.keep hb
  clear hb HR4 HB4 KT4
  go_wp2
  exact bodyPost_ret (v := RV true t r) (by simp [results, Tryd.results12, go_sem, r0, r1, r2]) rfl ⟨rfl, by repeat (first | exact HB9.out | refine Below.setCell ?_ (by first | (simp; done) | (simp; omega) | omega) _ | refine Below.drew ?_)⟩
set_option maxHeartbeats 4000000 in
set_option maxRecDepth 100000 in
theorem sconv_178 (a R : Int) (w : World)
    (KF : ∀ w, Hid (Calls Tryd.prog 43 #[FSn, .int .u64 a, .int .i64 32, .bool true] w fun e w' => e = .returned (RV true 0 R) ∧ Below w.heap.size w w')) :
    Calls Tryd.prog 12 #[.int .i64 178, .int .u64 a] w fun e w' => e = .returned (RV true 0 R) ∧ Below w.heap.size w w' := by
  go_enter Tryd.func12, Tryd.ntmps12
  go_wp2_with fail
  refine (form_n _).mono ?_
  rintro e w1 ⟨rfl, hb⟩
  have HR := Hid.mk' (r3_new.keep hb)
  have HB := Hid.mk' (below_box hb)
  clear hb
  go_wp2_with fail
  refine (KF _).out.mono ?_
  rintro e w9 ⟨rfl, hb⟩
  have HB9 := Hid.mk' (HB.out.trans (hb.mono HB.out.size))
  obtain ⟨⟨r0, r1, r2⟩, v0, v1, v2⟩ := HR.out.keep hb
  clear hb HR HB KF
  go_wp2
  exact bodyPost_ret (v := RV true 0 R) (by simp [results, Tryd.results12, go_sem, r0, r1, r2]) rfl ⟨rfl, by repeat (first | exact HB9.out | refine Below.setCell ?_ (by first | (simp; done) | (simp; omega) | omega) _ | refine Below.drew ?_)⟩
set_option maxHeartbeats 4000000 in
set_option maxRecDepth 100000 in
theorem sconv_179 (a R : Int) (w : World)
    (KF : ∀ w, Hid (Calls Tryd.prog 43 #[FSn, .int .u64 a, .int .i64 32, .bool false] w fun e w' => e = .returned (RV true 0 R) ∧ Below w.heap.size w w')) :
    Calls Tryd.prog 12 #[.int .i64 179, .int .u64 a] w fun e w' => e = .returned (RV true 0 R) ∧ Below w.heap.size w w' := by
  go_enter Tryd.func12, Tryd.ntmps12
  go_wp2_with fail
  refine (form_n _).mono ?_
  rintro e w1 ⟨rfl, hb⟩
  have HR := Hid.mk' (r3_new.keep hb)
  have HB := Hid.mk' (below_box hb)
  clear hb
  go_wp2_with fail
  refine (KF _).out.mono ?_
  rintro e w9 ⟨rfl, hb⟩
  have HB9 := Hid.mk' (HB.out.trans (hb.mono HB.out.size))
  obtain ⟨⟨r0, r1, r2⟩, v0, v1, v2⟩ := HR.out.keep hb
  clear hb HR HB KF
  go_wp2
  exact bodyPost_ret (v := RV true 0 R) (by simp [results, Tryd.results12, go_sem, r0, r1, r2]) rfl ⟨rfl, by repeat (first | exact HB9.out | refine Below.setCell ?_ (by first | (simp; done) | (simp; omega) | omega) _ | refine Below.drew ?_)⟩
set_option maxHeartbeats 4000000 in
set_option maxRecDepth 100000 in
theorem sconv_180 (a R : Int) (w : World)
    (KF : ∀ w, Hid (Calls Tryd.prog 43 #[FSn, .int .u64 a, .int .i64 64, .bool true] w fun e w' => e = .returned (RV true 0 R) ∧ Below w.heap.size w w')) :
    Calls Tryd.prog 12 #[.int .i64 180, .int .u64 a] w fun e w' => e = .returned (RV true 0 R) ∧ Below w.heap.size w w' := by
  go_enter Tryd.func12, Tryd.ntmps12
  go_wp2_with fail
  refine (form_n _).mono ?_
  rintro e w1 ⟨rfl, hb⟩
  have HR := Hid.mk' (r3_new.keep hb)
  have HB := Hid.mk' (below_box hb)
  clear hb
  go_wp2_with fail
  refine (KF _).out.mono ?_
  rintro e w9 ⟨rfl, hb⟩
  have HB9 := Hid.mk' (HB.out.trans (hb.mono HB.out.size))
  obtain ⟨⟨r0, r1, r2⟩, v0, v1, v2⟩ := HR.out.keep hb
  clear hb HR HB KF
  go_wp2
  exact bodyPost_ret (v := RV true 0 R) (by simp [results, Tryd.results12, go_sem, r0, r1, r2]) rfl ⟨rfl, by repeat (first | exact HB9.out | refine Below.setCell ?_ (by first | (simp; done) | (simp; omega) | omega) _ | refine Below.drew ?_)⟩
set_option maxHeartbeats 4000000 in
set_option maxRecDepth 100000 in
theorem sconv_181 (a R : Int) (w : World)
    (KF : ∀ w, Hid (Calls Tryd.prog 43 #[FSn, .int .u64 a, .int .i64 64, .bool false] w fun e w' => e = .returned (RV true 0 R) ∧ Below w.heap.size w w')) :
    Calls Tryd.prog 12 #[.int .i64 181, .int .u64 a] w fun e w' => e = .returned (RV true 0 R) ∧ Below w.heap.size w w' := by
  go_enter Tryd.func12, Tryd.ntmps12
  go_wp2_with fail
  refine (form_n _).mono ?_
  rintro e w1 ⟨rfl, hb⟩
  have HR := Hid.mk' (r3_new.keep hb)
  have HB := Hid.mk' (below_box hb)
  clear hb
  go_wp2_with fail
  refine (KF _).out.mono ?_
  rintro e w9 ⟨rfl, hb⟩
  have HB9 := Hid.mk' (HB.out.trans (hb.mono HB.out.size))
  obtain ⟨⟨r0, r1, r2⟩, v0, v1, v2⟩ := HR.out.keep hb
  clear hb HR HB KF
  go_wp2
  exact bodyPost_ret (v := RV true 0 R) (by simp [results, Tryd.results12, go_sem, r0, r1, r2]) rfl ⟨rfl, by repeat (first | exact HB9.out | refine Below.setCell ?_ (by first | (simp; done) | (simp; omega) | omega) _ | refine Below.drew ?_)⟩
set_option maxHeartbeats 4000000 in
set_option maxRecDepth 100000 in
theorem sconv_183 (a R : Int) (w : World)
    (KF : ∀ w, Hid (Calls Tryd.prog 43 #[FSw, .int .u64 a, .int .i64 32, .bool true] w fun e w' => e = .returned (RV true 0 R) ∧ Below w.heap.size w w')) :
    Calls Tryd.prog 12 #[.int .i64 183, .int .u64 a] w fun e w' => e = .returned (RV true 0 R) ∧ Below w.heap.size w w' := by
  go_enter Tryd.func12, Tryd.ntmps12
  go_wp2_with fail
  refine (form_w _).mono ?_
  rintro e w1 ⟨rfl, hb⟩
  have HR := Hid.mk' (r3_new.keep hb)
  have HB := Hid.mk' (below_box hb)
  clear hb
  go_wp2_with fail
  refine (KF _).out.mono ?_
  rintro e w9 ⟨rfl, hb⟩
  have HB9 := Hid.mk' (HB.out.trans (hb.mono HB.out.size))
  obtain ⟨⟨r0, r1, r2⟩, v0, v1, v2⟩ := HR.out.keep hb
  clear hb HR HB KF
  go_wp2
  exact bodyPost_ret (v := RV true 0 R) (by simp [results, Tryd.results12, go_sem, r0, r1, r2]) rfl ⟨rfl, by repeat (first | exact HB9.out | refine Below.setCell ?_ (by first | (simp; done) | (simp; omega) | omega) _ | refine Below.drew ?_)⟩
set_option maxHeartbeats 4000000 in
set_option maxRecDepth 100000 in
theorem sconv_184 (a R : Int) (w : World)
    (KF : ∀ w, Hid (Calls Tryd.prog 43 #[FSw, .int .u64 a, .int .i64 32, .bool false] w fun e w' => e = .returned (RV true 0 R) ∧ Below w.heap.size w w')) :
    Calls Tryd.prog 12 #[.int .i64 184, .int .u64 a] w fun e w' => e = .returned (RV true 0 R) ∧ Below w.heap.size w w' := by
  go_enter Tryd.func12, Tryd.ntmps12
  go_wp2_with fail
  refine (form_w _).mono ?_
  rintro e w1 ⟨rfl, hb⟩
  have HR := Hid.mk' (r3_new.keep hb)
  have HB := Hid.mk' (below_box hb)
  clear hb
  go_wp2_with fail
  refine (KF _).out.mono ?_
  rintro e w9 ⟨rfl, hb⟩
  have HB9 := Hid.mk' (HB.out.trans (hb.mono HB.out.size))
  obtain ⟨⟨r0, r1, r2⟩, v0, v1, v2⟩ := HR.out.keep hb
  clear hb HR HB KF
  go_wp2
  exact bodyPost_ret (v := RV true 0 R) (by simp [results, Tryd.results12, go_sem, r0, r1, r2]) rfl ⟨rfl, by repeat (first | exact HB9.out | refine Below.setCell ?_ (by first | (simp; done) | (simp; omega) | omega) _ | refine Below.drew ?_)⟩
set_option maxHeartbeats 4000000 in
set_option maxRecDepth 100000 in
theorem sconv_185 (a R : Int) (w : World)
    (KF : ∀ w, Hid (Calls Tryd.prog 43 #[FSw, .int .u64 a, .int .i64 64, .bool true] w fun e w' => e = .returned (RV true 0 R) ∧ Below w.heap.size w w')) :
    Calls Tryd.prog 12 #[.int .i64 185, .int .u64 a] w fun e w' => e = .returned (RV true 0 R) ∧ Below w.heap.size w w' := by
  go_enter Tryd.func12, Tryd.ntmps12
  go_wp2_with fail
  refine (form_w _).mono ?_
  rintro e w1 ⟨rfl, hb⟩
  have HR := Hid.mk' (r3_new.keep hb)
  have HB := Hid.mk' (below_box hb)
  clear hb
  go_wp2_with fail
  refine (KF _).out.mono ?_
  rintro e w9 ⟨rfl, hb⟩
  have HB9 := Hid.mk' (HB.out.trans (hb.mono HB.out.size))
  obtain ⟨⟨r0, r1, r2⟩, v0, v1, v2⟩ := HR.out.keep hb
  clear hb HR HB KF
  go_wp2
  exact bodyPost_ret (v := RV true 0 R) (by simp [results, Tryd.results12, go_sem, r0, r1, r2]) rfl ⟨rfl, by repeat (first | exact HB9.out | refine Below.setCell ?_ (by first | (simp; done) | (simp; omega) | omega) _ | refine Below.drew ?_)⟩
set_option maxHeartbeats 4000000 in
set_option maxRecDepth 100000 in
theorem sconv_186 (a R : Int) (w : World)
    (KF : ∀ w, Hid (Calls Tryd.prog 43 #[FSw, .int .u64 a, .int .i64 64, .bool false] w fun e w' => e = .returned (RV true 0 R) ∧ Below w.heap.size w w')) :
    Calls Tryd.prog 12 #[.int .i64 186, .int .u64 a] w fun e w' => e = .returned (RV true 0 R) ∧ Below w.heap.size w w' := by
  go_enter Tryd.func12, Tryd.ntmps12
  go_wp2_with fail
  refine (form_w _).mono ?_
  rintro e w1 ⟨rfl, hb⟩
  have HR := Hid.mk' (r3_new.keep hb)
  have HB := Hid.mk' (below_box hb)
  clear hb
  go_wp2_with fail
  refine (KF _).out.mono ?_
  rintro e w9 ⟨rfl, hb⟩
  have HB9 := Hid.mk' (HB.out.trans (hb.mono HB.out.size))
  obtain ⟨⟨r0, r1, r2⟩, v0, v1, v2⟩ := HR.out.keep hb
  clear hb HR HB KF
  go_wp2
  exact bodyPost_ret (v := RV true 0 R) (by simp [results, Tryd.results12, go_sem, r0, r1, r2]) rfl ⟨rfl, by repeat (first | exact HB9.out | refine Below.setCell ?_ (by first | (simp; done) | (simp; omega) | omega) _ | refine Below.drew ?_)⟩
set_option maxHeartbeats 4000000 in
set_option maxRecDepth 100000 in
theorem sconv_182 (a k : Int) (g : Bool) (x : Int) (s : Nat) (R : Int) (w : World)
    (KR : ∀ w, Hid (Calls Tryd.prog 26 #[FSw, .int .u64 a] w fun e w' => (∃ v, e = .returned (SV k g v x) ∧ SN w' v s) ∧ Below w.heap.size w w'))
    (KW : ∀ v w, SN w v s → Hid (Calls Tryd.prog 29 #[FSn, SV k g v x] w fun e w' => e = .returned (.int .u64 R) ∧ Below w.heap.size w w')) :
    Calls Tryd.prog 12 #[.int .i64 182, .int .u64 a] w fun e w' => e = .returned (RV true 0 R) ∧ Below w.heap.size w w' := by
  go_enter Tryd.func12, Tryd.ntmps12
  go_wp2_with fail
  refine (form_n _).mono ?_
  rintro e w1 ⟨rfl, hb⟩
  have HR := Hid.mk' (r3_new.keep hb)
  have HB := Hid.mk' (below_box hb)
  clear hb
  go_wp2_with fail
  refine (form_w _).mono ?_
  rintro e w2 ⟨rfl, hb⟩
  have HR2 := Hid.mk' (HR.out.keep hb)
  have HB2 := Hid.mk' (HB.out.trans (hb.mono HB.out.size))
  clear hb HR HB
  go_wp2_with fail
  refine (KR _).out.mono ?_
  rintro e w3 ⟨⟨v3, rfl, hv3⟩, hb⟩
  have HR := Hid.mk' (HR2.out.keep hb)
  have HB := Hid.mk' (HB2.out.trans (hb.mono HB2.out.size))
  have KW3 := KW v3 w3 hv3
  clear hb HR2 HB2 KW KR hv3
  go_wp2_with fail
  refine KW3.out.mono ?_
  rintro e w4 ⟨rfl, hb⟩
  have HR2 := Hid.mk' (HR.out.keep hb)
  have HB2 := Hid.mk' (HB.out.trans (hb.mono HB.out.size))
  clear hb HR HB KW3
  go_wp2_with fail
  refine (val_eq R R _ rfl).mono ?_
  rintro e w9 ⟨rfl, hb⟩
  have HB9 := Hid.mk' (HB2.out.trans (hb.mono HB2.out.size))
  obtain ⟨⟨r0, r1, r2⟩, v0, v1, v2⟩ := HR2.out.keep hb
  clear hb HR2 HB2
  go_wp2
  exact bodyPost_ret (v := RV true 0 R) (by simp [results, Tryd.results12, go_sem, r0, r1, r2]) rfl ⟨rfl, by repeat (first | exact HB9.out | refine Below.setCell ?_ (by first | (simp; done) | (simp; omega) | omega) _ | refine Below.drew ?_)⟩
set_option maxHeartbeats 4000000 in
set_option maxRecDepth 100000 in
theorem sconv_187 (a k : Int) (g : Bool) (x : Int) (s : Nat) (R : Int) (w : World)
    (KR : ∀ w, Hid (Calls Tryd.prog 26 #[FSn, .int .u64 a] w fun e w' => (∃ v, e = .returned (SV k g v x) ∧ SN w' v s) ∧ Below w.heap.size w w'))
    (KW : ∀ v w, SN w v s → Hid (Calls Tryd.prog 29 #[FSw, SV k g v x] w fun e w' => e = .returned (.int .u64 R) ∧ Below w.heap.size w w')) :
    Calls Tryd.prog 12 #[.int .i64 187, .int .u64 a] w fun e w' => e = .returned (RV true 0 R) ∧ Below w.heap.size w w' := by
  go_enter Tryd.func12, Tryd.ntmps12
  go_wp2_with fail
  refine (form_w _).mono ?_
  rintro e w1 ⟨rfl, hb⟩
  have HR := Hid.mk' (r3_new.keep hb)
  have HB := Hid.mk' (below_box hb)
  clear hb
  go_wp2_with fail
  refine (form_n _).mono ?_
  rintro e w2 ⟨rfl, hb⟩
  have HR2 := Hid.mk' (HR.out.keep hb)
  have HB2 := Hid.mk' (HB.out.trans (hb.mono HB.out.size))
  clear hb HR HB
  go_wp2_with fail
  refine (KR _).out.mono ?_
  rintro e w3 ⟨⟨v3, rfl, hv3⟩, hb⟩
  have HR := Hid.mk' (HR2.out.keep hb)
  have HB := Hid.mk' (HB2.out.trans (hb.mono HB2.out.size))
  have KW3 := KW v3 w3 hv3
  clear hb HR2 HB2 KW KR hv3
  go_wp2_with fail
  refine KW3.out.mono ?_
  rintro e w4 ⟨rfl, hb⟩
  have HR2 := Hid.mk' (HR.out.keep hb)
  have HB2 := Hid.mk' (HB.out.trans (hb.mono HB.out.size))
  clear hb HR HB KW3
  go_wp2_with fail
  refine (val_eq R R _ rfl).mono ?_
  rintro e w9 ⟨rfl, hb⟩
  have HB9 := Hid.mk' (HB2.out.trans (hb.mono HB2.out.size))
  obtain ⟨⟨r0, r1, r2⟩, v0, v1, v2⟩ := HR2.out.keep hb
  clear hb HR2 HB2
  go_wp2
  exact bodyPost_ret (v := RV true 0 R) (by simp [results, Tryd.results12, go_sem, r0, r1, r2]) rfl ⟨rfl, by repeat (first | exact HB9.out | refine Below.setCell ?_ (by first | (simp; done) | (simp; omega) | omega) _ | refine Below.drew ?_)⟩
set_option maxHeartbeats 4000000 in
set_option maxRecDepth 100000 in
theorem sconv_188 (a : Int) (w : World) (h0 : 0 ≤ a) (h1 : a ≤ 18446744073709551615) :
    Calls Tryd.prog 12 #[.int .i64 188, .int .u64 a] w fun e w' => e = .returned (RV true 0 (a % 4294967296)) ∧ Below w.heap.size w w' := by
  go_enter Tryd.func12, Tryd.ntmps12
  go_wp2_with fail
  refine (low32 a _ h0 h1).mono ?_
  rintro e w1 ⟨rfl, rfl⟩
  go_wp2_with fail
  refine (val_eq (a % 4294967296) (a % 4294967296) _ rfl).mono ?_
  rintro e w9 ⟨rfl, hb⟩
  have HB9 := Hid.mk' (below_box hb)
  obtain ⟨⟨r0, r1, r2⟩, v0, v1, v2⟩ := r3_new.keep hb
  clear hb
  go_wp2
  exact bodyPost_ret (v := RV true 0 (a % 4294967296)) (by simp [results, Tryd.results12, go_sem, r0, r1, r2]) rfl ⟨rfl, by repeat (first | exact HB9.out | refine Below.setCell ?_ (by first | (simp; done) | (simp; omega) | omega) _ | refine Below.drew ?_)⟩
set_option maxHeartbeats 4000000 in
set_option maxRecDepth 100000 in
theorem sconv_190 (a : Int) (w : World) (h0 : 0 ≤ a) (h1 : a ≤ 18446744073709551615) :
    Calls Tryd.prog 12 #[.int .i64 190, .int .u64 a] w fun e w' => e = .returned (RV true 0 (a % 4294967296)) ∧ Below w.heap.size w w' := by
  go_enter Tryd.func12, Tryd.ntmps12
  go_wp2_with fail
  refine (low32 a _ h0 h1).mono ?_
  rintro e w1 ⟨rfl, rfl⟩
  go_wp2_with fail
  refine (val_eq (a % 4294967296) (a % 4294967296) _ rfl).mono ?_
  rintro e w9 ⟨rfl, hb⟩
  have HB9 := Hid.mk' (below_box hb)
  obtain ⟨⟨r0, r1, r2⟩, v0, v1, v2⟩ := r3_new.keep hb
  clear hb
  go_wp2
  exact bodyPost_ret (v := RV true 0 (a % 4294967296)) (by simp [results, Tryd.results12, go_sem, r0, r1, r2]) rfl ⟨rfl, by repeat (first | exact HB9.out | refine Below.setCell ?_ (by first | (simp; done) | (simp; omega) | omega) _ | refine Below.drew ?_)⟩
set_option maxHeartbeats 4000000 in
set_option maxRecDepth 100000 in
theorem sconv_189 (a : Int) (w : World) (h0 : 0 ≤ a) (h1 : a ≤ 18446744073709551615) :
    Calls Tryd.prog 12 #[.int .i64 189, .int .u64 a] w fun e w' => e = .returned (RV true 0 a) ∧ Below w.heap.size w w' := by
  go_enter Tryd.func12, Tryd.ntmps12
  go_wp2_with fail
  refine (val_eq a a _ rfl).mono ?_
  rintro e w9 ⟨rfl, hb⟩
  have HB9 := Hid.mk' (below_box hb)
  obtain ⟨⟨r0, r1, r2⟩, v0, v1, v2⟩ := r3_new.keep hb
  clear hb
  go_wp2
  exact bodyPost_ret (v := RV true 0 a) (by simp [results, Tryd.results12, go_sem, r0, r1, r2]) rfl ⟨rfl, by repeat (first | exact HB9.out | refine Below.setCell ?_ (by first | (simp; done) | (simp; omega) | omega) _ | refine Below.drew ?_)⟩
set_option maxHeartbeats 4000000 in
set_option maxRecDepth 100000 in
theorem sconv_191 (a : Int) (w : World) (h0 : 0 ≤ a) (h1 : a ≤ 18446744073709551615) :
    Calls Tryd.prog 12 #[.int .i64 191, .int .u64 a] w fun e w' => e = .returned (RV true 0 a) ∧ Below w.heap.size w w' := by
  go_enter Tryd.func12, Tryd.ntmps12
  go_wp2_with fail
  refine (val_eq a a _ rfl).mono ?_
  rintro e w9 ⟨rfl, hb⟩
  have HB9 := Hid.mk' (below_box hb)
  obtain ⟨⟨r0, r1, r2⟩, v0, v1, v2⟩ := r3_new.keep hb
  clear hb
  go_wp2
  exact bodyPost_ret (v := RV true 0 a) (by simp [results, Tryd.results12, go_sem, r0, r1, r2]) rfl ⟨rfl, by repeat (first | exact HB9.out | refine Below.setCell ?_ (by first | (simp; done) | (simp; omega) | omega) _ | refine Below.drew ?_)⟩
set_option maxHeartbeats 4000000 in
set_option maxRecDepth 100000 in
theorem sconv_none (op a : Int) (w : World) (h1 : ¬ (168 ≤ op ∧ op ≤ 171)) (h2 : ¬ (174 ≤ op ∧ op ≤ 191)) (hl : -9223372036854775808 ≤ op) (hr : op ≤ 9223372036854775807) :
    Calls Tryd.prog 12 #[.int .i64 op, .int .u64 a] w fun e w' => e = .returned (RV false 0 0) ∧ Below w.heap.size w w' := by
  have e182 : (op == 182) = false := beq_eq_false_iff_ne.2 (by omega)
  have e187 : (op == 187) = false := beq_eq_false_iff_ne.2 (by omega)
  have e188 : (op == 188) = false := beq_eq_false_iff_ne.2 (by omega)
  have e190 : (op == 190) = false := beq_eq_false_iff_ne.2 (by omega)
  have e189 : (op == 189) = false := beq_eq_false_iff_ne.2 (by omega)
  have e191 : (op == 191) = false := beq_eq_false_iff_ne.2 (by omega)
  rcases (show op < 168 ∨ (171 < op ∧ op < 174) ∨ 191 < op by omega) with h | ⟨h, h'⟩ | h
  · have a1 : ¬ 168 ≤ op := by omega
    have a2 : ¬ 174 ≤ op := by omega
    have a3 : ¬ 178 ≤ op := by omega
    have a4 : ¬ 183 ≤ op := by omega
    clear h
    clear h1 h2
    go_enter Tryd.func12, Tryd.ntmps12
    go_wp2
    exact bodyPost_ret (v := RV false 0 0) (by simp [results, Tryd.results12, go_sem]) rfl ⟨rfl, by repeat (first | exact Below.refl _ _ | refine Below.setCell ?_ (by first | (simp; done) | (simp; omega) | omega) _ | refine Below.alloc ?_ (by first | (simp; done) | (simp; omega)) _)⟩
  · have a1 : 168 ≤ op := by omega
    have a1' : ¬ op ≤ 171 := by omega
    have a2 : ¬ 174 ≤ op := by omega
    have a3 : ¬ 178 ≤ op := by omega
    have a4 : ¬ 183 ≤ op := by omega
    clear h h'
    clear h1 h2
    go_enter Tryd.func12, Tryd.ntmps12
    go_wp2
    exact bodyPost_ret (v := RV false 0 0) (by simp [results, Tryd.results12, go_sem]) rfl ⟨rfl, by repeat (first | exact Below.refl _ _ | refine Below.setCell ?_ (by first | (simp; done) | (simp; omega) | omega) _ | refine Below.alloc ?_ (by first | (simp; done) | (simp; omega)) _)⟩
  · have a1 : 168 ≤ op := by omega
    have a1' : ¬ op ≤ 171 := by omega
    have a2 : 174 ≤ op := by omega
    have a2' : ¬ op ≤ 177 := by omega
    have a3 : 178 ≤ op := by omega
    have a3' : ¬ op ≤ 181 := by omega
    have a4 : 183 ≤ op := by omega
    have a4' : ¬ op ≤ 186 := by omega
    clear h
    clear h1 h2
    go_enter Tryd.func12, Tryd.ntmps12
    go_wp2
    exact bodyPost_ret (v := RV false 0 0) (by simp [results, Tryd.results12, go_sem]) rfl ⟨rfl, by repeat (first | exact Below.refl _ _ | refine Below.setCell ?_ (by first | (simp; done) | (simp; omega) | omega) _ | refine Below.alloc ?_ (by first | (simp; done) | (simp; omega)) _)⟩
end Go.Proofs.YthmppcfhbbjhlaaDoor
