import Derived.Test.YthmppcfhbbjhlaaDoorIvp
set_option linter.all false
namespace Go.Proofs.YthmppcfhbbjhlaaDoor
open Go.RowKit Go.Sort

set_option maxHeartbeats 4000000 in
set_option maxRecDepth 100000 in
theorem iconv_174 (a t r : Int) (w : World) (hT : Tab0 w) (hz : 0 < w.heap.size)
    (KF : ∀ w, Tab0 w → 0 < w.heap.size → Hid (Calls Tryd.prog 44 #[.int .i64 0, .int .i64 64, .int .u64 a] w fun e w' => e = .returned (RV true t r) ∧ Below w.heap.size w w')) :
    Calls Tryd.prog 13 #[.int .i64 174, .int .u64 a] w fun e w' => e = .returned (RV true t r) ∧ Below w.heap.size w w' := by
  have HT := Hid.mk' hT
  obtain ⟨⟨h0, h1, h2, h3⟩, h4, h5, h6, h7⟩ := hT
  go_enter Tryd.func13, Tryd.ntmps13
  go_upto_region 1 with fail
  go_cut [5, 6] from 7 (fun v5 v6 wz => ∃ gn gw : Nat, v5 = .pointer (some ⟨gn, 0, none⟩) ∧ v6 = .pointer (some ⟨gw, 0, none⟩) ∧ RZ wz w.heap.size ∧ C4 wz gn (.int .i64 32) (.int .i64 23) (.int .i64 (-149)) (.int .u64 2143289344) ∧ C4 wz gw (.int .i64 64) (.int .i64 52) (.int .i64 (-1074)) (.int .u64 9221120237041090560) ∧ Below w.heap.size w wz)
  case first =>
    go_region
    · go_wp2
      go_meet
      case rel => first | exact ⟨w.heap.size + 1, w.heap.size + 2, rfl, rfl, r3_new.past.past.drew, c4_newA.drew, c4_newB.drew, ((((Below.refl _ _).alloc (Nat.le_refl _) _).alloc (by simp) _).alloc (by simp; omega) _).drew⟩ | exact ⟨w.heap.size + 2, w.heap.size + 1, rfl, rfl, r3_new.past.past.drew, c4_newB.drew, c4_newA.drew, ((((Below.refl _ _).alloc (Nat.le_refl _) _).alloc (by simp) _).alloc (by simp; omega) _).drew⟩
    · go_wp2
      go_meet
      case rel => first | exact ⟨w.heap.size + 1, w.heap.size + 2, rfl, rfl, r3_new.past.past.drew, c4_newA.drew, c4_newB.drew, ((((Below.refl _ _).alloc (Nat.le_refl _) _).alloc (by simp) _).alloc (by simp; omega) _).drew⟩ | exact ⟨w.heap.size + 2, w.heap.size + 1, rfl, rfl, r3_new.past.past.drew, c4_newB.drew, c4_newA.drew, ((((Below.refl _ _).alloc (Nat.le_refl _) _).alloc (by simp) _).alloc (by simp; omega) _).drew⟩
  case rest =>
  obtain ⟨gn, gw, rfl, rfl, hr, hn, hw, hb⟩ := hcut
  clear h0 h1 h2 h3 h4 h5 h6 h7
  have HR := Hid.mk' hr
  have HNn := Hid.mk' hn
  have HNw := Hid.mk' hw
  have HB := Hid.mk' hb
  have HT1 := Hid.mk' (HT.out.below hb hz)
  have hz1 : 0 < wc.heap.size := Nat.lt_of_lt_of_le hz hb.size
  clear hr hn hw hb HT
  have K1 := KF wc HT1.out hz1
  clear KF HT1
  go_wp2_with fail
  refine K1.out.mono ?_
  rintro e w9 ⟨rfl, hb⟩
  have HB9 := Hid.mk' (HB.out.trans (hb.mono HB.out.size))
  obtain ⟨⟨r0, r1, r2⟩, v0, v1, v2⟩ := HR.out.keep hb
  clear hb HR HNn HNw HB K1
  go_wp2
  exact bodyPost_ret (v := RV true t r) (by simp [results, Tryd.results13, go_sem, r0, r1, r2]) rfl ⟨rfl, by repeat (first | exact HB9.out | refine Below.setCell ?_ (by first | (simp; done) | (simp; omega) | omega) _ | refine Below.drew ?_)⟩
set_option maxHeartbeats 4000000 in
set_option maxRecDepth 100000 in
theorem iconv_175 (a t r : Int) (w : World) (hT : Tab0 w) (hz : 0 < w.heap.size)
    (KF : ∀ w, Tab0 w → 0 < w.heap.size → Hid (Calls Tryd.prog 44 #[.int .i64 1, .int .i64 64, .int .u64 a] w fun e w' => e = .returned (RV true t r) ∧ Below w.heap.size w w')) :
    Calls Tryd.prog 13 #[.int .i64 175, .int .u64 a] w fun e w' => e = .returned (RV true t r) ∧ Below w.heap.size w w' := by
  have HT := Hid.mk' hT
  obtain ⟨⟨h0, h1, h2, h3⟩, h4, h5, h6, h7⟩ := hT
  go_enter Tryd.func13, Tryd.ntmps13
  go_upto_region 1 with fail
  go_cut [5, 6] from 7 (fun v5 v6 wz => ∃ gn gw : Nat, v5 = .pointer (some ⟨gn, 0, none⟩) ∧ v6 = .pointer (some ⟨gw, 0, none⟩) ∧ RZ wz w.heap.size ∧ C4 wz gn (.int .i64 32) (.int .i64 23) (.int .i64 (-149)) (.int .u64 2143289344) ∧ C4 wz gw (.int .i64 64) (.int .i64 52) (.int .i64 (-1074)) (.int .u64 9221120237041090560) ∧ Below w.heap.size w wz)
  case first =>
    go_region
    · go_wp2
      go_meet
      case rel => first | exact ⟨w.heap.size + 1, w.heap.size + 2, rfl, rfl, r3_new.past.past.drew, c4_newA.drew, c4_newB.drew, ((((Below.refl _ _).alloc (Nat.le_refl _) _).alloc (by simp) _).alloc (by simp; omega) _).drew⟩ | exact ⟨w.heap.size + 2, w.heap.size + 1, rfl, rfl, r3_new.past.past.drew, c4_newB.drew, c4_newA.drew, ((((Below.refl _ _).alloc (Nat.le_refl _) _).alloc (by simp) _).alloc (by simp; omega) _).drew⟩
    · go_wp2
      go_meet
      case rel => first | exact ⟨w.heap.size + 1, w.heap.size + 2, rfl, rfl, r3_new.past.past.drew, c4_newA.drew, c4_newB.drew, ((((Below.refl _ _).alloc (Nat.le_refl _) _).alloc (by simp) _).alloc (by simp; omega) _).drew⟩ | exact ⟨w.heap.size + 2, w.heap.size + 1, rfl, rfl, r3_new.past.past.drew, c4_newB.drew, c4_newA.drew, ((((Below.refl _ _).alloc (Nat.le_refl _) _).alloc (by simp) _).alloc (by simp; omega) _).drew⟩
  case rest =>
  obtain ⟨gn, gw, rfl, rfl, hr, hn, hw, hb⟩ := hcut
  clear h0 h1 h2 h3 h4 h5 h6 h7
  have HR := Hid.mk' hr
  have HNn := Hid.mk' hn
  have HNw := Hid.mk' hw
  have HB := Hid.mk' hb
  have HT1 := Hid.mk' (HT.out.below hb hz)
  have hz1 : 0 < wc.heap.size := Nat.lt_of_lt_of_le hz hb.size
  clear hr hn hw hb HT
  have K1 := KF wc HT1.out hz1
  clear KF HT1
  go_wp2_with fail
  refine K1.out.mono ?_
  rintro e w9 ⟨rfl, hb⟩
  have HB9 := Hid.mk' (HB.out.trans (hb.mono HB.out.size))
  obtain ⟨⟨r0, r1, r2⟩, v0, v1, v2⟩ := HR.out.keep hb
  clear hb HR HNn HNw HB K1
  go_wp2
  exact bodyPost_ret (v := RV true t r) (by simp [results, Tryd.results13, go_sem, r0, r1, r2]) rfl ⟨rfl, by repeat (first | exact HB9.out | refine Below.setCell ?_ (by first | (simp; done) | (simp; omega) | omega) _ | refine Below.drew ?_)⟩
set_option maxHeartbeats 4000000 in
set_option maxRecDepth 100000 in
theorem iconv_176 (a t r : Int) (w : World) (hT : Tab0 w) (hz : 0 < w.heap.size)
    (KF : ∀ w, Tab0 w → 0 < w.heap.size → Hid (Calls Tryd.prog 44 #[.int .i64 2, .int .i64 64, .int .u64 a] w fun e w' => e = .returned (RV true t r) ∧ Below w.heap.size w w')) :
    Calls Tryd.prog 13 #[.int .i64 176, .int .u64 a] w fun e w' => e = .returned (RV true t r) ∧ Below w.heap.size w w' := by
  have HT := Hid.mk' hT
  obtain ⟨⟨h0, h1, h2, h3⟩, h4, h5, h6, h7⟩ := hT
  go_enter Tryd.func13, Tryd.ntmps13
  go_upto_region 1 with fail
  go_cut [5, 6] from 7 (fun v5 v6 wz => ∃ gn gw : Nat, v5 = .pointer (some ⟨gn, 0, none⟩) ∧ v6 = .pointer (some ⟨gw, 0, none⟩) ∧ RZ wz w.heap.size ∧ C4 wz gn (.int .i64 32) (.int .i64 23) (.int .i64 (-149)) (.int .u64 2143289344) ∧ C4 wz gw (.int .i64 64) (.int .i64 52) (.int .i64 (-1074)) (.int .u64 9221120237041090560) ∧ Below w.heap.size w wz)
  case first =>
    go_region
    · go_wp2
      go_meet
      case rel => first | exact ⟨w.heap.size + 1, w.heap.size + 2, rfl, rfl, r3_new.past.past.drew, c4_newA.drew, c4_newB.drew, ((((Below.refl _ _).alloc (Nat.le_refl _) _).alloc (by simp) _).alloc (by simp; omega) _).drew⟩ | exact ⟨w.heap.size + 2, w.heap.size + 1, rfl, rfl, r3_new.past.past.drew, c4_newB.drew, c4_newA.drew, ((((Below.refl _ _).alloc (Nat.le_refl _) _).alloc (by simp) _).alloc (by simp; omega) _).drew⟩
    · go_wp2
      go_meet
      case rel => first | exact ⟨w.heap.size + 1, w.heap.size + 2, rfl, rfl, r3_new.past.past.drew, c4_newA.drew, c4_newB.drew, ((((Below.refl _ _).alloc (Nat.le_refl _) _).alloc (by simp) _).alloc (by simp; omega) _).drew⟩ | exact ⟨w.heap.size + 2, w.heap.size + 1, rfl, rfl, r3_new.past.past.drew, c4_newB.drew, c4_newA.drew, ((((Below.refl _ _).alloc (Nat.le_refl _) _).alloc (by simp) _).alloc (by simp; omega) _).drew⟩
  case rest =>
  obtain ⟨gn, gw, rfl, rfl, hr, hn, hw, hb⟩ := hcut
  clear h0 h1 h2 h3 h4 h5 h6 h7
  have HR := Hid.mk' hr
  have HNn := Hid.mk' hn
  have HNw := Hid.mk' hw
  have HB := Hid.mk' hb
  have HT1 := Hid.mk' (HT.out.below hb hz)
  have hz1 : 0 < wc.heap.size := Nat.lt_of_lt_of_le hz hb.size
  clear hr hn hw hb HT
  have K1 := KF wc HT1.out hz1
  clear KF HT1
  go_wp2_with fail
  refine K1.out.mono ?_
  rintro e w9 ⟨rfl, hb⟩
  have HB9 := Hid.mk' (HB.out.trans (hb.mono HB.out.size))
  obtain ⟨⟨r0, r1, r2⟩, v0, v1, v2⟩ := HR.out.keep hb
  clear hb HR HNn HNw HB K1
  go_wp2
  exact bodyPost_ret (v := RV true t r) (by simp [results, Tryd.results13, go_sem, r0, r1, r2]) rfl ⟨rfl, by repeat (first | exact HB9.out | refine Below.setCell ?_ (by first | (simp; done) | (simp; omega) | omega) _ | refine Below.drew ?_)⟩
set_option maxHeartbeats 4000000 in
set_option maxRecDepth 100000 in
theorem iconv_177 (a t r : Int) (w : World) (hT : Tab0 w) (hz : 0 < w.heap.size)
    (KF : ∀ w, Tab0 w → 0 < w.heap.size → Hid (Calls Tryd.prog 44 #[.int .i64 3, .int .i64 64, .int .u64 a] w fun e w' => e = .returned (RV true t r) ∧ Below w.heap.size w w')) :
    Calls Tryd.prog 13 #[.int .i64 177, .int .u64 a] w fun e w' => e = .returned (RV true t r) ∧ Below w.heap.size w w' := by
  have HT := Hid.mk' hT
  obtain ⟨⟨h0, h1, h2, h3⟩, h4, h5, h6, h7⟩ := hT
  go_enter Tryd.func13, Tryd.ntmps13
  go_upto_region 1 with fail
  go_cut [5, 6] from 7 (fun v5 v6 wz => ∃ gn gw : Nat, v5 = .pointer (some ⟨gn, 0, none⟩) ∧ v6 = .pointer (some ⟨gw, 0, none⟩) ∧ RZ wz w.heap.size ∧ C4 wz gn (.int .i64 32) (.int .i64 23) (.int .i64 (-149)) (.int .u64 2143289344) ∧ C4 wz gw (.int .i64 64) (.int .i64 52) (.int .i64 (-1074)) (.int .u64 9221120237041090560) ∧ Below w.heap.size w wz)
  case first =>
    go_region
    · go_wp2
      go_meet
      case rel => first | exact ⟨w.heap.size + 1, w.heap.size + 2, rfl, rfl, r3_new.past.past.drew, c4_newA.drew, c4_newB.drew, ((((Below.refl _ _).alloc (Nat.le_refl _) _).alloc (by simp) _).alloc (by simp; omega) _).drew⟩ | exact ⟨w.heap.size + 2, w.heap.size + 1, rfl, rfl, r3_new.past.past.drew, c4_newB.drew, c4_newA.drew, ((((Below.refl _ _).alloc (Nat.le_refl _) _).alloc (by simp) _).alloc (by simp; omega) _).drew⟩
    · go_wp2
      go_meet
      case rel => first | exact ⟨w.heap.size + 1, w.heap.size + 2, rfl, rfl, r3_new.past.past.drew, c4_newA.drew, c4_newB.drew, ((((Below.refl _ _).alloc (Nat.le_refl _) _).alloc (by simp) _).alloc (by simp; omega) _).drew⟩ | exact ⟨w.heap.size + 2, w.heap.size + 1, rfl, rfl, r3_new.past.past.drew, c4_newB.drew, c4_newA.drew, ((((Below.refl _ _).alloc (Nat.le_refl _) _).alloc (by simp) _).alloc (by simp; omega) _).drew⟩
  case rest =>
  obtain ⟨gn, gw, rfl, rfl, hr, hn, hw, hb⟩ := hcut
  clear h0 h1 h2 h3 h4 h5 h6 h7
  have HR := Hid.mk' hr
  have HNn := Hid.mk' hn
  have HNw := Hid.mk' hw
  have HB := Hid.mk' hb
  have HT1 := Hid.mk' (HT.out.below hb hz)
  have hz1 : 0 < wc.heap.size := Nat.lt_of_lt_of_le hz hb.size
  clear hr hn hw hb HT
  have K1 := KF wc HT1.out hz1
  clear KF HT1
  go_wp2_with fail
  refine K1.out.mono ?_
  rintro e w9 ⟨rfl, hb⟩
  have HB9 := Hid.mk' (HB.out.trans (hb.mono HB.out.size))
  obtain ⟨⟨r0, r1, r2⟩, v0, v1, v2⟩ := HR.out.keep hb
  clear hb HR HNn HNw HB K1
  go_wp2
  exact bodyPost_ret (v := RV true t r) (by simp [results, Tryd.results13, go_sem, r0, r1, r2]) rfl ⟨rfl, by repeat (first | exact HB9.out | refine Below.setCell ?_ (by first | (simp; done) | (simp; omega) | omega) _ | refine Below.drew ?_)⟩
end Go.Proofs.YthmppcfhbbjhlaaDoor
