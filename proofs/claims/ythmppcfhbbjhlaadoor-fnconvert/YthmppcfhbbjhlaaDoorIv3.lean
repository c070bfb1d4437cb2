import Derived.Test.YthmppcfhbbjhlaaDoorIvp
set_option linter.all false
namespace Go.Proofs.YthmppcfhbbjhlaaDoor
open Go.RowKit Go.Sort

set_option maxHeartbeats 4000000 in
set_option maxRecDepth 100000 in
theorem iconv_178 (a : Int) (g : Bool) (x lo hi R : Int) (w : World) (hT : Tab0 w) (hz : 0 < w.heap.size)
    (KO : ∀ w, Hid (Calls Tryd.prog 45 #[.int .i64 0, .int .u64 a] w fun e w' => e = .returned (NV 0 g x lo hi) ∧ Below w.heap.size w w'))
    (KW : ∀ w, Hid (Calls Tryd.prog 39 #[FVn, NV 0 g x lo hi] w fun e w' => e = .returned (.int .u64 R) ∧ Below w.heap.size w w')) :
    Calls Tryd.prog 13 #[.int .i64 178, .int .u64 a] w fun e w' => e = .returned (RV true 0 R) ∧ Below w.heap.size w w' := by
  have HT := Hid.mk' hT
  obtain ⟨⟨h0, h1, h2, h3⟩, h4, h5, h6, h7⟩ := hT
  go_enter Tryd.func13, Tryd.ntmps13
  go_upto_region 1 with fail
  go_cut [5, 6] from 7 (fun v5 v6 wz => ∃ gn gw : Nat, v5 = .pointer (some ⟨gn, 0, none⟩) ∧ v6 = .pointer (some ⟨gw, 0, none⟩) ∧ RZ wz w.heap.size ∧ C4 wz gn (.int .i64 32) (.int .i64 23) (.int .i64 (-149)) (.int .u64 2143289344) ∧ C4 wz gw (.int .i64 64) (.int .i64 52) (.int .i64 (-1074)) (.int .u64 9221120237041090560) ∧ Below w.heap.size w wz)
  case first =>
    go_region
    · go_wp2
      go_meet
      case rel => first | exact ⟨w.heap.size + 1, w.heap.size + 2, rfl, rfl, r3_new.past.past.drew, c4_newA.drew, c4_newB.drew, ((((Below.refl _ _).alloc (Nat.le_refl _) _).alloc (by simp) _).alloc (by simp; omega) _).drew⟩ | exact ⟨w.heap.size + 2, w.heap.size + 1, rfl, rfl, r3_new.past.past.drew, c4_newB.drew, c4_newA.drew, ((((Below.refl _ _).alloc (Nat.le_refl _) _).alloc (by simp) _).alloc (by simp; omega) _).drew⟩
    · go_wp2
      go_meet
      case rel => first | exact ⟨w.heap.size + 1, w.heap.size + 2, rfl, rfl, r3_new.past.past.drew, c4_newA.drew, c4_newB.drew, ((((Below.refl _ _).alloc (Nat.le_refl _) _).alloc (by simp) _).alloc (by simp; omega) _).drew⟩ | exact ⟨w.heap.size + 2, w.heap.size + 1, rfl, rfl, r3_new.past.past.drew, c4_newB.drew, c4_newA.drew, ((((Below.refl _ _).alloc (Nat.le_refl _) _).alloc (by simp) _).alloc (by simp; omega) _).drew⟩
  case rest =>
  obtain ⟨gn, gw, rfl, rfl, hr, hn, hw, hb⟩ := hcut
  clear h0 h1 h2 h3 h4 h5 h6 h7
  have HR := Hid.mk' hr
  have HNn := Hid.mk' hn
  have HNw := Hid.mk' hw
  have HB := Hid.mk' hb
  have HT1 := Hid.mk' (HT.out.below hb hz)
  have hz1 : 0 < wc.heap.size := Nat.lt_of_lt_of_le hz hb.size
  clear hr hn hw hb HT
  obtain ⟨q0, q1, q2, q3⟩ := HNn.out
  clear HT1
  go_upto_region 17 with fail
  go_region_with (first
    | (go_at_call 45; refine (KO _).out.mono ?_; rintro e w6 ⟨rfl, hb6⟩; have hb6 := undrew hb6; obtain ⟨q0', q1', q2', q3'⟩ := HNn.out.keep hb6; have hr6 := HR.out.keep hb6; have hB6 := HB.out.trans (hb6.mono HB.out.size); clear hb6)
    | (go_at_call 39; refine (KW _).out.mono ?_; rintro e w7 ⟨rfl, hb7⟩; have hr7 := R3.keep hr6 hb7; have hB7 := hB6.trans (hb7.mono hB6.size); clear hb7)
    | (go_at_call 34; refine (done_any R _).mono ?_; rintro e w8 ⟨rfl, hb8⟩; obtain ⟨⟨r0, r1, r2⟩, v0, v1, v2⟩ := R3.keep hr7 hb8; have hB8 := hB7.trans (hb8.mono hB7.size); have HB8 := Hid.mk' hB8; clear hb8 hB8))
  all_goals go_wp2
  all_goals (exact bodyPost_ret (v := RV true 0 R) (by simp [results, Tryd.results13, go_sem, r0, r1, r2]) rfl ⟨rfl, by repeat (first | exact HB8.out | refine Below.setCell ?_ (by first | (simp; done) | (simp; omega) | omega) _ | refine Below.drew ?_)⟩)
set_option maxHeartbeats 4000000 in
set_option maxRecDepth 100000 in
theorem iconv_179 (a : Int) (g : Bool) (x lo hi R : Int) (w : World) (hT : Tab0 w) (hz : 0 < w.heap.size)
    (KO : ∀ w, Hid (Calls Tryd.prog 45 #[.int .i64 1, .int .u64 a] w fun e w' => e = .returned (NV 0 g x lo hi) ∧ Below w.heap.size w w'))
    (KW : ∀ w, Hid (Calls Tryd.prog 39 #[FVn, NV 0 g x lo hi] w fun e w' => e = .returned (.int .u64 R) ∧ Below w.heap.size w w')) :
    Calls Tryd.prog 13 #[.int .i64 179, .int .u64 a] w fun e w' => e = .returned (RV true 0 R) ∧ Below w.heap.size w w' := by
  have HT := Hid.mk' hT
  obtain ⟨⟨h0, h1, h2, h3⟩, h4, h5, h6, h7⟩ := hT
  go_enter Tryd.func13, Tryd.ntmps13
  go_upto_region 1 with fail
  go_cut [5, 6] from 7 (fun v5 v6 wz => ∃ gn gw : Nat, v5 = .pointer (some ⟨gn, 0, none⟩) ∧ v6 = .pointer (some ⟨gw, 0, none⟩) ∧ RZ wz w.heap.size ∧ C4 wz gn (.int .i64 32) (.int .i64 23) (.int .i64 (-149)) (.int .u64 2143289344) ∧ C4 wz gw (.int .i64 64) (.int .i64 52) (.int .i64 (-1074)) (.int .u64 9221120237041090560) ∧ Below w.heap.size w wz)
  case first =>
    go_region
    · go_wp2
      go_meet
      case rel => first | exact ⟨w.heap.size + 1, w.heap.size + 2, rfl, rfl, r3_new.past.past.drew, c4_newA.drew, c4_newB.drew, ((((Below.refl _ _).alloc (Nat.le_refl _) _).alloc (by simp) _).alloc (by simp; omega) _).drew⟩ | exact ⟨w.heap.size + 2, w.heap.size + 1, rfl, rfl, r3_new.past.past.drew, c4_newB.drew, c4_newA.drew, ((((Below.refl _ _).alloc (Nat.le_refl _) _).alloc (by simp) _).alloc (by simp; omega) _).drew⟩
    · go_wp2
      go_meet
      case rel => first | exact ⟨w.heap.size + 1, w.heap.size + 2, rfl, rfl, r3_new.past.past.drew, c4_newA.drew, c4_newB.drew, ((((Below.refl _ _).alloc (Nat.le_refl _) _).alloc (by simp) _).alloc (by simp; omega) _).drew⟩ | exact ⟨w.heap.size + 2, w.heap.size + 1, rfl, rfl, r3_new.past.past.drew, c4_newB.drew, c4_newA.drew, ((((Below.refl _ _).alloc (Nat.le_refl _) _).alloc (by simp) _).alloc (by simp; omega) _).drew⟩
  case rest =>
  obtain ⟨gn, gw, rfl, rfl, hr, hn, hw, hb⟩ := hcut
  clear h0 h1 h2 h3 h4 h5 h6 h7
  have HR := Hid.mk' hr
  have HNn := Hid.mk' hn
  have HNw := Hid.mk' hw
  have HB := Hid.mk' hb
  have HT1 := Hid.mk' (HT.out.below hb hz)
  have hz1 : 0 < wc.heap.size := Nat.lt_of_lt_of_le hz hb.size
  clear hr hn hw hb HT
  obtain ⟨q0, q1, q2, q3⟩ := HNn.out
  clear HT1
  go_upto_region 17 with fail
  go_region_with (first
    | (go_at_call 45; refine (KO _).out.mono ?_; rintro e w6 ⟨rfl, hb6⟩; have hb6 := undrew hb6; obtain ⟨q0', q1', q2', q3'⟩ := HNn.out.keep hb6; have hr6 := HR.out.keep hb6; have hB6 := HB.out.trans (hb6.mono HB.out.size); clear hb6)
    | (go_at_call 39; refine (KW _).out.mono ?_; rintro e w7 ⟨rfl, hb7⟩; have hr7 := R3.keep hr6 hb7; have hB7 := hB6.trans (hb7.mono hB6.size); clear hb7)
    | (go_at_call 34; refine (done_any R _).mono ?_; rintro e w8 ⟨rfl, hb8⟩; obtain ⟨⟨r0, r1, r2⟩, v0, v1, v2⟩ := R3.keep hr7 hb8; have hB8 := hB7.trans (hb8.mono hB7.size); have HB8 := Hid.mk' hB8; clear hb8 hB8))
  all_goals go_wp2
  all_goals (exact bodyPost_ret (v := RV true 0 R) (by simp [results, Tryd.results13, go_sem, r0, r1, r2]) rfl ⟨rfl, by repeat (first | exact HB8.out | refine Below.setCell ?_ (by first | (simp; done) | (simp; omega) | omega) _ | refine Below.drew ?_)⟩)
set_option maxHeartbeats 4000000 in
set_option maxRecDepth 100000 in
theorem iconv_180 (a : Int) (g : Bool) (x lo hi R : Int) (w : World) (hT : Tab0 w) (hz : 0 < w.heap.size)
    (KO : ∀ w, Hid (Calls Tryd.prog 45 #[.int .i64 2, .int .u64 a] w fun e w' => e = .returned (NV 0 g x lo hi) ∧ Below w.heap.size w w'))
    (KW : ∀ w, Hid (Calls Tryd.prog 39 #[FVn, NV 0 g x lo hi] w fun e w' => e = .returned (.int .u64 R) ∧ Below w.heap.size w w')) :
    Calls Tryd.prog 13 #[.int .i64 180, .int .u64 a] w fun e w' => e = .returned (RV true 0 R) ∧ Below w.heap.size w w' := by
  have HT := Hid.mk' hT
  obtain ⟨⟨h0, h1, h2, h3⟩, h4, h5, h6, h7⟩ := hT
  go_enter Tryd.func13, Tryd.ntmps13
  go_upto_region 1 with fail
  go_cut [5, 6] from 7 (fun v5 v6 wz => ∃ gn gw : Nat, v5 = .pointer (some ⟨gn, 0, none⟩) ∧ v6 = .pointer (some ⟨gw, 0, none⟩) ∧ RZ wz w.heap.size ∧ C4 wz gn (.int .i64 32) (.int .i64 23) (.int .i64 (-149)) (.int .u64 2143289344) ∧ C4 wz gw (.int .i64 64) (.int .i64 52) (.int .i64 (-1074)) (.int .u64 9221120237041090560) ∧ Below w.heap.size w wz)
  case first =>
    go_region
    · go_wp2
      go_meet
      case rel => first | exact ⟨w.heap.size + 1, w.heap.size + 2, rfl, rfl, r3_new.past.past.drew, c4_newA.drew, c4_newB.drew, ((((Below.refl _ _).alloc (Nat.le_refl _) _).alloc (by simp) _).alloc (by simp; omega) _).drew⟩ | exact ⟨w.heap.size + 2, w.heap.size + 1, rfl, rfl, r3_new.past.past.drew, c4_newB.drew, c4_newA.drew, ((((Below.refl _ _).alloc (Nat.le_refl _) _).alloc (by simp) _).alloc (by simp; omega) _).drew⟩
    · go_wp2
      go_meet
      case rel => first | exact ⟨w.heap.size + 1, w.heap.size + 2, rfl, rfl, r3_new.past.past.drew, c4_newA.drew, c4_newB.drew, ((((Below.refl _ _).alloc (Nat.le_refl _) _).alloc (by simp) _).alloc (by simp; omega) _).drew⟩ | exact ⟨w.heap.size + 2, w.heap.size + 1, rfl, rfl, r3_new.past.past.drew, c4_newB.drew, c4_newA.drew, ((((Below.refl _ _).alloc (Nat.le_refl _) _).alloc (by simp) _).alloc (by simp; omega) _).drew⟩
  case rest =>
  obtain ⟨gn, gw, rfl, rfl, hr, hn, hw, hb⟩ := hcut
  clear h0 h1 h2 h3 h4 h5 h6 h7
  have HR := Hid.mk' hr
  have HNn := Hid.mk' hn
  have HNw := Hid.mk' hw
  have HB := Hid.mk' hb
  have HT1 := Hid.mk' (HT.out.below hb hz)
  have hz1 : 0 < wc.heap.size := Nat.lt_of_lt_of_le hz hb.size
  clear hr hn hw hb HT
  obtain ⟨q0, q1, q2, q3⟩ := HNn.out
  clear HT1
  go_upto_region 17 with fail
  go_region_with (first
    | (go_at_call 45; refine (KO _).out.mono ?_; rintro e w6 ⟨rfl, hb6⟩; have hb6 := undrew hb6; obtain ⟨q0', q1', q2', q3'⟩ := HNn.out.keep hb6; have hr6 := HR.out.keep hb6; have hB6 := HB.out.trans (hb6.mono HB.out.size); clear hb6)
    | (go_at_call 39; refine (KW _).out.mono ?_; rintro e w7 ⟨rfl, hb7⟩; have hr7 := R3.keep hr6 hb7; have hB7 := hB6.trans (hb7.mono hB6.size); clear hb7)
    | (go_at_call 34; refine (done_any R _).mono ?_; rintro e w8 ⟨rfl, hb8⟩; obtain ⟨⟨r0, r1, r2⟩, v0, v1, v2⟩ := R3.keep hr7 hb8; have hB8 := hB7.trans (hb8.mono hB7.size); have HB8 := Hid.mk' hB8; clear hb8 hB8))
  all_goals go_wp2
  all_goals (exact bodyPost_ret (v := RV true 0 R) (by simp [results, Tryd.results13, go_sem, r0, r1, r2]) rfl ⟨rfl, by repeat (first | exact HB8.out | refine Below.setCell ?_ (by first | (simp; done) | (simp; omega) | omega) _ | refine Below.drew ?_)⟩)
set_option maxHeartbeats 4000000 in
set_option maxRecDepth 100000 in
theorem iconv_181 (a : Int) (g : Bool) (x lo hi R : Int) (w : World) (hT : Tab0 w) (hz : 0 < w.heap.size)
    (KO : ∀ w, Hid (Calls Tryd.prog 45 #[.int .i64 3, .int .u64 a] w fun e w' => e = .returned (NV 0 g x lo hi) ∧ Below w.heap.size w w'))
    (KW : ∀ w, Hid (Calls Tryd.prog 39 #[FVn, NV 0 g x lo hi] w fun e w' => e = .returned (.int .u64 R) ∧ Below w.heap.size w w')) :
    Calls Tryd.prog 13 #[.int .i64 181, .int .u64 a] w fun e w' => e = .returned (RV true 0 R) ∧ Below w.heap.size w w' := by
  have HT := Hid.mk' hT
  obtain ⟨⟨h0, h1, h2, h3⟩, h4, h5, h6, h7⟩ := hT
  go_enter Tryd.func13, Tryd.ntmps13
  go_upto_region 1 with fail
  go_cut [5, 6] from 7 (fun v5 v6 wz => ∃ gn gw : Nat, v5 = .pointer (some ⟨gn, 0, none⟩) ∧ v6 = .pointer (some ⟨gw, 0, none⟩) ∧ RZ wz w.heap.size ∧ C4 wz gn (.int .i64 32) (.int .i64 23) (.int .i64 (-149)) (.int .u64 2143289344) ∧ C4 wz gw (.int .i64 64) (.int .i64 52) (.int .i64 (-1074)) (.int .u64 9221120237041090560) ∧ Below w.heap.size w wz)
  case first =>
    go_region
    · go_wp2
      go_meet
      case rel => first | exact ⟨w.heap.size + 1, w.heap.size + 2, rfl, rfl, r3_new.past.past.drew, c4_newA.drew, c4_newB.drew, ((((Below.refl _ _).alloc (Nat.le_refl _) _).alloc (by simp) _).alloc (by simp; omega) _).drew⟩ | exact ⟨w.heap.size + 2, w.heap.size + 1, rfl, rfl, r3_new.past.past.drew, c4_newB.drew, c4_newA.drew, ((((Below.refl _ _).alloc (Nat.le_refl _) _).alloc (by simp) _).alloc (by simp; omega) _).drew⟩
    · go_wp2
      go_meet
      case rel => first | exact ⟨w.heap.size + 1, w.heap.size + 2, rfl, rfl, r3_new.past.past.drew, c4_newA.drew, c4_newB.drew, ((((Below.refl _ _).alloc (Nat.le_refl _) _).alloc (by simp) _).alloc (by simp; omega) _).drew⟩ | exact ⟨w.heap.size + 2, w.heap.size + 1, rfl, rfl, r3_new.past.past.drew, c4_newB.drew, c4_newA.drew, ((((Below.refl _ _).alloc (Nat.le_refl _) _).alloc (by simp) _).alloc (by simp; omega) _).drew⟩
  case rest =>
  obtain ⟨gn, gw, rfl, rfl, hr, hn, hw, hb⟩ := hcut
  clear h0 h1 h2 h3 h4 h5 h6 h7
  have HR := Hid.mk' hr
  have HNn := Hid.mk' hn
  have HNw := Hid.mk' hw
  have HB := Hid.mk' hb
  have HT1 := Hid.mk' (HT.out.below hb hz)
  have hz1 : 0 < wc.heap.size := Nat.lt_of_lt_of_le hz hb.size
  clear hr hn hw hb HT
  obtain ⟨q0, q1, q2, q3⟩ := HNn.out
  clear HT1
  go_upto_region 17 with fail
  go_region_with (first
    | (go_at_call 45; refine (KO _).out.mono ?_; rintro e w6 ⟨rfl, hb6⟩; have hb6 := undrew hb6; obtain ⟨q0', q1', q2', q3'⟩ := HNn.out.keep hb6; have hr6 := HR.out.keep hb6; have hB6 := HB.out.trans (hb6.mono HB.out.size); clear hb6)
    | (go_at_call 39; refine (KW _).out.mono ?_; rintro e w7 ⟨rfl, hb7⟩; have hr7 := R3.keep hr6 hb7; have hB7 := hB6.trans (hb7.mono hB6.size); clear hb7)
    | (go_at_call 34; refine (done_any R _).mono ?_; rintro e w8 ⟨rfl, hb8⟩; obtain ⟨⟨r0, r1, r2⟩, v0, v1, v2⟩ := R3.keep hr7 hb8; have hB8 := hB7.trans (hb8.mono hB7.size); have HB8 := Hid.mk' hB8; clear hb8 hB8))
  all_goals go_wp2
  all_goals (exact bodyPost_ret (v := RV true 0 R) (by simp [results, Tryd.results13, go_sem, r0, r1, r2]) rfl ⟨rfl, by repeat (first | exact HB8.out | refine Below.setCell ?_ (by first | (simp; done) | (simp; omega) | omega) _ | refine Below.drew ?_)⟩)
end Go.Proofs.YthmppcfhbbjhlaaDoor
