import Derived.Test.YthmppcfhbbjhlaaDoorSt
import Derived.Test.YthmppcfhbbjhlaaDoorIi
set_option linter.all false
namespace Go.Proofs.YthmppcfhbbjhlaaDoor
open Go.RowKit Go.Sort

/-- The table of the two formats in its variable. -/
def Tab0 (w : World) : Prop :=
  (w.cell? ⟨0, 0, none⟩ = some (.int .i64 32) ∧ w.cell? ⟨0, 1, none⟩ = some (.int .i64 23) ∧ w.cell? ⟨0, 2, none⟩ = some (.int .i64 (-149)) ∧ w.cell? ⟨0, 3, none⟩ = some (.int .u64 2143289344)) ∧
  (w.cell? ⟨0, 4, none⟩ = some (.int .i64 64) ∧ w.cell? ⟨0, 5, none⟩ = some (.int .i64 52) ∧ w.cell? ⟨0, 6, none⟩ = some (.int .i64 (-1074)) ∧ w.cell? ⟨0, 7, none⟩ = some (.int .u64 9221120237041090560))
theorem Tab0.below {w w' : World} {B : Nat} (h : Tab0 w) (hb : Below B w w') (hB : 0 < B) : Tab0 w' := by
  have k : ∀ (j : Nat) (v : Value), w.cell? ⟨0, j, none⟩ = some v → w'.cell? ⟨0, j, none⟩ = some v := fun j v h => by rw [hb.cell (p := ⟨0, j, none⟩) hB]; exact h
  obtain ⟨⟨h0, h1, h2, h3⟩, h4, h5, h6, h7⟩ := h
  exact ⟨⟨k _ _ h0, k _ _ h1, k _ _ h2, k _ _ h3⟩, k _ _ h4, k _ _ h5, k _ _ h6, k _ _ h7⟩

set_option maxHeartbeats 1000000 in
theorem done_any (v : Int) (w : World) : Calls Tryd.prog 34 #[.int .u64 v] w fun e w' => e = .returned (RV true 0 v) ∧ Below w.heap.size w w' := by
  go_enter Tryd.func34, Tryd.ntmps34
  go_wp2
  exact bodyPost_ret (v := RV true 0 v) (by simp [results, Tryd.results34, go_sem]) rfl ⟨rfl, by repeat (first | exact Below.refl _ _ | refine Below.setCell ?_ (by first | (simp; done) | (simp; omega) | omega) _ | refine Below.alloc ?_ (by first | (simp; done) | (simp; omega)) _ | refine Below.drew ?_ | refine below_drewN ?_ _)⟩
set_option maxHeartbeats 1000000 in
theorem ofInt_0f (a A : Int) (w : World) (h0 : 0 ≤ a) (h1 : a ≤ 18446744073709551615) (hA : (IntKind.u64.wrap (wrap32 a)) = A) (A1 : Int) (hA1 : wrap64 A = A1) (hn : ¬ A1 < 0) :
    Calls Tryd.prog 45 #[.int .i64 0, .int .u64 a] w fun e w' => e = .returned (NV 0 false 0 A 0) ∧ Below w.heap.size w w' := by

  go_enter Tryd.func45, Tryd.ntmps45
  go_wp2
  exact bodyPost_ret (v := NV _ _ _ _ _) (by simp [results, Tryd.results45, go_sem]) rfl ⟨rfl, by repeat (first | exact Below.refl _ _ | refine Below.setCell ?_ (by first | (simp; done) | (simp; omega) | omega) _ | refine Below.alloc ?_ (by first | (simp; done) | (simp; omega)) _ | refine Below.drew ?_ | refine below_drewN ?_ _)⟩
set_option maxHeartbeats 1000000 in
theorem ofInt_0t (a A : Int) (w : World) (h0 : 0 ≤ a) (h1 : a ≤ 18446744073709551615) (hA : (IntKind.u64.wrap (wrap32 a)) = A) (A1 : Int) (hA1 : wrap64 A = A1) (hn : A1 < 0) :
    Calls Tryd.prog 45 #[.int .i64 0, .int .u64 a] w fun e w' => e = .returned (NV 0 true 0 (IntKind.u64.wrap (-A)) 0) ∧ Below w.heap.size w w' := by

  go_enter Tryd.func45, Tryd.ntmps45
  go_wp2
  exact bodyPost_ret (v := NV _ _ _ _ _) (by simp [results, Tryd.results45, go_sem]) rfl ⟨rfl, by repeat (first | exact Below.refl _ _ | refine Below.setCell ?_ (by first | (simp; done) | (simp; omega) | omega) _ | refine Below.alloc ?_ (by first | (simp; done) | (simp; omega)) _ | refine Below.drew ?_ | refine below_drewN ?_ _)⟩
set_option maxHeartbeats 1000000 in
theorem ofInt_1f (a A : Int) (w : World) (h0 : 0 ≤ a) (h1 : a ≤ 18446744073709551615) (hA : (a % 4294967296) = A) :
    Calls Tryd.prog 45 #[.int .i64 1, .int .u64 a] w fun e w' => e = .returned (NV 0 false 0 A 0) ∧ Below w.heap.size w w' := by

  go_enter Tryd.func45, Tryd.ntmps45
  go_wp2
  exact bodyPost_ret (v := NV _ _ _ _ _) (by simp [results, Tryd.results45, go_sem]) rfl ⟨rfl, by repeat (first | exact Below.refl _ _ | refine Below.setCell ?_ (by first | (simp; done) | (simp; omega) | omega) _ | refine Below.alloc ?_ (by first | (simp; done) | (simp; omega)) _ | refine Below.drew ?_ | refine below_drewN ?_ _)⟩
set_option maxHeartbeats 1000000 in
theorem ofInt_2f (a A : Int) (w : World) (h0 : 0 ≤ a) (h1 : a ≤ 18446744073709551615) (hA : a = A) (A1 : Int) (hA1 : wrap64 A = A1) (hn : ¬ A1 < 0) :
    Calls Tryd.prog 45 #[.int .i64 2, .int .u64 a] w fun e w' => e = .returned (NV 0 false 0 A 0) ∧ Below w.heap.size w w' := by
  subst hA
  go_enter Tryd.func45, Tryd.ntmps45
  go_wp2
  exact bodyPost_ret (v := NV _ _ _ _ _) (by simp [results, Tryd.results45, go_sem]) rfl ⟨rfl, by repeat (first | exact Below.refl _ _ | refine Below.setCell ?_ (by first | (simp; done) | (simp; omega) | omega) _ | refine Below.alloc ?_ (by first | (simp; done) | (simp; omega)) _ | refine Below.drew ?_ | refine below_drewN ?_ _)⟩
set_option maxHeartbeats 1000000 in
theorem ofInt_2t (a A : Int) (w : World) (h0 : 0 ≤ a) (h1 : a ≤ 18446744073709551615) (hA : a = A) (A1 : Int) (hA1 : wrap64 A = A1) (hn : A1 < 0) :
    Calls Tryd.prog 45 #[.int .i64 2, .int .u64 a] w fun e w' => e = .returned (NV 0 true 0 (IntKind.u64.wrap (-A)) 0) ∧ Below w.heap.size w w' := by
  subst hA
  go_enter Tryd.func45, Tryd.ntmps45
  go_wp2
  exact bodyPost_ret (v := NV _ _ _ _ _) (by simp [results, Tryd.results45, go_sem]) rfl ⟨rfl, by repeat (first | exact Below.refl _ _ | refine Below.setCell ?_ (by first | (simp; done) | (simp; omega) | omega) _ | refine Below.alloc ?_ (by first | (simp; done) | (simp; omega)) _ | refine Below.drew ?_ | refine below_drewN ?_ _)⟩
set_option maxHeartbeats 1000000 in
theorem ofInt_3f (a A : Int) (w : World) (h0 : 0 ≤ a) (h1 : a ≤ 18446744073709551615) (hA : a = A) :
    Calls Tryd.prog 45 #[.int .i64 3, .int .u64 a] w fun e w' => e = .returned (NV 0 false 0 A 0) ∧ Below w.heap.size w w' := by
  subst hA
  go_enter Tryd.func45, Tryd.ntmps45
  go_wp2
  exact bodyPost_ret (v := NV _ _ _ _ _) (by simp [results, Tryd.results45, go_sem]) rfl ⟨rfl, by repeat (first | exact Below.refl _ _ | refine Below.setCell ?_ (by first | (simp; done) | (simp; omega) | omega) _ | refine Below.alloc ?_ (by first | (simp; done) | (simp; omega)) _ | refine Below.drew ?_ | refine below_drewN ?_ _)⟩
set_option maxHeartbeats 2000000 in
theorem toInt_0_32_2 (a : Int) (g : Bool) (x lo hi : Int) (w : World) (hT : Tab0 w) (hz : 0 < w.heap.size)
    (KR : ∀ w, Hid (Calls Tryd.prog 33 #[FVn, .int .u64 a] w fun e w' => e = .returned (NV 2 g x lo hi) ∧ Below w.heap.size w w')) :
    Calls Tryd.prog 44 #[.int .i64 0, .int .i64 32, .int .u64 a] w fun e w' => e = .returned (RV true 4 0) ∧ Below w.heap.size w w' := by
  obtain ⟨⟨h0, h1, h2, h3⟩, h4, h5, h6, h7⟩ := hT
  go_enter Tryd.func44, Tryd.ntmps44
  go_wp2_with fail
  refine (KR _).out.mono ?_
  rintro e w1 ⟨rfl, hb⟩
  have CR := Hid.mk' (r3_new.keep hb)
  have HB := Hid.mk' (below_box hb)
  have hl := CR.out.1.lt
  have hn1 : w.heap.size ≠ w1.heap.size := by omega
  clear hb KR h0 h1 h2 h3 h4 h5 h6 h7
  obtain ⟨⟨r0, r1, r2⟩, v0, v1, v2⟩ := CR.out
  go_upto_region 3 with fail
  refine wp_gen (fun wz => RZ wz w.heap.size ∧ Below w.heap.size w wz) ⟨CR.out.past, HB.out.alloc HB.out.size _⟩ ?_
  clear r0 r1 r2 v0 v1 v2 CR HB
  rintro wz ⟨⟨⟨r0, r1, r2⟩, v0, v1, v2⟩, hz'⟩
  go_wp2
  exact bodyPost_ret (v := RV true 4 0) (by simp [results, Tryd.results44, go_sem, r0, r1, r2]) rfl ⟨rfl, by repeat (first | exact hz' | refine Below.setCell ?_ (by first | (simp; done) | (simp; omega) | omega) _)⟩
set_option maxHeartbeats 2000000 in
theorem toInt_0_32_k (K : Int) (hK : K ≠ 2) (val : Int) (fits : Bool) (a : Int) (g : Bool) (x lo hi : Int) (w : World) (hT : Tab0 w) (hz : 0 < w.heap.size)
    (KR : ∀ w, Hid (Calls Tryd.prog 33 #[FVn, .int .u64 a] w fun e w' => e = .returned (NV K g x lo hi) ∧ Below w.heap.size w w'))
    (KI : ∀ w, Hid (Calls Tryd.prog 88 #[NV K g x lo hi, .int .i64 32, .bool true] w fun e w' => e = .returned (.tuple #[.int .u64 val, .bool fits]) ∧ Below w.heap.size w w')) :
    Calls Tryd.prog 44 #[.int .i64 0, .int .i64 32, .int .u64 a] w fun e w' => e = .returned (if fits then RV true 0 val else RV true 3 0) ∧ Below w.heap.size w w' := by
  obtain ⟨⟨h0, h1, h2, h3⟩, h4, h5, h6, h7⟩ := hT
  have t2 : (K == 2) = false := beq_eq_false_iff_ne.2 hK
  clear hK
  go_enter Tryd.func44, Tryd.ntmps44
  go_wp2_with fail
  refine (KR _).out.mono ?_
  rintro e w1 ⟨rfl, hb⟩
  have CR := Hid.mk' (r3_new.keep hb)
  have HB := Hid.mk' (below_box hb)
  have hl := CR.out.1.lt
  have hn1 : w.heap.size ≠ w1.heap.size := by omega
  clear hb KR h0 h1 h2 h3 h4 h5 h6 h7
  go_wp2_with fail
  refine (KI _).out.mono ?_
  rintro e w2 ⟨rfl, hb⟩
  have CR2 := Hid.mk' (CR.out.past.keep hb)
  have HB2 := Hid.mk' ((HB.out.alloc HB.out.size _).trans (hb.mono (Nat.le_trans HB.out.size (by simp))))
  clear hb CR HB KI
  cases fits
  · obtain ⟨⟨r0, r1, r2⟩, v0, v1, v2⟩ := CR2.out
    go_wp2
    exact bodyPost_ret (v := RV true 3 0) (by simp [results, Tryd.results44, go_sem, r0, r1, r2]) rfl ⟨rfl, by repeat (first | exact HB2.out | refine Below.setCell ?_ (by first | (simp; done) | (simp; omega) | omega) _)⟩
  · go_wp2_with fail
    refine (done_any _ _).mono ?_
    rintro e w3 ⟨rfl, hb⟩
    obtain ⟨⟨r0, r1, r2⟩, v0, v1, v2⟩ := CR2.out.keep hb
    have HB3 := Hid.mk' (HB2.out.trans (hb.mono HB2.out.size))
    clear hb CR2 HB2
    go_wp2
    exact bodyPost_ret (v := RV true 0 val) (by simp [results, Tryd.results44, go_sem, r0, r1, r2]) rfl ⟨rfl, by repeat (first | exact HB3.out | refine Below.setCell ?_ (by first | (simp; done) | (simp; omega) | omega) _)⟩
set_option maxHeartbeats 2000000 in
theorem toInt_0_64_2 (a : Int) (g : Bool) (x lo hi : Int) (w : World) (hT : Tab0 w) (hz : 0 < w.heap.size)
    (KR : ∀ w, Hid (Calls Tryd.prog 33 #[FVn, .int .u64 a] w fun e w' => e = .returned (NV 2 g x lo hi) ∧ Below w.heap.size w w')) :
    Calls Tryd.prog 44 #[.int .i64 0, .int .i64 64, .int .u64 a] w fun e w' => e = .returned (RV true 4 0) ∧ Below w.heap.size w w' := by
  obtain ⟨⟨h0, h1, h2, h3⟩, h4, h5, h6, h7⟩ := hT
  go_enter Tryd.func44, Tryd.ntmps44
  go_wp2_with fail
  refine (KR _).out.mono ?_
  rintro e w1 ⟨rfl, hb⟩
  have CR := Hid.mk' (r3_new.keep hb)
  have HB := Hid.mk' (below_box hb)
  have hl := CR.out.1.lt
  have hn1 : w.heap.size ≠ w1.heap.size := by omega
  clear hb KR h0 h1 h2 h3 h4 h5 h6 h7
  obtain ⟨⟨r0, r1, r2⟩, v0, v1, v2⟩ := CR.out
  go_upto_region 3 with fail
  refine wp_gen (fun wz => RZ wz w.heap.size ∧ Below w.heap.size w wz) ⟨CR.out.past, HB.out.alloc HB.out.size _⟩ ?_
  clear r0 r1 r2 v0 v1 v2 CR HB
  rintro wz ⟨⟨⟨r0, r1, r2⟩, v0, v1, v2⟩, hz'⟩
  go_wp2
  exact bodyPost_ret (v := RV true 4 0) (by simp [results, Tryd.results44, go_sem, r0, r1, r2]) rfl ⟨rfl, by repeat (first | exact hz' | refine Below.setCell ?_ (by first | (simp; done) | (simp; omega) | omega) _)⟩
set_option maxHeartbeats 2000000 in
theorem toInt_0_64_k (K : Int) (hK : K ≠ 2) (val : Int) (fits : Bool) (a : Int) (g : Bool) (x lo hi : Int) (w : World) (hT : Tab0 w) (hz : 0 < w.heap.size)
    (KR : ∀ w, Hid (Calls Tryd.prog 33 #[FVn, .int .u64 a] w fun e w' => e = .returned (NV K g x lo hi) ∧ Below w.heap.size w w'))
    (KI : ∀ w, Hid (Calls Tryd.prog 88 #[NV K g x lo hi, .int .i64 64, .bool true] w fun e w' => e = .returned (.tuple #[.int .u64 val, .bool fits]) ∧ Below w.heap.size w w')) :
    Calls Tryd.prog 44 #[.int .i64 0, .int .i64 64, .int .u64 a] w fun e w' => e = .returned (if fits then RV true 0 val else RV true 3 0) ∧ Below w.heap.size w w' := by
  obtain ⟨⟨h0, h1, h2, h3⟩, h4, h5, h6, h7⟩ := hT
  have t2 : (K == 2) = false := beq_eq_false_iff_ne.2 hK
  clear hK
  go_enter Tryd.func44, Tryd.ntmps44
  go_wp2_with fail
  refine (KR _).out.mono ?_
  rintro e w1 ⟨rfl, hb⟩
  have CR := Hid.mk' (r3_new.keep hb)
  have HB := Hid.mk' (below_box hb)
  have hl := CR.out.1.lt
  have hn1 : w.heap.size ≠ w1.heap.size := by omega
  clear hb KR h0 h1 h2 h3 h4 h5 h6 h7
  go_wp2_with fail
  refine (KI _).out.mono ?_
  rintro e w2 ⟨rfl, hb⟩
  have CR2 := Hid.mk' (CR.out.past.keep hb)
  have HB2 := Hid.mk' ((HB.out.alloc HB.out.size _).trans (hb.mono (Nat.le_trans HB.out.size (by simp))))
  clear hb CR HB KI
  cases fits
  · obtain ⟨⟨r0, r1, r2⟩, v0, v1, v2⟩ := CR2.out
    go_wp2
    exact bodyPost_ret (v := RV true 3 0) (by simp [results, Tryd.results44, go_sem, r0, r1, r2]) rfl ⟨rfl, by repeat (first | exact HB2.out | refine Below.setCell ?_ (by first | (simp; done) | (simp; omega) | omega) _)⟩
  · go_wp2_with fail
    refine (done_any _ _).mono ?_
    rintro e w3 ⟨rfl, hb⟩
    obtain ⟨⟨r0, r1, r2⟩, v0, v1, v2⟩ := CR2.out.keep hb
    have HB3 := Hid.mk' (HB2.out.trans (hb.mono HB2.out.size))
    clear hb CR2 HB2
    go_wp2
    exact bodyPost_ret (v := RV true 0 val) (by simp [results, Tryd.results44, go_sem, r0, r1, r2]) rfl ⟨rfl, by repeat (first | exact HB3.out | refine Below.setCell ?_ (by first | (simp; done) | (simp; omega) | omega) _)⟩
set_option maxHeartbeats 2000000 in
theorem toInt_1_32_2 (a : Int) (g : Bool) (x lo hi : Int) (w : World) (hT : Tab0 w) (hz : 0 < w.heap.size)
    (KR : ∀ w, Hid (Calls Tryd.prog 33 #[FVn, .int .u64 a] w fun e w' => e = .returned (NV 2 g x lo hi) ∧ Below w.heap.size w w')) :
    Calls Tryd.prog 44 #[.int .i64 1, .int .i64 32, .int .u64 a] w fun e w' => e = .returned (RV true 4 0) ∧ Below w.heap.size w w' := by
  obtain ⟨⟨h0, h1, h2, h3⟩, h4, h5, h6, h7⟩ := hT
  go_enter Tryd.func44, Tryd.ntmps44
  go_wp2_with fail
  refine (KR _).out.mono ?_
  rintro e w1 ⟨rfl, hb⟩
  have CR := Hid.mk' (r3_new.keep hb)
  have HB := Hid.mk' (below_box hb)
  have hl := CR.out.1.lt
  have hn1 : w.heap.size ≠ w1.heap.size := by omega
  clear hb KR h0 h1 h2 h3 h4 h5 h6 h7
  obtain ⟨⟨r0, r1, r2⟩, v0, v1, v2⟩ := CR.out
  go_upto_region 3 with fail
  refine wp_gen (fun wz => RZ wz w.heap.size ∧ Below w.heap.size w wz) ⟨CR.out.past, HB.out.alloc HB.out.size _⟩ ?_
  clear r0 r1 r2 v0 v1 v2 CR HB
  rintro wz ⟨⟨⟨r0, r1, r2⟩, v0, v1, v2⟩, hz'⟩
  go_wp2
  exact bodyPost_ret (v := RV true 4 0) (by simp [results, Tryd.results44, go_sem, r0, r1, r2]) rfl ⟨rfl, by repeat (first | exact hz' | refine Below.setCell ?_ (by first | (simp; done) | (simp; omega) | omega) _)⟩
set_option maxHeartbeats 2000000 in
theorem toInt_1_32_k (K : Int) (hK : K ≠ 2) (val : Int) (fits : Bool) (a : Int) (g : Bool) (x lo hi : Int) (w : World) (hT : Tab0 w) (hz : 0 < w.heap.size)
    (KR : ∀ w, Hid (Calls Tryd.prog 33 #[FVn, .int .u64 a] w fun e w' => e = .returned (NV K g x lo hi) ∧ Below w.heap.size w w'))
    (KI : ∀ w, Hid (Calls Tryd.prog 88 #[NV K g x lo hi, .int .i64 32, .bool false] w fun e w' => e = .returned (.tuple #[.int .u64 val, .bool fits]) ∧ Below w.heap.size w w')) :
    Calls Tryd.prog 44 #[.int .i64 1, .int .i64 32, .int .u64 a] w fun e w' => e = .returned (if fits then RV true 0 val else RV true 3 0) ∧ Below w.heap.size w w' := by
  obtain ⟨⟨h0, h1, h2, h3⟩, h4, h5, h6, h7⟩ := hT
  have t2 : (K == 2) = false := beq_eq_false_iff_ne.2 hK
  clear hK
  go_enter Tryd.func44, Tryd.ntmps44
  go_wp2_with fail
  refine (KR _).out.mono ?_
  rintro e w1 ⟨rfl, hb⟩
  have CR := Hid.mk' (r3_new.keep hb)
  have HB := Hid.mk' (below_box hb)
  have hl := CR.out.1.lt
  have hn1 : w.heap.size ≠ w1.heap.size := by omega
  clear hb KR h0 h1 h2 h3 h4 h5 h6 h7
  go_wp2_with fail
  refine (KI _).out.mono ?_
  rintro e w2 ⟨rfl, hb⟩
  have CR2 := Hid.mk' (CR.out.past.keep hb)
  have HB2 := Hid.mk' ((HB.out.alloc HB.out.size _).trans (hb.mono (Nat.le_trans HB.out.size (by simp))))
  clear hb CR HB KI
  cases fits
  · obtain ⟨⟨r0, r1, r2⟩, v0, v1, v2⟩ := CR2.out
    go_wp2
    exact bodyPost_ret (v := RV true 3 0) (by simp [results, Tryd.results44, go_sem, r0, r1, r2]) rfl ⟨rfl, by repeat (first | exact HB2.out | refine Below.setCell ?_ (by first | (simp; done) | (simp; omega) | omega) _)⟩
  · go_wp2_with fail
    refine (done_any _ _).mono ?_
    rintro e w3 ⟨rfl, hb⟩
    obtain ⟨⟨r0, r1, r2⟩, v0, v1, v2⟩ := CR2.out.keep hb
    have HB3 := Hid.mk' (HB2.out.trans (hb.mono HB2.out.size))
    clear hb CR2 HB2
    go_wp2
    exact bodyPost_ret (v := RV true 0 val) (by simp [results, Tryd.results44, go_sem, r0, r1, r2]) rfl ⟨rfl, by repeat (first | exact HB3.out | refine Below.setCell ?_ (by first | (simp; done) | (simp; omega) | omega) _)⟩
set_option maxHeartbeats 2000000 in
theorem toInt_1_64_2 (a : Int) (g : Bool) (x lo hi : Int) (w : World) (hT : Tab0 w) (hz : 0 < w.heap.size)
    (KR : ∀ w, Hid (Calls Tryd.prog 33 #[FVn, .int .u64 a] w fun e w' => e = .returned (NV 2 g x lo hi) ∧ Below w.heap.size w w')) :
    Calls Tryd.prog 44 #[.int .i64 1, .int .i64 64, .int .u64 a] w fun e w' => e = .returned (RV true 4 0) ∧ Below w.heap.size w w' := by
  obtain ⟨⟨h0, h1, h2, h3⟩, h4, h5, h6, h7⟩ := hT
  go_enter Tryd.func44, Tryd.ntmps44
  go_wp2_with fail
  refine (KR _).out.mono ?_
  rintro e w1 ⟨rfl, hb⟩
  have CR := Hid.mk' (r3_new.keep hb)
  have HB := Hid.mk' (below_box hb)
  have hl := CR.out.1.lt
  have hn1 : w.heap.size ≠ w1.heap.size := by omega
  clear hb KR h0 h1 h2 h3 h4 h5 h6 h7
  obtain ⟨⟨r0, r1, r2⟩, v0, v1, v2⟩ := CR.out
  go_upto_region 3 with fail
  refine wp_gen (fun wz => RZ wz w.heap.size ∧ Below w.heap.size w wz) ⟨CR.out.past, HB.out.alloc HB.out.size _⟩ ?_
  clear r0 r1 r2 v0 v1 v2 CR HB
  rintro wz ⟨⟨⟨r0, r1, r2⟩, v0, v1, v2⟩, hz'⟩
  go_wp2
  exact bodyPost_ret (v := RV true 4 0) (by simp [results, Tryd.results44, go_sem, r0, r1, r2]) rfl ⟨rfl, by repeat (first | exact hz' | refine Below.setCell ?_ (by first | (simp; done) | (simp; omega) | omega) _)⟩
set_option maxHeartbeats 2000000 in
theorem toInt_1_64_k (K : Int) (hK : K ≠ 2) (val : Int) (fits : Bool) (a : Int) (g : Bool) (x lo hi : Int) (w : World) (hT : Tab0 w) (hz : 0 < w.heap.size)
    (KR : ∀ w, Hid (Calls Tryd.prog 33 #[FVn, .int .u64 a] w fun e w' => e = .returned (NV K g x lo hi) ∧ Below w.heap.size w w'))
    (KI : ∀ w, Hid (Calls Tryd.prog 88 #[NV K g x lo hi, .int .i64 64, .bool false] w fun e w' => e = .returned (.tuple #[.int .u64 val, .bool fits]) ∧ Below w.heap.size w w')) :
    Calls Tryd.prog 44 #[.int .i64 1, .int .i64 64, .int .u64 a] w fun e w' => e = .returned (if fits then RV true 0 val else RV true 3 0) ∧ Below w.heap.size w w' := by
  obtain ⟨⟨h0, h1, h2, h3⟩, h4, h5, h6, h7⟩ := hT
  have t2 : (K == 2) = false := beq_eq_false_iff_ne.2 hK
  clear hK
  go_enter Tryd.func44, Tryd.ntmps44
  go_wp2_with fail
  refine (KR _).out.mono ?_
  rintro e w1 ⟨rfl, hb⟩
  have CR := Hid.mk' (r3_new.keep hb)
  have HB := Hid.mk' (below_box hb)
  have hl := CR.out.1.lt
  have hn1 : w.heap.size ≠ w1.heap.size := by omega
  clear hb KR h0 h1 h2 h3 h4 h5 h6 h7
  go_wp2_with fail
  refine (KI _).out.mono ?_
  rintro e w2 ⟨rfl, hb⟩
  have CR2 := Hid.mk' (CR.out.past.keep hb)
  have HB2 := Hid.mk' ((HB.out.alloc HB.out.size _).trans (hb.mono (Nat.le_trans HB.out.size (by simp))))
  clear hb CR HB KI
  cases fits
  · obtain ⟨⟨r0, r1, r2⟩, v0, v1, v2⟩ := CR2.out
    go_wp2
    exact bodyPost_ret (v := RV true 3 0) (by simp [results, Tryd.results44, go_sem, r0, r1, r2]) rfl ⟨rfl, by repeat (first | exact HB2.out | refine Below.setCell ?_ (by first | (simp; done) | (simp; omega) | omega) _)⟩
  · go_wp2_with fail
    refine (done_any _ _).mono ?_
    rintro e w3 ⟨rfl, hb⟩
    obtain ⟨⟨r0, r1, r2⟩, v0, v1, v2⟩ := CR2.out.keep hb
    have HB3 := Hid.mk' (HB2.out.trans (hb.mono HB2.out.size))
    clear hb CR2 HB2
    go_wp2
    exact bodyPost_ret (v := RV true 0 val) (by simp [results, Tryd.results44, go_sem, r0, r1, r2]) rfl ⟨rfl, by repeat (first | exact HB3.out | refine Below.setCell ?_ (by first | (simp; done) | (simp; omega) | omega) _)⟩
set_option maxHeartbeats 2000000 in
theorem toInt_2_32_2 (a : Int) (g : Bool) (x lo hi : Int) (w : World) (hT : Tab0 w) (hz : 0 < w.heap.size)
    (KR : ∀ w, Hid (Calls Tryd.prog 33 #[FVw, .int .u64 a] w fun e w' => e = .returned (NV 2 g x lo hi) ∧ Below w.heap.size w w')) :
    Calls Tryd.prog 44 #[.int .i64 2, .int .i64 32, .int .u64 a] w fun e w' => e = .returned (RV true 4 0) ∧ Below w.heap.size w w' := by
  obtain ⟨⟨h0, h1, h2, h3⟩, h4, h5, h6, h7⟩ := hT
  go_enter Tryd.func44, Tryd.ntmps44
  go_wp2_with fail
  refine (KR _).out.mono ?_
  rintro e w1 ⟨rfl, hb⟩
  have CR := Hid.mk' (r3_new.keep hb)
  have HB := Hid.mk' (below_box hb)
  have hl := CR.out.1.lt
  have hn1 : w.heap.size ≠ w1.heap.size := by omega
  clear hb KR h0 h1 h2 h3 h4 h5 h6 h7
  obtain ⟨⟨r0, r1, r2⟩, v0, v1, v2⟩ := CR.out
  go_upto_region 3 with fail
  refine wp_gen (fun wz => RZ wz w.heap.size ∧ Below w.heap.size w wz) ⟨CR.out.past, HB.out.alloc HB.out.size _⟩ ?_
  clear r0 r1 r2 v0 v1 v2 CR HB
  rintro wz ⟨⟨⟨r0, r1, r2⟩, v0, v1, v2⟩, hz'⟩
  go_wp2
  exact bodyPost_ret (v := RV true 4 0) (by simp [results, Tryd.results44, go_sem, r0, r1, r2]) rfl ⟨rfl, by repeat (first | exact hz' | refine Below.setCell ?_ (by first | (simp; done) | (simp; omega) | omega) _)⟩
set_option maxHeartbeats 2000000 in
theorem toInt_2_32_k (K : Int) (hK : K ≠ 2) (val : Int) (fits : Bool) (a : Int) (g : Bool) (x lo hi : Int) (w : World) (hT : Tab0 w) (hz : 0 < w.heap.size)
    (KR : ∀ w, Hid (Calls Tryd.prog 33 #[FVw, .int .u64 a] w fun e w' => e = .returned (NV K g x lo hi) ∧ Below w.heap.size w w'))
    (KI : ∀ w, Hid (Calls Tryd.prog 88 #[NV K g x lo hi, .int .i64 32, .bool true] w fun e w' => e = .returned (.tuple #[.int .u64 val, .bool fits]) ∧ Below w.heap.size w w')) :
    Calls Tryd.prog 44 #[.int .i64 2, .int .i64 32, .int .u64 a] w fun e w' => e = .returned (if fits then RV true 0 val else RV true 3 0) ∧ Below w.heap.size w w' := by
  obtain ⟨⟨h0, h1, h2, h3⟩, h4, h5, h6, h7⟩ := hT
  have t2 : (K == 2) = false := beq_eq_false_iff_ne.2 hK
  clear hK
  go_enter Tryd.func44, Tryd.ntmps44
  go_wp2_with fail
  refine (KR _).out.mono ?_
  rintro e w1 ⟨rfl, hb⟩
  have CR := Hid.mk' (r3_new.keep hb)
  have HB := Hid.mk' (below_box hb)
  have hl := CR.out.1.lt
  have hn1 : w.heap.size ≠ w1.heap.size := by omega
  clear hb KR h0 h1 h2 h3 h4 h5 h6 h7
  go_wp2_with fail
  refine (KI _).out.mono ?_
  rintro e w2 ⟨rfl, hb⟩
  have CR2 := Hid.mk' (CR.out.past.keep hb)
  have HB2 := Hid.mk' ((HB.out.alloc HB.out.size _).trans (hb.mono (Nat.le_trans HB.out.size (by simp))))
  clear hb CR HB KI
  cases fits
  · obtain ⟨⟨r0, r1, r2⟩, v0, v1, v2⟩ := CR2.out
    go_wp2
    exact bodyPost_ret (v := RV true 3 0) (by simp [results, Tryd.results44, go_sem, r0, r1, r2]) rfl ⟨rfl, by repeat (first | exact HB2.out | refine Below.setCell ?_ (by first | (simp; done) | (simp; omega) | omega) _)⟩
  · go_wp2_with fail
    refine (done_any _ _).mono ?_
    rintro e w3 ⟨rfl, hb⟩
    obtain ⟨⟨r0, r1, r2⟩, v0, v1, v2⟩ := CR2.out.keep hb
    have HB3 := Hid.mk' (HB2.out.trans (hb.mono HB2.out.size))
    clear hb CR2 HB2
    go_wp2
    exact bodyPost_ret (v := RV true 0 val) (by simp [results, Tryd.results44, go_sem, r0, r1, r2]) rfl ⟨rfl, by repeat (first | exact HB3.out | refine Below.setCell ?_ (by first | (simp; done) | (simp; omega) | omega) _)⟩
set_option maxHeartbeats 2000000 in
theorem toInt_2_64_2 (a : Int) (g : Bool) (x lo hi : Int) (w : World) (hT : Tab0 w) (hz : 0 < w.heap.size)
    (KR : ∀ w, Hid (Calls Tryd.prog 33 #[FVw, .int .u64 a] w fun e w' => e = .returned (NV 2 g x lo hi) ∧ Below w.heap.size w w')) :
    Calls Tryd.prog 44 #[.int .i64 2, .int .i64 64, .int .u64 a] w fun e w' => e = .returned (RV true 4 0) ∧ Below w.heap.size w w' := by
  obtain ⟨⟨h0, h1, h2, h3⟩, h4, h5, h6, h7⟩ := hT
  go_enter Tryd.func44, Tryd.ntmps44
  go_wp2_with fail
  refine (KR _).out.mono ?_
  rintro e w1 ⟨rfl, hb⟩
  have CR := Hid.mk' (r3_new.keep hb)
  have HB := Hid.mk' (below_box hb)
  have hl := CR.out.1.lt
  have hn1 : w.heap.size ≠ w1.heap.size := by omega
  clear hb KR h0 h1 h2 h3 h4 h5 h6 h7
  obtain ⟨⟨r0, r1, r2⟩, v0, v1, v2⟩ := CR.out
  go_upto_region 3 with fail
  refine wp_gen (fun wz => RZ wz w.heap.size ∧ Below w.heap.size w wz) ⟨CR.out.past, HB.out.alloc HB.out.size _⟩ ?_
  clear r0 r1 r2 v0 v1 v2 CR HB
  rintro wz ⟨⟨⟨r0, r1, r2⟩, v0, v1, v2⟩, hz'⟩
  go_wp2
  exact bodyPost_ret (v := RV true 4 0) (by simp [results, Tryd.results44, go_sem, r0, r1, r2]) rfl ⟨rfl, by repeat (first | exact hz' | refine Below.setCell ?_ (by first | (simp; done) | (simp; omega) | omega) _)⟩
set_option maxHeartbeats 2000000 in
theorem toInt_2_64_k (K : Int) (hK : K ≠ 2) (val : Int) (fits : Bool) (a : Int) (g : Bool) (x lo hi : Int) (w : World) (hT : Tab0 w) (hz : 0 < w.heap.size)
    (KR : ∀ w, Hid (Calls Tryd.prog 33 #[FVw, .int .u64 a] w fun e w' => e = .returned (NV K g x lo hi) ∧ Below w.heap.size w w'))
    (KI : ∀ w, Hid (Calls Tryd.prog 88 #[NV K g x lo hi, .int .i64 64, .bool true] w fun e w' => e = .returned (.tuple #[.int .u64 val, .bool fits]) ∧ Below w.heap.size w w')) :
    Calls Tryd.prog 44 #[.int .i64 2, .int .i64 64, .int .u64 a] w fun e w' => e = .returned (if fits then RV true 0 val else RV true 3 0) ∧ Below w.heap.size w w' := by
  obtain ⟨⟨h0, h1, h2, h3⟩, h4, h5, h6, h7⟩ := hT
  have t2 : (K == 2) = false := beq_eq_false_iff_ne.2 hK
  clear hK
  go_enter Tryd.func44, Tryd.ntmps44
  go_wp2_with fail
  refine (KR _).out.mono ?_
  rintro e w1 ⟨rfl, hb⟩
  have CR := Hid.mk' (r3_new.keep hb)
  have HB := Hid.mk' (below_box hb)
  have hl := CR.out.1.lt
  have hn1 : w.heap.size ≠ w1.heap.size := by omega
  clear hb KR h0 h1 h2 h3 h4 h5 h6 h7
  go_wp2_with fail
  refine (KI _).out.mono ?_
  rintro e w2 ⟨rfl, hb⟩
  have CR2 := Hid.mk' (CR.out.past.keep hb)
  have HB2 := Hid.mk' ((HB.out.alloc HB.out.size _).trans (hb.mono (Nat.le_trans HB.out.size (by simp))))
  clear hb CR HB KI
  cases fits
  · obtain ⟨⟨r0, r1, r2⟩, v0, v1, v2⟩ := CR2.out
    go_wp2
    exact bodyPost_ret (v := RV true 3 0) (by simp [results, Tryd.results44, go_sem, r0, r1, r2]) rfl ⟨rfl, by repeat (first | exact HB2.out | refine Below.setCell ?_ (by first | (simp; done) | (simp; omega) | omega) _)⟩
  · go_wp2_with fail
    refine (done_any _ _).mono ?_
    rintro e w3 ⟨rfl, hb⟩
    obtain ⟨⟨r0, r1, r2⟩, v0, v1, v2⟩ := CR2.out.keep hb
    have HB3 := Hid.mk' (HB2.out.trans (hb.mono HB2.out.size))
    clear hb CR2 HB2
    go_wp2
    exact bodyPost_ret (v := RV true 0 val) (by simp [results, Tryd.results44, go_sem, r0, r1, r2]) rfl ⟨rfl, by repeat (first | exact HB3.out | refine Below.setCell ?_ (by first | (simp; done) | (simp; omega) | omega) _)⟩
set_option maxHeartbeats 2000000 in
theorem toInt_3_32_2 (a : Int) (g : Bool) (x lo hi : Int) (w : World) (hT : Tab0 w) (hz : 0 < w.heap.size)
    (KR : ∀ w, Hid (Calls Tryd.prog 33 #[FVw, .int .u64 a] w fun e w' => e = .returned (NV 2 g x lo hi) ∧ Below w.heap.size w w')) :
    Calls Tryd.prog 44 #[.int .i64 3, .int .i64 32, .int .u64 a] w fun e w' => e = .returned (RV true 4 0) ∧ Below w.heap.size w w' := by
  obtain ⟨⟨h0, h1, h2, h3⟩, h4, h5, h6, h7⟩ := hT
  go_enter Tryd.func44, Tryd.ntmps44
  go_wp2_with fail
  refine (KR _).out.mono ?_
  rintro e w1 ⟨rfl, hb⟩
  have CR := Hid.mk' (r3_new.keep hb)
  have HB := Hid.mk' (below_box hb)
  have hl := CR.out.1.lt
  have hn1 : w.heap.size ≠ w1.heap.size := by omega
  clear hb KR h0 h1 h2 h3 h4 h5 h6 h7
  obtain ⟨⟨r0, r1, r2⟩, v0, v1, v2⟩ := CR.out
  go_upto_region 3 with fail
  refine wp_gen (fun wz => RZ wz w.heap.size ∧ Below w.heap.size w wz) ⟨CR.out.past, HB.out.alloc HB.out.size _⟩ ?_
  clear r0 r1 r2 v0 v1 v2 CR HB
  rintro wz ⟨⟨⟨r0, r1, r2⟩, v0, v1, v2⟩, hz'⟩
  go_wp2
  exact bodyPost_ret (v := RV true 4 0) (by simp [results, Tryd.results44, go_sem, r0, r1, r2]) rfl ⟨rfl, by repeat (first | exact hz' | refine Below.setCell ?_ (by first | (simp; done) | (simp; omega) | omega) _)⟩
set_option maxHeartbeats 2000000 in
theorem toInt_3_32_k (K : Int) (hK : K ≠ 2) (val : Int) (fits : Bool) (a : Int) (g : Bool) (x lo hi : Int) (w : World) (hT : Tab0 w) (hz : 0 < w.heap.size)
    (KR : ∀ w, Hid (Calls Tryd.prog 33 #[FVw, .int .u64 a] w fun e w' => e = .returned (NV K g x lo hi) ∧ Below w.heap.size w w'))
    (KI : ∀ w, Hid (Calls Tryd.prog 88 #[NV K g x lo hi, .int .i64 32, .bool false] w fun e w' => e = .returned (.tuple #[.int .u64 val, .bool fits]) ∧ Below w.heap.size w w')) :
    Calls Tryd.prog 44 #[.int .i64 3, .int .i64 32, .int .u64 a] w fun e w' => e = .returned (if fits then RV true 0 val else RV true 3 0) ∧ Below w.heap.size w w' := by
  obtain ⟨⟨h0, h1, h2, h3⟩, h4, h5, h6, h7⟩ := hT
  have t2 : (K == 2) = false := beq_eq_false_iff_ne.2 hK
  clear hK
  go_enter Tryd.func44, Tryd.ntmps44
  go_wp2_with fail
  refine (KR _).out.mono ?_
  rintro e w1 ⟨rfl, hb⟩
  have CR := Hid.mk' (r3_new.keep hb)
  have HB := Hid.mk' (below_box hb)
  have hl := CR.out.1.lt
  have hn1 : w.heap.size ≠ w1.heap.size := by omega
  clear hb KR h0 h1 h2 h3 h4 h5 h6 h7
  go_wp2_with fail
  refine (KI _).out.mono ?_
  rintro e w2 ⟨rfl, hb⟩
  have CR2 := Hid.mk' (CR.out.past.keep hb)
  have HB2 := Hid.mk' ((HB.out.alloc HB.out.size _).trans (hb.mono (Nat.le_trans HB.out.size (by simp))))
  clear hb CR HB KI
  cases fits
  · obtain ⟨⟨r0, r1, r2⟩, v0, v1, v2⟩ := CR2.out
    go_wp2
    exact bodyPost_ret (v := RV true 3 0) (by simp [results, Tryd.results44, go_sem, r0, r1, r2]) rfl ⟨rfl, by repeat (first | exact HB2.out | refine Below.setCell ?_ (by first | (simp; done) | (simp; omega) | omega) _)⟩
  · go_wp2_with fail
    refine (done_any _ _).mono ?_
    rintro e w3 ⟨rfl, hb⟩
    obtain ⟨⟨r0, r1, r2⟩, v0, v1, v2⟩ := CR2.out.keep hb
    have HB3 := Hid.mk' (HB2.out.trans (hb.mono HB2.out.size))
    clear hb CR2 HB2
    go_wp2
    exact bodyPost_ret (v := RV true 0 val) (by simp [results, Tryd.results44, go_sem, r0, r1, r2]) rfl ⟨rfl, by repeat (first | exact HB3.out | refine Below.setCell ?_ (by first | (simp; done) | (simp; omega) | omega) _)⟩
set_option maxHeartbeats 2000000 in
theorem toInt_3_64_2 (a : Int) (g : Bool) (x lo hi : Int) (w : World) (hT : Tab0 w) (hz : 0 < w.heap.size)
    (KR : ∀ w, Hid (Calls Tryd.prog 33 #[FVw, .int .u64 a] w fun e w' => e = .returned (NV 2 g x lo hi) ∧ Below w.heap.size w w')) :
    Calls Tryd.prog 44 #[.int .i64 3, .int .i64 64, .int .u64 a] w fun e w' => e = .returned (RV true 4 0) ∧ Below w.heap.size w w' := by
  obtain ⟨⟨h0, h1, h2, h3⟩, h4, h5, h6, h7⟩ := hT
  go_enter Tryd.func44, Tryd.ntmps44
  go_wp2_with fail
  refine (KR _).out.mono ?_
  rintro e w1 ⟨rfl, hb⟩
  have CR := Hid.mk' (r3_new.keep hb)
  have HB := Hid.mk' (below_box hb)
  have hl := CR.out.1.lt
  have hn1 : w.heap.size ≠ w1.heap.size := by omega
  clear hb KR h0 h1 h2 h3 h4 h5 h6 h7
  obtain ⟨⟨r0, r1, r2⟩, v0, v1, v2⟩ := CR.out
  go_upto_region 3 with fail
  refine wp_gen (fun wz => RZ wz w.heap.size ∧ Below w.heap.size w wz) ⟨CR.out.past, HB.out.alloc HB.out.size _⟩ ?_
  clear r0 r1 r2 v0 v1 v2 CR HB
  rintro wz ⟨⟨⟨r0, r1, r2⟩, v0, v1, v2⟩, hz'⟩
  go_wp2
  exact bodyPost_ret (v := RV true 4 0) (by simp [results, Tryd.results44, go_sem, r0, r1, r2]) rfl ⟨rfl, by repeat (first | exact hz' | refine Below.setCell ?_ (by first | (simp; done) | (simp; omega) | omega) _)⟩
set_option maxHeartbeats 2000000 in
theorem toInt_3_64_k (K : Int) (hK : K ≠ 2) (val : Int) (fits : Bool) (a : Int) (g : Bool) (x lo hi : Int) (w : World) (hT : Tab0 w) (hz : 0 < w.heap.size)
    (KR : ∀ w, Hid (Calls Tryd.prog 33 #[FVw, .int .u64 a] w fun e w' => e = .returned (NV K g x lo hi) ∧ Below w.heap.size w w'))
    (KI : ∀ w, Hid (Calls Tryd.prog 88 #[NV K g x lo hi, .int .i64 64, .bool false] w fun e w' => e = .returned (.tuple #[.int .u64 val, .bool fits]) ∧ Below w.heap.size w w')) :
    Calls Tryd.prog 44 #[.int .i64 3, .int .i64 64, .int .u64 a] w fun e w' => e = .returned (if fits then RV true 0 val else RV true 3 0) ∧ Below w.heap.size w w' := by
  obtain ⟨⟨h0, h1, h2, h3⟩, h4, h5, h6, h7⟩ := hT
  have t2 : (K == 2) = false := beq_eq_false_iff_ne.2 hK
  clear hK
  go_enter Tryd.func44, Tryd.ntmps44
  go_wp2_with fail
  refine (KR _).out.mono ?_
  rintro e w1 ⟨rfl, hb⟩
  have CR := Hid.mk' (r3_new.keep hb)
  have HB := Hid.mk' (below_box hb)
  have hl := CR.out.1.lt
  have hn1 : w.heap.size ≠ w1.heap.size := by omega
  clear hb KR h0 h1 h2 h3 h4 h5 h6 h7
  go_wp2_with fail
  refine (KI _).out.mono ?_
  rintro e w2 ⟨rfl, hb⟩
  have CR2 := Hid.mk' (CR.out.past.keep hb)
  have HB2 := Hid.mk' ((HB.out.alloc HB.out.size _).trans (hb.mono (Nat.le_trans HB.out.size (by simp))))
  clear hb CR HB KI
  cases fits
  · obtain ⟨⟨r0, r1, r2⟩, v0, v1, v2⟩ := CR2.out
    go_wp2
    exact bodyPost_ret (v := RV true 3 0) (by simp [results, Tryd.results44, go_sem, r0, r1, r2]) rfl ⟨rfl, by repeat (first | exact HB2.out | refine Below.setCell ?_ (by first | (simp; done) | (simp; omega) | omega) _)⟩
  · go_wp2_with fail
    refine (done_any _ _).mono ?_
    rintro e w3 ⟨rfl, hb⟩
    obtain ⟨⟨r0, r1, r2⟩, v0, v1, v2⟩ := CR2.out.keep hb
    have HB3 := Hid.mk' (HB2.out.trans (hb.mono HB2.out.size))
    clear hb CR2 HB2
    go_wp2
    exact bodyPost_ret (v := RV true 0 val) (by simp [results, Tryd.results44, go_sem, r0, r1, r2]) rfl ⟨rfl, by repeat (first | exact HB3.out | refine Below.setCell ?_ (by first | (simp; done) | (simp; omega) | omega) _)⟩
end Go.Proofs.YthmppcfhbbjhlaaDoor
