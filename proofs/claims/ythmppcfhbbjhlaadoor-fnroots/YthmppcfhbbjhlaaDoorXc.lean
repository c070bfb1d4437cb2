import Derived.Test.YthmppcfhbbjhlaaDoorRt
import Derived.Shelf.Spec.BitsCarry
set_option linter.all false
namespace Go.Proofs.YthmppcfhbbjhlaaDoor
open Go.RowKit Go.Sort

theorem C5.far5 {w : World} {g g' : Nat} {a b c d e a' b' c' d' e' : Value} (h : C5 w g a b c d e) (hg : g' ≠ g) : C5 (((((w.setCell ⟨g', 0, none⟩ a').setCell ⟨g', 1, none⟩ b').setCell ⟨g', 2, none⟩ c').setCell ⟨g', 3, none⟩ d').setCell ⟨g', 4, none⟩ e') g a b c d e :=
  ((((h.far hg).far hg).far hg).far hg).far hg
theorem bset {B : Nat} {w w' : World} {g i : Nat} {v : Value} (h : Below B w w') (hg : B ≤ g) : Below B w (w'.setCell ⟨g, i, none⟩ v) := h.setCell hg v
theorem bset5 {B : Nat} {w w' : World} {g : Nat} {a b c d e : Value} (h : Below B w w') (hg : B ≤ g) : Below B w (((((w'.setCell ⟨g, 0, none⟩ a).setCell ⟨g, 1, none⟩ b).setCell ⟨g, 2, none⟩ c).setCell ⟨g, 3, none⟩ d).setCell ⟨g, 4, none⟩ e) :=
  bset (bset (bset (bset (bset h hg) hg) hg) hg) hg
theorem c5_third {w : World} {a b c d e : Value} {t : TypeId} {o o' : Obj} : C5 (((w.alloc o).alloc o').alloc (.cells #[a, b, c, d, e] t)) (w.heap.size + 1 + 1) a b c d e := by
  have h := c5_new (w := (w.alloc o).alloc o') (a := a) (b := b) (c := c) (d := d) (e := e) (t := t)
  simpa using h
end Go.Proofs.YthmppcfhbbjhlaaDoor
namespace Go.Proofs.YthmppcfhbbjhlaaDoor
open Go.RowKit Go.Sort

theorem sub64_run (x y c : Nat) (hc : c ≤ 1) (w : World) :
    (callFunc 110 #[.int .u64 x, .int .u64 y, .int .u64 c]).run Tryd.prog w =
      .ok (.value (.tuple #[.int .u64 (((x + 18446744073709551616 - y - c) % 18446744073709551616 : Nat) : Int), .int .u64 ((if x < y + c then 1 else 0 : Nat) : Int)])) w := by
  rw [run_callFunc_extern Tryd.func110 (by kernel_rfl) (by kernel_rfl) (by kernel_rfl) (e := sub64Entry) (by kernel_rfl), run_sub64 x y c hc]
  rfl
set_option maxHeartbeats 1000000 in
theorem sub_key (a0 a1 b0 b1 l h c1 c2 : Int) (w : World)
    (K1 : ∀ w, (callFunc 110 #[.int .u64 a0, .int .u64 b0, .int .u64 0]).run Tryd.prog w = .ok (.value (.tuple #[.int .u64 l, .int .u64 c1])) w)
    (K2 : ∀ w, (callFunc 110 #[.int .u64 a1, .int .u64 b1, .int .u64 c1]).run Tryd.prog w = .ok (.value (.tuple #[.int .u64 h, .int .u64 c2])) w) :
    Calls Tryd.prog 105 #[WV a0 a1, WV b0 b1] w fun e w' => e = .returned (WV l h) ∧ Below w.heap.size w w' := by
  go_enter Tryd.func105, Tryd.ntmps105
  go_wp2
  exact bodyPost_ret (v := WV _ _) (by simp [results, Tryd.results105, go_sem]) rfl ⟨rfl, by repeat (first | exact Below.refl _ _ | refine Below.setCell ?_ (by simp) _ | refine Below.alloc ?_ (by first | (simp; done) | (simp; omega)) _ | refine Below.drew ?_)⟩
theorem sub_any (s t : Nat) (w : World) (hs : s < 340282366920938463463374607431768211456) (ht : t ≤ s) :
    Calls Tryd.prog 105 #[W2 s, W2 t] w fun e w' => e = .returned (W2 (s - t)) ∧ Below w.heap.size w w' := by
  have h1 := hi_lt hs
  have h2 := hi_lt (show t < 340282366920938463463374607431768211456 by omega)
  have hc : (if s % 18446744073709551616 < t % 18446744073709551616 + 0 then 1 else 0 : Nat) ≤ 1 := by split <;> omega
  refine (sub_key _ _ _ _ _ _ _ _ w (fun w => sub64_run (s % 18446744073709551616) (t % 18446744073709551616) 0 (by omega) w) (fun w => sub64_run (s / 18446744073709551616) (t / 18446744073709551616) _ hc w)).mono ?_
  rintro e w' ⟨rfl, hb⟩
  refine ⟨?_, hb⟩
  have e1 : (s - t) % 18446744073709551616 = (s % 18446744073709551616 + 18446744073709551616 - t % 18446744073709551616 - 0) % 18446744073709551616 := by omega
  have e2 : (s - t) / 18446744073709551616 = (s / 18446744073709551616 + 18446744073709551616 - t / 18446744073709551616 - (if s % 18446744073709551616 < t % 18446744073709551616 + 0 then 1 else 0 : Nat)) % 18446744073709551616 := by
    split <;> omega
  rw [W2, e1, e2]

def smR (ga gb : Bool) (X : Int) (N D : Nat) : Value :=
  if ga = gb then N2 0 ga X (N + D) else if N = D then N2 0 false 0 0 else if N < D then N2 0 gb X (D - N) else N2 0 ga X (N - D)

end Go.Proofs.YthmppcfhbbjhlaaDoor
namespace Go.Proofs.YthmppcfhbbjhlaaDoor
open Go.RowKit Go.Sort

set_option maxHeartbeats 4000000 in
set_option maxRecDepth 100000 in
theorem pl_2x (k2 : Int) (g1 g2 : Bool) (x1 l1 h1 x2 l2 h2 : Int) (w : World)  :
    Calls Tryd.prog 53 #[NV (2) (g1) (x1) (l1) (h1), NV (k2) (g2) (x2) (l2) (h2)] w fun e w' => e = .returned (NV 2 false 0 0 0) ∧ Below w.heap.size w w' := by
  go_enter Tryd.func53, Tryd.ntmps53
  go_upto_region 1 with fail
  refine wp_gen (fun wz => C5 wz w.heap.size (.int .i64 2) (.bool g1) (.int .i64 x1) (.int .u64 l1) (.int .u64 h1) ∧ C5 wz (w.heap.size + 1) (.int .i64 k2) (.bool g2) (.int .i64 x2) (.int .u64 l2) (.int .u64 h2) ∧ C5 wz (w.heap.size + 1 + 1) (.int .i64 0) (.bool false) (.int .i64 0) (.int .u64 0) (.int .u64 0) ∧ Below w.heap.size w wz) ⟨c5_new.past.past, c5_mid.past, c5_third, ((((Below.refl _ _).alloc (Nat.le_refl _) _).alloc (by simp) _).alloc (by simp; omega) _)⟩ ?_
  rintro w1 ⟨cn, cm, cr, hb⟩
  have CN := Hid.mk' cn
  have CM := Hid.mk' cm
  have CR := Hid.mk' cr
  have HB := Hid.mk' hb
  clear cn cm cr hb
  obtain ⟨⟨c0, c1, c2, c3, c4⟩, f0, f1, f2, f3, f4⟩ := CN.out
  obtain ⟨⟨d0, d1, d2, d3, d4⟩, y0, y1, y2, y3, y4⟩ := CM.out
  obtain ⟨⟨r0, r1, r2, r3, r4⟩, v0, v1, v2, v3, v4⟩ := CR.out
  go_wp2
  exact bodyPost_ret (v := NV 2 false 0 0 0) (by simp [results, Tryd.results53, go_sem, r0, r1, r2, r3, r4]) rfl ⟨rfl, by repeat (first | exact HB.out | refine Below.setCell ?_ (by first | (simp; done) | (simp; omega) | omega) _)⟩
set_option maxHeartbeats 4000000 in
set_option maxRecDepth 100000 in
theorem pl_x2 (k1 : Int) (g1 g2 : Bool) (x1 l1 h1 x2 l2 h2 : Int) (w : World) (hk : (k1 == 2) = false) :
    Calls Tryd.prog 53 #[NV (k1) (g1) (x1) (l1) (h1), NV (2) (g2) (x2) (l2) (h2)] w fun e w' => e = .returned (NV 2 false 0 0 0) ∧ Below w.heap.size w w' := by
  go_enter Tryd.func53, Tryd.ntmps53
  go_upto_region 1 with fail
  refine wp_gen (fun wz => C5 wz w.heap.size (.int .i64 k1) (.bool g1) (.int .i64 x1) (.int .u64 l1) (.int .u64 h1) ∧ C5 wz (w.heap.size + 1) (.int .i64 2) (.bool g2) (.int .i64 x2) (.int .u64 l2) (.int .u64 h2) ∧ C5 wz (w.heap.size + 1 + 1) (.int .i64 0) (.bool false) (.int .i64 0) (.int .u64 0) (.int .u64 0) ∧ Below w.heap.size w wz) ⟨c5_new.past.past, c5_mid.past, c5_third, ((((Below.refl _ _).alloc (Nat.le_refl _) _).alloc (by simp) _).alloc (by simp; omega) _)⟩ ?_
  rintro w1 ⟨cn, cm, cr, hb⟩
  have CN := Hid.mk' cn
  have CM := Hid.mk' cm
  have CR := Hid.mk' cr
  have HB := Hid.mk' hb
  clear cn cm cr hb
  obtain ⟨⟨c0, c1, c2, c3, c4⟩, f0, f1, f2, f3, f4⟩ := CN.out
  obtain ⟨⟨d0, d1, d2, d3, d4⟩, y0, y1, y2, y3, y4⟩ := CM.out
  obtain ⟨⟨r0, r1, r2, r3, r4⟩, v0, v1, v2, v3, v4⟩ := CR.out
  go_wp2
  exact bodyPost_ret (v := NV 2 false 0 0 0) (by simp [results, Tryd.results53, go_sem, r0, r1, r2, r3, r4]) rfl ⟨rfl, by repeat (first | exact HB.out | refine Below.setCell ?_ (by first | (simp; done) | (simp; omega) | omega) _)⟩
set_option maxHeartbeats 4000000 in
set_option maxRecDepth 100000 in
theorem pl_11x (g1 g2 : Bool) (x1 l1 h1 x2 l2 h2 : Int) (w : World) (hg : (g1 == g2) = false) :
    Calls Tryd.prog 53 #[NV (1) (g1) (x1) (l1) (h1), NV (1) (g2) (x2) (l2) (h2)] w fun e w' => e = .returned (NV 2 false 0 0 0) ∧ Below w.heap.size w w' := by
  go_enter Tryd.func53, Tryd.ntmps53
  go_upto_region 1 with fail
  refine wp_gen (fun wz => C5 wz w.heap.size (.int .i64 1) (.bool g1) (.int .i64 x1) (.int .u64 l1) (.int .u64 h1) ∧ C5 wz (w.heap.size + 1) (.int .i64 1) (.bool g2) (.int .i64 x2) (.int .u64 l2) (.int .u64 h2) ∧ C5 wz (w.heap.size + 1 + 1) (.int .i64 0) (.bool false) (.int .i64 0) (.int .u64 0) (.int .u64 0) ∧ Below w.heap.size w wz) ⟨c5_new.past.past, c5_mid.past, c5_third, ((((Below.refl _ _).alloc (Nat.le_refl _) _).alloc (by simp) _).alloc (by simp; omega) _)⟩ ?_
  rintro w1 ⟨cn, cm, cr, hb⟩
  have CN := Hid.mk' cn
  have CM := Hid.mk' cm
  have CR := Hid.mk' cr
  have HB := Hid.mk' hb
  clear cn cm cr hb
  obtain ⟨⟨c0, c1, c2, c3, c4⟩, f0, f1, f2, f3, f4⟩ := CN.out
  obtain ⟨⟨d0, d1, d2, d3, d4⟩, y0, y1, y2, y3, y4⟩ := CM.out
  obtain ⟨⟨r0, r1, r2, r3, r4⟩, v0, v1, v2, v3, v4⟩ := CR.out
  go_wp2
  exact bodyPost_ret (v := NV 2 false 0 0 0) (by simp [results, Tryd.results53, go_sem, r0, r1, r2, r3, r4]) rfl ⟨rfl, by repeat (first | exact HB.out | refine Below.setCell ?_ (by first | (simp; done) | (simp; omega) | omega) _)⟩
set_option maxHeartbeats 4000000 in
set_option maxRecDepth 100000 in
theorem pl_11 (g1 g2 : Bool) (x1 l1 h1 x2 l2 h2 : Int) (w : World) (hg : (g1 == g2) = true) (KZ1 : ∀ w, Hid (Calls Tryd.prog 79 #[NV 1 g1 x1 l1 h1] w fun e w' => e = .returned (.bool false) ∧ Below w.heap.size w w')) :
    Calls Tryd.prog 53 #[NV (1) (g1) (x1) (l1) (h1), NV (1) (g2) (x2) (l2) (h2)] w fun e w' => e = .returned (NV 1 g1 x1 l1 h1) ∧ Below w.heap.size w w' := by
  go_enter Tryd.func53, Tryd.ntmps53
  go_upto_region 1 with fail
  refine wp_gen (fun wz => C5 wz w.heap.size (.int .i64 1) (.bool g1) (.int .i64 x1) (.int .u64 l1) (.int .u64 h1) ∧ C5 wz (w.heap.size + 1) (.int .i64 1) (.bool g2) (.int .i64 x2) (.int .u64 l2) (.int .u64 h2) ∧ C5 wz (w.heap.size + 1 + 1) (.int .i64 0) (.bool false) (.int .i64 0) (.int .u64 0) (.int .u64 0) ∧ Below w.heap.size w wz) ⟨c5_new.past.past, c5_mid.past, c5_third, ((((Below.refl _ _).alloc (Nat.le_refl _) _).alloc (by simp) _).alloc (by simp; omega) _)⟩ ?_
  rintro w1 ⟨cn, cm, cr, hb⟩
  have CN := Hid.mk' cn
  have CM := Hid.mk' cm
  have CR := Hid.mk' cr
  have HB := Hid.mk' hb
  clear cn cm cr hb
  obtain ⟨⟨c0, c1, c2, c3, c4⟩, f0, f1, f2, f3, f4⟩ := CN.out
  obtain ⟨⟨d0, d1, d2, d3, d4⟩, y0, y1, y2, y3, y4⟩ := CM.out
  obtain ⟨⟨r0, r1, r2, r3, r4⟩, v0, v1, v2, v3, v4⟩ := CR.out
  go_wp2_with (first | (go_at_call 79; (first | (with_reducible refine (KZ1 _).out.mono ?_)); rintro e w6 ⟨rfl, hb⟩; have CN := Hid.mk' (CN.out.keep hb); have CM := Hid.mk' (CM.out.keep hb); have CR := Hid.mk' (CR.out.keep hb); have HB := Hid.mk' (HB.out.trans (hb.mono HB.out.size)); clear c0 c1 c2 c3 c4 f0 f1 f2 f3 f4 d0 d1 d2 d3 d4 y0 y1 y2 y3 y4 r0 r1 r2 r3 r4 v0 v1 v2 v3 v4; obtain ⟨⟨c0, c1, c2, c3, c4⟩, f0, f1, f2, f3, f4⟩ := CN.out; obtain ⟨⟨d0, d1, d2, d3, d4⟩, y0, y1, y2, y3, y4⟩ := CM.out; obtain ⟨⟨r0, r1, r2, r3, r4⟩, v0, v1, v2, v3, v4⟩ := CR.out; clear hb))
  exact bodyPost_ret (v := NV 1 g1 x1 l1 h1) (by simp [results, Tryd.results53, go_sem, r0, r1, r2, r3, r4]) rfl ⟨rfl, by repeat (first | exact HB.out | refine Below.setCell ?_ (by first | (simp; done) | (simp; omega) | omega) _)⟩
set_option maxHeartbeats 4000000 in
set_option maxRecDepth 100000 in
theorem pl_10 (g1 g2 : Bool) (x1 l1 h1 x2 l2 h2 : Int) (w : World) (KZ1 : ∀ w, Hid (Calls Tryd.prog 79 #[NV 1 g1 x1 l1 h1] w fun e w' => e = .returned (.bool false) ∧ Below w.heap.size w w')) :
    Calls Tryd.prog 53 #[NV (1) (g1) (x1) (l1) (h1), NV (0) (g2) (x2) (l2) (h2)] w fun e w' => e = .returned (NV 1 g1 x1 l1 h1) ∧ Below w.heap.size w w' := by
  go_enter Tryd.func53, Tryd.ntmps53
  go_upto_region 1 with fail
  refine wp_gen (fun wz => C5 wz w.heap.size (.int .i64 1) (.bool g1) (.int .i64 x1) (.int .u64 l1) (.int .u64 h1) ∧ C5 wz (w.heap.size + 1) (.int .i64 0) (.bool g2) (.int .i64 x2) (.int .u64 l2) (.int .u64 h2) ∧ C5 wz (w.heap.size + 1 + 1) (.int .i64 0) (.bool false) (.int .i64 0) (.int .u64 0) (.int .u64 0) ∧ Below w.heap.size w wz) ⟨c5_new.past.past, c5_mid.past, c5_third, ((((Below.refl _ _).alloc (Nat.le_refl _) _).alloc (by simp) _).alloc (by simp; omega) _)⟩ ?_
  rintro w1 ⟨cn, cm, cr, hb⟩
  have CN := Hid.mk' cn
  have CM := Hid.mk' cm
  have CR := Hid.mk' cr
  have HB := Hid.mk' hb
  clear cn cm cr hb
  obtain ⟨⟨c0, c1, c2, c3, c4⟩, f0, f1, f2, f3, f4⟩ := CN.out
  obtain ⟨⟨d0, d1, d2, d3, d4⟩, y0, y1, y2, y3, y4⟩ := CM.out
  obtain ⟨⟨r0, r1, r2, r3, r4⟩, v0, v1, v2, v3, v4⟩ := CR.out
  go_wp2_with (first | (go_at_call 79; (first | (with_reducible refine (KZ1 _).out.mono ?_)); rintro e w6 ⟨rfl, hb⟩; have CN := Hid.mk' (CN.out.keep hb); have CM := Hid.mk' (CM.out.keep hb); have CR := Hid.mk' (CR.out.keep hb); have HB := Hid.mk' (HB.out.trans (hb.mono HB.out.size)); clear c0 c1 c2 c3 c4 f0 f1 f2 f3 f4 d0 d1 d2 d3 d4 y0 y1 y2 y3 y4 r0 r1 r2 r3 r4 v0 v1 v2 v3 v4; obtain ⟨⟨c0, c1, c2, c3, c4⟩, f0, f1, f2, f3, f4⟩ := CN.out; obtain ⟨⟨d0, d1, d2, d3, d4⟩, y0, y1, y2, y3, y4⟩ := CM.out; obtain ⟨⟨r0, r1, r2, r3, r4⟩, v0, v1, v2, v3, v4⟩ := CR.out; clear hb))
  exact bodyPost_ret (v := NV 1 g1 x1 l1 h1) (by simp [results, Tryd.results53, go_sem, r0, r1, r2, r3, r4]) rfl ⟨rfl, by repeat (first | exact HB.out | refine Below.setCell ?_ (by first | (simp; done) | (simp; omega) | omega) _)⟩
set_option maxHeartbeats 4000000 in
set_option maxRecDepth 100000 in
theorem pl_z1 (g1 g2 : Bool) (x1 l1 h1 x2 l2 h2 : Int) (w : World) (KZ1 : ∀ w, Hid (Calls Tryd.prog 79 #[NV 0 g1 x1 l1 h1] w fun e w' => e = .returned (.bool true) ∧ Below w.heap.size w w')) (KZ2 : ∀ w, Hid (Calls Tryd.prog 79 #[NV 1 g2 x2 l2 h2] w fun e w' => e = .returned (.bool false) ∧ Below w.heap.size w w')) :
    Calls Tryd.prog 53 #[NV (0) (g1) (x1) (l1) (h1), NV (1) (g2) (x2) (l2) (h2)] w fun e w' => e = .returned (NV 1 g2 x2 l2 h2) ∧ Below w.heap.size w w' := by
  go_enter Tryd.func53, Tryd.ntmps53
  go_upto_region 1 with fail
  refine wp_gen (fun wz => C5 wz w.heap.size (.int .i64 0) (.bool g1) (.int .i64 x1) (.int .u64 l1) (.int .u64 h1) ∧ C5 wz (w.heap.size + 1) (.int .i64 1) (.bool g2) (.int .i64 x2) (.int .u64 l2) (.int .u64 h2) ∧ C5 wz (w.heap.size + 1 + 1) (.int .i64 0) (.bool false) (.int .i64 0) (.int .u64 0) (.int .u64 0) ∧ Below w.heap.size w wz) ⟨c5_new.past.past, c5_mid.past, c5_third, ((((Below.refl _ _).alloc (Nat.le_refl _) _).alloc (by simp) _).alloc (by simp; omega) _)⟩ ?_
  rintro w1 ⟨cn, cm, cr, hb⟩
  have CN := Hid.mk' cn
  have CM := Hid.mk' cm
  have CR := Hid.mk' cr
  have HB := Hid.mk' hb
  clear cn cm cr hb
  obtain ⟨⟨c0, c1, c2, c3, c4⟩, f0, f1, f2, f3, f4⟩ := CN.out
  obtain ⟨⟨d0, d1, d2, d3, d4⟩, y0, y1, y2, y3, y4⟩ := CM.out
  obtain ⟨⟨r0, r1, r2, r3, r4⟩, v0, v1, v2, v3, v4⟩ := CR.out
  go_wp2_with (first | (go_at_call 79; (first | (with_reducible refine (KZ1 _).out.mono ?_) | (with_reducible refine (KZ2 _).out.mono ?_)); rintro e w6 ⟨rfl, hb⟩; have CN := Hid.mk' (CN.out.keep hb); have CM := Hid.mk' (CM.out.keep hb); have CR := Hid.mk' (CR.out.keep hb); have HB := Hid.mk' (HB.out.trans (hb.mono HB.out.size)); clear c0 c1 c2 c3 c4 f0 f1 f2 f3 f4 d0 d1 d2 d3 d4 y0 y1 y2 y3 y4 r0 r1 r2 r3 r4 v0 v1 v2 v3 v4; obtain ⟨⟨c0, c1, c2, c3, c4⟩, f0, f1, f2, f3, f4⟩ := CN.out; obtain ⟨⟨d0, d1, d2, d3, d4⟩, y0, y1, y2, y3, y4⟩ := CM.out; obtain ⟨⟨r0, r1, r2, r3, r4⟩, v0, v1, v2, v3, v4⟩ := CR.out; clear hb))
  exact bodyPost_ret (v := NV 1 g2 x2 l2 h2) (by simp [results, Tryd.results53, go_sem, r0, r1, r2, r3, r4]) rfl ⟨rfl, by repeat (first | exact HB.out | refine Below.setCell ?_ (by first | (simp; done) | (simp; omega) | omega) _)⟩
set_option maxHeartbeats 4000000 in
set_option maxRecDepth 100000 in
theorem pl_n1 (g1 g2 : Bool) (x1 l1 h1 x2 l2 h2 : Int) (w : World) (KZ1 : ∀ w, Hid (Calls Tryd.prog 79 #[NV 0 g1 x1 l1 h1] w fun e w' => e = .returned (.bool false) ∧ Below w.heap.size w w')) (KZ2 : ∀ w, Hid (Calls Tryd.prog 79 #[NV 1 g2 x2 l2 h2] w fun e w' => e = .returned (.bool false) ∧ Below w.heap.size w w')) :
    Calls Tryd.prog 53 #[NV (0) (g1) (x1) (l1) (h1), NV (1) (g2) (x2) (l2) (h2)] w fun e w' => e = .returned (NV 1 g2 x2 l2 h2) ∧ Below w.heap.size w w' := by
  go_enter Tryd.func53, Tryd.ntmps53
  go_upto_region 1 with fail
  refine wp_gen (fun wz => C5 wz w.heap.size (.int .i64 0) (.bool g1) (.int .i64 x1) (.int .u64 l1) (.int .u64 h1) ∧ C5 wz (w.heap.size + 1) (.int .i64 1) (.bool g2) (.int .i64 x2) (.int .u64 l2) (.int .u64 h2) ∧ C5 wz (w.heap.size + 1 + 1) (.int .i64 0) (.bool false) (.int .i64 0) (.int .u64 0) (.int .u64 0) ∧ Below w.heap.size w wz) ⟨c5_new.past.past, c5_mid.past, c5_third, ((((Below.refl _ _).alloc (Nat.le_refl _) _).alloc (by simp) _).alloc (by simp; omega) _)⟩ ?_
  rintro w1 ⟨cn, cm, cr, hb⟩
  have CN := Hid.mk' cn
  have CM := Hid.mk' cm
  have CR := Hid.mk' cr
  have HB := Hid.mk' hb
  clear cn cm cr hb
  obtain ⟨⟨c0, c1, c2, c3, c4⟩, f0, f1, f2, f3, f4⟩ := CN.out
  obtain ⟨⟨d0, d1, d2, d3, d4⟩, y0, y1, y2, y3, y4⟩ := CM.out
  obtain ⟨⟨r0, r1, r2, r3, r4⟩, v0, v1, v2, v3, v4⟩ := CR.out
  go_wp2_with (first | (go_at_call 79; (first | (with_reducible refine (KZ1 _).out.mono ?_) | (with_reducible refine (KZ2 _).out.mono ?_)); rintro e w6 ⟨rfl, hb⟩; have CN := Hid.mk' (CN.out.keep hb); have CM := Hid.mk' (CM.out.keep hb); have CR := Hid.mk' (CR.out.keep hb); have HB := Hid.mk' (HB.out.trans (hb.mono HB.out.size)); clear c0 c1 c2 c3 c4 f0 f1 f2 f3 f4 d0 d1 d2 d3 d4 y0 y1 y2 y3 y4 r0 r1 r2 r3 r4 v0 v1 v2 v3 v4; obtain ⟨⟨c0, c1, c2, c3, c4⟩, f0, f1, f2, f3, f4⟩ := CN.out; obtain ⟨⟨d0, d1, d2, d3, d4⟩, y0, y1, y2, y3, y4⟩ := CM.out; obtain ⟨⟨r0, r1, r2, r3, r4⟩, v0, v1, v2, v3, v4⟩ := CR.out; clear hb))
  exact bodyPost_ret (v := NV 1 g2 x2 l2 h2) (by simp [results, Tryd.results53, go_sem, r0, r1, r2, r3, r4]) rfl ⟨rfl, by repeat (first | exact HB.out | refine Below.setCell ?_ (by first | (simp; done) | (simp; omega) | omega) _)⟩
set_option maxHeartbeats 4000000 in
set_option maxRecDepth 100000 in
theorem pl_zz (g2 : Bool) (x1 l1 h1 x2 l2 h2 : Int) (w : World) (KZ1 : ∀ w, Hid (Calls Tryd.prog 79 #[NV 0 true x1 l1 h1] w fun e w' => e = .returned (.bool true) ∧ Below w.heap.size w w')) (KZ2 : ∀ w, Hid (Calls Tryd.prog 79 #[NV 0 g2 x2 l2 h2] w fun e w' => e = .returned (.bool true) ∧ Below w.heap.size w w')) :
    Calls Tryd.prog 53 #[NV (0) (true) (x1) (l1) (h1), NV (0) (g2) (x2) (l2) (h2)] w fun e w' => e = .returned (NV 0 g2 0 0 0) ∧ Below w.heap.size w w' := by
  go_enter Tryd.func53, Tryd.ntmps53
  go_upto_region 1 with fail
  refine wp_gen (fun wz => C5 wz w.heap.size (.int .i64 0) (.bool true) (.int .i64 x1) (.int .u64 l1) (.int .u64 h1) ∧ C5 wz (w.heap.size + 1) (.int .i64 0) (.bool g2) (.int .i64 x2) (.int .u64 l2) (.int .u64 h2) ∧ C5 wz (w.heap.size + 1 + 1) (.int .i64 0) (.bool false) (.int .i64 0) (.int .u64 0) (.int .u64 0) ∧ Below w.heap.size w wz) ⟨c5_new.past.past, c5_mid.past, c5_third, ((((Below.refl _ _).alloc (Nat.le_refl _) _).alloc (by simp) _).alloc (by simp; omega) _)⟩ ?_
  rintro w1 ⟨cn, cm, cr, hb⟩
  have CN := Hid.mk' cn
  have CM := Hid.mk' cm
  have CR := Hid.mk' cr
  have HB := Hid.mk' hb
  clear cn cm cr hb
  obtain ⟨⟨c0, c1, c2, c3, c4⟩, f0, f1, f2, f3, f4⟩ := CN.out
  obtain ⟨⟨d0, d1, d2, d3, d4⟩, y0, y1, y2, y3, y4⟩ := CM.out
  obtain ⟨⟨r0, r1, r2, r3, r4⟩, v0, v1, v2, v3, v4⟩ := CR.out
  go_wp2_with (first | (go_at_call 79; (first | (with_reducible refine (KZ1 _).out.mono ?_) | (with_reducible refine (KZ2 _).out.mono ?_)); rintro e w6 ⟨rfl, hb⟩; have CN := Hid.mk' (CN.out.keep hb); have CM := Hid.mk' (CM.out.keep hb); have CR := Hid.mk' (CR.out.keep hb); have HB := Hid.mk' (HB.out.trans (hb.mono HB.out.size)); clear c0 c1 c2 c3 c4 f0 f1 f2 f3 f4 d0 d1 d2 d3 d4 y0 y1 y2 y3 y4 r0 r1 r2 r3 r4 v0 v1 v2 v3 v4; obtain ⟨⟨c0, c1, c2, c3, c4⟩, f0, f1, f2, f3, f4⟩ := CN.out; obtain ⟨⟨d0, d1, d2, d3, d4⟩, y0, y1, y2, y3, y4⟩ := CM.out; obtain ⟨⟨r0, r1, r2, r3, r4⟩, v0, v1, v2, v3, v4⟩ := CR.out; clear hb))
  exact bodyPost_ret (v := NV 0 g2 0 0 0) (by simp [results, Tryd.results53, go_sem, r0, r1, r2, r3, r4]) rfl ⟨rfl, by repeat (first | exact HB.out | refine Below.setCell ?_ (by first | (simp; done) | (simp; omega) | omega) _)⟩
set_option maxHeartbeats 4000000 in
set_option maxRecDepth 100000 in
theorem pl_zzf (g2 : Bool) (x1 l1 h1 x2 l2 h2 : Int) (w : World) (KZ1 : ∀ w, Hid (Calls Tryd.prog 79 #[NV 0 false x1 l1 h1] w fun e w' => e = .returned (.bool true) ∧ Below w.heap.size w w')) (KZ2 : ∀ w, Hid (Calls Tryd.prog 79 #[NV 0 g2 x2 l2 h2] w fun e w' => e = .returned (.bool true) ∧ Below w.heap.size w w')) :
    Calls Tryd.prog 53 #[NV (0) (false) (x1) (l1) (h1), NV (0) (g2) (x2) (l2) (h2)] w fun e w' => e = .returned (NV 0 false 0 0 0) ∧ Below w.heap.size w w' := by
  go_enter Tryd.func53, Tryd.ntmps53
  go_upto_region 1 with fail
  refine wp_gen (fun wz => C5 wz w.heap.size (.int .i64 0) (.bool false) (.int .i64 x1) (.int .u64 l1) (.int .u64 h1) ∧ C5 wz (w.heap.size + 1) (.int .i64 0) (.bool g2) (.int .i64 x2) (.int .u64 l2) (.int .u64 h2) ∧ C5 wz (w.heap.size + 1 + 1) (.int .i64 0) (.bool false) (.int .i64 0) (.int .u64 0) (.int .u64 0) ∧ Below w.heap.size w wz) ⟨c5_new.past.past, c5_mid.past, c5_third, ((((Below.refl _ _).alloc (Nat.le_refl _) _).alloc (by simp) _).alloc (by simp; omega) _)⟩ ?_
  rintro w1 ⟨cn, cm, cr, hb⟩
  have CN := Hid.mk' cn
  have CM := Hid.mk' cm
  have CR := Hid.mk' cr
  have HB := Hid.mk' hb
  clear cn cm cr hb
  obtain ⟨⟨c0, c1, c2, c3, c4⟩, f0, f1, f2, f3, f4⟩ := CN.out
  obtain ⟨⟨d0, d1, d2, d3, d4⟩, y0, y1, y2, y3, y4⟩ := CM.out
  obtain ⟨⟨r0, r1, r2, r3, r4⟩, v0, v1, v2, v3, v4⟩ := CR.out
  go_wp2_with (first | (go_at_call 79; (first | (with_reducible refine (KZ1 _).out.mono ?_) | (with_reducible refine (KZ2 _).out.mono ?_)); rintro e w6 ⟨rfl, hb⟩; have CN := Hid.mk' (CN.out.keep hb); have CM := Hid.mk' (CM.out.keep hb); have CR := Hid.mk' (CR.out.keep hb); have HB := Hid.mk' (HB.out.trans (hb.mono HB.out.size)); clear c0 c1 c2 c3 c4 f0 f1 f2 f3 f4 d0 d1 d2 d3 d4 y0 y1 y2 y3 y4 r0 r1 r2 r3 r4 v0 v1 v2 v3 v4; obtain ⟨⟨c0, c1, c2, c3, c4⟩, f0, f1, f2, f3, f4⟩ := CN.out; obtain ⟨⟨d0, d1, d2, d3, d4⟩, y0, y1, y2, y3, y4⟩ := CM.out; obtain ⟨⟨r0, r1, r2, r3, r4⟩, v0, v1, v2, v3, v4⟩ := CR.out; clear hb))
  exact bodyPost_ret (v := NV 0 false 0 0 0) (by simp [results, Tryd.results53, go_sem, r0, r1, r2, r3, r4]) rfl ⟨rfl, by repeat (first | exact HB.out | refine Below.setCell ?_ (by first | (simp; done) | (simp; omega) | omega) _)⟩
set_option maxHeartbeats 4000000 in
set_option maxRecDepth 100000 in
theorem pl_nz (g1 g2 : Bool) (x1 l1 h1 x2 l2 h2 : Int) (w : World) (KZ1 : ∀ w, Hid (Calls Tryd.prog 79 #[NV 0 g1 x1 l1 h1] w fun e w' => e = .returned (.bool false) ∧ Below w.heap.size w w')) (KZ2 : ∀ w, Hid (Calls Tryd.prog 79 #[NV 0 g2 x2 l2 h2] w fun e w' => e = .returned (.bool true) ∧ Below w.heap.size w w')) :
    Calls Tryd.prog 53 #[NV (0) (g1) (x1) (l1) (h1), NV (0) (g2) (x2) (l2) (h2)] w fun e w' => e = .returned (NV 0 g1 x1 l1 h1) ∧ Below w.heap.size w w' := by
  go_enter Tryd.func53, Tryd.ntmps53
  go_upto_region 1 with fail
  refine wp_gen (fun wz => C5 wz w.heap.size (.int .i64 0) (.bool g1) (.int .i64 x1) (.int .u64 l1) (.int .u64 h1) ∧ C5 wz (w.heap.size + 1) (.int .i64 0) (.bool g2) (.int .i64 x2) (.int .u64 l2) (.int .u64 h2) ∧ C5 wz (w.heap.size + 1 + 1) (.int .i64 0) (.bool false) (.int .i64 0) (.int .u64 0) (.int .u64 0) ∧ Below w.heap.size w wz) ⟨c5_new.past.past, c5_mid.past, c5_third, ((((Below.refl _ _).alloc (Nat.le_refl _) _).alloc (by simp) _).alloc (by simp; omega) _)⟩ ?_
  rintro w1 ⟨cn, cm, cr, hb⟩
  have CN := Hid.mk' cn
  have CM := Hid.mk' cm
  have CR := Hid.mk' cr
  have HB := Hid.mk' hb
  clear cn cm cr hb
  obtain ⟨⟨c0, c1, c2, c3, c4⟩, f0, f1, f2, f3, f4⟩ := CN.out
  obtain ⟨⟨d0, d1, d2, d3, d4⟩, y0, y1, y2, y3, y4⟩ := CM.out
  obtain ⟨⟨r0, r1, r2, r3, r4⟩, v0, v1, v2, v3, v4⟩ := CR.out
  go_wp2_with (first | (go_at_call 79; (first | (with_reducible refine (KZ1 _).out.mono ?_) | (with_reducible refine (KZ2 _).out.mono ?_)); rintro e w6 ⟨rfl, hb⟩; have CN := Hid.mk' (CN.out.keep hb); have CM := Hid.mk' (CM.out.keep hb); have CR := Hid.mk' (CR.out.keep hb); have HB := Hid.mk' (HB.out.trans (hb.mono HB.out.size)); clear c0 c1 c2 c3 c4 f0 f1 f2 f3 f4 d0 d1 d2 d3 d4 y0 y1 y2 y3 y4 r0 r1 r2 r3 r4 v0 v1 v2 v3 v4; obtain ⟨⟨c0, c1, c2, c3, c4⟩, f0, f1, f2, f3, f4⟩ := CN.out; obtain ⟨⟨d0, d1, d2, d3, d4⟩, y0, y1, y2, y3, y4⟩ := CM.out; obtain ⟨⟨r0, r1, r2, r3, r4⟩, v0, v1, v2, v3, v4⟩ := CR.out; clear hb))
  exact bodyPost_ret (v := NV 0 g1 x1 l1 h1) (by simp [results, Tryd.results53, go_sem, r0, r1, r2, r3, r4]) rfl ⟨rfl, by repeat (first | exact HB.out | refine Below.setCell ?_ (by first | (simp; done) | (simp; omega) | omega) _)⟩
set_option maxHeartbeats 4000000 in
set_option maxRecDepth 100000 in
theorem pl_zn (g1 g2 : Bool) (x1 l1 h1 x2 l2 h2 : Int) (w : World) (KZ1 : ∀ w, Hid (Calls Tryd.prog 79 #[NV 0 g1 x1 l1 h1] w fun e w' => e = .returned (.bool true) ∧ Below w.heap.size w w')) (KZ2 : ∀ w, Hid (Calls Tryd.prog 79 #[NV 0 g2 x2 l2 h2] w fun e w' => e = .returned (.bool false) ∧ Below w.heap.size w w')) :
    Calls Tryd.prog 53 #[NV (0) (g1) (x1) (l1) (h1), NV (0) (g2) (x2) (l2) (h2)] w fun e w' => e = .returned (NV 0 g2 x2 l2 h2) ∧ Below w.heap.size w w' := by
  go_enter Tryd.func53, Tryd.ntmps53
  go_upto_region 1 with fail
  refine wp_gen (fun wz => C5 wz w.heap.size (.int .i64 0) (.bool g1) (.int .i64 x1) (.int .u64 l1) (.int .u64 h1) ∧ C5 wz (w.heap.size + 1) (.int .i64 0) (.bool g2) (.int .i64 x2) (.int .u64 l2) (.int .u64 h2) ∧ C5 wz (w.heap.size + 1 + 1) (.int .i64 0) (.bool false) (.int .i64 0) (.int .u64 0) (.int .u64 0) ∧ Below w.heap.size w wz) ⟨c5_new.past.past, c5_mid.past, c5_third, ((((Below.refl _ _).alloc (Nat.le_refl _) _).alloc (by simp) _).alloc (by simp; omega) _)⟩ ?_
  rintro w1 ⟨cn, cm, cr, hb⟩
  have CN := Hid.mk' cn
  have CM := Hid.mk' cm
  have CR := Hid.mk' cr
  have HB := Hid.mk' hb
  clear cn cm cr hb
  obtain ⟨⟨c0, c1, c2, c3, c4⟩, f0, f1, f2, f3, f4⟩ := CN.out
  obtain ⟨⟨d0, d1, d2, d3, d4⟩, y0, y1, y2, y3, y4⟩ := CM.out
  obtain ⟨⟨r0, r1, r2, r3, r4⟩, v0, v1, v2, v3, v4⟩ := CR.out
  go_wp2_with (first | (go_at_call 79; (first | (with_reducible refine (KZ1 _).out.mono ?_) | (with_reducible refine (KZ2 _).out.mono ?_)); rintro e w6 ⟨rfl, hb⟩; have CN := Hid.mk' (CN.out.keep hb); have CM := Hid.mk' (CM.out.keep hb); have CR := Hid.mk' (CR.out.keep hb); have HB := Hid.mk' (HB.out.trans (hb.mono HB.out.size)); clear c0 c1 c2 c3 c4 f0 f1 f2 f3 f4 d0 d1 d2 d3 d4 y0 y1 y2 y3 y4 r0 r1 r2 r3 r4 v0 v1 v2 v3 v4; obtain ⟨⟨c0, c1, c2, c3, c4⟩, f0, f1, f2, f3, f4⟩ := CN.out; obtain ⟨⟨d0, d1, d2, d3, d4⟩, y0, y1, y2, y3, y4⟩ := CM.out; obtain ⟨⟨r0, r1, r2, r3, r4⟩, v0, v1, v2, v3, v4⟩ := CR.out; clear hb))
  exact bodyPost_ret (v := NV 0 g2 x2 l2 h2) (by simp [results, Tryd.results53, go_sem, r0, r1, r2, r3, r4]) rfl ⟨rfl, by repeat (first | exact HB.out | refine Below.setCell ?_ (by first | (simp; done) | (simp; omega) | omega) _)⟩
set_option maxHeartbeats 4000000 in
set_option maxRecDepth 100000 in
theorem pl_nn (g1 g2 : Bool) (x1 l1 h1 x2 l2 h2 : Int) (k : Int) (g : Bool) (x l h : Int) (w : World) (KZ1 : ∀ w, Hid (Calls Tryd.prog 79 #[NV 0 g1 x1 l1 h1] w fun e w' => e = .returned (.bool false) ∧ Below w.heap.size w w')) (KZ2 : ∀ w, Hid (Calls Tryd.prog 79 #[NV 0 g2 x2 l2 h2] w fun e w' => e = .returned (.bool false) ∧ Below w.heap.size w w')) (KS : ∀ w, Hid (Calls Tryd.prog 94 #[NV 0 g1 x1 l1 h1, NV 0 g2 x2 l2 h2] w fun e w' => e = .returned (NV k g x l h) ∧ Below w.heap.size w w')) :
    Calls Tryd.prog 53 #[NV (0) (g1) (x1) (l1) (h1), NV (0) (g2) (x2) (l2) (h2)] w fun e w' => e = .returned (NV k g x l h) ∧ Below w.heap.size w w' := by
  go_enter Tryd.func53, Tryd.ntmps53
  go_upto_region 1 with fail
  refine wp_gen (fun wz => C5 wz w.heap.size (.int .i64 0) (.bool g1) (.int .i64 x1) (.int .u64 l1) (.int .u64 h1) ∧ C5 wz (w.heap.size + 1) (.int .i64 0) (.bool g2) (.int .i64 x2) (.int .u64 l2) (.int .u64 h2) ∧ C5 wz (w.heap.size + 1 + 1) (.int .i64 0) (.bool false) (.int .i64 0) (.int .u64 0) (.int .u64 0) ∧ Below w.heap.size w wz) ⟨c5_new.past.past, c5_mid.past, c5_third, ((((Below.refl _ _).alloc (Nat.le_refl _) _).alloc (by simp) _).alloc (by simp; omega) _)⟩ ?_
  rintro w1 ⟨cn, cm, cr, hb⟩
  have CN := Hid.mk' cn
  have CM := Hid.mk' cm
  have CR := Hid.mk' cr
  have HB := Hid.mk' hb
  clear cn cm cr hb
  obtain ⟨⟨c0, c1, c2, c3, c4⟩, f0, f1, f2, f3, f4⟩ := CN.out
  obtain ⟨⟨d0, d1, d2, d3, d4⟩, y0, y1, y2, y3, y4⟩ := CM.out
  obtain ⟨⟨r0, r1, r2, r3, r4⟩, v0, v1, v2, v3, v4⟩ := CR.out
  go_wp2_with (first | (go_at_call 79; (first | (with_reducible refine (KZ1 _).out.mono ?_) | (with_reducible refine (KZ2 _).out.mono ?_)); rintro e w6 ⟨rfl, hb⟩; have CN := Hid.mk' (CN.out.keep hb); have CM := Hid.mk' (CM.out.keep hb); have CR := Hid.mk' (CR.out.keep hb); have HB := Hid.mk' (HB.out.trans (hb.mono HB.out.size)); clear c0 c1 c2 c3 c4 f0 f1 f2 f3 f4 d0 d1 d2 d3 d4 y0 y1 y2 y3 y4 r0 r1 r2 r3 r4 v0 v1 v2 v3 v4; obtain ⟨⟨c0, c1, c2, c3, c4⟩, f0, f1, f2, f3, f4⟩ := CN.out; obtain ⟨⟨d0, d1, d2, d3, d4⟩, y0, y1, y2, y3, y4⟩ := CM.out; obtain ⟨⟨r0, r1, r2, r3, r4⟩, v0, v1, v2, v3, v4⟩ := CR.out; clear hb) | (go_at_call 94; refine (KS _).out.mono ?_; rintro e w6 ⟨rfl, hb⟩; have CN := Hid.mk' (CN.out.keep hb); have CM := Hid.mk' (CM.out.keep hb); have CR := Hid.mk' (CR.out.keep hb); have HB := Hid.mk' (HB.out.trans (hb.mono HB.out.size)); clear c0 c1 c2 c3 c4 f0 f1 f2 f3 f4 d0 d1 d2 d3 d4 y0 y1 y2 y3 y4 r0 r1 r2 r3 r4 v0 v1 v2 v3 v4; obtain ⟨⟨c0, c1, c2, c3, c4⟩, f0, f1, f2, f3, f4⟩ := CN.out; obtain ⟨⟨d0, d1, d2, d3, d4⟩, y0, y1, y2, y3, y4⟩ := CM.out; obtain ⟨⟨r0, r1, r2, r3, r4⟩, v0, v1, v2, v3, v4⟩ := CR.out; clear hb))
  exact bodyPost_ret (v := NV k g x l h) (by simp [results, Tryd.results53, go_sem, r0, r1, r2, r3, r4]) rfl ⟨rfl, by repeat (first | exact HB.out | refine Below.setCell ?_ (by first | (simp; done) | (simp; omega) | omega) _)⟩
end Go.Proofs.YthmppcfhbbjhlaaDoor
namespace Go.Proofs.YthmppcfhbbjhlaaDoor
open Go.RowKit Go.Sort

set_option maxHeartbeats 4000000 in
set_option maxRecDepth 100000 in
theorem tm_2x (k2 : Int) (g1 g2 : Bool) (x1 l1 h1 x2 l2 h2 : Int) (w : World)  :
    Calls Tryd.prog 55 #[NV (2) (g1) (x1) (l1) (h1), NV (k2) (g2) (x2) (l2) (h2)] w fun e w' => e = .returned (NV 2 false 0 0 0) ∧ Below w.heap.size w w' := by
  go_enter Tryd.func55, Tryd.ntmps55
  go_upto_region 1 with fail
  refine wp_gen (fun wz => C5 wz w.heap.size (.int .i64 2) (.bool g1) (.int .i64 x1) (.int .u64 l1) (.int .u64 h1) ∧ C5 wz (w.heap.size + 1) (.int .i64 k2) (.bool g2) (.int .i64 x2) (.int .u64 l2) (.int .u64 h2) ∧ C5 wz (w.heap.size + 1 + 1) (.int .i64 0) (.bool false) (.int .i64 0) (.int .u64 0) (.int .u64 0) ∧ Below w.heap.size w wz) ⟨c5_new.past.past, c5_mid.past, c5_third, ((((Below.refl _ _).alloc (Nat.le_refl _) _).alloc (by simp) _).alloc (by simp; omega) _)⟩ ?_
  rintro w1 ⟨cn, cm, cr, hb⟩
  have CN := Hid.mk' cn
  have CM := Hid.mk' cm
  have CR := Hid.mk' cr
  have HB := Hid.mk' hb
  clear cn cm cr hb
  obtain ⟨⟨c0, c1, c2, c3, c4⟩, f0, f1, f2, f3, f4⟩ := CN.out
  obtain ⟨⟨d0, d1, d2, d3, d4⟩, y0, y1, y2, y3, y4⟩ := CM.out
  obtain ⟨⟨r0, r1, r2, r3, r4⟩, v0, v1, v2, v3, v4⟩ := CR.out
  go_wp2
  exact bodyPost_ret (v := NV 2 false 0 0 0) (by simp [results, Tryd.results55, go_sem, r0, r1, r2, r3, r4]) rfl ⟨rfl, by repeat (first | exact HB.out | refine Below.setCell ?_ (by first | (simp; done) | (simp; omega) | omega) _)⟩
set_option maxHeartbeats 4000000 in
set_option maxRecDepth 100000 in
theorem tm_x2 (k1 : Int) (g1 g2 : Bool) (x1 l1 h1 x2 l2 h2 : Int) (w : World) (hk : (k1 == 2) = false) :
    Calls Tryd.prog 55 #[NV (k1) (g1) (x1) (l1) (h1), NV (2) (g2) (x2) (l2) (h2)] w fun e w' => e = .returned (NV 2 false 0 0 0) ∧ Below w.heap.size w w' := by
  go_enter Tryd.func55, Tryd.ntmps55
  go_upto_region 1 with fail
  refine wp_gen (fun wz => C5 wz w.heap.size (.int .i64 k1) (.bool g1) (.int .i64 x1) (.int .u64 l1) (.int .u64 h1) ∧ C5 wz (w.heap.size + 1) (.int .i64 2) (.bool g2) (.int .i64 x2) (.int .u64 l2) (.int .u64 h2) ∧ C5 wz (w.heap.size + 1 + 1) (.int .i64 0) (.bool false) (.int .i64 0) (.int .u64 0) (.int .u64 0) ∧ Below w.heap.size w wz) ⟨c5_new.past.past, c5_mid.past, c5_third, ((((Below.refl _ _).alloc (Nat.le_refl _) _).alloc (by simp) _).alloc (by simp; omega) _)⟩ ?_
  rintro w1 ⟨cn, cm, cr, hb⟩
  have CN := Hid.mk' cn
  have CM := Hid.mk' cm
  have CR := Hid.mk' cr
  have HB := Hid.mk' hb
  clear cn cm cr hb
  obtain ⟨⟨c0, c1, c2, c3, c4⟩, f0, f1, f2, f3, f4⟩ := CN.out
  obtain ⟨⟨d0, d1, d2, d3, d4⟩, y0, y1, y2, y3, y4⟩ := CM.out
  obtain ⟨⟨r0, r1, r2, r3, r4⟩, v0, v1, v2, v3, v4⟩ := CR.out
  go_wp2
  exact bodyPost_ret (v := NV 2 false 0 0 0) (by simp [results, Tryd.results55, go_sem, r0, r1, r2, r3, r4]) rfl ⟨rfl, by repeat (first | exact HB.out | refine Below.setCell ?_ (by first | (simp; done) | (simp; omega) | omega) _)⟩
set_option maxHeartbeats 4000000 in
set_option maxRecDepth 100000 in
theorem tm_1z (g1 g2 : Bool) (x1 l1 h1 x2 l2 h2 : Int) (w : World) (KZ2 : ∀ w, Hid (Calls Tryd.prog 79 #[NV 0 g2 x2 l2 h2] w fun e w' => e = .returned (.bool true) ∧ Below w.heap.size w w')) :
    Calls Tryd.prog 55 #[NV (1) (g1) (x1) (l1) (h1), NV (0) (g2) (x2) (l2) (h2)] w fun e w' => e = .returned (NV 2 false 0 0 0) ∧ Below w.heap.size w w' := by
  go_enter Tryd.func55, Tryd.ntmps55
  go_upto_region 1 with fail
  refine wp_gen (fun wz => C5 wz w.heap.size (.int .i64 1) (.bool g1) (.int .i64 x1) (.int .u64 l1) (.int .u64 h1) ∧ C5 wz (w.heap.size + 1) (.int .i64 0) (.bool g2) (.int .i64 x2) (.int .u64 l2) (.int .u64 h2) ∧ C5 wz (w.heap.size + 1 + 1) (.int .i64 0) (.bool false) (.int .i64 0) (.int .u64 0) (.int .u64 0) ∧ Below w.heap.size w wz) ⟨c5_new.past.past, c5_mid.past, c5_third, ((((Below.refl _ _).alloc (Nat.le_refl _) _).alloc (by simp) _).alloc (by simp; omega) _)⟩ ?_
  rintro w1 ⟨cn, cm, cr, hb⟩
  have CN := Hid.mk' cn
  have CM := Hid.mk' cm
  have CR := Hid.mk' cr
  have HB := Hid.mk' hb
  clear cn cm cr hb
  obtain ⟨⟨c0, c1, c2, c3, c4⟩, f0, f1, f2, f3, f4⟩ := CN.out
  obtain ⟨⟨d0, d1, d2, d3, d4⟩, y0, y1, y2, y3, y4⟩ := CM.out
  obtain ⟨⟨r0, r1, r2, r3, r4⟩, v0, v1, v2, v3, v4⟩ := CR.out
  go_wp2_with (first | (go_at_call 79; (first | (with_reducible refine (KZ2 _).out.mono ?_)); rintro e w6 ⟨rfl, hb⟩; have CN := Hid.mk' (CN.out.keep hb); have CM := Hid.mk' (CM.out.keep hb); have CR := Hid.mk' (CR.out.keep hb); have HB := Hid.mk' (HB.out.trans (hb.mono HB.out.size)); clear c0 c1 c2 c3 c4 f0 f1 f2 f3 f4 d0 d1 d2 d3 d4 y0 y1 y2 y3 y4 r0 r1 r2 r3 r4 v0 v1 v2 v3 v4; obtain ⟨⟨c0, c1, c2, c3, c4⟩, f0, f1, f2, f3, f4⟩ := CN.out; obtain ⟨⟨d0, d1, d2, d3, d4⟩, y0, y1, y2, y3, y4⟩ := CM.out; obtain ⟨⟨r0, r1, r2, r3, r4⟩, v0, v1, v2, v3, v4⟩ := CR.out; clear hb))
  exact bodyPost_ret (v := NV 2 false 0 0 0) (by simp [results, Tryd.results55, go_sem, r0, r1, r2, r3, r4]) rfl ⟨rfl, by repeat (first | exact HB.out | refine Below.setCell ?_ (by first | (simp; done) | (simp; omega) | omega) _)⟩
set_option maxHeartbeats 4000000 in
set_option maxRecDepth 100000 in
theorem tm_z1 (g1 g2 : Bool) (x1 l1 h1 x2 l2 h2 : Int) (w : World) (KZ1 : ∀ w, Hid (Calls Tryd.prog 79 #[NV 0 g1 x1 l1 h1] w fun e w' => e = .returned (.bool true) ∧ Below w.heap.size w w')) :
    Calls Tryd.prog 55 #[NV (0) (g1) (x1) (l1) (h1), NV (1) (g2) (x2) (l2) (h2)] w fun e w' => e = .returned (NV 2 false 0 0 0) ∧ Below w.heap.size w w' := by
  go_enter Tryd.func55, Tryd.ntmps55
  go_upto_region 1 with fail
  refine wp_gen (fun wz => C5 wz w.heap.size (.int .i64 0) (.bool g1) (.int .i64 x1) (.int .u64 l1) (.int .u64 h1) ∧ C5 wz (w.heap.size + 1) (.int .i64 1) (.bool g2) (.int .i64 x2) (.int .u64 l2) (.int .u64 h2) ∧ C5 wz (w.heap.size + 1 + 1) (.int .i64 0) (.bool false) (.int .i64 0) (.int .u64 0) (.int .u64 0) ∧ Below w.heap.size w wz) ⟨c5_new.past.past, c5_mid.past, c5_third, ((((Below.refl _ _).alloc (Nat.le_refl _) _).alloc (by simp) _).alloc (by simp; omega) _)⟩ ?_
  rintro w1 ⟨cn, cm, cr, hb⟩
  have CN := Hid.mk' cn
  have CM := Hid.mk' cm
  have CR := Hid.mk' cr
  have HB := Hid.mk' hb
  clear cn cm cr hb
  obtain ⟨⟨c0, c1, c2, c3, c4⟩, f0, f1, f2, f3, f4⟩ := CN.out
  obtain ⟨⟨d0, d1, d2, d3, d4⟩, y0, y1, y2, y3, y4⟩ := CM.out
  obtain ⟨⟨r0, r1, r2, r3, r4⟩, v0, v1, v2, v3, v4⟩ := CR.out
  go_wp2_with (first | (go_at_call 79; (first | (with_reducible refine (KZ1 _).out.mono ?_)); rintro e w6 ⟨rfl, hb⟩; have CN := Hid.mk' (CN.out.keep hb); have CM := Hid.mk' (CM.out.keep hb); have CR := Hid.mk' (CR.out.keep hb); have HB := Hid.mk' (HB.out.trans (hb.mono HB.out.size)); clear c0 c1 c2 c3 c4 f0 f1 f2 f3 f4 d0 d1 d2 d3 d4 y0 y1 y2 y3 y4 r0 r1 r2 r3 r4 v0 v1 v2 v3 v4; obtain ⟨⟨c0, c1, c2, c3, c4⟩, f0, f1, f2, f3, f4⟩ := CN.out; obtain ⟨⟨d0, d1, d2, d3, d4⟩, y0, y1, y2, y3, y4⟩ := CM.out; obtain ⟨⟨r0, r1, r2, r3, r4⟩, v0, v1, v2, v3, v4⟩ := CR.out; clear hb))
  exact bodyPost_ret (v := NV 2 false 0 0 0) (by simp [results, Tryd.results55, go_sem, r0, r1, r2, r3, r4]) rfl ⟨rfl, by repeat (first | exact HB.out | refine Below.setCell ?_ (by first | (simp; done) | (simp; omega) | omega) _)⟩
set_option maxHeartbeats 4000000 in
set_option maxRecDepth 100000 in
theorem tm_11 (g : Bool) (g1 g2 : Bool) (x1 l1 h1 x2 l2 h2 : Int) (w : World) (KZ1 : ∀ w, Hid (Calls Tryd.prog 79 #[NV 1 g1 x1 l1 h1] w fun e w' => e = .returned (.bool false) ∧ Below w.heap.size w w')) (KZ2 : ∀ w, Hid (Calls Tryd.prog 79 #[NV 1 g2 x2 l2 h2] w fun e w' => e = .returned (.bool false) ∧ Below w.heap.size w w')) (hg : (!(g1 == g2)) = g) :
    Calls Tryd.prog 55 #[NV (1) (g1) (x1) (l1) (h1), NV (1) (g2) (x2) (l2) (h2)] w fun e w' => e = .returned (NV 1 g 0 0 0) ∧ Below w.heap.size w w' := by
  go_enter Tryd.func55, Tryd.ntmps55
  go_upto_region 1 with fail
  refine wp_gen (fun wz => C5 wz w.heap.size (.int .i64 1) (.bool g1) (.int .i64 x1) (.int .u64 l1) (.int .u64 h1) ∧ C5 wz (w.heap.size + 1) (.int .i64 1) (.bool g2) (.int .i64 x2) (.int .u64 l2) (.int .u64 h2) ∧ C5 wz (w.heap.size + 1 + 1) (.int .i64 0) (.bool false) (.int .i64 0) (.int .u64 0) (.int .u64 0) ∧ Below w.heap.size w wz) ⟨c5_new.past.past, c5_mid.past, c5_third, ((((Below.refl _ _).alloc (Nat.le_refl _) _).alloc (by simp) _).alloc (by simp; omega) _)⟩ ?_
  rintro w1 ⟨cn, cm, cr, hb⟩
  have CN := Hid.mk' cn
  have CM := Hid.mk' cm
  have CR := Hid.mk' cr
  have HB := Hid.mk' hb
  clear cn cm cr hb
  obtain ⟨⟨c0, c1, c2, c3, c4⟩, f0, f1, f2, f3, f4⟩ := CN.out
  obtain ⟨⟨d0, d1, d2, d3, d4⟩, y0, y1, y2, y3, y4⟩ := CM.out
  obtain ⟨⟨r0, r1, r2, r3, r4⟩, v0, v1, v2, v3, v4⟩ := CR.out
  go_wp2_with (first | (go_at_call 79; (first | (with_reducible refine (KZ1 _).out.mono ?_) | (with_reducible refine (KZ2 _).out.mono ?_)); rintro e w6 ⟨rfl, hb⟩; have CN := Hid.mk' (CN.out.keep hb); have CM := Hid.mk' (CM.out.keep hb); have CR := Hid.mk' (CR.out.keep hb); have HB := Hid.mk' (HB.out.trans (hb.mono HB.out.size)); clear c0 c1 c2 c3 c4 f0 f1 f2 f3 f4 d0 d1 d2 d3 d4 y0 y1 y2 y3 y4 r0 r1 r2 r3 r4 v0 v1 v2 v3 v4; obtain ⟨⟨c0, c1, c2, c3, c4⟩, f0, f1, f2, f3, f4⟩ := CN.out; obtain ⟨⟨d0, d1, d2, d3, d4⟩, y0, y1, y2, y3, y4⟩ := CM.out; obtain ⟨⟨r0, r1, r2, r3, r4⟩, v0, v1, v2, v3, v4⟩ := CR.out; clear hb))
  exact bodyPost_ret (v := NV 1 g 0 0 0) (by simp [results, Tryd.results55, go_sem, r0, r1, r2, r3, r4]) rfl ⟨rfl, by repeat (first | exact HB.out | refine Below.setCell ?_ (by first | (simp; done) | (simp; omega) | omega) _)⟩
set_option maxHeartbeats 4000000 in
set_option maxRecDepth 100000 in
theorem tm_1n (g : Bool) (g1 g2 : Bool) (x1 l1 h1 x2 l2 h2 : Int) (w : World) (KZ1 : ∀ w, Hid (Calls Tryd.prog 79 #[NV 1 g1 x1 l1 h1] w fun e w' => e = .returned (.bool false) ∧ Below w.heap.size w w')) (KZ2 : ∀ w, Hid (Calls Tryd.prog 79 #[NV 0 g2 x2 l2 h2] w fun e w' => e = .returned (.bool false) ∧ Below w.heap.size w w')) (hg : (!(g1 == g2)) = g) :
    Calls Tryd.prog 55 #[NV (1) (g1) (x1) (l1) (h1), NV (0) (g2) (x2) (l2) (h2)] w fun e w' => e = .returned (NV 1 g 0 0 0) ∧ Below w.heap.size w w' := by
  go_enter Tryd.func55, Tryd.ntmps55
  go_upto_region 1 with fail
  refine wp_gen (fun wz => C5 wz w.heap.size (.int .i64 1) (.bool g1) (.int .i64 x1) (.int .u64 l1) (.int .u64 h1) ∧ C5 wz (w.heap.size + 1) (.int .i64 0) (.bool g2) (.int .i64 x2) (.int .u64 l2) (.int .u64 h2) ∧ C5 wz (w.heap.size + 1 + 1) (.int .i64 0) (.bool false) (.int .i64 0) (.int .u64 0) (.int .u64 0) ∧ Below w.heap.size w wz) ⟨c5_new.past.past, c5_mid.past, c5_third, ((((Below.refl _ _).alloc (Nat.le_refl _) _).alloc (by simp) _).alloc (by simp; omega) _)⟩ ?_
  rintro w1 ⟨cn, cm, cr, hb⟩
  have CN := Hid.mk' cn
  have CM := Hid.mk' cm
  have CR := Hid.mk' cr
  have HB := Hid.mk' hb
  clear cn cm cr hb
  obtain ⟨⟨c0, c1, c2, c3, c4⟩, f0, f1, f2, f3, f4⟩ := CN.out
  obtain ⟨⟨d0, d1, d2, d3, d4⟩, y0, y1, y2, y3, y4⟩ := CM.out
  obtain ⟨⟨r0, r1, r2, r3, r4⟩, v0, v1, v2, v3, v4⟩ := CR.out
  go_wp2_with (first | (go_at_call 79; (first | (with_reducible refine (KZ1 _).out.mono ?_) | (with_reducible refine (KZ2 _).out.mono ?_)); rintro e w6 ⟨rfl, hb⟩; have CN := Hid.mk' (CN.out.keep hb); have CM := Hid.mk' (CM.out.keep hb); have CR := Hid.mk' (CR.out.keep hb); have HB := Hid.mk' (HB.out.trans (hb.mono HB.out.size)); clear c0 c1 c2 c3 c4 f0 f1 f2 f3 f4 d0 d1 d2 d3 d4 y0 y1 y2 y3 y4 r0 r1 r2 r3 r4 v0 v1 v2 v3 v4; obtain ⟨⟨c0, c1, c2, c3, c4⟩, f0, f1, f2, f3, f4⟩ := CN.out; obtain ⟨⟨d0, d1, d2, d3, d4⟩, y0, y1, y2, y3, y4⟩ := CM.out; obtain ⟨⟨r0, r1, r2, r3, r4⟩, v0, v1, v2, v3, v4⟩ := CR.out; clear hb))
  exact bodyPost_ret (v := NV 1 g 0 0 0) (by simp [results, Tryd.results55, go_sem, r0, r1, r2, r3, r4]) rfl ⟨rfl, by repeat (first | exact HB.out | refine Below.setCell ?_ (by first | (simp; done) | (simp; omega) | omega) _)⟩
set_option maxHeartbeats 4000000 in
set_option maxRecDepth 100000 in
theorem tm_n1 (g : Bool) (g1 g2 : Bool) (x1 l1 h1 x2 l2 h2 : Int) (w : World) (KZ1 : ∀ w, Hid (Calls Tryd.prog 79 #[NV 0 g1 x1 l1 h1] w fun e w' => e = .returned (.bool false) ∧ Below w.heap.size w w')) (hg : (!(g1 == g2)) = g) :
    Calls Tryd.prog 55 #[NV (0) (g1) (x1) (l1) (h1), NV (1) (g2) (x2) (l2) (h2)] w fun e w' => e = .returned (NV 1 g 0 0 0) ∧ Below w.heap.size w w' := by
  go_enter Tryd.func55, Tryd.ntmps55
  go_upto_region 1 with fail
  refine wp_gen (fun wz => C5 wz w.heap.size (.int .i64 0) (.bool g1) (.int .i64 x1) (.int .u64 l1) (.int .u64 h1) ∧ C5 wz (w.heap.size + 1) (.int .i64 1) (.bool g2) (.int .i64 x2) (.int .u64 l2) (.int .u64 h2) ∧ C5 wz (w.heap.size + 1 + 1) (.int .i64 0) (.bool false) (.int .i64 0) (.int .u64 0) (.int .u64 0) ∧ Below w.heap.size w wz) ⟨c5_new.past.past, c5_mid.past, c5_third, ((((Below.refl _ _).alloc (Nat.le_refl _) _).alloc (by simp) _).alloc (by simp; omega) _)⟩ ?_
  rintro w1 ⟨cn, cm, cr, hb⟩
  have CN := Hid.mk' cn
  have CM := Hid.mk' cm
  have CR := Hid.mk' cr
  have HB := Hid.mk' hb
  clear cn cm cr hb
  obtain ⟨⟨c0, c1, c2, c3, c4⟩, f0, f1, f2, f3, f4⟩ := CN.out
  obtain ⟨⟨d0, d1, d2, d3, d4⟩, y0, y1, y2, y3, y4⟩ := CM.out
  obtain ⟨⟨r0, r1, r2, r3, r4⟩, v0, v1, v2, v3, v4⟩ := CR.out
  go_wp2_with (first | (go_at_call 79; (first | (with_reducible refine (KZ1 _).out.mono ?_)); rintro e w6 ⟨rfl, hb⟩; have CN := Hid.mk' (CN.out.keep hb); have CM := Hid.mk' (CM.out.keep hb); have CR := Hid.mk' (CR.out.keep hb); have HB := Hid.mk' (HB.out.trans (hb.mono HB.out.size)); clear c0 c1 c2 c3 c4 f0 f1 f2 f3 f4 d0 d1 d2 d3 d4 y0 y1 y2 y3 y4 r0 r1 r2 r3 r4 v0 v1 v2 v3 v4; obtain ⟨⟨c0, c1, c2, c3, c4⟩, f0, f1, f2, f3, f4⟩ := CN.out; obtain ⟨⟨d0, d1, d2, d3, d4⟩, y0, y1, y2, y3, y4⟩ := CM.out; obtain ⟨⟨r0, r1, r2, r3, r4⟩, v0, v1, v2, v3, v4⟩ := CR.out; clear hb))
  exact bodyPost_ret (v := NV 1 g 0 0 0) (by simp [results, Tryd.results55, go_sem, r0, r1, r2, r3, r4]) rfl ⟨rfl, by repeat (first | exact HB.out | refine Below.setCell ?_ (by first | (simp; done) | (simp; omega) | omega) _)⟩
set_option maxHeartbeats 4000000 in
set_option maxRecDepth 100000 in
theorem tm_00 (g : Bool) (g1 g2 : Bool) (x1 l1 h1 x2 l2 h2 : Int) (z1 : Bool) (l h : Int) (w : World) (KZ1 : ∀ w, Hid (Calls Tryd.prog 79 #[NV 0 g1 x1 l1 h1] w fun e w' => e = .returned (.bool z1) ∧ Below w.heap.size w w')) (hg : (!(g1 == g2)) = g) (hx : -5000 ≤ x1) (hx2 : x1 ≤ 5000) (hx3 : -5000 ≤ x2) (hx4 : x2 ≤ 5000) (KS : ∀ w, Hid (Calls Tryd.prog 95 #[.int .u64 l1, .int .u64 l2] w fun e w' => e = .returned (.tuple #[.int .u64 h, .int .u64 l]) ∧ w = w')) :
    Calls Tryd.prog 55 #[NV (0) (g1) (x1) (l1) (h1), NV (0) (g2) (x2) (l2) (h2)] w fun e w' => e = .returned (NV 0 g (x1 + x2) l h) ∧ Below w.heap.size w w' := by
  go_enter Tryd.func55, Tryd.ntmps55
  go_upto_region 1 with fail
  refine wp_gen (fun wz => C5 wz w.heap.size (.int .i64 0) (.bool g1) (.int .i64 x1) (.int .u64 l1) (.int .u64 h1) ∧ C5 wz (w.heap.size + 1) (.int .i64 0) (.bool g2) (.int .i64 x2) (.int .u64 l2) (.int .u64 h2) ∧ C5 wz (w.heap.size + 1 + 1) (.int .i64 0) (.bool false) (.int .i64 0) (.int .u64 0) (.int .u64 0) ∧ Below w.heap.size w wz) ⟨c5_new.past.past, c5_mid.past, c5_third, ((((Below.refl _ _).alloc (Nat.le_refl _) _).alloc (by simp) _).alloc (by simp; omega) _)⟩ ?_
  rintro w1 ⟨cn, cm, cr, hb⟩
  have CN := Hid.mk' cn
  have CM := Hid.mk' cm
  have CR := Hid.mk' cr
  have HB := Hid.mk' hb
  clear cn cm cr hb
  obtain ⟨⟨c0, c1, c2, c3, c4⟩, f0, f1, f2, f3, f4⟩ := CN.out
  obtain ⟨⟨d0, d1, d2, d3, d4⟩, y0, y1, y2, y3, y4⟩ := CM.out
  obtain ⟨⟨r0, r1, r2, r3, r4⟩, v0, v1, v2, v3, v4⟩ := CR.out
  cases z1
  all_goals (
  go_wp2_with (first | (go_at_call 79; (first | (with_reducible refine (KZ1 _).out.mono ?_)); rintro e w6 ⟨rfl, hb⟩; have CN := Hid.mk' (CN.out.keep hb); have CM := Hid.mk' (CM.out.keep hb); have CR := Hid.mk' (CR.out.keep hb); have HB := Hid.mk' (HB.out.trans (hb.mono HB.out.size)); clear c0 c1 c2 c3 c4 f0 f1 f2 f3 f4 d0 d1 d2 d3 d4 y0 y1 y2 y3 y4 r0 r1 r2 r3 r4 v0 v1 v2 v3 v4; obtain ⟨⟨c0, c1, c2, c3, c4⟩, f0, f1, f2, f3, f4⟩ := CN.out; obtain ⟨⟨d0, d1, d2, d3, d4⟩, y0, y1, y2, y3, y4⟩ := CM.out; obtain ⟨⟨r0, r1, r2, r3, r4⟩, v0, v1, v2, v3, v4⟩ := CR.out; clear hb) | (go_at_call 95; refine (KS _).out.mono ?_; rintro e w6 ⟨rfl, rfl⟩))
  exact bodyPost_ret (v := NV 0 g (x1 + x2) l h) (by simp [results, Tryd.results55, go_sem, r0, r1, r2, r3, r4]) rfl ⟨rfl, by repeat (first | exact HB.out | refine Below.setCell ?_ (by first | (simp; done) | (simp; omega) | omega) _)⟩)
end Go.Proofs.YthmppcfhbbjhlaaDoor
namespace Go.Proofs.YthmppcfhbbjhlaaDoor
open Go.RowKit Go.Sort

set_option maxHeartbeats 4000000 in
set_option maxRecDepth 100000 in
theorem by_2x (k2 : Int) (g1 g2 : Bool) (x1 l1 h1 x2 l2 h2 : Int) (w : World)  :
    Calls Tryd.prog 56 #[NV (2) (g1) (x1) (l1) (h1), NV (k2) (g2) (x2) (l2) (h2)] w fun e w' => e = .returned (NV 2 false 0 0 0) ∧ Below w.heap.size w w' := by
  go_enter Tryd.func56, Tryd.ntmps56
  go_upto_region 1 with fail
  refine wp_gen (fun wz => C5 wz w.heap.size (.int .i64 2) (.bool g1) (.int .i64 x1) (.int .u64 l1) (.int .u64 h1) ∧ C5 wz (w.heap.size + 1) (.int .i64 k2) (.bool g2) (.int .i64 x2) (.int .u64 l2) (.int .u64 h2) ∧ C5 wz (w.heap.size + 1 + 1) (.int .i64 0) (.bool false) (.int .i64 0) (.int .u64 0) (.int .u64 0) ∧ Below w.heap.size w wz) ⟨c5_new.past.past, c5_mid.past, c5_third, ((((Below.refl _ _).alloc (Nat.le_refl _) _).alloc (by simp) _).alloc (by simp; omega) _)⟩ ?_
  rintro w1 ⟨cn, cm, cr, hb⟩
  have CN := Hid.mk' cn
  have CM := Hid.mk' cm
  have CR := Hid.mk' cr
  have HB := Hid.mk' hb
  clear cn cm cr hb
  obtain ⟨⟨c0, c1, c2, c3, c4⟩, f0, f1, f2, f3, f4⟩ := CN.out
  obtain ⟨⟨d0, d1, d2, d3, d4⟩, y0, y1, y2, y3, y4⟩ := CM.out
  obtain ⟨⟨r0, r1, r2, r3, r4⟩, v0, v1, v2, v3, v4⟩ := CR.out
  go_wp2
  exact bodyPost_ret (v := NV 2 false 0 0 0) (by simp [results, Tryd.results56, go_sem, r0, r1, r2, r3, r4]) rfl ⟨rfl, by repeat (first | exact HB.out | refine Below.setCell ?_ (by first | (simp; done) | (simp; omega) | omega) _)⟩
set_option maxHeartbeats 4000000 in
set_option maxRecDepth 100000 in
theorem by_x2 (k1 : Int) (g1 g2 : Bool) (x1 l1 h1 x2 l2 h2 : Int) (w : World) (hk : (k1 == 2) = false) :
    Calls Tryd.prog 56 #[NV (k1) (g1) (x1) (l1) (h1), NV (2) (g2) (x2) (l2) (h2)] w fun e w' => e = .returned (NV 2 false 0 0 0) ∧ Below w.heap.size w w' := by
  go_enter Tryd.func56, Tryd.ntmps56
  go_upto_region 1 with fail
  refine wp_gen (fun wz => C5 wz w.heap.size (.int .i64 k1) (.bool g1) (.int .i64 x1) (.int .u64 l1) (.int .u64 h1) ∧ C5 wz (w.heap.size + 1) (.int .i64 2) (.bool g2) (.int .i64 x2) (.int .u64 l2) (.int .u64 h2) ∧ C5 wz (w.heap.size + 1 + 1) (.int .i64 0) (.bool false) (.int .i64 0) (.int .u64 0) (.int .u64 0) ∧ Below w.heap.size w wz) ⟨c5_new.past.past, c5_mid.past, c5_third, ((((Below.refl _ _).alloc (Nat.le_refl _) _).alloc (by simp) _).alloc (by simp; omega) _)⟩ ?_
  rintro w1 ⟨cn, cm, cr, hb⟩
  have CN := Hid.mk' cn
  have CM := Hid.mk' cm
  have CR := Hid.mk' cr
  have HB := Hid.mk' hb
  clear cn cm cr hb
  obtain ⟨⟨c0, c1, c2, c3, c4⟩, f0, f1, f2, f3, f4⟩ := CN.out
  obtain ⟨⟨d0, d1, d2, d3, d4⟩, y0, y1, y2, y3, y4⟩ := CM.out
  obtain ⟨⟨r0, r1, r2, r3, r4⟩, v0, v1, v2, v3, v4⟩ := CR.out
  go_wp2
  exact bodyPost_ret (v := NV 2 false 0 0 0) (by simp [results, Tryd.results56, go_sem, r0, r1, r2, r3, r4]) rfl ⟨rfl, by repeat (first | exact HB.out | refine Below.setCell ?_ (by first | (simp; done) | (simp; omega) | omega) _)⟩
set_option maxHeartbeats 4000000 in
set_option maxRecDepth 100000 in
theorem by_11 (g1 g2 : Bool) (x1 l1 h1 x2 l2 h2 : Int) (w : World)  :
    Calls Tryd.prog 56 #[NV (1) (g1) (x1) (l1) (h1), NV (1) (g2) (x2) (l2) (h2)] w fun e w' => e = .returned (NV 2 false 0 0 0) ∧ Below w.heap.size w w' := by
  go_enter Tryd.func56, Tryd.ntmps56
  go_upto_region 1 with fail
  refine wp_gen (fun wz => C5 wz w.heap.size (.int .i64 1) (.bool g1) (.int .i64 x1) (.int .u64 l1) (.int .u64 h1) ∧ C5 wz (w.heap.size + 1) (.int .i64 1) (.bool g2) (.int .i64 x2) (.int .u64 l2) (.int .u64 h2) ∧ C5 wz (w.heap.size + 1 + 1) (.int .i64 0) (.bool false) (.int .i64 0) (.int .u64 0) (.int .u64 0) ∧ Below w.heap.size w wz) ⟨c5_new.past.past, c5_mid.past, c5_third, ((((Below.refl _ _).alloc (Nat.le_refl _) _).alloc (by simp) _).alloc (by simp; omega) _)⟩ ?_
  rintro w1 ⟨cn, cm, cr, hb⟩
  have CN := Hid.mk' cn
  have CM := Hid.mk' cm
  have CR := Hid.mk' cr
  have HB := Hid.mk' hb
  clear cn cm cr hb
  obtain ⟨⟨c0, c1, c2, c3, c4⟩, f0, f1, f2, f3, f4⟩ := CN.out
  obtain ⟨⟨d0, d1, d2, d3, d4⟩, y0, y1, y2, y3, y4⟩ := CM.out
  obtain ⟨⟨r0, r1, r2, r3, r4⟩, v0, v1, v2, v3, v4⟩ := CR.out
  go_wp2
  exact bodyPost_ret (v := NV 2 false 0 0 0) (by simp [results, Tryd.results56, go_sem, r0, r1, r2, r3, r4]) rfl ⟨rfl, by repeat (first | exact HB.out | refine Below.setCell ?_ (by first | (simp; done) | (simp; omega) | omega) _)⟩
set_option maxHeartbeats 4000000 in
set_option maxRecDepth 100000 in
theorem by_zz (g1 g2 : Bool) (x1 l1 h1 x2 l2 h2 : Int) (w : World) (KZ1 : ∀ w, Hid (Calls Tryd.prog 79 #[NV 0 g1 x1 l1 h1] w fun e w' => e = .returned (.bool true) ∧ Below w.heap.size w w')) (KZ2 : ∀ w, Hid (Calls Tryd.prog 79 #[NV 0 g2 x2 l2 h2] w fun e w' => e = .returned (.bool true) ∧ Below w.heap.size w w')) :
    Calls Tryd.prog 56 #[NV (0) (g1) (x1) (l1) (h1), NV (0) (g2) (x2) (l2) (h2)] w fun e w' => e = .returned (NV 2 false 0 0 0) ∧ Below w.heap.size w w' := by
  go_enter Tryd.func56, Tryd.ntmps56
  go_upto_region 1 with fail
  refine wp_gen (fun wz => C5 wz w.heap.size (.int .i64 0) (.bool g1) (.int .i64 x1) (.int .u64 l1) (.int .u64 h1) ∧ C5 wz (w.heap.size + 1) (.int .i64 0) (.bool g2) (.int .i64 x2) (.int .u64 l2) (.int .u64 h2) ∧ C5 wz (w.heap.size + 1 + 1) (.int .i64 0) (.bool false) (.int .i64 0) (.int .u64 0) (.int .u64 0) ∧ Below w.heap.size w wz) ⟨c5_new.past.past, c5_mid.past, c5_third, ((((Below.refl _ _).alloc (Nat.le_refl _) _).alloc (by simp) _).alloc (by simp; omega) _)⟩ ?_
  rintro w1 ⟨cn, cm, cr, hb⟩
  have CN := Hid.mk' cn
  have CM := Hid.mk' cm
  have CR := Hid.mk' cr
  have HB := Hid.mk' hb
  clear cn cm cr hb
  obtain ⟨⟨c0, c1, c2, c3, c4⟩, f0, f1, f2, f3, f4⟩ := CN.out
  obtain ⟨⟨d0, d1, d2, d3, d4⟩, y0, y1, y2, y3, y4⟩ := CM.out
  obtain ⟨⟨r0, r1, r2, r3, r4⟩, v0, v1, v2, v3, v4⟩ := CR.out
  go_wp2_with (first | (go_at_call 79; (first | (with_reducible refine (KZ1 _).out.mono ?_) | (with_reducible refine (KZ2 _).out.mono ?_)); rintro e w6 ⟨rfl, hb⟩; have CN := Hid.mk' (CN.out.keep hb); have CM := Hid.mk' (CM.out.keep hb); have CR := Hid.mk' (CR.out.keep hb); have HB := Hid.mk' (HB.out.trans (hb.mono HB.out.size)); clear c0 c1 c2 c3 c4 f0 f1 f2 f3 f4 d0 d1 d2 d3 d4 y0 y1 y2 y3 y4 r0 r1 r2 r3 r4 v0 v1 v2 v3 v4; obtain ⟨⟨c0, c1, c2, c3, c4⟩, f0, f1, f2, f3, f4⟩ := CN.out; obtain ⟨⟨d0, d1, d2, d3, d4⟩, y0, y1, y2, y3, y4⟩ := CM.out; obtain ⟨⟨r0, r1, r2, r3, r4⟩, v0, v1, v2, v3, v4⟩ := CR.out; clear hb))
  exact bodyPost_ret (v := NV 2 false 0 0 0) (by simp [results, Tryd.results56, go_sem, r0, r1, r2, r3, r4]) rfl ⟨rfl, by repeat (first | exact HB.out | refine Below.setCell ?_ (by first | (simp; done) | (simp; omega) | omega) _)⟩
set_option maxHeartbeats 4000000 in
set_option maxRecDepth 100000 in
theorem by_10 (g : Bool) (g1 g2 : Bool) (x1 l1 h1 x2 l2 h2 : Int) (w : World) (KZ1 : ∀ w, Hid (Calls Tryd.prog 79 #[NV 1 g1 x1 l1 h1] w fun e w' => e = .returned (.bool false) ∧ Below w.heap.size w w')) (hg : (!(g1 == g2)) = g) :
    Calls Tryd.prog 56 #[NV (1) (g1) (x1) (l1) (h1), NV (0) (g2) (x2) (l2) (h2)] w fun e w' => e = .returned (NV 1 g 0 0 0) ∧ Below w.heap.size w w' := by
  go_enter Tryd.func56, Tryd.ntmps56
  go_upto_region 1 with fail
  refine wp_gen (fun wz => C5 wz w.heap.size (.int .i64 1) (.bool g1) (.int .i64 x1) (.int .u64 l1) (.int .u64 h1) ∧ C5 wz (w.heap.size + 1) (.int .i64 0) (.bool g2) (.int .i64 x2) (.int .u64 l2) (.int .u64 h2) ∧ C5 wz (w.heap.size + 1 + 1) (.int .i64 0) (.bool false) (.int .i64 0) (.int .u64 0) (.int .u64 0) ∧ Below w.heap.size w wz) ⟨c5_new.past.past, c5_mid.past, c5_third, ((((Below.refl _ _).alloc (Nat.le_refl _) _).alloc (by simp) _).alloc (by simp; omega) _)⟩ ?_
  rintro w1 ⟨cn, cm, cr, hb⟩
  have CN := Hid.mk' cn
  have CM := Hid.mk' cm
  have CR := Hid.mk' cr
  have HB := Hid.mk' hb
  clear cn cm cr hb
  obtain ⟨⟨c0, c1, c2, c3, c4⟩, f0, f1, f2, f3, f4⟩ := CN.out
  obtain ⟨⟨d0, d1, d2, d3, d4⟩, y0, y1, y2, y3, y4⟩ := CM.out
  obtain ⟨⟨r0, r1, r2, r3, r4⟩, v0, v1, v2, v3, v4⟩ := CR.out
  go_wp2_with (first | (go_at_call 79; (first | (with_reducible refine (KZ1 _).out.mono ?_)); rintro e w6 ⟨rfl, hb⟩; have CN := Hid.mk' (CN.out.keep hb); have CM := Hid.mk' (CM.out.keep hb); have CR := Hid.mk' (CR.out.keep hb); have HB := Hid.mk' (HB.out.trans (hb.mono HB.out.size)); clear c0 c1 c2 c3 c4 f0 f1 f2 f3 f4 d0 d1 d2 d3 d4 y0 y1 y2 y3 y4 r0 r1 r2 r3 r4 v0 v1 v2 v3 v4; obtain ⟨⟨c0, c1, c2, c3, c4⟩, f0, f1, f2, f3, f4⟩ := CN.out; obtain ⟨⟨d0, d1, d2, d3, d4⟩, y0, y1, y2, y3, y4⟩ := CM.out; obtain ⟨⟨r0, r1, r2, r3, r4⟩, v0, v1, v2, v3, v4⟩ := CR.out; clear hb))
  exact bodyPost_ret (v := NV 1 g 0 0 0) (by simp [results, Tryd.results56, go_sem, r0, r1, r2, r3, r4]) rfl ⟨rfl, by repeat (first | exact HB.out | refine Below.setCell ?_ (by first | (simp; done) | (simp; omega) | omega) _)⟩
set_option maxHeartbeats 4000000 in
set_option maxRecDepth 100000 in
theorem by_nz (g : Bool) (g1 g2 : Bool) (x1 l1 h1 x2 l2 h2 : Int) (w : World) (KZ1 : ∀ w, Hid (Calls Tryd.prog 79 #[NV 0 g1 x1 l1 h1] w fun e w' => e = .returned (.bool false) ∧ Below w.heap.size w w')) (KZ2 : ∀ w, Hid (Calls Tryd.prog 79 #[NV 0 g2 x2 l2 h2] w fun e w' => e = .returned (.bool true) ∧ Below w.heap.size w w')) (hg : (!(g1 == g2)) = g) :
    Calls Tryd.prog 56 #[NV (0) (g1) (x1) (l1) (h1), NV (0) (g2) (x2) (l2) (h2)] w fun e w' => e = .returned (NV 1 g 0 0 0) ∧ Below w.heap.size w w' := by
  go_enter Tryd.func56, Tryd.ntmps56
  go_upto_region 1 with fail
  refine wp_gen (fun wz => C5 wz w.heap.size (.int .i64 0) (.bool g1) (.int .i64 x1) (.int .u64 l1) (.int .u64 h1) ∧ C5 wz (w.heap.size + 1) (.int .i64 0) (.bool g2) (.int .i64 x2) (.int .u64 l2) (.int .u64 h2) ∧ C5 wz (w.heap.size + 1 + 1) (.int .i64 0) (.bool false) (.int .i64 0) (.int .u64 0) (.int .u64 0) ∧ Below w.heap.size w wz) ⟨c5_new.past.past, c5_mid.past, c5_third, ((((Below.refl _ _).alloc (Nat.le_refl _) _).alloc (by simp) _).alloc (by simp; omega) _)⟩ ?_
  rintro w1 ⟨cn, cm, cr, hb⟩
  have CN := Hid.mk' cn
  have CM := Hid.mk' cm
  have CR := Hid.mk' cr
  have HB := Hid.mk' hb
  clear cn cm cr hb
  obtain ⟨⟨c0, c1, c2, c3, c4⟩, f0, f1, f2, f3, f4⟩ := CN.out
  obtain ⟨⟨d0, d1, d2, d3, d4⟩, y0, y1, y2, y3, y4⟩ := CM.out
  obtain ⟨⟨r0, r1, r2, r3, r4⟩, v0, v1, v2, v3, v4⟩ := CR.out
  go_wp2_with (first | (go_at_call 79; (first | (with_reducible refine (KZ1 _).out.mono ?_) | (with_reducible refine (KZ2 _).out.mono ?_)); rintro e w6 ⟨rfl, hb⟩; have CN := Hid.mk' (CN.out.keep hb); have CM := Hid.mk' (CM.out.keep hb); have CR := Hid.mk' (CR.out.keep hb); have HB := Hid.mk' (HB.out.trans (hb.mono HB.out.size)); clear c0 c1 c2 c3 c4 f0 f1 f2 f3 f4 d0 d1 d2 d3 d4 y0 y1 y2 y3 y4 r0 r1 r2 r3 r4 v0 v1 v2 v3 v4; obtain ⟨⟨c0, c1, c2, c3, c4⟩, f0, f1, f2, f3, f4⟩ := CN.out; obtain ⟨⟨d0, d1, d2, d3, d4⟩, y0, y1, y2, y3, y4⟩ := CM.out; obtain ⟨⟨r0, r1, r2, r3, r4⟩, v0, v1, v2, v3, v4⟩ := CR.out; clear hb))
  exact bodyPost_ret (v := NV 1 g 0 0 0) (by simp [results, Tryd.results56, go_sem, r0, r1, r2, r3, r4]) rfl ⟨rfl, by repeat (first | exact HB.out | refine Below.setCell ?_ (by first | (simp; done) | (simp; omega) | omega) _)⟩
set_option maxHeartbeats 4000000 in
set_option maxRecDepth 100000 in
theorem by_zn (g : Bool) (g1 g2 : Bool) (x1 l1 h1 x2 l2 h2 : Int) (w : World) (KZ1 : ∀ w, Hid (Calls Tryd.prog 79 #[NV 0 g1 x1 l1 h1] w fun e w' => e = .returned (.bool true) ∧ Below w.heap.size w w')) (KZ2 : ∀ w, Hid (Calls Tryd.prog 79 #[NV 0 g2 x2 l2 h2] w fun e w' => e = .returned (.bool false) ∧ Below w.heap.size w w')) (hg : (!(g1 == g2)) = g) :
    Calls Tryd.prog 56 #[NV (0) (g1) (x1) (l1) (h1), NV (0) (g2) (x2) (l2) (h2)] w fun e w' => e = .returned (NV 0 g 0 0 0) ∧ Below w.heap.size w w' := by
  go_enter Tryd.func56, Tryd.ntmps56
  go_upto_region 1 with fail
  refine wp_gen (fun wz => C5 wz w.heap.size (.int .i64 0) (.bool g1) (.int .i64 x1) (.int .u64 l1) (.int .u64 h1) ∧ C5 wz (w.heap.size + 1) (.int .i64 0) (.bool g2) (.int .i64 x2) (.int .u64 l2) (.int .u64 h2) ∧ C5 wz (w.heap.size + 1 + 1) (.int .i64 0) (.bool false) (.int .i64 0) (.int .u64 0) (.int .u64 0) ∧ Below w.heap.size w wz) ⟨c5_new.past.past, c5_mid.past, c5_third, ((((Below.refl _ _).alloc (Nat.le_refl _) _).alloc (by simp) _).alloc (by simp; omega) _)⟩ ?_
  rintro w1 ⟨cn, cm, cr, hb⟩
  have CN := Hid.mk' cn
  have CM := Hid.mk' cm
  have CR := Hid.mk' cr
  have HB := Hid.mk' hb
  clear cn cm cr hb
  obtain ⟨⟨c0, c1, c2, c3, c4⟩, f0, f1, f2, f3, f4⟩ := CN.out
  obtain ⟨⟨d0, d1, d2, d3, d4⟩, y0, y1, y2, y3, y4⟩ := CM.out
  obtain ⟨⟨r0, r1, r2, r3, r4⟩, v0, v1, v2, v3, v4⟩ := CR.out
  go_wp2_with (first | (go_at_call 79; (first | (with_reducible refine (KZ1 _).out.mono ?_) | (with_reducible refine (KZ2 _).out.mono ?_)); rintro e w6 ⟨rfl, hb⟩; have CN := Hid.mk' (CN.out.keep hb); have CM := Hid.mk' (CM.out.keep hb); have CR := Hid.mk' (CR.out.keep hb); have HB := Hid.mk' (HB.out.trans (hb.mono HB.out.size)); clear c0 c1 c2 c3 c4 f0 f1 f2 f3 f4 d0 d1 d2 d3 d4 y0 y1 y2 y3 y4 r0 r1 r2 r3 r4 v0 v1 v2 v3 v4; obtain ⟨⟨c0, c1, c2, c3, c4⟩, f0, f1, f2, f3, f4⟩ := CN.out; obtain ⟨⟨d0, d1, d2, d3, d4⟩, y0, y1, y2, y3, y4⟩ := CM.out; obtain ⟨⟨r0, r1, r2, r3, r4⟩, v0, v1, v2, v3, v4⟩ := CR.out; clear hb))
  exact bodyPost_ret (v := NV 0 g 0 0 0) (by simp [results, Tryd.results56, go_sem, r0, r1, r2, r3, r4]) rfl ⟨rfl, by repeat (first | exact HB.out | refine Below.setCell ?_ (by first | (simp; done) | (simp; omega) | omega) _)⟩
set_option maxHeartbeats 4000000 in
set_option maxRecDepth 100000 in
theorem by_z1 (g : Bool) (g1 g2 : Bool) (x1 l1 h1 x2 l2 h2 : Int) (w : World) (KZ1 : ∀ w, Hid (Calls Tryd.prog 79 #[NV 0 g1 x1 l1 h1] w fun e w' => e = .returned (.bool true) ∧ Below w.heap.size w w')) (KZ2 : ∀ w, Hid (Calls Tryd.prog 79 #[NV 1 g2 x2 l2 h2] w fun e w' => e = .returned (.bool false) ∧ Below w.heap.size w w')) (hg : (!(g1 == g2)) = g) :
    Calls Tryd.prog 56 #[NV (0) (g1) (x1) (l1) (h1), NV (1) (g2) (x2) (l2) (h2)] w fun e w' => e = .returned (NV 0 g 0 0 0) ∧ Below w.heap.size w w' := by
  go_enter Tryd.func56, Tryd.ntmps56
  go_upto_region 1 with fail
  refine wp_gen (fun wz => C5 wz w.heap.size (.int .i64 0) (.bool g1) (.int .i64 x1) (.int .u64 l1) (.int .u64 h1) ∧ C5 wz (w.heap.size + 1) (.int .i64 1) (.bool g2) (.int .i64 x2) (.int .u64 l2) (.int .u64 h2) ∧ C5 wz (w.heap.size + 1 + 1) (.int .i64 0) (.bool false) (.int .i64 0) (.int .u64 0) (.int .u64 0) ∧ Below w.heap.size w wz) ⟨c5_new.past.past, c5_mid.past, c5_third, ((((Below.refl _ _).alloc (Nat.le_refl _) _).alloc (by simp) _).alloc (by simp; omega) _)⟩ ?_
  rintro w1 ⟨cn, cm, cr, hb⟩
  have CN := Hid.mk' cn
  have CM := Hid.mk' cm
  have CR := Hid.mk' cr
  have HB := Hid.mk' hb
  clear cn cm cr hb
  obtain ⟨⟨c0, c1, c2, c3, c4⟩, f0, f1, f2, f3, f4⟩ := CN.out
  obtain ⟨⟨d0, d1, d2, d3, d4⟩, y0, y1, y2, y3, y4⟩ := CM.out
  obtain ⟨⟨r0, r1, r2, r3, r4⟩, v0, v1, v2, v3, v4⟩ := CR.out
  go_wp2_with (first | (go_at_call 79; (first | (with_reducible refine (KZ1 _).out.mono ?_) | (with_reducible refine (KZ2 _).out.mono ?_)); rintro e w6 ⟨rfl, hb⟩; have CN := Hid.mk' (CN.out.keep hb); have CM := Hid.mk' (CM.out.keep hb); have CR := Hid.mk' (CR.out.keep hb); have HB := Hid.mk' (HB.out.trans (hb.mono HB.out.size)); clear c0 c1 c2 c3 c4 f0 f1 f2 f3 f4 d0 d1 d2 d3 d4 y0 y1 y2 y3 y4 r0 r1 r2 r3 r4 v0 v1 v2 v3 v4; obtain ⟨⟨c0, c1, c2, c3, c4⟩, f0, f1, f2, f3, f4⟩ := CN.out; obtain ⟨⟨d0, d1, d2, d3, d4⟩, y0, y1, y2, y3, y4⟩ := CM.out; obtain ⟨⟨r0, r1, r2, r3, r4⟩, v0, v1, v2, v3, v4⟩ := CR.out; clear hb))
  exact bodyPost_ret (v := NV 0 g 0 0 0) (by simp [results, Tryd.results56, go_sem, r0, r1, r2, r3, r4]) rfl ⟨rfl, by repeat (first | exact HB.out | refine Below.setCell ?_ (by first | (simp; done) | (simp; omega) | omega) _)⟩
set_option maxHeartbeats 4000000 in
set_option maxRecDepth 100000 in
theorem by_n1 (g : Bool) (g1 g2 : Bool) (x1 l1 h1 x2 l2 h2 : Int) (w : World) (KZ1 : ∀ w, Hid (Calls Tryd.prog 79 #[NV 0 g1 x1 l1 h1] w fun e w' => e = .returned (.bool false) ∧ Below w.heap.size w w')) (KZ2 : ∀ w, Hid (Calls Tryd.prog 79 #[NV 1 g2 x2 l2 h2] w fun e w' => e = .returned (.bool false) ∧ Below w.heap.size w w')) (hg : (!(g1 == g2)) = g) :
    Calls Tryd.prog 56 #[NV (0) (g1) (x1) (l1) (h1), NV (1) (g2) (x2) (l2) (h2)] w fun e w' => e = .returned (NV 0 g 0 0 0) ∧ Below w.heap.size w w' := by
  go_enter Tryd.func56, Tryd.ntmps56
  go_upto_region 1 with fail
  refine wp_gen (fun wz => C5 wz w.heap.size (.int .i64 0) (.bool g1) (.int .i64 x1) (.int .u64 l1) (.int .u64 h1) ∧ C5 wz (w.heap.size + 1) (.int .i64 1) (.bool g2) (.int .i64 x2) (.int .u64 l2) (.int .u64 h2) ∧ C5 wz (w.heap.size + 1 + 1) (.int .i64 0) (.bool false) (.int .i64 0) (.int .u64 0) (.int .u64 0) ∧ Below w.heap.size w wz) ⟨c5_new.past.past, c5_mid.past, c5_third, ((((Below.refl _ _).alloc (Nat.le_refl _) _).alloc (by simp) _).alloc (by simp; omega) _)⟩ ?_
  rintro w1 ⟨cn, cm, cr, hb⟩
  have CN := Hid.mk' cn
  have CM := Hid.mk' cm
  have CR := Hid.mk' cr
  have HB := Hid.mk' hb
  clear cn cm cr hb
  obtain ⟨⟨c0, c1, c2, c3, c4⟩, f0, f1, f2, f3, f4⟩ := CN.out
  obtain ⟨⟨d0, d1, d2, d3, d4⟩, y0, y1, y2, y3, y4⟩ := CM.out
  obtain ⟨⟨r0, r1, r2, r3, r4⟩, v0, v1, v2, v3, v4⟩ := CR.out
  go_wp2_with (first | (go_at_call 79; (first | (with_reducible refine (KZ1 _).out.mono ?_) | (with_reducible refine (KZ2 _).out.mono ?_)); rintro e w6 ⟨rfl, hb⟩; have CN := Hid.mk' (CN.out.keep hb); have CM := Hid.mk' (CM.out.keep hb); have CR := Hid.mk' (CR.out.keep hb); have HB := Hid.mk' (HB.out.trans (hb.mono HB.out.size)); clear c0 c1 c2 c3 c4 f0 f1 f2 f3 f4 d0 d1 d2 d3 d4 y0 y1 y2 y3 y4 r0 r1 r2 r3 r4 v0 v1 v2 v3 v4; obtain ⟨⟨c0, c1, c2, c3, c4⟩, f0, f1, f2, f3, f4⟩ := CN.out; obtain ⟨⟨d0, d1, d2, d3, d4⟩, y0, y1, y2, y3, y4⟩ := CM.out; obtain ⟨⟨r0, r1, r2, r3, r4⟩, v0, v1, v2, v3, v4⟩ := CR.out; clear hb))
  exact bodyPost_ret (v := NV 0 g 0 0 0) (by simp [results, Tryd.results56, go_sem, r0, r1, r2, r3, r4]) rfl ⟨rfl, by repeat (first | exact HB.out | refine Below.setCell ?_ (by first | (simp; done) | (simp; omega) | omega) _)⟩
end Go.Proofs.YthmppcfhbbjhlaaDoor
namespace Go.Proofs.YthmppcfhbbjhlaaDoor
open Go.RowKit Go.Sort

set_option maxHeartbeats 4000000 in
set_option maxRecDepth 100000 in
theorem by_nn (g : Bool) (g1 g2 : Bool) (x1 l1 h1 x2 l2 h2 : Int) (X Y n0 n1 m0 m1 q r u0 u1 : Int) (b : Bool) (w : World) (KZ1 : ∀ w, Hid (Calls Tryd.prog 79 #[NV 0 g1 x1 l1 h1] w fun e w' => e = .returned (.bool false) ∧ Below w.heap.size w w')) (KZ2 : ∀ w, Hid (Calls Tryd.prog 79 #[NV 0 g2 x2 l2 h2] w fun e w' => e = .returned (.bool false) ∧ Below w.heap.size w w')) (hg : (!(g1 == g2)) = g) (hX : -5000 ≤ X) (hX' : X ≤ 5000) (hY : -5000 ≤ Y) (hY' : Y ≤ 5000)
    (KN : ∀ w, Hid (Calls Tryd.prog 80 #[NV 0 g1 x1 l1 h1, .int .i64 127] w fun e w' => e = .returned (NV 0 g1 X n0 n1) ∧ Below w.heap.size w w'))
    (KM : ∀ w, Hid (Calls Tryd.prog 80 #[NV 0 g2 x2 l2 h2, .int .i64 64] w fun e w' => e = .returned (NV 0 g2 Y m0 m1) ∧ Below w.heap.size w w'))
    (KD : ∀ w, Hid (Calls Tryd.prog 96 #[.int .u64 n1, .int .u64 n0, .int .u64 m0] w fun e w' => e = .returned (.tuple #[.int .u64 q, .int .u64 r]) ∧ w = w'))
    (hr : (r != 0) = b)
    (KK : ∀ w, Hid (Calls Tryd.prog 83 #[WV q 0, .bool b] w fun e w' => e = .returned (WV u0 u1) ∧ Below w.heap.size w w')) :
    Calls Tryd.prog 56 #[NV 0 g1 x1 l1 h1, NV 0 g2 x2 l2 h2] w fun e w' => e = .returned (NV 0 g (X - Y) u0 u1) ∧ Below w.heap.size w w' := by
  go_enter Tryd.func56, Tryd.ntmps56
  go_upto_region 1 with fail
  refine wp_gen (fun wz => C5 wz w.heap.size (.int .i64 0) (.bool g1) (.int .i64 x1) (.int .u64 l1) (.int .u64 h1) ∧ C5 wz (w.heap.size + 1) (.int .i64 0) (.bool g2) (.int .i64 x2) (.int .u64 l2) (.int .u64 h2) ∧ C5 wz (w.heap.size + 1 + 1) (.int .i64 0) (.bool false) (.int .i64 0) (.int .u64 0) (.int .u64 0) ∧ Below w.heap.size w wz) ⟨c5_new.past.past, c5_mid.past, c5_third, ((((Below.refl _ _).alloc (Nat.le_refl _) _).alloc (by simp) _).alloc (by simp; omega) _)⟩ ?_
  rintro w1 ⟨cn, cm, cr, hb⟩
  have CN := Hid.mk' cn
  have CM := Hid.mk' cm
  have CR := Hid.mk' cr
  have HB := Hid.mk' hb
  clear cn cm cr hb
  obtain ⟨⟨c0, c1, c2, c3, c4⟩, f0, f1, f2, f3, f4⟩ := CN.out
  obtain ⟨⟨d0, d1, d2, d3, d4⟩, y0, y1, y2, y3, y4⟩ := CM.out
  obtain ⟨⟨r0, r1, r2, r3, r4⟩, v0, v1, v2, v3, v4⟩ := CR.out
  have hr2 : (!(r == 0)) = b := hr
  go_upto_region 10 with (go_at_call 79; (first | (with_reducible refine (KZ1 _).out.mono ?_) | (with_reducible refine (KZ2 _).out.mono ?_)); rintro e w6 ⟨rfl, hb⟩; have CN := Hid.mk' (CN.out.keep hb); have CM := Hid.mk' (CM.out.keep hb); have CR := Hid.mk' (CR.out.keep hb); have HB := Hid.mk' (HB.out.trans (hb.mono HB.out.size)); clear c0 c1 c2 c3 c4 f0 f1 f2 f3 f4 d0 d1 d2 d3 d4 y0 y1 y2 y3 y4 r0 r1 r2 r3 r4 v0 v1 v2 v3 v4; obtain ⟨⟨c0, c1, c2, c3, c4⟩, f0, f1, f2, f3, f4⟩ := CN.out; obtain ⟨⟨d0, d1, d2, d3, d4⟩, y0, y1, y2, y3, y4⟩ := CM.out; obtain ⟨⟨r0, r1, r2, r3, r4⟩, v0, v1, v2, v3, v4⟩ := CR.out; clear hb)
  go_cut [] from 6 (fun wz => C5 wz w.heap.size (.int .i64 0) (.bool g1) (.int .i64 X) (.int .u64 n0) (.int .u64 n1) ∧ C5 wz (w.heap.size + 1) (.int .i64 0) (.bool g2) (.int .i64 Y) (.int .u64 m0) (.int .u64 m1) ∧ C5 wz (w.heap.size + 1 + 1) (.int .i64 0) (.bool false) (.int .i64 0) (.int .u64 0) (.int .u64 0) ∧ Below w.heap.size w wz)
  case first =>
    go_region_with (
      (go_at_call 80; (first | (with_reducible refine (KN _).out.mono ?_) | (with_reducible refine (KM _).out.mono ?_)); rintro e w6 ⟨rfl, hb⟩; (first | have hb := undrew hb | skip); have CN := Hid.mk' (CN.out.keep hb); have CM := Hid.mk' (CM.out.keep hb); have CR := Hid.mk' (CR.out.keep hb); have HB := Hid.mk' (HB.out.trans (hb.mono HB.out.size)); clear c0 c1 c2 c3 c4 f0 f1 f2 f3 f4 d0 d1 d2 d3 d4 y0 y1 y2 y3 y4 r0 r1 r2 r3 r4 v0 v1 v2 v3 v4; obtain ⟨⟨c0, c1, c2, c3, c4⟩, f0, f1, f2, f3, f4⟩ := CN.out; obtain ⟨⟨d0, d1, d2, d3, d4⟩, y0, y1, y2, y3, y4⟩ := CM.out; obtain ⟨⟨r0, r1, r2, r3, r4⟩, v0, v1, v2, v3, v4⟩ := CR.out; clear hb))
    all_goals go_wp2
    all_goals go_meet
    all_goals exact ⟨CN.out.setAll.far5 (by omega), (CM.out.far5 (by omega)).setAll, (CR.out.far5 (by omega)).far5 (by omega), bset5 (bset5 HB.out (by omega)) (by omega)⟩
  case rest =>
  obtain ⟨cn, cm, cr, hb⟩ := hcut
  clear CN CM CR HB c0 c1 c2 c3 c4 f0 f1 f2 f3 f4 d0 d1 d2 d3 d4 y0 y1 y2 y3 y4 r0 r1 r2 r3 r4 v0 v1 v2 v3 v4 KN KM KZ1 KZ2
  have CN := Hid.mk' cn
  have CM := Hid.mk' cm
  have CR := Hid.mk' cr
  have HB := Hid.mk' hb
  clear cn cm cr hb
  obtain ⟨⟨c0, c1, c2, c3, c4⟩, f0, f1, f2, f3, f4⟩ := CN.out
  obtain ⟨⟨d0, d1, d2, d3, d4⟩, y0, y1, y2, y3, y4⟩ := CM.out
  obtain ⟨⟨r0, r1, r2, r3, r4⟩, v0, v1, v2, v3, v4⟩ := CR.out
  go_wp2_with fail
  refine (KD _).out.mono ?_
  rintro e w7 ⟨rfl, rfl⟩
  go_wp2_with fail
  refine (KK _).out.mono ?_
  rintro e w8 ⟨rfl, hb⟩
  have hz := CR.out.lt
  have hz8 := hb.size
  have CN := Hid.mk' (CN.out.keep hb); have CM := Hid.mk' (CM.out.keep hb); have CR := Hid.mk' (CR.out.keep hb); have HB := Hid.mk' (HB.out.trans (hb.mono HB.out.size)); clear c0 c1 c2 c3 c4 f0 f1 f2 f3 f4 d0 d1 d2 d3 d4 y0 y1 y2 y3 y4 r0 r1 r2 r3 r4 v0 v1 v2 v3 v4; obtain ⟨⟨c0, c1, c2, c3, c4⟩, f0, f1, f2, f3, f4⟩ := CN.out; obtain ⟨⟨d0, d1, d2, d3, d4⟩, y0, y1, y2, y3, y4⟩ := CM.out; obtain ⟨⟨r0, r1, r2, r3, r4⟩, v0, v1, v2, v3, v4⟩ := CR.out; clear hb
  go_upto_region 13 with fail
  refine wp_gen (fun wz => C5 wz w.heap.size (.int .i64 0) (.bool g1) (.int .i64 X) (.int .u64 n0) (.int .u64 n1) ∧ C5 wz (w.heap.size + 1) (.int .i64 0) (.bool g2) (.int .i64 Y) (.int .u64 m0) (.int .u64 m1) ∧ C5 wz (w.heap.size + 1 + 1) (.int .i64 0) (.bool false) (.int .i64 0) (.int .u64 0) (.int .u64 0) ∧ C2 wz w8.heap.size (.int .u64 u0) (.int .u64 u1) ∧ Below w.heap.size w wz) ⟨CN.out.past, CM.out.past, CR.out.past, c2_new, HB.out.alloc (by omega) _⟩ ?_
  clear CN CM CR HB c0 c1 c2 c3 c4 f0 f1 f2 f3 f4 d0 d1 d2 d3 d4 y0 y1 y2 y3 y4 r0 r1 r2 r3 r4 v0 v1 v2 v3 v4
  rintro w9 ⟨⟨⟨c0, c1, c2, c3, c4⟩, -⟩, ⟨⟨d0, d1, d2, d3, d4⟩, -⟩, ⟨⟨r0, r1, r2, r3, r4⟩, v0, v1, v2, v3, v4⟩, ⟨⟨k0, k1⟩, -⟩, hb⟩
  have HB := Hid.mk' hb
  clear hb
  go_wp2
  exact bodyPost_ret (v := NV 0 g (X - Y) u0 u1) (by simp [results, Tryd.results56, go_sem, r0, r1, r2, r3, r4]) rfl ⟨rfl, by repeat (first | exact HB.out | refine Below.setCell ?_ (by first | (simp; done) | (simp; omega) | omega) _)⟩
end Go.Proofs.YthmppcfhbbjhlaaDoor
