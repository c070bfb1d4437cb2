import Derived.Test.YtjiaainhieeepaaDoorKitI
import Derived.Test.YtjiaainhieeepaaDoorDrawI
import Derived.Deep.CutRange
import Derived.Deep.RegionWith
import Derived.Lib.QuietBelow
set_option linter.unusedVariables false
namespace Go.Proofs.YtjiaainhieeepaaDoor
open Go.RowKit Go.Sort

theorem keepB {W w' : World} {g i : Nat} {v : Value} (h : W.cell? ⟨g, i, none⟩ = some v) (hb : Below W.heap.size W w') : w'.cell? ⟨g, i, none⟩ = some v := by
  rw [hb.cell (World.block_lt_of_cell? W _ h)]; exact h
theorem keepA {W : World} {g i : Nat} {v : Value} (h : W.cell? ⟨g, i, none⟩ = some v) (o : Obj) : (W.alloc o).cell? ⟨g, i, none⟩ = some v := by
  rw [World.cell?_alloc_past _ _ _ (World.block_lt_of_cell? W _ h)]; exact h
theorem wp_gen {P : Program} {c : Code} {Q : Exit → Act → World → Prop} {a : Act} {W : World} (R : World → Prop) (hR : R W) (h : ∀ wc, R wc → c.wp P Q a wc) : c.wp P Q a W := h W hR

/-- A new answer's block, still empty. -/
def ZC (w' : World) (g : Nat) : Prop :=
  w'.cell? ⟨g, 0, none⟩ = some (.bool false) ∧ w'.cell? ⟨g, 1, none⟩ = some (.int .i64 0) ∧ w'.cell? ⟨g, 2, none⟩ = some (.int .u64 0) ∧ w'.frozen? ⟨g, 0, none⟩ = false ∧ w'.frozen? ⟨g, 1, none⟩ = false ∧ w'.frozen? ⟨g, 2, none⟩ = false
theorem zc_of {W w' : World} (hb : Below (W.alloc (.cells #[.bool false, .int .i64 0, .int .u64 0] 24)).heap.size (W.alloc (.cells #[.bool false, .int .i64 0, .int .u64 0] 24)) w') : ZC w' W.heap.size := by
  obtain ⟨h0, h1, h2, f0, f1, f2, _⟩ := res_cells1 hb
  exact ⟨h0, h1, h2, f0, f1, f2⟩
theorem zc_keep {W w' : World} {g : Nat} (h : ZC W g) (hb : Below W.heap.size W w') : ZC w' g := by
  obtain ⟨h0, h1, h2, f0, f1, f2⟩ := h
  have hl := World.block_lt_of_cell? W _ h0
  exact ⟨keepB h0 hb, keepB h1 hb, keepB h2 hb, (hb.frozen (p := ⟨g, 0, none⟩) hl).trans f0, (hb.frozen (p := ⟨g, 1, none⟩) hl).trans f1, (hb.frozen (p := ⟨g, 2, none⟩) hl).trans f2⟩
theorem undrew {B : Nat} {w5 w6 : World} (h : Below B w5.drew w6) : Below B w5 w6 := ⟨h.os, h.tape, h.output, h.size, h.block⟩
theorem bel1 {w5 w6 w7 : World} (hb6 : Below w5.drew.heap.size w5.drew w6) (hb7 : Below w6.heap.size w6 w7) : Below w5.heap.size w5 w7 :=
  (show Below w5.heap.size w5 w6 from undrew hb6).trans (hb7.mono hb6.size)
theorem bel2 {w5 w6 w7 : World} {o : Obj} (hb6 : Below w5.drew.heap.size w5.drew w6) (hb7 : Below (w6.alloc o).heap.size (w6.alloc o) w7) : Below w5.heap.size w5 w7 :=
  ((show Below w5.heap.size w5 w6 from undrew hb6).alloc hb6.size o).trans (hb7.mono (Nat.le_trans hb6.size (by simp)))
theorem bel3 {w5 w6 w7 : World} {o : Obj} (hb6 : Below (w5.drew.alloc o).heap.size (w5.drew.alloc o) w6) (hb7 : Below w6.heap.size w6 w7) : Below w5.heap.size w5 w7 := by
  have h : Below w5.heap.size w5 w6 := ((undrew (Below.refl w5.heap.size w5.drew)).alloc (Nat.le_refl _) o).trans (hb6.mono (by simp))
  exact h.trans (hb7.mono h.size)
theorem fin3 {w5 w7 : World} {g : Nat} {x y : Value} {vb : Int} (h2 : w7.cell? ⟨g, 2, none⟩ = some (.int .u64 0)) (hg : w5.heap.size ≤ g) (hb : Below w5.heap.size w5 w7) :
    ∃ g' : Nat, Value.pointer (some ⟨g, 0, none⟩) = .pointer (some ⟨g', 0, none⟩) ∧ (((w7.setCell ⟨g, 0, none⟩ x).setCell ⟨g, 1, none⟩ y).setCell ⟨g, 2, none⟩ (.int .u64 vb)).cell? ⟨g', 2, none⟩ = some (.int .u64 vb) ∧
      Below w5.heap.size w5 (((w7.setCell ⟨g, 0, none⟩ x).setCell ⟨g, 1, none⟩ y).setCell ⟨g, 2, none⟩ (.int .u64 vb)) := by
  have h : ((w7.setCell ⟨g, 0, none⟩ x).setCell ⟨g, 1, none⟩ y).cell? ⟨g, 2, none⟩ = some (.int .u64 0) := by
    rw [World.cell?_setCell_other _ _ _ _ (by simp), World.cell?_setCell_other _ _ _ _ (by simp)]
    exact h2
  exact ⟨g, rfl, World.cell?_setCell_same _ _ _ h, ((hb.setCell hg _).setCell hg _).setCell hg _⟩
theorem finN {w5 w7 : World} {x y : Value} {vb : Int} {t : TypeId} (hb : Below w5.heap.size w5 w7) :
    ∃ g' : Nat, Value.pointer (some ⟨w7.heap.size, 0, none⟩) = .pointer (some ⟨g', 0, none⟩) ∧ (w7.alloc (.cells #[x, y, .int .u64 vb] t)).cell? ⟨g', 2, none⟩ = some (.int .u64 vb) ∧ Below w5.heap.size w5 (w7.alloc (.cells #[x, y, .int .u64 vb] t)) :=
  ⟨_, rfl, cell_new rfl rfl, hb.alloc hb.size _⟩
theorem fieldV (b : Bool) (t v : Int) (w : World) : (Instr.field 24 (.agg #[.bool b, .int .i64 t, .int .u64 v]) 2).run Tryd.prog w = .ok (.int .u64 v) w := by kernel_rfl
theorem w64_id (z : Int) (h0 : 0 ≤ z) (h1 : z ≤ 1000) : wrap64 z = z ∧ IntKind.i64.wrap z = z := by
  refine ⟨by simp only [wrap64]; omega, by rw [IntKind.wrap_i64]; omega⟩

/-- What the outer loop's round works on. -/
theorem kits (i : Nat) (x y : Int) (hi : i < 2) (hx0 : 0 ≤ x) (hx1 : x ≤ 18446744073709551615) (hy0 : 0 ≤ y) (hy1 : y ≤ 18446744073709551615) :
    ∃ X Y : Int, 0 ≤ X ∧ X ≤ 18446744073709551615 ∧ 0 ≤ Y ∧ Y ≤ 18446744073709551615 ∧ ((i = 0 ∧ x % 4294967296 = X ∧ y % 4294967296 = Y) ∨ (i = 1 ∧ x = X ∧ y = Y)) ∧
      (∀ j : Nat, j < 2 → InKit (18 * (i : Int)) j X Y) ∧ OutKit (18 * (i : Int)) i X Y := by
  rcases (show i = 0 ∨ i = 1 by omega) with rfl | rfl
  · refine ⟨x % 4294967296, y % 4294967296, by omega, by omega, by omega, by omega, .inl ⟨rfl, rfl, rfl⟩, ?_, ?_⟩
    · intro j hj
      rcases (show j = 0 ∨ j = 1 by omega) with rfl | rfl
      · exact inKit_32_0 _ _ (by omega) (by omega) (by omega) (by omega)
      · exact inKit_32_1 _ _ (by omega) (by omega) (by omega) (by omega)
    · obtain ⟨A, hA⟩ := Int.eq_ofNat_of_zero_le (show 0 ≤ x % 4294967296 by omega)
      rw [hA]
      exact outKit_32 A _ (by omega) (by omega) (by omega)
  · refine ⟨x, y, hx0, hx1, hy0, hy1, .inr ⟨rfl, rfl, rfl⟩, ?_, ?_⟩
    · intro j hj
      rcases (show j = 0 ∨ j = 1 by omega) with rfl | rfl
      · exact inKit_64_0 x y hx0 hx1 hy0 hy1
      · exact inKit_64_1 x y hx0 hx1 hy0 hy1
    · obtain ⟨A, rfl⟩ := Int.eq_ofNat_of_zero_le hx0
      exact outKit_64 A y (by omega) hy0 hy1

set_option maxHeartbeats 8000000 in
set_option maxRecDepth 100000 in
theorem lawInts (a : Option Addr) (cap : Nat) (xs : List Int) (w : World) (hm : xs.length ≤ maxLen) (ha : Has w a xs) (hB : AllB xs) (hT : Tab0 w) (hz : 0 < w.heap.size) :
    Calls Tryd.prog 4 #[.slice a xs.length cap] w fun e w' => e = .returned (.bool true) ∧ Below w.heap.size w w' := by
  by_cases hbig : 1048576 < xs.length
  · have hbi : (1048576 : Int) < (xs.length : Int) := by omega
    clear hm ha hB hT
    go_enter Tryd.func4, Tryd.ntmps4
    go_wp2
    go_ret
    exact ⟨rfl, Below.refl _ _⟩
  have hbi : ¬ (1048576 : Int) < (xs.length : Int) := by omega
  have HD := Hid.mk' (drawInt2_any a cap xs w (by omega) hB ha)
  have HT := Hid.mk' hT
  clear hm ha hB hT
  go_enter Tryd.func4, Tryd.ntmps4
  go_wp2_with fail
  refine HD.out.mono ?_
  rintro e w1 ⟨op, x, y, rfl, hx0, hx1, hy0, hy1, hb1⟩
  clear HD
  have HB1 := Hid.mk' hb1
  clear hb1
  go_wp2
  go_loopw [6, 7, 8, 9, 10, 11, 12, 13, 14, 15, 16] (fun v6 v7 v8 v9 v10 v11 v12 v13 v14 v15 v16 wr => ∃ i : Nat, i ≤ 2 ∧ v6 = .int .i64 i ∧ Below w.heap.size w wr) (fun v6 _ _ _ _ _ _ _ _ _ _ _ => 2 - (intOf v6).toNat)
  case atStart => exact ⟨0, by omega, rfl, HB1.out⟩
  case round =>
    obtain ⟨i, hi, rfl, hbr⟩ := hrel
    have HBR := Hid.mk' hbr
    clear hbr HB1
    by_cases hlt : i < 2
    · have hlti : (i : Int) < 2 := by omega
      obtain ⟨X, Y, hX0, hX1, hY0, hY1, hsel, hin, hout⟩ := kits i x y hlt hx0 hx1 hy0 hy1
      have HIN := Hid.mk' hin
      have HOUT := Hid.mk' hout
      have HSEL := Hid.mk' hsel
      clear hin hout hsel
      go_upto_if 35 with fail
      go_cut [8, 9] from 26 to 152 (fun v8 v9 wc => v8 = .int .u64 X ∧ v9 = .int .u64 Y ∧ wc = wr)
      case first =>
        rcases HSEL.out with ⟨rfl, hsx, hsy⟩ | ⟨rfl, rfl, rfl⟩
        · clear HIN HOUT HSEL
          go_wp2
          go_meet
          case rel => exact ⟨by first | rfl | rw [hsx], by first | rfl | rw [hsy], rfl⟩
        · clear HIN HOUT HSEL
          go_wp2
          go_meet
          case rel => exact ⟨rfl, rfl, rfl⟩
      case rest =>
      obtain ⟨rfl, rfl, rfl⟩ := hcut
      clear HSEL
      go_wp2
      go_loopw [10, 11, 12, 13] (fun v10 v11 v12 v13 wr => ∃ j : Nat, j ≤ 2 ∧ v10 = .int .i64 j ∧ Below w.heap.size w wr) (fun v10 _ _ _ _ => 2 - (intOf v10).toNat)
      case atStart => exact ⟨0, by omega, rfl, HBR.out⟩
      case round =>
        obtain ⟨j, hj, rfl, hbr⟩ := hrel
        have HBS := Hid.mk' hbr
        clear hbr HBR
        by_cases hltj : j < 2
        · have hltji : (j : Int) < 2 := by omega
          obtain ⟨tq, vq, tr, vr, tm, vm, tb, vb, kq, ks, kr, km, kb, kz, kn⟩ := HIN.out j hltj
          have KQ := Hid.mk' kq
          have KS := Hid.mk' ks
          have KR := Hid.mk' kr
          have KM := Hid.mk' km
          have KB := Hid.mk' kb
          have KZ := Hid.mk' kz
          have KN := Hid.mk' kn
          clear kq ks kr km kb kz kn HIN HOUT
          go_wp2_with fail
          refine (KQ.out _).mono ?_
          rintro e w2 ⟨rfl, hb2⟩
          have hw2 := HBS.out.trans (hb2.mono HBS.out.size)
          clear hb2 HBS
          have HW2 := Hid.mk' hw2
          clear hw2
          go_wp2_with fail
          refine (KR.out _).mono ?_
          rintro e w3 ⟨rfl, hb3⟩
          have q0 : w3.cell? ⟨w2.heap.size, 0, none⟩ = some (.bool true) := keepB (cell_new rfl rfl) hb3
          have q1 : w3.cell? ⟨w2.heap.size, 1, none⟩ = some (.int .i64 tq) := keepB (cell_new rfl rfl) hb3
          have q2 : w3.cell? ⟨w2.heap.size, 2, none⟩ = some (.int .u64 vq) := keepB (cell_new rfl rfl) hb3
          have hw3 : Below w.heap.size w w3 := (HW2.out.alloc HW2.out.size _).trans (hb3.mono (Nat.le_trans HW2.out.size (by simp)))
          have HW3 := Hid.mk' hw3
          clear hw3 hb3 HW2
          go_upto_region 18 with fail
          refine wp_gen (fun wc => (wc.cell? ⟨w2.heap.size, 0, none⟩ = some (.bool true) ∧ wc.cell? ⟨w2.heap.size, 1, none⟩ = some (.int .i64 tq) ∧ wc.cell? ⟨w2.heap.size, 2, none⟩ = some (.int .u64 vq)) ∧ (wc.cell? ⟨w3.heap.size, 0, none⟩ = some (.bool true) ∧ wc.cell? ⟨w3.heap.size, 1, none⟩ = some (.int .i64 tr) ∧ wc.cell? ⟨w3.heap.size, 2, none⟩ = some (.int .u64 vr)) ∧ Below w.heap.size w wc) ⟨⟨keepA q0 _, keepA q1 _, keepA q2 _⟩, ⟨cell_new rfl rfl, cell_new rfl rfl, cell_new rfl rfl⟩, HW3.out.alloc HW3.out.size _⟩ ?_
          generalize w2.heap.size = gq
          generalize w3.heap.size = gr
          rintro w4 ⟨⟨q0, q1, q2⟩, ⟨r0, r1, r2⟩, hw4⟩
          have HW4 := Hid.mk' hw4
          clear hw4 HW3
          have kq0 := cell_regrown q0
          have kq1 := cell_regrown q1
          have kq2 := cell_regrown q2
          have kr0 := cell_regrown r0
          have n1 := w64_id (109 + 18 * (i : Int)) (by omega) (by omega)
          have n2 := w64_id (109 + 18 * (i : Int) + j) (by omega) (by omega)
          obtain ⟨n1a, n1b⟩ := n1
          obtain ⟨n2a, n2b⟩ := n2
          have cS : ∀ d os, Calls Tryd.prog 10 #[.int .i64 (109 + 18 * (i : Int) + j), .int .u64 X, .int .u64 Y] (grow (redrawn w4 d) os) fun e w'' => e = .returned (RV true tq vq) ∧ ∃ p : Regrown, w'' = grow (redrawn w4 p.d) p.os := fun d os => Calls.regrown_of (KS.out _)
          refine wp_region_quiet_below (by kernel_rfl) (by kernel_rfl) ?_
          repeat (quiet_step (exact cS _ _))
          refine wpQuiet_nil ?_
          intro _ hw'
          obtain ⟨⟨dq, osq⟩, hw''⟩ := hw'
          subst hw''
          show Exit.then _ _ Exit.normal _ (grow (redrawn w4 dq) osq)
          have q1 := kq1 dq osq
          have q2 := kq2 dq osq
          have r1 := cell_regrown r1 dq osq
          have r2 := cell_regrown r2 dq osq
          have hw5 := HW4.out.trans ((below_regrown w4 dq osq).mono HW4.out.size)
          obtain ⟨w5, e5⟩ : ∃ w5, w5 = grow (redrawn w4 dq) osq := ⟨_, rfl⟩
          rw [← e5] at q1 q2 r1 r2 hw5 ⊢
          have HW5 := Hid.mk' hw5
          clear e5 hw5 HW4 kq0 kq1 kq2 kr0 cS q0 r0 KS KQ KR n1a n1b n2a n2b
          by_cases ht : tq = 0
          · subst ht
            have hvb := Hid.mk' (KZ.out rfl)
            clear KZ KN
            go_upto_region 21 with fail
            go_cut [13] from 40 to 109 (fun v wc => ∃ g : Nat, v = .pointer (some ⟨g, 0, none⟩) ∧ wc.cell? ⟨g, 2, none⟩ = some (.int .u64 vb) ∧ Below w5.heap.size w5 wc)
            case first =>
              have hfld := fieldV
              have HZ : True := trivial
              have r2A := fun o => keepA r2 o
              have q2A := fun o => keepA q2 o
              obtain ⟨n3a, n3b⟩ := w64_id (108 + 18 * (i : Int)) (by omega) (by omega)
              obtain ⟨n4a, n4b⟩ := w64_id (106 + 18 * (i : Int)) (by omega) (by omega)
              go_region_with (first | (go_at_call_of 9 (Value.int IntKind.u64 vq); refine (KM.out _).mono ?_; rintro e w6 ⟨rfl, hb6⟩; simp only [RV]; (first | (have r2' : w6.cell? ⟨gr, 2, none⟩ = some (.int .u64 vr) := keepB (W := w5.drew) r2 hb6) | (have r2' : w6.cell? ⟨gr, 2, none⟩ = some (.int .u64 vr) := keepB (keepA (W := w5.drew) r2 _) hb6)); (have r2B : ∀ o, (w6.alloc o).cell? ⟨gr, 2, none⟩ = some (.int .u64 vr) := fun o => keepA r2' o); (try (have HZ : ZC w6 w5.heap.size := zc_of (W := w5.drew) hb6))) | (go_at_call_of 9 (Value.int IntKind.u64 vm); refine (KB.out _).mono ?_; rintro e w7 ⟨rfl, hb7⟩; simp only [RV]; first | (have Y : ZC w7 w5.heap.size := zc_keep HZ hb7; obtain ⟨y0, y1, y2, g0, g1, g2⟩ := Y) | (have Y : ZC w7 w6.heap.size := zc_of (W := w6) hb7; obtain ⟨y0, y1, y2, g0, g1, g2⟩ := Y) | skip))
              all_goals (go_wp2_with fail; go_meet; first | exact finN (bel1 hb6 hb7) | exact fin3 y2 hb6.size (bel2 hb6 hb7) | exact fin3 y2 (Nat.le_refl _) (bel3 hb6 hb7))
            case rest =>
            obtain ⟨g, rfl, hg2, hb8⟩ := hcut
            rename World => w8
            rw [hvb.out] at hg2
            have HW8 := Hid.mk' (HW5.out.trans (hb8.mono HW5.out.size))
            clear hb8 HW5 hvb KM KB q1 q2 r1 r2
            go_wp2
            go_roundw
            case rel => exact ⟨j + 1, by omega, by go_num, HW8.out⟩
            case measure => simp [intOf]; omega
          · have htb : (tq == 0) = false := beq_eq_false_iff_ne.2 ht
            obtain ⟨m1, m2⟩ := KN.out ht
            clear KN KZ KM KB q2 r2
            cases hyb : (Y == 0)
            · have p1 : (tq == 2) = false := by rw [← m1, hyb]
              have p2 : (tr == 2) = false := by rw [← m2, hyb]
              clear m1 m2
              go_wp2
              go_roundw
              case rel => exact ⟨j + 1, by omega, by go_num, HW5.out⟩
              case measure => simp [intOf]; omega
            · have p1 : (tq == 2) = true := by rw [← m1, hyb]
              have p2 : (tr == 2) = true := by rw [← m2, hyb]
              clear m1 m2
              go_wp2
              go_roundw
              case rel => exact ⟨j + 1, by omega, by go_num, HW5.out⟩
              case measure => simp [intOf]; omega
        · have hltji : ¬ (j : Int) < 2 := by omega
          obtain ⟨vl, vo, vx, vz, kl, kt, ko, kx, kzz, ho0, ho1, hzz0, hzz1, hsum⟩ := HOUT.out
          have KL := Hid.mk' kl
          have KT := Hid.mk' kt
          have KO := Hid.mk' ko
          have KX := Hid.mk' kx
          have KZ := Hid.mk' kzz
          have hfld := fieldV
          clear kl kt ko kx kzz HIN HOUT
          go_wp2_with fail
          refine (KL.out _).mono ?_
          rintro e wA ⟨rfl, hbA⟩
          simp only [RV]
          have HA := Hid.mk' (HBS.out.trans (hbA.mono HBS.out.size))
          clear hbA HBS
          go_wp2_with fail
          refine (KT.out _).mono ?_
          rintro e wB ⟨rfl, hbB⟩
          have HBB := Hid.mk' (HA.out.trans (hbB.mono HA.out.size))
          clear hbB HA
          go_wp2_with fail
          refine (KO.out _ ?hTab ?hSz).mono ?_
          case hTab => exact HT.out.below (HBB.out.alloc HBB.out.size _) hz
          case hSz => simp
          rintro e wC ⟨rfl, hbC⟩
          have hT2 : wC.cell? ⟨wB.heap.size, 2, none⟩ = some (.int .u64 X) := keepB (cell_new rfl rfl) hbC
          have HC := Hid.mk' ((HBB.out.alloc HBB.out.size _).trans (hbC.mono (Nat.le_trans HBB.out.size (by simp))))
          clear hbC HBB
          go_wp2_with fail
          refine (KX.out _).mono ?_
          rintro e wD ⟨rfl, hbD⟩
          simp only [RV]
          have hT2 := keepB (keepA hT2 _) hbD
          have hO0 : wD.cell? ⟨wC.heap.size, 0, none⟩ = some (.bool true) := keepB (cell_new rfl rfl) hbD
          have hO2 : wD.cell? ⟨wC.heap.size, 2, none⟩ = some (.int .u64 vo) := keepB (cell_new rfl rfl) hbD
          have HDD := Hid.mk' ((HC.out.alloc HC.out.size _).trans (hbD.mono (Nat.le_trans HC.out.size (by simp))))
          clear hbD HC
          go_wp2_with fail
          refine (KZ.out _ ?hTab ?hSz).mono ?_
          case hTab => exact HT.out.below HDD.out hz
          case hSz => have := HDD.out.size; omega
          rintro e wE ⟨rfl, hbE⟩
          have hT2 := fun o => keepA (keepB hT2 hbE) o
          have hO0 := fun o => keepA (keepB hO0 hbE) o
          have hO2 := fun o => keepA (keepB hO2 hbE) o
          have HE := Hid.mk' (HDD.out.trans (hbE.mono HDD.out.size))
          clear hbE HDD KL KT KO KX KZ
          go_wp2
          go_roundw
          case rel => exact ⟨i + 1, by omega, by go_num, HE.out.alloc HE.out.size _⟩
          case measure => simp [intOf]; omega
    · have hlti : ¬ (i : Int) < 2 := by omega
      go_wp2
      go_ret
      exact ⟨rfl, HBR.out⟩
end Go.Proofs.YtjiaainhieeepaaDoor
