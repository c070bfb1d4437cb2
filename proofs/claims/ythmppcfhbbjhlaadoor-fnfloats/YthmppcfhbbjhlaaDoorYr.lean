import Derived.Test.YthmppcfhbbjhlaaDoorYk
import Derived.Test.YthmppcfhbbjhlaaDoorYz
import Derived.Test.YthmppcfhbbjhlaaDoorYd
import Derived.Lib.QuietBelow
import Derived.Laws.StructEq
import Derived.Test.YthmppcfhbbjhlaaDoorRows
import Derived.Test.YthmppcfhbbjhlaaDoorCards
import Derived.Test.YthmppcfhbbjhlaaDoorTie
import Derived.Test.YthmppcfhbbjhlaaDoorLaid
import Derived.SevenTiedAt
import Derived.ChangeVars
import Derived.Carry
import Derived.WalkKit
import Derived.ProofKit
import Derived.OpenShut
import Derived.ShutString
import Derived.Below
set_option linter.all false
set_option linter.unusedVariables false
namespace Go.Proofs.YthmppcfhbbjhlaaDoor
open Go.RowKit Go.Sort
set_option maxRecDepth 100000
theorem fieldV (b : Bool) (t v : Int) (w : World) : (Instr.field 24 (.agg #[.bool b, .int .i64 t, .int .u64 v]) 2).run Tryd.prog w = .ok (.int .u64 v) w := by kernel_rfl
theorem eqIn24 (b : Bool) (t v : Int) (w : World) : (Op.equalIn 10000 24 (.agg #[.bool b, .int .i64 t, .int .u64 v]) (.agg #[.bool b, .int .i64 t, .int .u64 v])).run Tryd.prog w = .ok true w := by
  have hF : (Tryd.prog.fieldsOf 24).toList.map (fun f => (f.type, f.offset, decide (f.name = "_"))) = [(4, 0, false), (2, 1, false), (22, 2, false)] := by kernel_rfl
  rw [show (10000 : Nat) = 9998 + 1 + 1 from rfl, run_equalIn_struct w (9998 + 1) _ _ _ (by kernel_rfl) (by kernel_rfl)]
  generalize (Tryd.prog.fieldsOf 24).toList = fs at hF
  obtain ⟨f0, r0, rfl, e0, h0⟩ := List.map_eq_cons_iff.1 hF
  obtain ⟨f1, r1, rfl, e1, h1⟩ := List.map_eq_cons_iff.1 h0
  obtain ⟨f2, r2, rfl, e2, h2⟩ := List.map_eq_cons_iff.1 h1
  obtain rfl := List.map_eq_nil_iff.1 h2
  simp only [Prod.mk.injEq, decide_eq_false_iff_not] at e0 e1 e2
  obtain ⟨t0, o0, n0⟩ := e0
  obtain ⟨t1, o1, n1⟩ := e1
  obtain ⟨t2, o2, n2⟩ := e2
  simp only [Op.eqFields, ne_eq, n0, n1, n2, not_false_eq_true, if_true, t0, o0, t1, o1, t2, o2, Sem.run_bind]
  have p0 : ∀ (x y z : Value), (part 4 #[x, y, z] 0).run Tryd.prog w = .ok x w := fun x y z => by simp [part, isAgg, run_underlying Tryd.underlying4]
  have p1 : ∀ (x y z : Value), (part 2 #[x, y, z] 1).run Tryd.prog w = .ok y w := fun x y z => by simp [part, isAgg, run_underlying Tryd.underlying2]
  have p2 : ∀ (x y z : Value), (part 22 #[x, y, z] 2).run Tryd.prog w = .ok z w := fun x y z => by simp [part, isAgg, run_underlying Tryd.underlying22]
  simp only [p0, p1, p2, Result.andThen_ok, run_equalIn_int w 9998 2 .i64 .i64 _ _ Tryd.underlying2, run_equalIn_bool' w 9998 4 _ _ Tryd.underlying4]
  cases b <;> simp [Sem.run_bind, p0, p1, p2, run_equalIn_int w 9998 2 .i64 .i64 _ _ Tryd.underlying2, run_equalIn_int w 9998 22 .u64 .u64 _ _ Tryd.underlying22, run_equalIn_bool' w 9998 4 _ _ Tryd.underlying4]
theorem eqlR (b : Bool) (t v : Int) (w : World) : (binOp .eql 24 (.agg #[.bool b, .int .i64 t, .int .u64 v]) (.agg #[.bool b, .int .i64 t, .int .u64 v])).run Tryd.prog w = .ok (.bool true) w := by
  rw [run_eql_struct, eqIn24]; rfl
theorem neqR (b : Bool) (t v : Int) (w : World) : (binOp .neq 24 (.agg #[.bool b, .int .i64 t, .int .u64 v]) (.agg #[.bool b, .int .i64 t, .int .u64 v])).run Tryd.prog w = .ok (.bool false) w := by
  rw [run_neq_struct, eqIn24]; rfl
/-- A block of three cells. -/
def B3 (w : World) (g : Nat) (b : Bool) (t v : Int) : Prop := (w.cell? ⟨g, 0, none⟩ = some (.bool b) ∧ w.cell? ⟨g, 1, none⟩ = some (.int .i64 t) ∧ w.cell? ⟨g, 2, none⟩ = some (.int .u64 v)) ∧ g < w.heap.size
theorem B3.new {w : World} {b : Bool} {t v : Int} {ty : TypeId} : B3 (w.alloc (.cells #[.bool b, .int .i64 t, .int .u64 v] ty)) w.heap.size b t v := ⟨⟨cell_new rfl rfl, cell_new rfl rfl, cell_new rfl rfl⟩, by simp⟩
theorem B3.keep {w w1 : World} {g : Nat} {b : Bool} {t v : Int} (h : B3 w g b t v) (hb : Below w.heap.size w w1) : B3 w1 g b t v := by
  obtain ⟨⟨h0, h1, h2⟩, hl⟩ := h
  exact ⟨⟨(hb.cell (p := ⟨g, 0, none⟩) hl).trans h0, (hb.cell (p := ⟨g, 1, none⟩) hl).trans h1, (hb.cell (p := ⟨g, 2, none⟩) hl).trans h2⟩, Nat.lt_of_lt_of_le hl hb.size⟩
theorem if2_use {op : Int} {a b : Nat} {v : Int} (h : IF2 op a b v) {w : World} (hT : Tab0 w) (hz : 0 < w.heap.size) (V : World) (hb : Below w.heap.size w V) :
    Calls Tryd.prog 15 #[.int .i64 op, .int .u64 (a : Int), .int .u64 (b : Int)] V fun e w' => e = .returned (RV true 0 v) ∧ Below w.heap.size w w' ∧ Below V.heap.size V w' :=
  (h V (hT.below hb hz) (Nat.lt_of_lt_of_le hz hb.size)).mono fun e w' ⟨h1, h2⟩ => ⟨h1, hb.trans (h2.mono hb.size), h2⟩
theorem if1_use {op : Int} {a : Nat} {v : Int} (h : IF1 op a v) {w : World} (hT : Tab0 w) (hz : 0 < w.heap.size) (V : World) (hb : Below w.heap.size w V) :
    Calls Tryd.prog 10 #[.int .i64 op, .int .u64 (a : Int)] V fun e w' => e = .returned (RV true 0 v) ∧ Below w.heap.size w w' ∧ Below V.heap.size V w' :=
  (h V (hT.below hb hz) (Nat.lt_of_lt_of_le hz hb.size)).mono fun e w' ⟨h1, h2⟩ => ⟨h1, hb.trans (h2.mono hb.size), h2⟩
theorem lwNan1_c (x : Int) (w : World) (h0 : 0 ≤ x) (h1 : x ≤ 18446744073709551615) :
    Calls Tryd.prog 17 #[.int .i64 1, .int .u64 x] w fun e w' => e = .returned (.bool (decide (9218868437227405312 < x % 9223372036854775808))) ∧ w = w' := by
  have hm : Int.tmod x 9223372036854775808 = x % 9223372036854775808 := Int.tmod_eq_emod_of_nonneg h0
  go_enter Tryd.func17, Tryd.ntmps17
  go_wp2
  go_ret
  exact ⟨by simp, rfl⟩
set_option maxHeartbeats 16000000 in
theorem lawFloats (a : Option Addr) (c : Nat) (xs : List Int) (w : World) (hB : AllB xs) (ha : Has w a xs) (hT : Tab0 w) (hz : 0 < w.heap.size) :
    Calls Tryd.prog 7 #[.slice a xs.length c] w fun e w' => e = .returned (.bool true) ∧ Below w.heap.size w w' := by
  by_cases h1 : 1048576 < xs.length
  · have h1' : (1048576 : Int) < (xs.length : Int) := by omega
    clear ha hT hB
    go_enter Tryd.func7, Tryd.ntmps7
    go_wp2
    go_ret
    exact ⟨rfl, Below.refl _ _⟩
  have h1' : ¬ (1048576 : Int) < (xs.length : Int) := by omega
  have KDr := Hid.mk' (drawFloat2_c a c xs w (by omega) hB ha)
  have HT := Hid.mk' hT
  clear hB ha hT h1
  go_enter Tryd.func7, Tryd.ntmps7
  go_wp2_with fail
  refine KDr.out.mono ?_
  rintro e w1 ⟨op, A, B, rfl, ho, A0, A1, B0, B1, b1⟩
  have HB := Hid.mk' b1
  clear b1 KDr
  go_upto_region 7 with fail
  go_cut [37] from 28 to 37 (fun s V => ∃ wd : Bool, s = .bool wd ∧ V = w1)
  case first =>
    rcases (show op ≤ 96 ∨ (97 ≤ op ∧ op ≤ 102) ∨ (139 ≤ op ∧ op ≤ 152) ∨ 153 ≤ op by omega) with n1 | ⟨n1, n2⟩ | ⟨n1, n2⟩ | n1
    · have q1 : ¬ 97 ≤ op := by omega
      have q2 : ¬ 153 ≤ op := by omega
      clear ho
      go_wp2_with fail
      go_meet
      case rel => exact ⟨_, rfl, rfl⟩
    · clear ho
      go_wp2_with fail
      go_meet
      case rel => exact ⟨_, rfl, rfl⟩
    · have q1 : 97 ≤ op := by omega
      have q2 : ¬ op ≤ 102 := by omega
      have q3 : ¬ 153 ≤ op := by omega
      clear ho
      go_wp2_with fail
      go_meet
      case rel => exact ⟨_, rfl, rfl⟩
    · have q1 : 97 ≤ op := by omega
      have q2 : ¬ op ≤ 102 := by omega
      clear ho
      go_wp2_with fail
      go_meet
      case rel => exact ⟨_, rfl, rfl⟩
  case rest =>
  obtain ⟨wd, rfl, rfl⟩ := hcut
  go_upto_if 37 with fail
  go_cut [4, 5, 6, 7, 8] from 38 (fun s4 s5 s6 s7 s8 V => ∃ p q : Nat, s4 = .int .u64 (p : Int) ∧ s5 = .int .u64 (q : Int) ∧ V = wc ∧ ((p < 4294967296 ∧ q < 4294967296 ∧ s6 = .int .i64 0 ∧ s7 = .int .u64 1065353216 ∧ s8 = .int .u64 2147483648) ∨ (p < 18446744073709551616 ∧ q < 18446744073709551616 ∧ s6 = .int .i64 1 ∧ s7 = .int .u64 4607182418800017408 ∧ s8 = .int .u64 9223372036854775808)))
  case first =>
    have e1 : Int.tmod A 4294967296 = A % 4294967296 := Int.tmod_eq_emod_of_nonneg A0
    have e2 : Int.tmod B 4294967296 = B % 4294967296 := Int.tmod_eq_emod_of_nonneg B0
    clear ho
    cases wd
    · go_wp2_with fail
      go_meet
      case rel => exact ⟨(A % 4294967296).toNat, (B % 4294967296).toNat, (congrArg (Value.int .u64) (by omega)), (congrArg (Value.int .u64) (by omega)), rfl, .inl ⟨by omega, by omega, rfl, rfl, rfl⟩⟩
    · go_wp2_with fail
      go_meet
      case rel => exact ⟨A.toNat, B.toNat, (congrArg (Value.int .u64) (by omega)), (congrArg (Value.int .u64) (by omega)), rfl, .inr ⟨by omega, by omega, rfl, rfl, rfl⟩⟩
  case rest =>
  obtain ⟨p, q, rfl, rfl, rfl, hcase⟩ := hcut
  clear A0 A1 B0 B1 ho
  rcases hcase with ⟨hp, hq, rfl, rfl, rfl⟩ | ⟨hp, hq, rfl, rfl, rfl⟩
  · skip
    obtain ⟨Sv, Pv, xv, yv, I1, S1, I2, I3, S3, I4, I5, I6, ⟨xb, xb'⟩, hxy, hnn⟩ := packE_n p q hp hq
    have PF := Hid.mk' (packF_n p q hp hq)
    have J1 := Hid.mk' (if2_use I1 HT.out hz)
    have J3 := Hid.mk' (if2_use I3 HT.out hz)
    have J5 := Hid.mk' (if2_use I5 HT.out hz)
    have J6 := Hid.mk' (if2_use I6 HT.out hz)
    have HS1 := Hid.mk' S1
    have HS3 := Hid.mk' S3
    have HI2 := Hid.mk' I2
    have HI4 := Hid.mk' I4
    have HXY := Hid.mk' hxy
    have HNN := Hid.mk' hnn
    clear I1 S1 I2 I3 S3 I4 I5 I6 hxy hnn
    go_wp2_with fail
    refine (J1.out _ HB.out).mono ?_
    rintro e w2 ⟨rfl, b2, k2⟩
    go_upto_region 15 with fail
    refine wp_gen (fun wz => B3 wz w2.heap.size true 0 Sv ∧ Below w.heap.size w wz) ⟨B3.new, b2.alloc b2.size _⟩ ?_
    generalize w2.heap.size = g1 at *
    clear b2 k2 J1 HB
    rintro w3 ⟨P1, b3⟩
    have HP1 := Hid.mk' P1
    have HB := Hid.mk' b3
    clear P1 b3
    go_wp2_with fail
    refine (J3.out _ HB.out).mono ?_
    rintro e w4 ⟨rfl, b4, k4⟩
    replace HP1 := Hid.mk' (HP1.out.keep k4)
    go_upto_region 16 with fail
    refine wp_gen (fun wz => B3 wz g1 true 0 Sv ∧ B3 wz w4.heap.size true 0 Pv ∧ Below w.heap.size w wz) ⟨HP1.out.keep ((Below.refl _ _).alloc (Nat.le_refl _) _), B3.new, b4.alloc b4.size _⟩ ?_
    generalize w4.heap.size = g2 at *
    clear b4 k4 J3 HB HP1
    rintro W ⟨P1, P2, b5⟩
    have HP1 := Hid.mk' P1
    have HP2 := Hid.mk' P2
    have HB := Hid.mk' b5
    obtain ⟨⟨c0, c1, c2⟩, zc⟩ := P1
    obtain ⟨⟨d0, d1, d2⟩, zd⟩ := P2
    have k0 := cell_regrown c0
    have k1 := cell_regrown c1
    have k2 := cell_regrown c2
    have m0 := cell_regrown d0
    have m1 := cell_regrown d1
    have m2 := cell_regrown d2
    have hTg : ∀ d os, Tab0 (grow (redrawn W d) os) ∧ 0 < (grow (redrawn W d) os).heap.size := fun d os => by
      have hb := HB.out.trans ((below_regrown W d os).mono HB.out.size)
      exact ⟨HT.out.below hb hz, Nat.lt_of_lt_of_le hz hb.size⟩
    have T1 := Hid.mk' (show ∀ d os, Calls Tryd.prog 14 #[.int .i64 (IntKind.i64.wrap 146), .int .u64 (p : Int), .int .u64 (q : Int)] (grow (redrawn W d) os) fun e w'' => e = .returned (RV true 0 Sv) ∧ ∃ p : Regrown, w'' = grow (redrawn W p.d) p.os from fun d os => (by rw [show IntKind.i64.wrap 146 = 146 by decide]; exact Calls.regrown_of (HS1.out _)))
    have T2 := Hid.mk' (show ∀ d os, Calls Tryd.prog 14 #[.int .i64 (IntKind.i64.wrap 148), .int .u64 (p : Int), .int .u64 (q : Int)] (grow (redrawn W d) os) fun e w'' => e = .returned (RV true 0 Pv) ∧ ∃ p : Regrown, w'' = grow (redrawn W p.d) p.os from fun d os => (by rw [show IntKind.i64.wrap 148 = 148 by decide]; exact Calls.regrown_of (HS3.out _)))
    have T3 := Hid.mk' (show ∀ d os, Calls Tryd.prog 15 #[.int .i64 (IntKind.i64.wrap 146), .int .u64 (q : Int), .int .u64 (p : Int)] (grow (redrawn W d) os) fun e w'' => e = .returned (RV true 0 Sv) ∧ ∃ p : Regrown, w'' = grow (redrawn W p.d) p.os from fun d os => (by rw [show IntKind.i64.wrap 146 = 146 by decide]; exact Calls.regrown_of (HI2.out _ (hTg d os).1 (hTg d os).2)))
    have T4 := Hid.mk' (show ∀ d os, Calls Tryd.prog 15 #[.int .i64 (IntKind.i64.wrap 148), .int .u64 (q : Int), .int .u64 (p : Int)] (grow (redrawn W d) os) fun e w'' => e = .returned (RV true 0 Pv) ∧ ∃ p : Regrown, w'' = grow (redrawn W p.d) p.os from fun d os => (by rw [show IntKind.i64.wrap 148 = 148 by decide]; exact Calls.regrown_of (HI4.out _ (hTg d os).1 (hTg d os).2)))
    have HEQ := neqR
    clear zc zd c0 c1 c2 d0 d1 d2 b5 hTg HS1 HS3 HI2 HI4
    refine wp_region_quiet_below (by kernel_rfl) (by kernel_rfl) ?_
    repeat (quiet_step (first | with_reducible exact T1.out _ _ | with_reducible exact T2.out _ _ | with_reducible exact T3.out _ _ | with_reducible exact T4.out _ _))
    refine wpQuiet_nil ?_
    intro _ hw'
    obtain ⟨⟨dq, osq⟩, hw''⟩ := hw'
    subst hw''
    have hbw := below_regrown W dq osq
    replace HP1 := Hid.mk' (HP1.out.keep hbw)
    replace HP2 := Hid.mk' (HP2.out.keep hbw)
    replace HB := Hid.mk' (HB.out.trans (hbw.mono HB.out.size))
    clear k0 k1 k2 m0 m1 m2 T1 T2 T3 T4 HEQ hbw
    generalize grow (redrawn W dq) osq = w5 at *
    clear W
    try show Exit.then _ _ Exit.normal _ w5
    have hfld := fieldV
    go_wp2_with fail
    refine (J5.out _ HB.out).mono ?_
    rintro e w6 ⟨rfl, b6, k6⟩
    replace HP1 := Hid.mk' (HP1.out.keep k6)
    replace HP2 := Hid.mk' (HP2.out.keep k6)
    clear HB k6 J5
    go_wp2_with fail
    refine (J6.out _ b6).mono ?_
    rintro e w7 ⟨rfl, b7, k7⟩
    replace HP1 := Hid.mk' (HP1.out.keep k7)
    replace HP2 := Hid.mk' (HP2.out.keep k7)
    have HB := Hid.mk' b7
    clear b6 b7 k7 J6
    have KLx := Hid.mk' (fun (V : World) => lwNan_c xv V xb xb')
    have KLp := Hid.mk' (fun (V : World) => lwNan_c (p : Int) V (by omega) (by omega))
    have KLq := Hid.mk' (fun (V : World) => lwNan_c (q : Int) V (by omega) (by omega))
    go_upto_region 20 with fail
    go_cut [116] from 100 to 116 (fun s V => s = .bool false ∧ V = w7)
    case first =>
      obtain ⟨nx, hnx⟩ : ∃ nx, nx = decide (2139095040 < xv % 2147483648) := ⟨_, rfl⟩
      have hxy := HXY.out
      rw [← hnx] at KLx hxy
      have hmod : Int.tmod xv 2147483648 = xv % 2147483648 := Int.tmod_eq_emod_of_nonneg xb
      clear hnx HXY KLp KLq HNN PF
      rcases hxy with rfl | ⟨rfl, h0⟩ | ⟨rfl, h0, hx⟩
      · go_wp2_with fail
        refine (KLx.out _).mono ?_
        rintro e w8 ⟨rfl, rfl⟩
        go_wp2_with fail
        go_meet
        case rel => exact ⟨rfl, rfl⟩
      · rw [h0] at hmod
        go_wp2_with fail
        refine (KLx.out _).mono ?_
        rintro e w8 ⟨rfl, rfl⟩
        go_wp2_with fail
        go_meet
        case rel => exact ⟨rfl, rfl⟩
      · have hne : (Int.tmod xv 2147483648 == 0) = false := by rw [hmod]; exact beq_eq_false_iff_ne.2 h0
        have hne2 : (Int.tmod xv 2147483648 != 0) = true := by rw [hmod]; exact bne_iff_ne.2 h0
        have hxx : (xv == xv) = true := by simp
        clear hmod h0
        go_wp2_with fail
        refine (KLx.out _).mono ?_
        rintro e w8 ⟨rfl, rfl⟩
        go_wp2_with fail
        all_goals (go_meet; case rel => exact ⟨rfl, rfl⟩)
    case rest =>
    obtain ⟨rfl, rfl⟩ := hcut
    clear KLx HXY
    obtain ⟨na, hna⟩ : ∃ na, na = decide (2139095040 < (p : Int) % 2147483648) := ⟨_, rfl⟩
    obtain ⟨nq, hnq⟩ : ∃ nq, nq = decide (2139095040 < (q : Int) % 2147483648) := ⟨_, rfl⟩
    have hnn := HNN.out
    rw [← hna, ← hnq] at hnn
    rw [← hna] at KLp
    rw [← hnq] at KLq
    have PF2 : Hid (na = false → nq = false → ∃ c1 c2 f1 f2 : Nat, IF2 150 p q c1 ∧ IF2 151 p q c2 ∧ IF1 142 p f1 ∧ IF1 141 p f2 ∧ IF2 95 c1 c2 1 ∧ IF2 95 f1 p 1 ∧ IF2 96 f2 p 1 ∧ IF2 148 p 1065353216 p ∧ IF2 149 p 1065353216 p) := Hid.mk' (fun h1 h2 => by
      rw [h1] at hna
      rw [h2] at hnq
      have e1 := of_decide_eq_false hna.symm
      have e2 := of_decide_eq_false hnq.symm
      exact PF.out (by omega) (by omega))
    clear hna hnq HNN PF
    have KLn := Hid.mk' (fun (V : World) => lwNan_c 2143289344 V (by decide) (by decide))
    rw [show decide ((2139095040 : Int) < 2143289344 % 2147483648) = true by decide] at KLn
    cases na
    · cases nq
      · obtain ⟨c1, c2, f1, f2, C1, C2, F1, F2, T1, T2, T3, U1, U2⟩ := PF2.out rfl rfl
        have G1 := Hid.mk' (if2_use C1 HT.out hz)
        have G2 := Hid.mk' (if2_use C2 HT.out hz)
        have G3 := Hid.mk' (if1_use F1 HT.out hz)
        have G4 := Hid.mk' (if1_use F2 HT.out hz)
        have G5 := Hid.mk' (if2_use T1 HT.out hz)
        have G6 := Hid.mk' (if2_use T2 HT.out hz)
        have G7 := Hid.mk' (if2_use T3 HT.out hz)
        have G8 : Hid (∀ V, Below w.heap.size w V → Calls Tryd.prog 15 #[.int .i64 148, .int .u64 (p : Int), .int .u64 1065353216] V fun e w' => e = .returned (RV true 0 (p : Int)) ∧ Below w.heap.size w w' ∧ Below V.heap.size V w') := Hid.mk' (if2_use U1 HT.out hz)
        have G9 : Hid (∀ V, Below w.heap.size w V → Calls Tryd.prog 15 #[.int .i64 149, .int .u64 (p : Int), .int .u64 1065353216] V fun e w' => e = .returned (RV true 0 (p : Int)) ∧ Below w.heap.size w w' ∧ Below V.heap.size V w') := Hid.mk' (if2_use U2 HT.out hz)
        have hpp : ((p : Int) == (p : Int)) = true := by simp
        clear C1 C2 F1 F2 T1 T2 T3 U1 U2 PF2 hnn KLn HP1 HP2
        go_wp2_with fail
        refine (KLp.out _).mono ?_
        rintro e w8 ⟨rfl, rfl⟩
        go_wp2_with fail
        refine (KLq.out _).mono ?_
        rintro e w8 ⟨rfl, rfl⟩
        clear KLp KLq
        go_wp2_with fail
        refine (G1.out _ HB.out).mono ?_
        rintro e y0 ⟨rfl, d0, _⟩
        clear G1 HB
        go_wp2_with fail
        refine (G2.out _ d0).mono ?_
        rintro e y1 ⟨rfl, d1, _⟩
        clear G2 d0
        go_wp2_with fail
        refine (G3.out _ d1).mono ?_
        rintro e y2 ⟨rfl, d2, _⟩
        clear G3 d1
        go_wp2_with fail
        refine (G4.out _ d2).mono ?_
        rintro e y3 ⟨rfl, d3, _⟩
        clear G4 d2
        go_wp2_with fail
        refine (G5.out _ d3).mono ?_
        rintro e y4 ⟨rfl, d4, _⟩
        clear G5 d3
        go_wp2_with fail
        refine (G6.out _ d4).mono ?_
        rintro e y5 ⟨rfl, d5, _⟩
        clear G6 d4
        go_wp2_with fail
        refine (G7.out _ d5).mono ?_
        rintro e y6 ⟨rfl, d6, _⟩
        clear G7 d5
        go_wp2_with fail
        refine (G8.out _ d6).mono ?_
        rintro e y7 ⟨rfl, d7, _⟩
        clear G8 d6
        go_wp2_with fail
        refine (G9.out _ d7).mono ?_
        rintro e y8 ⟨rfl, d8, _⟩
        clear G9 d7
        go_wp2
        go_ret
        exact ⟨rfl, d8⟩
      · obtain ⟨rfl, rfl⟩ := hnn (.inr rfl)
        obtain ⟨⟨s0, s1, s2⟩, _⟩ := HP1.out
        obtain ⟨⟨t0, t1, t2⟩, _⟩ := HP2.out
        clear PF2 hnn
        go_wp2_with fail
        refine (KLp.out _).mono ?_
        rintro e w8 ⟨rfl, rfl⟩
        go_wp2_with fail
        refine (KLq.out _).mono ?_
        rintro e w8 ⟨rfl, rfl⟩
        go_wp2_with fail
        refine (KLn.out _).mono ?_
        rintro e w8 ⟨rfl, rfl⟩
        go_wp2_with fail
        refine (KLn.out _).mono ?_
        rintro e w8 ⟨rfl, rfl⟩
        go_wp2
        go_ret
        exact ⟨rfl, HB.out⟩
    · obtain ⟨rfl, rfl⟩ := hnn (.inl rfl)
      obtain ⟨⟨s0, s1, s2⟩, _⟩ := HP1.out
      obtain ⟨⟨t0, t1, t2⟩, _⟩ := HP2.out
      clear PF2 hnn KLq
      go_wp2_with fail
      refine (KLp.out _).mono ?_
      rintro e w8 ⟨rfl, rfl⟩
      go_wp2_with fail
      refine (KLn.out _).mono ?_
      rintro e w8 ⟨rfl, rfl⟩
      go_wp2_with fail
      refine (KLn.out _).mono ?_
      rintro e w8 ⟨rfl, rfl⟩
      go_wp2
      go_ret
      exact ⟨rfl, HB.out⟩
  · skip
    obtain ⟨Sv, Pv, xv, yv, I1, S1, I2, I3, S3, I4, I5, I6, ⟨xb, xb'⟩, hxy, hnn⟩ := packE_w p q hp hq
    have PF := Hid.mk' (packF_w p q hp hq)
    have J1 := Hid.mk' (if2_use I1 HT.out hz)
    have J3 := Hid.mk' (if2_use I3 HT.out hz)
    have J5 := Hid.mk' (if2_use I5 HT.out hz)
    have J6 := Hid.mk' (if2_use I6 HT.out hz)
    have HS1 := Hid.mk' S1
    have HS3 := Hid.mk' S3
    have HI2 := Hid.mk' I2
    have HI4 := Hid.mk' I4
    have HXY := Hid.mk' hxy
    have HNN := Hid.mk' hnn
    clear I1 S1 I2 I3 S3 I4 I5 I6 hxy hnn
    go_wp2_with fail
    refine (J1.out _ HB.out).mono ?_
    rintro e w2 ⟨rfl, b2, k2⟩
    go_upto_region 15 with fail
    refine wp_gen (fun wz => B3 wz w2.heap.size true 0 Sv ∧ Below w.heap.size w wz) ⟨B3.new, b2.alloc b2.size _⟩ ?_
    generalize w2.heap.size = g1 at *
    clear b2 k2 J1 HB
    rintro w3 ⟨P1, b3⟩
    have HP1 := Hid.mk' P1
    have HB := Hid.mk' b3
    clear P1 b3
    go_wp2_with fail
    refine (J3.out _ HB.out).mono ?_
    rintro e w4 ⟨rfl, b4, k4⟩
    replace HP1 := Hid.mk' (HP1.out.keep k4)
    go_upto_region 16 with fail
    refine wp_gen (fun wz => B3 wz g1 true 0 Sv ∧ B3 wz w4.heap.size true 0 Pv ∧ Below w.heap.size w wz) ⟨HP1.out.keep ((Below.refl _ _).alloc (Nat.le_refl _) _), B3.new, b4.alloc b4.size _⟩ ?_
    generalize w4.heap.size = g2 at *
    clear b4 k4 J3 HB HP1
    rintro W ⟨P1, P2, b5⟩
    have HP1 := Hid.mk' P1
    have HP2 := Hid.mk' P2
    have HB := Hid.mk' b5
    obtain ⟨⟨c0, c1, c2⟩, zc⟩ := P1
    obtain ⟨⟨d0, d1, d2⟩, zd⟩ := P2
    have k0 := cell_regrown c0
    have k1 := cell_regrown c1
    have k2 := cell_regrown c2
    have m0 := cell_regrown d0
    have m1 := cell_regrown d1
    have m2 := cell_regrown d2
    have hTg : ∀ d os, Tab0 (grow (redrawn W d) os) ∧ 0 < (grow (redrawn W d) os).heap.size := fun d os => by
      have hb := HB.out.trans ((below_regrown W d os).mono HB.out.size)
      exact ⟨HT.out.below hb hz, Nat.lt_of_lt_of_le hz hb.size⟩
    have T1 := Hid.mk' (show ∀ d os, Calls Tryd.prog 14 #[.int .i64 (IntKind.i64.wrap 160), .int .u64 (p : Int), .int .u64 (q : Int)] (grow (redrawn W d) os) fun e w'' => e = .returned (RV true 0 Sv) ∧ ∃ p : Regrown, w'' = grow (redrawn W p.d) p.os from fun d os => (by rw [show IntKind.i64.wrap 160 = 160 by decide]; exact Calls.regrown_of (HS1.out _)))
    have T2 := Hid.mk' (show ∀ d os, Calls Tryd.prog 14 #[.int .i64 (IntKind.i64.wrap 162), .int .u64 (p : Int), .int .u64 (q : Int)] (grow (redrawn W d) os) fun e w'' => e = .returned (RV true 0 Pv) ∧ ∃ p : Regrown, w'' = grow (redrawn W p.d) p.os from fun d os => (by rw [show IntKind.i64.wrap 162 = 162 by decide]; exact Calls.regrown_of (HS3.out _)))
    have T3 := Hid.mk' (show ∀ d os, Calls Tryd.prog 15 #[.int .i64 (IntKind.i64.wrap 160), .int .u64 (q : Int), .int .u64 (p : Int)] (grow (redrawn W d) os) fun e w'' => e = .returned (RV true 0 Sv) ∧ ∃ p : Regrown, w'' = grow (redrawn W p.d) p.os from fun d os => (by rw [show IntKind.i64.wrap 160 = 160 by decide]; exact Calls.regrown_of (HI2.out _ (hTg d os).1 (hTg d os).2)))
    have T4 := Hid.mk' (show ∀ d os, Calls Tryd.prog 15 #[.int .i64 (IntKind.i64.wrap 162), .int .u64 (q : Int), .int .u64 (p : Int)] (grow (redrawn W d) os) fun e w'' => e = .returned (RV true 0 Pv) ∧ ∃ p : Regrown, w'' = grow (redrawn W p.d) p.os from fun d os => (by rw [show IntKind.i64.wrap 162 = 162 by decide]; exact Calls.regrown_of (HI4.out _ (hTg d os).1 (hTg d os).2)))
    have HEQ := neqR
    clear zc zd c0 c1 c2 d0 d1 d2 b5 hTg HS1 HS3 HI2 HI4
    refine wp_region_quiet_below (by kernel_rfl) (by kernel_rfl) ?_
    repeat (quiet_step (first | with_reducible exact T1.out _ _ | with_reducible exact T2.out _ _ | with_reducible exact T3.out _ _ | with_reducible exact T4.out _ _))
    refine wpQuiet_nil ?_
    intro _ hw'
    obtain ⟨⟨dq, osq⟩, hw''⟩ := hw'
    subst hw''
    have hbw := below_regrown W dq osq
    replace HP1 := Hid.mk' (HP1.out.keep hbw)
    replace HP2 := Hid.mk' (HP2.out.keep hbw)
    replace HB := Hid.mk' (HB.out.trans (hbw.mono HB.out.size))
    clear k0 k1 k2 m0 m1 m2 T1 T2 T3 T4 HEQ hbw
    generalize grow (redrawn W dq) osq = w5 at *
    clear W
    try show Exit.then _ _ Exit.normal _ w5
    have hfld := fieldV
    go_wp2_with fail
    refine (J5.out _ HB.out).mono ?_
    rintro e w6 ⟨rfl, b6, k6⟩
    replace HP1 := Hid.mk' (HP1.out.keep k6)
    replace HP2 := Hid.mk' (HP2.out.keep k6)
    clear HB k6 J5
    go_wp2_with fail
    refine (J6.out _ b6).mono ?_
    rintro e w7 ⟨rfl, b7, k7⟩
    replace HP1 := Hid.mk' (HP1.out.keep k7)
    replace HP2 := Hid.mk' (HP2.out.keep k7)
    have HB := Hid.mk' b7
    clear b6 b7 k7 J6
    have KLx := Hid.mk' (fun (V : World) => lwNan1_c xv V xb xb')
    have KLp := Hid.mk' (fun (V : World) => lwNan1_c (p : Int) V (by omega) (by omega))
    have KLq := Hid.mk' (fun (V : World) => lwNan1_c (q : Int) V (by omega) (by omega))
    go_upto_region 20 with fail
    go_cut [116] from 100 to 116 (fun s V => s = .bool false ∧ V = w7)
    case first =>
      obtain ⟨nx, hnx⟩ : ∃ nx, nx = decide (9218868437227405312 < xv % 9223372036854775808) := ⟨_, rfl⟩
      have hxy := HXY.out
      rw [← hnx] at KLx hxy
      have hmod : Int.tmod xv 9223372036854775808 = xv % 9223372036854775808 := Int.tmod_eq_emod_of_nonneg xb
      clear hnx HXY KLp KLq HNN PF
      rcases hxy with rfl | ⟨rfl, h0⟩ | ⟨rfl, h0, hx⟩
      · go_wp2_with fail
        refine (KLx.out _).mono ?_
        rintro e w8 ⟨rfl, rfl⟩
        go_wp2_with fail
        go_meet
        case rel => exact ⟨rfl, rfl⟩
      · rw [h0] at hmod
        go_wp2_with fail
        refine (KLx.out _).mono ?_
        rintro e w8 ⟨rfl, rfl⟩
        go_wp2_with fail
        go_meet
        case rel => exact ⟨rfl, rfl⟩
      · have hne : (Int.tmod xv 9223372036854775808 == 0) = false := by rw [hmod]; exact beq_eq_false_iff_ne.2 h0
        have hne2 : (Int.tmod xv 9223372036854775808 != 0) = true := by rw [hmod]; exact bne_iff_ne.2 h0
        have hxx : (xv == xv) = true := by simp
        clear hmod h0
        go_wp2_with fail
        refine (KLx.out _).mono ?_
        rintro e w8 ⟨rfl, rfl⟩
        go_wp2_with fail
        all_goals (go_meet; case rel => exact ⟨rfl, rfl⟩)
    case rest =>
    obtain ⟨rfl, rfl⟩ := hcut
    clear KLx HXY
    obtain ⟨na, hna⟩ : ∃ na, na = decide (9218868437227405312 < (p : Int) % 9223372036854775808) := ⟨_, rfl⟩
    obtain ⟨nq, hnq⟩ : ∃ nq, nq = decide (9218868437227405312 < (q : Int) % 9223372036854775808) := ⟨_, rfl⟩
    have hnn := HNN.out
    rw [← hna, ← hnq] at hnn
    rw [← hna] at KLp
    rw [← hnq] at KLq
    have PF2 : Hid (na = false → nq = false → ∃ c1 c2 f1 f2 : Nat, IF2 164 p q c1 ∧ IF2 165 p q c2 ∧ IF1 156 p f1 ∧ IF1 155 p f2 ∧ IF2 101 c1 c2 1 ∧ IF2 101 f1 p 1 ∧ IF2 102 f2 p 1 ∧ IF2 162 p 4607182418800017408 p ∧ IF2 163 p 4607182418800017408 p) := Hid.mk' (fun h1 h2 => by
      rw [h1] at hna
      rw [h2] at hnq
      have e1 := of_decide_eq_false hna.symm
      have e2 := of_decide_eq_false hnq.symm
      exact PF.out (by omega) (by omega))
    clear hna hnq HNN PF
    have KLn := Hid.mk' (fun (V : World) => lwNan1_c 9221120237041090560 V (by decide) (by decide))
    rw [show decide ((9218868437227405312 : Int) < 9221120237041090560 % 9223372036854775808) = true by decide] at KLn
    cases na
    · cases nq
      · obtain ⟨c1, c2, f1, f2, C1, C2, F1, F2, T1, T2, T3, U1, U2⟩ := PF2.out rfl rfl
        have G1 := Hid.mk' (if2_use C1 HT.out hz)
        have G2 := Hid.mk' (if2_use C2 HT.out hz)
        have G3 := Hid.mk' (if1_use F1 HT.out hz)
        have G4 := Hid.mk' (if1_use F2 HT.out hz)
        have G5 := Hid.mk' (if2_use T1 HT.out hz)
        have G6 := Hid.mk' (if2_use T2 HT.out hz)
        have G7 := Hid.mk' (if2_use T3 HT.out hz)
        have G8 : Hid (∀ V, Below w.heap.size w V → Calls Tryd.prog 15 #[.int .i64 162, .int .u64 (p : Int), .int .u64 4607182418800017408] V fun e w' => e = .returned (RV true 0 (p : Int)) ∧ Below w.heap.size w w' ∧ Below V.heap.size V w') := Hid.mk' (if2_use U1 HT.out hz)
        have G9 : Hid (∀ V, Below w.heap.size w V → Calls Tryd.prog 15 #[.int .i64 163, .int .u64 (p : Int), .int .u64 4607182418800017408] V fun e w' => e = .returned (RV true 0 (p : Int)) ∧ Below w.heap.size w w' ∧ Below V.heap.size V w') := Hid.mk' (if2_use U2 HT.out hz)
        have hpp : ((p : Int) == (p : Int)) = true := by simp
        clear C1 C2 F1 F2 T1 T2 T3 U1 U2 PF2 hnn KLn HP1 HP2
        go_wp2_with fail
        refine (KLp.out _).mono ?_
        rintro e w8 ⟨rfl, rfl⟩
        go_wp2_with fail
        refine (KLq.out _).mono ?_
        rintro e w8 ⟨rfl, rfl⟩
        clear KLp KLq
        go_wp2_with fail
        refine (G1.out _ HB.out).mono ?_
        rintro e y0 ⟨rfl, d0, _⟩
        clear G1 HB
        go_wp2_with fail
        refine (G2.out _ d0).mono ?_
        rintro e y1 ⟨rfl, d1, _⟩
        clear G2 d0
        go_wp2_with fail
        refine (G3.out _ d1).mono ?_
        rintro e y2 ⟨rfl, d2, _⟩
        clear G3 d1
        go_wp2_with fail
        refine (G4.out _ d2).mono ?_
        rintro e y3 ⟨rfl, d3, _⟩
        clear G4 d2
        go_wp2_with fail
        refine (G5.out _ d3).mono ?_
        rintro e y4 ⟨rfl, d4, _⟩
        clear G5 d3
        go_wp2_with fail
        refine (G6.out _ d4).mono ?_
        rintro e y5 ⟨rfl, d5, _⟩
        clear G6 d4
        go_wp2_with fail
        refine (G7.out _ d5).mono ?_
        rintro e y6 ⟨rfl, d6, _⟩
        clear G7 d5
        go_wp2_with fail
        refine (G8.out _ d6).mono ?_
        rintro e y7 ⟨rfl, d7, _⟩
        clear G8 d6
        go_wp2_with fail
        refine (G9.out _ d7).mono ?_
        rintro e y8 ⟨rfl, d8, _⟩
        clear G9 d7
        go_wp2
        go_ret
        exact ⟨rfl, d8⟩
      · obtain ⟨rfl, rfl⟩ := hnn (.inr rfl)
        obtain ⟨⟨s0, s1, s2⟩, _⟩ := HP1.out
        obtain ⟨⟨t0, t1, t2⟩, _⟩ := HP2.out
        clear PF2 hnn
        go_wp2_with fail
        refine (KLp.out _).mono ?_
        rintro e w8 ⟨rfl, rfl⟩
        go_wp2_with fail
        refine (KLq.out _).mono ?_
        rintro e w8 ⟨rfl, rfl⟩
        go_wp2_with fail
        refine (KLn.out _).mono ?_
        rintro e w8 ⟨rfl, rfl⟩
        go_wp2_with fail
        refine (KLn.out _).mono ?_
        rintro e w8 ⟨rfl, rfl⟩
        go_wp2
        go_ret
        exact ⟨rfl, HB.out⟩
    · obtain ⟨rfl, rfl⟩ := hnn (.inl rfl)
      obtain ⟨⟨s0, s1, s2⟩, _⟩ := HP1.out
      obtain ⟨⟨t0, t1, t2⟩, _⟩ := HP2.out
      clear PF2 hnn KLq
      go_wp2_with fail
      refine (KLp.out _).mono ?_
      rintro e w8 ⟨rfl, rfl⟩
      go_wp2_with fail
      refine (KLn.out _).mono ?_
      rintro e w8 ⟨rfl, rfl⟩
      go_wp2_with fail
      refine (KLn.out _).mono ?_
      rintro e w8 ⟨rfl, rfl⟩
      go_wp2
      go_ret
      exact ⟨rfl, HB.out⟩
end Go.Proofs.YthmppcfhbbjhlaaDoor
namespace Go.Proofs.YthmppcfhbbjhlaaDoor.fnFloats
open Go.ChangeShapes Go.WideShapes Go.ChangeAt Go.RowKit
open Go.ChangeMaps (open_string shut_string)
set_option linter.unusedVariables false

theorem laidOut : laidOutB Tryd.prog = true := by kernel_rfl
theorem var_below {P : Program} {B g : Nat} {W W' : World} {n : String} {cs : Array Value} (h : Below B W W') (hg : P.globalNamed n = some g) (hgB : g < B) (hv : W.var? P n = some cs) : W'.var? P n = some cs := by
  unfold World.var? at hv ⊢
  simp only [hg, Option.bind_some] at hv ⊢
  rw [h.block g hgB]
  exact hv

theorem own : ownKnob Tryd.prog.godebug = none := by kernel_rfl

def IsRow (k : IntKind) (w : World) (a : Option Addr) (len cap : Nat) (zs : List Int) : Prop :=
  (a = none ∧ len = 0 ∧ cap = 0 ∧ zs = []) ∨
  ∃ x, a = some x ∧ len ≤ cap ∧ cap ≤ maxLen ∧ zs.length = cap ∧ (∀ i, i < zs.length → w.cell? (x.add i) = some (.int k (zs.getD i 0))) ∧ ∀ n ∈ zs, (Lit.int k n).wf = true

theorem walk (a0 : Option Addr) (len0 cap0 : Nat) (z0 : List Int) (w : World) (w0 : IsRow .u8 w a0 len0 cap0 z0) (hT : Tab0 w) (hz : 0 < w.heap.size) :
    Calls Tryd.prog 7 #[.slice a0 len0 cap0] w fun e w' => e = .returned (.bool true) ∧ Below w.heap.size w w' := by
  obtain ⟨xs, rfl, hm, hh, hB⟩ := row_has w0
  exact lawFloats a0 cap0 xs w hB hh hT hz

set_option maxRecDepth 100000 in
theorem lifted (os : Os) (started : os.Started) (H : Type) (enc : TypeId × Value → H) :
    ReturnsInHanded {} Tryd.checked os 7 .any (fun w args => (Rows.fnFloatsSpec.pre enc Tryd.prog Tryd.f7 [] false w args ∧ laidMetH Tryd.prog [("loop.example/s00119/impl.floatFormats", Rows.laid_loop_example_s00119_impl_floatFormats)] w) ∧ sizedMet enc Tryd.prog Tryd.f7 (OpenSpec.ofChange Rows.fnFloatsSpec) false w args) (Rows.fnFloatsSpec.post enc Tryd.prog Tryd.f7 false true false false) := by
  refine returnsInHanded_of_change_and (C := Tryd.checked) (X := fun w _ => laidMetH Tryd.prog [("loop.example/s00119/impl.floatFormats", Rows.laid_loop_example_s00119_impl_floatFormats)] w) (fun _ _ _ hh h => h.of_heap hh) own started (by kernel_rfl) Tryd.func7
    (ChangeSpec.witness_shaped (enc := enc) (C := Tryd.checked) (os := os) (X := fun w _ => laidMetH Tryd.prog [("loop.example/s00119/impl.floatFormats", Rows.laid_loop_example_s00119_impl_floatFormats)] w) false (World.doorLaid Tryd.prog 400 os) #[.slice none 0 0] 8 rfl (World.shaped_of_RefB (by kernel_rfl) (by kernel_rfl)) (by kernel_rfl) (by kernel_rfl) (by kernel_rfl) (door_met os _)) ?_
  intro W base args ds gs before hval0 hW _ _ hL _
  obtain ⟨hT, hz⟩ := of_laid hL
  have hval : ∀ (j : Nat) t v, Tryd.f7.params[j]? = some t → args[j]? = some v → Value.okWide Tryd.prog W .any base t v := hval0
  have hW' := hW
  obtain ⟨p, q, hA0, hV, rfl, hfz, hnd⟩ := hW
  have hA : DataW.TrodAll enc Tryd.prog W 0 (fun _ => true) true Tryd.f7.params.toList args.toList ds p := hA0
  rw [Tryd.params7] at hA hval
  obtain ⟨v0, vs0, d0, ds0, p0, q0, hargs, rfl, rfl, h0, r0⟩ := trodAll_cons hA
  obtain ⟨rfl, rfl, rfl⟩ := trodAll_nil r0
  obtain rfl : args = #[v0] := by cases args; simp_all
  have hV1 : DataW.TrodVars enc Tryd.prog W (fun _ => true) ["loop.example/s00119/impl.floatFormats"] gs q := hV
  obtain ⟨gv, tv, csv, fuelv, dv, pv, rfl, hgv, htv, hvarv, hdv, rfl⟩ := trodVars_one hV1
  obtain rfl := Option.some.inj (gTab.symm.trans hgv)
  obtain rfl := Option.some.inj (tTab.symm.trans htv)
  obtain ⟨a0, len0, cap0, rfl⟩ := okWide_slice Tryd.underlying30 (hval 0 30 v0 rfl rfl)
  have k0 := h0
  have lt0 : ∀ x ∈ p0, x.block < W.heap.size := by obtain ⟨m, hm⟩ := k0; exact DataW.trod_lt m _ _ _ hm
  obtain ⟨z0, w0⟩ : ∃ zs, IsRow .u8 W a0 len0 cap0 zs := by
    obtain ⟨fuel, hf⟩ := h0
    rcases open_ints Tryd.underlying30 Tryd.underlying5 (by kernel_rfl) hf with ⟨hcs, _⟩ | ⟨x, l, c, zs, hcs, _, hl, hm, hz, _, hcell, hwz⟩
    · simp [Value.cells] at hcs
      obtain ⟨rfl, rfl, rfl⟩ := hcs
      exact ⟨[], .inl ⟨rfl, rfl, rfl, rfl⟩⟩
    · simp [Value.cells] at hcs
      obtain ⟨rfl, rfl, rfl⟩ := hcs
      exact ⟨zs, .inr ⟨_, rfl, hl, hm, by simpa using hz, hcell, hwz⟩⟩
  clear hA0 hval0
  simp only [List.append_nil] at hW'
  refine (walk a0 len0 cap0 z0 W w0 hT hz).mono fun e W' ⟨he, bel⟩ => ?_
  subst he
  have hltv : ∀ x ∈ pv, x.block < W.heap.size := fun x hx => hW'.lt x (by simp only [List.mem_append]; exact .inr (.inr hx))
  obtain ⟨fuel', hd'⟩ := Below.trod laidOut (by kernel_rfl) (of_decide_eq_true (by kernel_rfl)) (v := .agg csv) (⟨fuelv, by simpa [Value.cells] using hdv⟩ : DataW.Trod enc Tryd.prog W 0 (fun _ => true) true 74 (.agg csv) dv pv) bel hltv
  have hv' := trodVars_mk1 (enc := enc) (spare := fun b => decide (b < W.heap.size)) hgv htv (var_below bel hgv hz hvarv) (by simpa [Value.cells] using hd')
  exact ⟨_, rfl, _, _, _, [], _, (MemPlace.row ⟨0, 0, none⟩ csv.size ++ pv), hW', trodAll_mk1 (shut_bool Tryd.underlying4 _), (trodAll_cons_mk (Below.trod laidOut (by kernel_rfl) (of_decide_eq_true (by kernel_rfl)) k0 bel lt0) trodAll_mk0), hv', bel.frame _, fun h => by cases h⟩

theorem over : Rows.fnFloatsRow.holds Tryd.pinned (OpenSpec.ofChange Rows.fnFloatsSpec) :=
  OpenClaim.holds_of_wide 7 Tryd.f7 rfl rfl rfl rfl rfl rfl rfl ⟨rfl, rfl, rfl, rfl, rfl⟩ rfl rfl rfl rfl rfl (by kernel_rfl) Tryd.func7 (by kernel_rfl)
    (of_decide_eq_true (by kernel_rfl)) (by unfold Func.isWrapper; first | (rw [if_pos (by decide +kernel)]; kernel_rfl) | (rw [if_neg (by decide +kernel)]; exact ⟨rfl, rfl⟩))
    (fun os started H enc _ => lifted os started H enc)

theorem card : Rows.FnFloatsCardSaid :=
  Claim7.holds_tied_plain_at .later [] [.wider] true (true, "8ea68ab7b1022ecbce9a1ddc8bcc9e084640eb58875821bd2d39bb60e953b6ff") false
    over (fun _ h => by cases h) (by kernel_rfl) (fun _ h => by cases h) fnFloats_row_tie rfl ⟨rfl, rfl⟩ (by kernel_rfl) rfl
    (fun f fn hf hfn => by
      obtain rfl : f = 7 := Option.some.inj ((show Tryd.prog.funcNamed "loop.example/s00119/laws.FnFloats" = some 7 by kernel_rfl).symm.trans hf) |>.symm
      obtain rfl : fn = Tryd.f7 := (Option.some.inj (Tryd.func7.symm.trans hfn)).symm
      exact ⟨by kernel_rfl, fun j t ht => by
        rw [Tryd.params7] at ht
        have hm : t ∈ [30] := by simpa using Array.mem_of_getElem? ht
        have hall : ([30].all fun u => !Tryd.prog.wantsStandIn u) = true := by kernel_rfl
        exact (show Tryd.prog.wantsStandIn t = false by simpa using List.all_eq_true.1 hall t hm)⟩)
    (by kernel_rfl)
end Go.Proofs.YthmppcfhbbjhlaaDoor.fnFloats
namespace Go.Proofs.YthmppcfhbbjhlaaDoor
theorem fnFloats_holds : Rows.FnFloatsCardSaid := fnFloats.card
#print axioms fnFloats_holds
end Go.Proofs.YthmppcfhbbjhlaaDoor
