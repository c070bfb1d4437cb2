import Derived.Test.YthmppcfhbbjhlaaDoorDr4
import Derived.Test.YthmppcfhbbjhlaaDoorLw
import Derived.Lib.QuietBelow
import Derived.Laws.StructEq
set_option linter.all false
set_option linter.unusedVariables false
namespace Go.Proofs.YthmppcfhbbjhlaaDoor
open Go.RowKit Go.Sort
set_option maxRecDepth 100000
theorem fieldV (b : Bool) (t v : Int) (w : World) : (Instr.field 24 (.agg #[.bool b, .int .i64 t, .int .u64 v]) 2).run Tryd.prog w = .ok (.int .u64 v) w := by kernel_rfl
theorem eqIn24 (b : Bool) (t v : Int) (w : World) : (Op.equalIn 10000 24 (.agg #[.bool b, .int .i64 t, .int .u64 v]) (.agg #[.bool b, .int .i64 t, .int .u64 v])).run Tryd.prog w = .ok true w := by
  have hF : (Tryd.prog.fieldsOf 24).toList.map (fun f => (f.type, f.offset, decide (f.name = "_"))) = [(4, 0, false), (2, 1, false), (22, 2, false)] := by kernel_rfl
  rw [show (10000 : Nat) = 9998 + 1 + 1 from rfl, run_equalIn_struct w (9998 + 1) _ _ _ (by kernel_rfl) (by kernel_rfl)]
  generalize (Tryd.prog.fieldsOf 24).toList = fs at hF
  obtain ⟨f0, r0, rfl, e0, h0⟩ := List.map_eq_cons_iff.1 hF
  obtain ⟨f1, r1, rfl, e1, h1⟩ := List.map_eq_cons_iff.1 h0
  obtain ⟨f2, r2, rfl, e2, h2⟩ := List.map_eq_cons_iff.1 h1
  obtain rfl := List.map_eq_nil_iff.1 h2
  simp only [Prod.mk.injEq, decide_eq_false_iff_not] at e0 e1 e2
  obtain ⟨t0, o0, n0⟩ := e0
  obtain ⟨t1, o1, n1⟩ := e1
  obtain ⟨t2, o2, n2⟩ := e2
  simp only [Op.eqFields, ne_eq, n0, n1, n2, not_false_eq_true, if_true, t0, o0, t1, o1, t2, o2, Sem.run_bind]
  have p0 : ∀ (x y z : Value), (part 4 #[x, y, z] 0).run Tryd.prog w = .ok x w := fun x y z => by simp [part, isAgg, run_underlying Tryd.underlying4]
  have p1 : ∀ (x y z : Value), (part 2 #[x, y, z] 1).run Tryd.prog w = .ok y w := fun x y z => by simp [part, isAgg, run_underlying Tryd.underlying2]
  have p2 : ∀ (x y z : Value), (part 22 #[x, y, z] 2).run Tryd.prog w = .ok z w := fun x y z => by simp [part, isAgg, run_underlying Tryd.underlying22]
  simp only [p0, p1, p2, Result.andThen_ok, run_equalIn_int w 9998 2 .i64 .i64 _ _ Tryd.underlying2, run_equalIn_bool' w 9998 4 _ _ Tryd.underlying4]
  cases b <;> simp [Sem.run_bind, p0, p1, p2, run_equalIn_int w 9998 2 .i64 .i64 _ _ Tryd.underlying2, run_equalIn_int w 9998 22 .u64 .u64 _ _ Tryd.underlying22, run_equalIn_bool' w 9998 4 _ _ Tryd.underlying4]
theorem eqlR (b : Bool) (t v : Int) (w : World) : (binOp .eql 24 (.agg #[.bool b, .int .i64 t, .int .u64 v]) (.agg #[.bool b, .int .i64 t, .int .u64 v])).run Tryd.prog w = .ok (.bool true) w := by
  rw [run_eql_struct, eqIn24]; rfl
theorem neqR (b : Bool) (t v : Int) (w : World) : (binOp .neq 24 (.agg #[.bool b, .int .i64 t, .int .u64 v]) (.agg #[.bool b, .int .i64 t, .int .u64 v])).run Tryd.prog w = .ok (.bool false) w := by
  rw [run_neq_struct, eqIn24]; rfl
/-- A block of three cells. -/
def B3 (w : World) (g : Nat) (b : Bool) (t v : Int) : Prop := (w.cell? ⟨g, 0, none⟩ = some (.bool b) ∧ w.cell? ⟨g, 1, none⟩ = some (.int .i64 t) ∧ w.cell? ⟨g, 2, none⟩ = some (.int .u64 v)) ∧ g < w.heap.size
theorem B3.new {w : World} {b : Bool} {t v : Int} {ty : TypeId} : B3 (w.alloc (.cells #[.bool b, .int .i64 t, .int .u64 v] ty)) w.heap.size b t v := ⟨⟨cell_new rfl rfl, cell_new rfl rfl, cell_new rfl rfl⟩, by simp⟩
theorem B3.keep {w w1 : World} {g : Nat} {b : Bool} {t v : Int} (h : B3 w g b t v) (hb : Below w.heap.size w w1) : B3 w1 g b t v := by
  obtain ⟨⟨h0, h1, h2⟩, hl⟩ := h
  exact ⟨⟨(hb.cell (p := ⟨g, 0, none⟩) hl).trans h0, (hb.cell (p := ⟨g, 1, none⟩) hl).trans h1, (hb.cell (p := ⟨g, 2, none⟩) hl).trans h2⟩, Nat.lt_of_lt_of_le hl hb.size⟩
theorem ic_use {op : Int} {a : Nat} {t v : Int} (h : IC op a t v) {w : World} (hT : Tab0 w) (hz : 0 < w.heap.size) (V : World) (hb : Below w.heap.size w V) :
    Calls Tryd.prog 13 #[.int .i64 op, .int .u64 (a : Int)] V fun e w' => e = .returned (RV true t v) ∧ Below w.heap.size w w' ∧ Below V.heap.size V w' :=
  (h V (hT.below hb hz) (Nat.lt_of_lt_of_le hz hb.size)).mono fun e w' ⟨h1, h2⟩ => ⟨h1, hb.trans (h2.mono hb.size), h2⟩
set_option maxHeartbeats 8000000 in
theorem lawConvert2 (a a' : Option Addr) (c c' : Nat) (xs ys : List Int) (w : World) (hB : AllB xs) (hB' : AllB ys) (ha : Has w a xs) (ha' : Has w a' ys) (hT : Tab0 w) (hz : 0 < w.heap.size) :
    Calls Tryd.prog 6 #[.slice a xs.length c, .slice a' ys.length c'] w fun e w' => e = .returned (.bool true) ∧ Below w.heap.size w w' := by
  by_cases h1 : 1048576 < xs.length
  · have h1' : (1048576 : Int) < (xs.length : Int) := by omega
    clear ha ha' hT hB hB'
    go_enter Tryd.func6, Tryd.ntmps6
    go_wp2
    go_ret
    exact ⟨rfl, Below.refl _ _⟩
  by_cases h2 : 1048576 < ys.length
  · have h1' : ¬ (1048576 : Int) < (xs.length : Int) := by omega
    have h2' : (1048576 : Int) < (ys.length : Int) := by omega
    clear ha ha' hT hB hB'
    go_enter Tryd.func6, Tryd.ntmps6
    go_wp2
    go_ret
    exact ⟨rfl, Below.refl _ _⟩
  have h1' : ¬ (1048576 : Int) < (xs.length : Int) := by omega
  have h2' : ¬ (1048576 : Int) < (ys.length : Int) := by omega
  have hl : xs.length ≤ 1099511627776 := by omega
  have hl' : ys.length ≤ 1099511627776 := by omega
  have KW := Hid.mk' (lwWord_c a' c' ys w hl' hB' ha')
  have KDr := Hid.mk' (fun (V : World) (hb : Below w.heap.size w V) => drawConvert_c a c xs V hl hB (ha.below hb))
  have KU := Hid.mk' (fun (op : Int) (n : Nat) (t v : Int) (h : IC op n t v) (V : World) (hb : Below w.heap.size w V) => ic_use h hT hz V hb)
  have HT := Hid.mk' hT
  clear hB hB' ha ha' hT h1 h2 hl hl'
  go_enter Tryd.func6, Tryd.ntmps6
  go_wp2_with fail
  refine KW.out.mono ?_
  rintro e w1 ⟨X, rfl, X0, X1, rfl⟩
  obtain ⟨x, hx⟩ : ∃ x : Nat, X % 4294967296 = (x : Int) := ⟨(X % 4294967296).toNat, by omega⟩
  have hx' : Int.tmod X 4294967296 = (x : Int) := by rw [Int.tmod_eq_emod_of_nonneg X0, hx]
  have xl : x < 4294967296 := by omega
  obtain ⟨a1, I1, I2⟩ := back_s x xl
  obtain ⟨a2, I3, I4⟩ := back_u x xl
  obtain ⟨a3, I5, S5, v3, I6, n1, n2⟩ := wide_x x xl
  have I7 := ic_188 x xl
  have I8 := ic_190 x xl
  have J1 := Hid.mk' (KU.out _ _ _ _ I1)
  have J2 := Hid.mk' (KU.out _ _ _ _ I2)
  have J3 := Hid.mk' (KU.out _ _ _ _ I3)
  have J4 := Hid.mk' (KU.out _ _ _ _ I4)
  have J5 := Hid.mk' (KU.out _ _ _ _ I5)
  have J6 := Hid.mk' (KU.out _ _ _ _ I6)
  have J7 := Hid.mk' (KU.out _ _ _ _ I7)
  have J8 := Hid.mk' (KU.out _ _ _ _ I8)
  have HS5 := Hid.mk' S5
  have HN := Hid.mk' (And.intro n1 n2)
  clear I1 I2 I3 I4 I5 I6 I7 I8 S5 n1 n2 KW
  have hfld := fieldV
  have hxx : ((x : Int) != (x : Int)) = false := by simp
  go_wp2_with fail
  refine (J1.out _ (Below.refl _ _)).mono ?_
  rintro e w2 ⟨rfl, b2, _⟩
  go_wp2_with fail
  refine (J2.out _ b2).mono ?_
  rintro e w3 ⟨rfl, b3, _⟩
  clear b2 J1 J2
  go_wp2_with fail
  refine (J3.out _ b3).mono ?_
  rintro e w4 ⟨rfl, b4, _⟩
  clear b3 J3
  go_wp2_with fail
  refine (J4.out _ b4).mono ?_
  rintro e w5 ⟨rfl, b5, _⟩
  clear b4 J4
  go_wp2_with fail
  refine (J5.out _ b5).mono ?_
  rintro e w6 ⟨rfl, b6, _⟩
  clear b5 J5
  have b6' : Below w.heap.size w (w6.alloc (.cells #[.bool true, .int .i64 0, .int .u64 (a3 : Int)] 24)) := b6.alloc b6.size _
  have P6 : B3 (w6.alloc (.cells #[.bool true, .int .i64 0, .int .u64 (a3 : Int)] 24)) w6.heap.size true 0 a3 := B3.new
  obtain ⟨W6, hW6⟩ : ∃ W6, W6 = w6.alloc (.cells #[.bool true, .int .i64 0, .int .u64 (a3 : Int)] 24) := ⟨_, rfl⟩
  obtain ⟨g6, hg6⟩ : ∃ g6, g6 = w6.heap.size := ⟨_, rfl⟩
  rw [← hW6] at b6' P6
  rw [← hg6] at P6
  have HW6 := Hid.mk' hW6
  have HG6 := Hid.mk' hg6
  have HP6 := Hid.mk' P6
  obtain ⟨⟨c0, c1, c2⟩, _⟩ := P6
  clear hW6 hg6 b6
  go_upto_region 7 with fail
  rw [← HW6.out, ← HG6.out]
  clear HW6 HG6
  go_wp2_with fail
  refine (J6.out _ b6').mono ?_
  rintro e w7 ⟨rfl, b7, k7⟩
  replace HP6 := Hid.mk' (HP6.out.keep k7)
  clear b6' k7 J6 c0 c1 c2
  have b7' : Below w.heap.size w (w7.alloc (.cells #[.bool true, .int .i64 0, .int .u64 (v3 : Int)] 24)) := b7.alloc b7.size _
  have P7 : B3 (w7.alloc (.cells #[.bool true, .int .i64 0, .int .u64 (v3 : Int)] 24)) w7.heap.size true 0 v3 := B3.new
  have P6 : B3 (w7.alloc (.cells #[.bool true, .int .i64 0, .int .u64 (v3 : Int)] 24)) g6 true 0 a3 := HP6.out.keep ((Below.refl _ _).alloc (Nat.le_refl _) _)
  obtain ⟨W7, hW7⟩ : ∃ W7, W7 = w7.alloc (.cells #[.bool true, .int .i64 0, .int .u64 (v3 : Int)] 24) := ⟨_, rfl⟩
  obtain ⟨g7, hg7⟩ : ∃ g7, g7 = w7.heap.size := ⟨_, rfl⟩
  rw [← hW7] at b7' P7 P6
  rw [← hg7] at P7
  have HW7 := Hid.mk' hW7
  have HG7 := Hid.mk' hg7
  clear HP6
  obtain ⟨⟨c0, c1, c2⟩, _⟩ := P6
  obtain ⟨⟨d0, d1, d2⟩, _⟩ := P7
  clear hW7 hg7 b7
  go_upto_region 8 with fail
  rw [← HW7.out, ← HG7.out]
  clear HW7 HG7
  have k0 := cell_regrown c0
  have k1 := cell_regrown c1
  have k2 := cell_regrown c2
  have m2 := cell_regrown d2
  have T1 : ∀ d os, Calls Tryd.prog 12 #[.int .i64 187, .int .u64 (x : Int)] (grow (redrawn W7 d) os) fun e w'' => e = .returned (RV true 0 a3) ∧ ∃ p : Regrown, w'' = grow (redrawn W7 p.d) p.os := fun d os => Calls.regrown_of (HS5.out _)
  have T2 : ∀ d os, Calls Tryd.prog 17 #[.int .i64 0, .int .u64 (x : Int)] (grow (redrawn W7 d) os) fun e w'' => e = .returned (.bool (decide (2139095040 < (x : Int) % 2147483648))) ∧ ∃ p : Regrown, w'' = grow (redrawn W7 p.d) p.os := fun d os => (lwNan_c (x : Int) _ (by omega) (by omega)).mono fun e w' ⟨h1, h2⟩ => ⟨h1, ⟨d, os⟩, h2.symm⟩
  have HT1 := Hid.mk' T1
  have HEQ := neqR
  obtain ⟨nb, hnb⟩ : ∃ nb, nb = decide (2139095040 < (x : Int) % 2147483648) := ⟨_, rfl⟩
  rw [← hnb] at T2
  have HT2 := Hid.mk' T2
  have HNB := Hid.mk' hnb
  clear T1 T2 c0 c1 c2 d0 d1 d2 hnb
  have hv3 : (nb = true → (v3 : Int) = 2143289344) ∧ (nb = false → (v3 : Int) = x) := by
    refine ⟨fun h => ?_, fun h => ?_⟩
    · have := HNB.out; rw [h] at this
      have h2 : 2139095040 < (x : Int) % 2147483648 := by simpa using this.symm
      have := HN.out.1 (by omega); omega
    · have := HNB.out; rw [h] at this
      have h2 : ¬ 2139095040 < (x : Int) % 2147483648 := by simpa using this.symm
      have := HN.out.2 (by omega); omega
  go_cut [67] from 44 to 67 (fun s V => s = .bool false ∧ Below w.heap.size w V)
  case first =>
    cases nb
    · have hv := hv3.2 rfl
      clear hv3
      rw [hv] at m2
      clear hv
      refine wp_region_quiet_below (by kernel_rfl) (by kernel_rfl) ?_
      repeat (quiet_step (first | with_reducible exact HT1.out _ _ | with_reducible exact HT2.out _ _))
      refine wpQuiet_nil ?_
      intro _ hw'
      obtain ⟨⟨dq, osq⟩, hw''⟩ := hw'
      subst hw''
      have hb1 := b7'.trans ((below_regrown W7 dq osq).mono b7'.size)
      clear k0 k1 k2 m2 HT1 HT2
      generalize grow (redrawn W7 dq) osq = w8 at *
      try show Exit.then _ _ Exit.normal _ w8
      go_wp2_with fail
      go_meet
      case rel => exact ⟨rfl, hb1⟩
    · have hv := hv3.1 rfl
      clear hv3
      rw [hv] at m2
      clear hv
      refine wp_region_quiet_below (by kernel_rfl) (by kernel_rfl) ?_
      repeat (quiet_step (first | with_reducible exact HT1.out _ _ | with_reducible exact HT2.out _ _))
      refine wpQuiet_nil ?_
      intro _ hw'
      obtain ⟨⟨dq, osq⟩, hw''⟩ := hw'
      subst hw''
      have hb1 := b7'.trans ((below_regrown W7 dq osq).mono b7'.size)
      clear k0 k1 k2 m2 HT1 HT2
      generalize grow (redrawn W7 dq) osq = w8 at *
      try show Exit.then _ _ Exit.normal _ w8
      go_wp2_with fail
      go_meet
      case rel => exact ⟨rfl, hb1⟩
  case rest =>
    obtain ⟨rfl, b8⟩ := hcut
    clear b7' k0 k1 k2 m2 HT1 HT2 HNB hv3 HN HS5
    go_wp2_with fail
    refine (J7.out _ b8).mono ?_
    rintro e w9 ⟨rfl, b9, _⟩
    clear b8 J7
    go_wp2_with fail
    refine (J8.out _ b9).mono ?_
    rintro e w10 ⟨rfl, b10, _⟩
    clear b9 J8
    go_wp2_with fail
    refine (KDr.out _ b10).mono ?_
    rintro e w11 ⟨op, A, rfl, o0, o1, A0, A1, hb⟩
    have b11 : Below w.heap.size w w11 := b10.trans (hb.mono b10.size)
    obtain ⟨n, hn⟩ : ∃ n : Nat, A = (n : Int) := ⟨A.toNat, by omega⟩
    subst hn
    have nl : n < 18446744073709551616 := by omega
    clear b10 hb KDr
    have HE2 := eqlR
    have fin : ∀ (K : Bool) (t v : Int), (∀ V, Below w.heap.size w V → Calls Tryd.prog 13 #[.int .i64 op, .int .u64 (n : Int)] V fun e w' => e = .returned (RV K t v) ∧ Below V.heap.size V w') → (∀ V, Calls Tryd.prog 12 #[.int .i64 op, .int .u64 (n : Int)] V fun e w' => e = .returned (RV K t v) ∧ Below V.heap.size V w') → True := fun _ _ _ _ _ => trivial
    clear fin
    by_cases hop : op = 176
    · subst hop
      obtain ⟨t, v, I1, S1, hcutv⟩ := cut_176 n nl
      have hz2 : 0 < w11.heap.size := Nat.lt_of_lt_of_le hz b11.size
      have I2 := Hid.mk' (I1 w11 (HT.out.below b11 hz) hz2)
      have S2 := Hid.mk' S1
      have HCU := Hid.mk' hcutv
      clear I1 S1 hcutv
      go_wp2_with fail
      refine I2.out.mono ?_
      rintro e w12 ⟨rfl, hb⟩
      have b12 : Below w.heap.size w (w12.alloc (.cells #[.bool true, .int .i64 t, .int .u64 v] 24)) := (b11.trans (hb.mono b11.size)).alloc (Nat.le_trans b11.size hb.size) _
      have P12 : B3 (w12.alloc (.cells #[.bool true, .int .i64 t, .int .u64 v] 24)) w12.heap.size true t v := B3.new
      obtain ⟨W12, hW12⟩ : ∃ W12, W12 = w12.alloc (.cells #[.bool true, .int .i64 t, .int .u64 v] 24) := ⟨_, rfl⟩
      obtain ⟨g12, hg12⟩ : ∃ g12, g12 = w12.heap.size := ⟨_, rfl⟩
      rw [← hW12] at b12 P12
      rw [← hg12] at P12
      have HW12 := Hid.mk' hW12
      have HG12 := Hid.mk' hg12
      have HP12 := Hid.mk' P12
      obtain ⟨⟨c0, c1, c2⟩, _⟩ := P12
      clear hW12 hg12 b11 hb I2
      go_upto_region 14 with fail
      rw [← HW12.out, ← HG12.out]
      clear HW12 HG12
      have k0 := cell_regrown c0
      have k1 := cell_regrown c1
      have k2 := cell_regrown c2
      have HT1 : Hid (∀ d os, Calls Tryd.prog 12 #[.int .i64 176, .int .u64 (n : Int)] (grow (redrawn W12 d) os) fun e w'' => e = .returned (RV true t v) ∧ ∃ p : Regrown, w'' = grow (redrawn W12 p.d) p.os) := fun d os => Calls.regrown_of (S2.out _)
      clear c0 c1 c2 S2
      refine wp_region_quiet_below (by kernel_rfl) (by kernel_rfl) ?_
      repeat (quiet_step (first | with_reducible exact HT1.out _ _))
      refine wpQuiet_nil ?_
      intro _ hw'
      obtain ⟨⟨dq, osq⟩, hw''⟩ := hw'
      subst hw''
      have hb1 := b12.trans ((below_regrown W12 dq osq).mono b12.size)
      replace HP12 := Hid.mk' (HP12.out.keep (below_regrown W12 dq osq))
      clear k0 k1 k2 HT1 b12
      generalize grow (redrawn W12 dq) osq = w13 at *
      try show Exit.then _ _ Exit.normal _ w13
      obtain ⟨⟨c0, c1, c2⟩, _⟩ := HP12.out
      by_cases ht : t = 0
      · subst ht
        obtain ⟨cc, F1, I3⟩ := HCU.out rfl
        have hz3 : 0 < w13.heap.size := Nat.lt_of_lt_of_le hz hb1.size
        have F2 := Hid.mk' (F1 w13 (HT.out.below hb1 hz) hz3)
        have I4 := Hid.mk' (KU.out _ _ _ _ I3)
        clear F1 I3 HCU
        go_wp2_with fail
        refine F2.out.mono ?_
        rintro e w14 ⟨rfl, hb⟩
        have b14 : Below w.heap.size w w14 := hb1.trans (hb.mono hb1.size)
        replace HP12 := Hid.mk' (HP12.out.keep hb)
        clear hb hb1 F2 c0 c1 c2
        obtain ⟨⟨c0, c1, c2⟩, _⟩ := HP12.out
        have k0 := cell_regrown c0
        have k1 := cell_regrown c1
        have k2 := cell_regrown c2
        have HT1 : Hid (∀ d os, Calls Tryd.prog 13 #[.int .i64 176, .int .u64 (cc : Int)] (grow (redrawn w14 d) os) fun e w'' => e = .returned (RV true 0 v) ∧ ∃ p : Regrown, w'' = grow (redrawn w14 p.d) p.os) := fun d os => Calls.regrown_of ((I4.out _ (b14.trans ((below_regrown w14 d os).mono b14.size))).mono fun e w' ⟨h1, _, h3⟩ => ⟨h1, h3⟩)
        clear c0 c1 c2 I4 HP12
        go_upto_region 18 with fail
        refine wp_region_quiet_below (by kernel_rfl) (by kernel_rfl) ?_
        repeat (quiet_step (first | with_reducible exact HT1.out _ _))
        refine wpQuiet_nil ?_
        intro _ hw'
        obtain ⟨⟨dp, osp⟩, hw''⟩ := hw'
        subst hw''
        have hb2 := b14.trans ((below_regrown w14 dp osp).mono b14.size)
        clear k0 k1 k2 HT1 b14
        generalize grow (redrawn w14 dp) osp = w15 at *
        try show Exit.then _ _ Exit.normal _ w15
        go_wp2
        go_ret
        exact ⟨rfl, hb2⟩
      · have e3 : (t == 0) = false := beq_eq_false_iff_ne.2 ht
        clear HCU HP12
        go_wp2
        go_ret
        exact ⟨rfl, hb1⟩
    by_cases hop2 : op = 177
    · subst hop2
      obtain ⟨t, v, I1, S1, hcutv⟩ := cut_177 n nl
      have hz2 : 0 < w11.heap.size := Nat.lt_of_lt_of_le hz b11.size
      have I2 := Hid.mk' (I1 w11 (HT.out.below b11 hz) hz2)
      have S2 := Hid.mk' S1
      have HCU := Hid.mk' hcutv
      clear I1 S1 hcutv
      go_wp2_with fail
      refine I2.out.mono ?_
      rintro e w12 ⟨rfl, hb⟩
      have b12 : Below w.heap.size w (w12.alloc (.cells #[.bool true, .int .i64 t, .int .u64 v] 24)) := (b11.trans (hb.mono b11.size)).alloc (Nat.le_trans b11.size hb.size) _
      have P12 : B3 (w12.alloc (.cells #[.bool true, .int .i64 t, .int .u64 v] 24)) w12.heap.size true t v := B3.new
      obtain ⟨W12, hW12⟩ : ∃ W12, W12 = w12.alloc (.cells #[.bool true, .int .i64 t, .int .u64 v] 24) := ⟨_, rfl⟩
      obtain ⟨g12, hg12⟩ : ∃ g12, g12 = w12.heap.size := ⟨_, rfl⟩
      rw [← hW12] at b12 P12
      rw [← hg12] at P12
      have HW12 := Hid.mk' hW12
      have HG12 := Hid.mk' hg12
      have HP12 := Hid.mk' P12
      obtain ⟨⟨c0, c1, c2⟩, _⟩ := P12
      clear hW12 hg12 b11 hb I2
      go_upto_region 14 with fail
      rw [← HW12.out, ← HG12.out]
      clear HW12 HG12
      have k0 := cell_regrown c0
      have k1 := cell_regrown c1
      have k2 := cell_regrown c2
      have HT1 : Hid (∀ d os, Calls Tryd.prog 12 #[.int .i64 177, .int .u64 (n : Int)] (grow (redrawn W12 d) os) fun e w'' => e = .returned (RV true t v) ∧ ∃ p : Regrown, w'' = grow (redrawn W12 p.d) p.os) := fun d os => Calls.regrown_of (S2.out _)
      clear c0 c1 c2 S2
      refine wp_region_quiet_below (by kernel_rfl) (by kernel_rfl) ?_
      repeat (quiet_step (first | with_reducible exact HT1.out _ _))
      refine wpQuiet_nil ?_
      intro _ hw'
      obtain ⟨⟨dq, osq⟩, hw''⟩ := hw'
      subst hw''
      have hb1 := b12.trans ((below_regrown W12 dq osq).mono b12.size)
      replace HP12 := Hid.mk' (HP12.out.keep (below_regrown W12 dq osq))
      clear k0 k1 k2 HT1 b12
      generalize grow (redrawn W12 dq) osq = w13 at *
      try show Exit.then _ _ Exit.normal _ w13
      obtain ⟨⟨c0, c1, c2⟩, _⟩ := HP12.out
      by_cases ht : t = 0
      · subst ht
        obtain ⟨cc, F1, I3⟩ := HCU.out rfl
        have hz3 : 0 < w13.heap.size := Nat.lt_of_lt_of_le hz hb1.size
        have F2 := Hid.mk' (F1 w13 (HT.out.below hb1 hz) hz3)
        have I4 := Hid.mk' (KU.out _ _ _ _ I3)
        clear F1 I3 HCU
        go_wp2_with fail
        refine F2.out.mono ?_
        rintro e w14 ⟨rfl, hb⟩
        have b14 : Below w.heap.size w w14 := hb1.trans (hb.mono hb1.size)
        replace HP12 := Hid.mk' (HP12.out.keep hb)
        clear hb hb1 F2 c0 c1 c2
        obtain ⟨⟨c0, c1, c2⟩, _⟩ := HP12.out
        have k0 := cell_regrown c0
        have k1 := cell_regrown c1
        have k2 := cell_regrown c2
        have HT1 : Hid (∀ d os, Calls Tryd.prog 13 #[.int .i64 177, .int .u64 (cc : Int)] (grow (redrawn w14 d) os) fun e w'' => e = .returned (RV true 0 v) ∧ ∃ p : Regrown, w'' = grow (redrawn w14 p.d) p.os) := fun d os => Calls.regrown_of ((I4.out _ (b14.trans ((below_regrown w14 d os).mono b14.size))).mono fun e w' ⟨h1, _, h3⟩ => ⟨h1, h3⟩)
        clear c0 c1 c2 I4 HP12
        go_upto_region 18 with fail
        refine wp_region_quiet_below (by kernel_rfl) (by kernel_rfl) ?_
        repeat (quiet_step (first | with_reducible exact HT1.out _ _))
        refine wpQuiet_nil ?_
        intro _ hw'
        obtain ⟨⟨dp, osp⟩, hw''⟩ := hw'
        subst hw''
        have hb2 := b14.trans ((below_regrown w14 dp osp).mono b14.size)
        clear k0 k1 k2 HT1 b14
        generalize grow (redrawn w14 dp) osp = w15 at *
        try show Exit.then _ _ Exit.normal _ w15
        go_wp2
        go_ret
        exact ⟨rfl, hb2⟩
      · have e3 : (t == 0) = false := beq_eq_false_iff_ne.2 ht
        clear HCU HP12
        go_wp2
        go_ret
        exact ⟨rfl, hb1⟩
    obtain ⟨K, t, v, I1, S1⟩ := both_any op n nl (by omega) (by omega)
    have e1 : (op == 176) = false := beq_eq_false_iff_ne.2 hop
    have e2 : (op == 177) = false := beq_eq_false_iff_ne.2 hop2
    have hz2 : 0 < w11.heap.size := Nat.lt_of_lt_of_le hz b11.size
    have I2 := Hid.mk' (I1 w11 (HT.out.below b11 hz) hz2)
    have S2 := Hid.mk' S1
    clear I1 S1
    go_wp2_with fail
    refine I2.out.mono ?_
    rintro e w12 ⟨rfl, hb⟩
    have b12 : Below w.heap.size w (w12.alloc (.cells #[.bool K, .int .i64 t, .int .u64 v] 24)) := (b11.trans (hb.mono b11.size)).alloc (Nat.le_trans b11.size hb.size) _
    have P12 : B3 (w12.alloc (.cells #[.bool K, .int .i64 t, .int .u64 v] 24)) w12.heap.size K t v := B3.new
    obtain ⟨W12, hW12⟩ : ∃ W12, W12 = w12.alloc (.cells #[.bool K, .int .i64 t, .int .u64 v] 24) := ⟨_, rfl⟩
    obtain ⟨g12, hg12⟩ : ∃ g12, g12 = w12.heap.size := ⟨_, rfl⟩
    rw [← hW12] at b12 P12
    rw [← hg12] at P12
    have HW12 := Hid.mk' hW12
    have HG12 := Hid.mk' hg12
    obtain ⟨⟨c0, c1, c2⟩, _⟩ := P12
    clear hW12 hg12 b11 hb I2
    go_upto_region 14 with fail
    rw [← HW12.out, ← HG12.out]
    clear HW12 HG12
    have k0 := cell_regrown c0
    have k1 := cell_regrown c1
    have k2 := cell_regrown c2
    have HT1 : Hid (∀ d os, Calls Tryd.prog 12 #[.int .i64 op, .int .u64 (n : Int)] (grow (redrawn W12 d) os) fun e w'' => e = .returned (RV K t v) ∧ ∃ p : Regrown, w'' = grow (redrawn W12 p.d) p.os) := fun d os => Calls.regrown_of (S2.out _)
    clear c0 c1 c2 S2
    refine wp_region_quiet_below (by kernel_rfl) (by kernel_rfl) ?_
    repeat (quiet_step (first | with_reducible exact HT1.out _ _))
    refine wpQuiet_nil ?_
    intro _ hw'
    obtain ⟨⟨dq, osq⟩, hw''⟩ := hw'
    subst hw''
    have hb1 := b12.trans ((below_regrown W12 dq osq).mono b12.size)
    have c1 := k1 dq osq
    clear k0 k1 k2 HT1 b12
    generalize grow (redrawn W12 dq) osq = w13 at *
    try show Exit.then _ _ Exit.normal _ w13
    go_wp2
    go_ret
    exact ⟨rfl, hb1⟩
end Go.Proofs.YthmppcfhbbjhlaaDoor
