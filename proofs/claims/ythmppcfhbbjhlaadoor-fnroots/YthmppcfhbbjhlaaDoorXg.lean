import Derived.Test.YthmppcfhbbjhlaaDoorXc
set_option linter.all false
namespace Go.Proofs.YthmppcfhbbjhlaaDoor
open Go.RowKit Go.Sort

set_option maxHeartbeats 16000000 in
set_option maxRecDepth 100000 in
theorem isum_ge (g1 g2 : Bool) (x1 x2 : Int) (l1 h1 l2 h2 : Int) (X Y : Int) (N M : Nat) (w : World) (hN : N < 170141183460469231731687303715884105728) (hM : M < 170141183460469231731687303715884105728)
    (hs : ¬ X < Y) (hX : -5000 ≤ X) (hX' : X ≤ 5000) (hY : -5000 ≤ Y) (hY' : Y ≤ 5000)
    (KN : ∀ w, Hid (Calls Tryd.prog 80 #[NV 0 g1 x1 l1 h1, .int .i64 127] w fun e w' => e = .returned (N2 0 g1 X N) ∧ Below w.heap.size w w'))
    (KM : ∀ w, Hid (Calls Tryd.prog 80 #[NV 0 g2 x2 l2 h2, .int .i64 127] w fun e w' => e = .returned (N2 0 g2 Y M) ∧ Below w.heap.size w w')) :
    Calls Tryd.prog 94 #[NV 0 g1 x1 l1 h1, NV 0 g2 x2 l2 h2] w fun e w' => e = .returned (if X < Y then smR g2 g1 Y M (N / 2 ^ (Y - X).toNat) else smR g1 g2 X N (M / 2 ^ (X - Y).toNat)) ∧ Below w.heap.size w w' := by
  obtain ⟨R, hR⟩ : ∃ R, R = (if X < Y then smR g2 g1 Y M (N / 2 ^ (Y - X).toNat) else smR g1 g2 X N (M / 2 ^ (X - Y).toNat)) := ⟨_, rfl⟩
  rw [← hR]
  have HR := Hid.mk' hR
  clear hR
  go_enter Tryd.func94, Tryd.ntmps94
  go_upto_region 1 with fail
  refine wp_gen (fun wz => C5 wz w.heap.size (.int .i64 0) (.bool g1) (.int .i64 x1) (.int .u64 l1) (.int .u64 h1) ∧ C5 wz (w.heap.size + 1) (.int .i64 0) (.bool g2) (.int .i64 x2) (.int .u64 l2) (.int .u64 h2) ∧ C5 wz (w.heap.size + 1 + 1) (.int .i64 0) (.bool false) (.int .i64 0) (.int .u64 0) (.int .u64 0) ∧ Below w.heap.size w wz) ⟨c5_new.past.past, c5_mid.past, ?_, ((((Below.refl _ _).alloc (Nat.le_refl _) _).alloc (by simp) _).alloc (by simp; omega) _)⟩ ?_
  · have h := c5_new (w := (w.alloc (.cells #[.int .i64 0, .bool g1, .int .i64 x1, .int .u64 l1, .int .u64 h1] 63)).alloc (.cells #[.int .i64 0, .bool g2, .int .i64 x2, .int .u64 l2, .int .u64 h2] 63)) (a := .int .i64 0) (b := .bool false) (c := .int .i64 0) (d := .int .u64 0) (e := .int .u64 0) (t := 63)
    simpa using h
  rintro w1 ⟨cn, cm, cr, hb⟩
  have CN := Hid.mk' cn
  have CM := Hid.mk' cm
  have CR := Hid.mk' cr
  have HB := Hid.mk' hb
  clear cn cm cr hb
  go_cut [] from 5 (fun wz => C5 wz w.heap.size (.int .i64 0) (.bool g1) (.int .i64 X) (.int .u64 ((N % 18446744073709551616 : Nat) : Int)) (.int .u64 ((N / 18446744073709551616 : Nat) : Int)) ∧ C5 wz (w.heap.size + 1) (.int .i64 0) (.bool g2) (.int .i64 Y) (.int .u64 ((M % 18446744073709551616 : Nat) : Int)) (.int .u64 ((M / 18446744073709551616 : Nat) : Int)) ∧ C5 wz (w.heap.size + 1 + 1) (.int .i64 0) (.bool false) (.int .i64 0) (.int .u64 0) (.int .u64 0) ∧ Below w.heap.size w wz)
  case first =>
    obtain ⟨⟨c0, c1, c2, c3, c4⟩, f0, f1, f2, f3, f4⟩ := CN.out
    obtain ⟨⟨d0, d1, d2, d3, d4⟩, y0, y1, y2, y3, y4⟩ := CM.out
    go_region_with (
      (go_at_call 80; (first | (with_reducible refine (KN _).out.mono ?_) | (with_reducible refine (KM _).out.mono ?_)); rintro e w6 ⟨rfl, hb⟩; (first | have hb := undrew hb | skip); have CN := Hid.mk' (CN.out.keep hb); have CM := Hid.mk' (CM.out.keep hb); have CR := Hid.mk' (CR.out.keep hb); have HB := Hid.mk' (HB.out.trans (hb.mono HB.out.size)); obtain ⟨⟨c0, c1, c2, c3, c4⟩, f0, f1, f2, f3, f4⟩ := CN.out; obtain ⟨⟨d0, d1, d2, d3, d4⟩, y0, y1, y2, y3, y4⟩ := CM.out; clear hb))
    all_goals go_wp2
    all_goals go_meet
    all_goals exact ⟨CN.out.setAll.far5 (by omega), (CM.out.far5 (by omega)).setAll, (CR.out.far5 (by omega)).far5 (by omega), bset5 (bset5 HB.out (by omega)) (by omega)⟩
  case rest =>
  obtain ⟨cn, cm, cr, hb⟩ := hcut
  clear CN CM CR HB
  have CN := Hid.mk' cn
  have CM := Hid.mk' cm
  have CR := Hid.mk' cr
  have HB := Hid.mk' hb
  obtain ⟨⟨c0, c1, c2, c3, c4⟩, f0, f1, f2, f3, f4⟩ := cn
  obtain ⟨⟨d0, d1, d2, d3, d4⟩, y0, y1, y2, y3, y4⟩ := cm
  clear cr hb
  go_upto_region 4 with fail
  refine wp_gen (fun wz => ∃ (ga gb : Bool) (Xa Xb : Int) (A B : Nat), Hid (R = smR ga gb Xa A (B / 2 ^ (Xa - Xb).toNat)) ∧ C5 wz w.heap.size (.int .i64 0) (.bool ga) (.int .i64 Xa) (.int .u64 ((A % 18446744073709551616 : Nat) : Int)) (.int .u64 ((A / 18446744073709551616 : Nat) : Int)) ∧ C5 wz (w.heap.size + 1) (.int .i64 0) (.bool gb) (.int .i64 Xb) (.int .u64 ((B % 18446744073709551616 : Nat) : Int)) (.int .u64 ((B / 18446744073709551616 : Nat) : Int)) ∧ C5 wz (w.heap.size + 1 + 1) (.int .i64 0) (.bool false) (.int .i64 0) (.int .u64 0) (.int .u64 0) ∧ Below w.heap.size w wz ∧ A < 170141183460469231731687303715884105728 ∧ B < 170141183460469231731687303715884105728 ∧ Xb ≤ Xa ∧ -5000 ≤ Xb ∧ Xa ≤ 5000) ⟨g1, g2, X, Y, N, M, (by have h := HR.out; rw [if_neg hs] at h; exact h), CN.out, CM.out, CR.out, HB.out, hN, hM, by omega, hY, hX'⟩ ?_
  rintro w2 ⟨ga, gb, Xa, Xb, A, B, HR2, cn, cm, cr, hb, hA, hB, hX1, hX2, hX3⟩
  have KD := fun w => Hid.mk' (down_any B (Xa - Xb) w (by omega) (by omega) (by omega))
  have hD : B / 2 ^ (Xa - Xb).toNat ≤ B := Nat.div_le_self _ _
  clear CN CM CR HB c0 c1 c2 c3 c4 d0 d1 d2 d3 d4 f0 f1 f2 f3 f4 y0 y1 y2 y3 y4 KN KM HR hs hN hM hX hX' hY hY'
  generalize B / 2 ^ (Xa - Xb).toNat = D at *
  have CN := Hid.mk' cn
  have CR := Hid.mk' cr
  have CM := Hid.mk' cm
  have HB := Hid.mk' hb
  obtain ⟨⟨c0, c1, c2, c3, c4⟩, f0, f1, f2, f3, f4⟩ := cn
  obtain ⟨⟨d0, d1, d2, d3, d4⟩, y0, y1, y2, y3, y4⟩ := cm
  clear cr hb
  go_wp2_with fail
  refine (KD _).out.mono ?_
  rintro e w3 ⟨rfl, hb3⟩
  have hz3 := HB.out.size
  have hz4 := hb3.size
  have hlm := CR.out.lt
  have CN3 := Hid.mk' (CN.out.keep hb3)
  have CM3 := Hid.mk' (CM.out.keep hb3)
  have CR3 := Hid.mk' (CR.out.keep hb3)
  have HB3 := Hid.mk' (HB.out.trans (hb3.mono HB.out.size))
  clear CN CR CM HB hb3 c0 c1 c2 c3 c4 d0 d1 d2 d3 d4 f0 f1 f2 f3 f4 y0 y1 y2 y3 y4
  go_upto_region 7 with fail
  refine wp_gen (fun wz => C5 wz w.heap.size (.int .i64 0) (.bool ga) (.int .i64 Xa) (.int .u64 ((A % 18446744073709551616 : Nat) : Int)) (.int .u64 ((A / 18446744073709551616 : Nat) : Int)) ∧ C5 wz (w.heap.size + 1) (.int .i64 0) (.bool gb) (.int .i64 Xb) (.int .u64 ((B % 18446744073709551616 : Nat) : Int)) (.int .u64 ((B / 18446744073709551616 : Nat) : Int)) ∧ C5 wz (w.heap.size + 1 + 1) (.int .i64 0) (.bool false) (.int .i64 0) (.int .u64 0) (.int .u64 0) ∧ C2 wz w3.heap.size (.int .u64 ((D % 18446744073709551616 : Nat) : Int)) (.int .u64 ((D / 18446744073709551616 : Nat) : Int)) ∧ Below w.heap.size w wz) ⟨CN3.out.past, CM3.out.past, CR3.out.past, c2_new, HB3.out.alloc (by omega) _⟩ ?_
  rintro w4 ⟨cn, cm, cr, cl, hb⟩
  have hgl : w.heap.size + 1 + 1 < w3.heap.size := by omega
  generalize w3.heap.size = gl at *
  clear CN3 CM3 CR3 HB3 KD
  have CN4 := Hid.mk' cn
  have CM4 := Hid.mk' cm
  have CR4 := Hid.mk' cr
  have CL4 := Hid.mk' cl
  have HB4 := Hid.mk' hb
  clear cn cm cr cl hb
  by_cases hg : ga = gb
  · subst hg
    have KA := fun w => Hid.mk' (add_any A D w (by omega) (by omega))
    rw [Nat.mod_eq_of_lt (show A + D < 340282366920938463463374607431768211456 by omega)] at KA
    obtain ⟨⟨c0, c1, c2, c3, c4⟩, f0, f1, f2, f3, f4⟩ := CN4.out
    obtain ⟨⟨d0, d1, d2, d3, d4⟩, y0, y1, y2, y3, y4⟩ := CM4.out
    obtain ⟨⟨k0, k1⟩, k2, k3⟩ := CL4.out
    go_wp2_with fail
    refine (KA _).out.mono ?_
    rintro e w5 ⟨rfl, hb5⟩
    have CN5 := Hid.mk' (CN4.out.keep hb5)
    have CR5 := Hid.mk' (CR4.out.keep hb5)
    have HB5 := Hid.mk' (HB4.out.trans (hb5.mono HB4.out.size))
    clear hb5 c0 c1 c2 c3 c4 f0 f1 f2 f3 f4 d0 d1 d2 d3 d4 y0 y1 y2 y3 y4 k0 k1 k2 k3 CN4 CM4 CR4 CL4 HB4
    obtain ⟨⟨c0, c1, c2, c3, c4⟩, f0, f1, f2, f3, f4⟩ := CN5.out
    go_upto_region 13 with fail
    refine wp_gen (fun wz => C5 wz w.heap.size (.int .i64 0) (.bool ga) (.int .i64 Xa) (.int .u64 (((A + D) % 18446744073709551616 : Nat) : Int)) (.int .u64 (((A + D) / 18446744073709551616 : Nat) : Int)) ∧ C5 wz (w.heap.size + 1 + 1) (.int .i64 0) (.bool false) (.int .i64 0) (.int .u64 0) (.int .u64 0) ∧ Below w.heap.size w wz) ⟨CN5.out.set3.set4, (CR5.out.far (by omega)).far (by omega), bset (bset HB5.out (by omega)) (by omega)⟩ ?_
    clear KA
    rintro wz ⟨⟨⟨c0, c1, c2, c3, c4⟩, -⟩, ⟨⟨r0, r1, r2, r3, r4⟩, v0, v1, v2, v3, v4⟩, hz⟩
    go_wp2
    refine bodyPost_ret (v := N2 0 ga Xa (A + D)) (by simp [results, Tryd.results94, go_sem, r0, r1, r2, r3, r4]) rfl ⟨?_, by repeat (first | exact hz | refine Below.setCell ?_ (by first | (simp; done) | (simp; omega) | omega) _)⟩
    rw [HR2.out, smR, if_pos rfl]
  · have hgb : (ga == gb) = false := by cases ga <;> cases gb <;> simp_all
    have HG := Hid.mk' hg
    clear hg
    by_cases hE : A = D
    · have KA : ∀ w, (binOp .eql 61 (W2 A) (W2 D)).run Tryd.prog w = .ok (.bool true) w := fun w => by rw [eqlW, hE]; simp
      have KA2 : ∀ w, (Op.equalIn 10000 61 (WV ((A : Int) % 18446744073709551616) ((A : Int) / 18446744073709551616)) (WV ((D : Int) % 18446744073709551616) ((D : Int) / 18446744073709551616))).run Tryd.prog w = .ok true w := fun w => by rw [eqW, hE]; simp
      have HE := Hid.mk' hE
      clear hE
      obtain ⟨⟨r0, r1, r2, r3, r4⟩, v0, v1, v2, v3, v4⟩ := CR4.out
      obtain ⟨⟨c0, c1, c2, c3, c4⟩, f0, f1, f2, f3, f4⟩ := CN4.out
      obtain ⟨⟨d0, d1, d2, d3, d4⟩, y0, y1, y2, y3, y4⟩ := CM4.out
      obtain ⟨⟨k0, k1⟩, k2, k3⟩ := CL4.out
      go_wp2
      refine bodyPost_ret (v := NV 0 false 0 0 0) (by simp [results, Tryd.results94, go_sem, r0, r1, r2, r3, r4]) rfl ⟨?_, by repeat (first | exact HB4.out | refine Below.setCell ?_ (by first | (simp; done) | (simp; omega) | omega) _)⟩
      rw [HR2.out, smR, if_neg HG.out, if_pos HE.out]; rfl
    · have KE : ∀ w, (binOp .eql 61 (W2 A) (W2 D)).run Tryd.prog w = .ok (.bool false) w := fun w => by rw [eqlW]; simp [hE]
      have KE2 : ∀ w, (Op.equalIn 10000 61 (WV ((A : Int) % 18446744073709551616) ((A : Int) / 18446744073709551616)) (WV ((D : Int) % 18446744073709551616) ((D : Int) / 18446744073709551616))).run Tryd.prog w = .ok false w := fun w => by
        have h := beqW A D
        rw [show ((A % 18446744073709551616 : Nat) : Int) = (A : Int) % 18446744073709551616 by omega, show ((D % 18446744073709551616 : Nat) : Int) = (D : Int) % 18446744073709551616 by omega, show ((A / 18446744073709551616 : Nat) : Int) = (A : Int) / 18446744073709551616 by omega, show ((D / 18446744073709551616 : Nat) : Int) = (D : Int) / 18446744073709551616 by omega] at h
        rw [eqW, h, decide_eq_false hE]
      have HE := Hid.mk' hE
      clear hE
      have KL := fun w => Hid.mk' (less_any A D w)
      by_cases hL : A < D
      · rw [show decide (A < D) = true by simpa using hL] at KL
        have KA := fun w => Hid.mk' (sub_any D A w (by omega) (by omega))
        have HL := Hid.mk' hL
        clear hL
        obtain ⟨⟨c0, c1, c2, c3, c4⟩, f0, f1, f2, f3, f4⟩ := CN4.out
        obtain ⟨⟨d0, d1, d2, d3, d4⟩, y0, y1, y2, y3, y4⟩ := CM4.out
        obtain ⟨⟨k0, k1⟩, k2, k3⟩ := CL4.out
        go_wp2_with fail
        refine (KL _).out.mono ?_
        rintro e w5 ⟨rfl, hb5⟩
        have CN5 := Hid.mk' (CN4.out.keep hb5)
        have CR5 := Hid.mk' (CR4.out.keep hb5)
        have CM5 := Hid.mk' (CM4.out.keep hb5)
        have CL5 := Hid.mk' (CL4.out.keep hb5)
        have HB5 := Hid.mk' (HB4.out.trans (hb5.mono HB4.out.size))
        clear hb5 c0 c1 c2 c3 c4 f0 f1 f2 f3 f4 d0 d1 d2 d3 d4 y0 y1 y2 y3 y4 k0 k1 k2 k3 CN4 CM4 CR4 CL4 HB4
        obtain ⟨⟨c0, c1, c2, c3, c4⟩, f0, f1, f2, f3, f4⟩ := CN5.out
        obtain ⟨⟨d0, d1, d2, d3, d4⟩, y0, y1, y2, y3, y4⟩ := CM5.out
        obtain ⟨⟨k0, k1⟩, k2, k3⟩ := CL5.out
        go_upto_region 12 with fail
        go_region_with (
          (go_at_call 105; refine (KA _).out.mono ?_; rintro e w6 ⟨rfl, hb⟩; (first | have hb := undrew hb | skip); have CN6 := Hid.mk' (CN5.out.keep hb); have CM6 := Hid.mk' (CM5.out.keep hb); have CR6 := Hid.mk' (CR5.out.keep hb); have HB6 := Hid.mk' (HB5.out.trans (hb.mono HB5.out.size)); obtain ⟨⟨c0, c1, c2, c3, c4⟩, f0, f1, f2, f3, f4⟩ := CN6.out; obtain ⟨⟨d0, d1, d2, d3, d4⟩, y0, y1, y2, y3, y4⟩ := CM6.out; clear hb))
        all_goals (
          go_upto_region 13 with fail
          refine wp_gen (fun wz => C5 wz w.heap.size (.int .i64 0) (.bool gb) (.int .i64 Xa) (.int .u64 (((D - A) % 18446744073709551616 : Nat) : Int)) (.int .u64 (((D - A) / 18446744073709551616 : Nat) : Int)) ∧ C5 wz (w.heap.size + 1 + 1) (.int .i64 0) (.bool false) (.int .i64 0) (.int .u64 0) (.int .u64 0) ∧ Below w.heap.size w wz) (by first | exact ⟨CN6.out.set3.set4.set1, ((CR6.out.far (by omega)).far (by omega)).far (by omega), bset (bset (bset HB6.out (by omega)) (by omega)) (by omega)⟩ | exact ⟨CN6.out.set1.set3.set4, ((CR6.out.far (by omega)).far (by omega)).far (by omega), bset (bset (bset HB6.out (by omega)) (by omega)) (by omega)⟩) ?_
          clear KA
          rintro wz ⟨⟨⟨c0, c1, c2, c3, c4⟩, -⟩, ⟨⟨r0, r1, r2, r3, r4⟩, v0, v1, v2, v3, v4⟩, hz⟩
          go_wp2
          refine bodyPost_ret (v := N2 0 gb Xa (D - A)) (by simp [results, Tryd.results94, go_sem, r0, r1, r2, r3, r4]) rfl ⟨?_, by repeat (first | exact hz | refine Below.setCell ?_ (by first | (simp; done) | (simp; omega) | omega) _)⟩
          rw [HR2.out, smR, if_neg HG.out, if_neg HE.out, if_pos HL.out])
      · rw [show decide (A < D) = false by simpa using hL] at KL
        have KA := fun w => Hid.mk' (sub_any A D w (by omega) (by omega))
        have HL := Hid.mk' hL
        clear hL
        obtain ⟨⟨c0, c1, c2, c3, c4⟩, f0, f1, f2, f3, f4⟩ := CN4.out
        obtain ⟨⟨d0, d1, d2, d3, d4⟩, y0, y1, y2, y3, y4⟩ := CM4.out
        obtain ⟨⟨k0, k1⟩, k2, k3⟩ := CL4.out
        go_wp2_with fail
        refine (KL _).out.mono ?_
        rintro e w5 ⟨rfl, hb5⟩
        have CN5 := Hid.mk' (CN4.out.keep hb5)
        have CR5 := Hid.mk' (CR4.out.keep hb5)
        have CL5 := Hid.mk' (CL4.out.keep hb5)
        have HB5 := Hid.mk' (HB4.out.trans (hb5.mono HB4.out.size))
        clear hb5 c0 c1 c2 c3 c4 f0 f1 f2 f3 f4 d0 d1 d2 d3 d4 y0 y1 y2 y3 y4 k0 k1 k2 k3 CN4 CM4 CR4 CL4 HB4
        obtain ⟨⟨c0, c1, c2, c3, c4⟩, f0, f1, f2, f3, f4⟩ := CN5.out
        obtain ⟨⟨k0, k1⟩, k2, k3⟩ := CL5.out
        go_wp2_with fail
        refine (KA _).out.mono ?_
        rintro e w6 ⟨rfl, hb6⟩
        have CN6 := Hid.mk' (CN5.out.keep hb6)
        have CR6 := Hid.mk' (CR5.out.keep hb6)
        have HB6 := Hid.mk' (HB5.out.trans (hb6.mono HB5.out.size))
        clear hb6 c0 c1 c2 c3 c4 f0 f1 f2 f3 f4 k0 k1 k2 k3 CN5 CR5 CL5 HB5
        obtain ⟨⟨c0, c1, c2, c3, c4⟩, f0, f1, f2, f3, f4⟩ := CN6.out
        go_upto_region 13 with fail
        refine wp_gen (fun wz => C5 wz w.heap.size (.int .i64 0) (.bool ga) (.int .i64 Xa) (.int .u64 (((A - D) % 18446744073709551616 : Nat) : Int)) (.int .u64 (((A - D) / 18446744073709551616 : Nat) : Int)) ∧ C5 wz (w.heap.size + 1 + 1) (.int .i64 0) (.bool false) (.int .i64 0) (.int .u64 0) (.int .u64 0) ∧ Below w.heap.size w wz) ⟨CN6.out.set3.set4, (CR6.out.far (by omega)).far (by omega), bset (bset HB6.out (by omega)) (by omega)⟩ ?_
        clear KA
        rintro wz ⟨⟨⟨c0, c1, c2, c3, c4⟩, -⟩, ⟨⟨r0, r1, r2, r3, r4⟩, v0, v1, v2, v3, v4⟩, hz⟩
        go_wp2
        refine bodyPost_ret (v := N2 0 ga Xa (A - D)) (by simp [results, Tryd.results94, go_sem, r0, r1, r2, r3, r4]) rfl ⟨?_, by repeat (first | exact hz | refine Below.setCell ?_ (by first | (simp; done) | (simp; omega) | omega) _)⟩
        rw [HR2.out, smR, if_neg HG.out, if_neg HE.out, if_neg HL.out]
end Go.Proofs.YthmppcfhbbjhlaaDoor
