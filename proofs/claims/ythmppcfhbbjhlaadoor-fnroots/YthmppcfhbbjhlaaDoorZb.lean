import Derived.Test.YthmppcfhbbjhlaaDoorZd
set_option linter.all false
namespace Go.Proofs.YthmppcfhbbjhlaaDoor
open Go.RowKit Go.Sort

set_option maxHeartbeats 8000000 in
set_option maxRecDepth 100000 in
theorem iroot_0 (x lo hi : Int) (n0 n1 h : Int) (N : Nat) (w : World) (hN : N < 340282366920938463463374607431768211456) (e0 : n0 = ((N % 18446744073709551616 : Nat) : Int)) (e1' : n1 = ((N / 18446744073709551616 : Nat) : Int)) (hh0 : -5000 ≤ h) (hh1 : h ≤ 5000)
    (KZ : ∀ w, Hid (Calls Tryd.prog 79 #[NV 0 false x lo hi] w fun e w' => e = .returned (.bool false) ∧ Below w.heap.size w w'))
    (KL : ∀ w, Hid (Calls Tryd.prog 80 #[NV 0 false x lo hi, .int .i64 127] w fun e w' => e = .returned (NV 0 false (2 * h) n0 n1) ∧ Below w.heap.size w w'))
 :
    Calls Tryd.prog 38 #[NV 0 false x lo hi] w fun e w' => (∃ R : Nat, IsR N R ∧ R < 18446744073709551616 ∧ e = .returned (N2 0 false h (if decide (R * R ≠ N) then R + (1 - R % 2) else R))) ∧ Below w.heap.size w w' := by
  have KE : Int.tmod (2 * h) 2 = 0 := by rw [Int.mul_tmod_right]
  have KD : Int.tdiv (2 * h) 2 = h := Int.mul_tdiv_cancel_left h (by decide)
  have KE' : (Int.tmod (2 * h) 2 != 0) = false := by rw [KE]; rfl
  have KSq := Hid.mk' (fun (T : Nat) (hT : T < 18446744073709551616) (w : World) => square_any T w hT)
  have KLs := Hid.mk' (fun (T : Nat) (w : World) => less_any N (T * T) w)
  have KMk := Hid.mk' (fun (b : Bool) (T : Nat) (hT : T < 18446744073709551616) (w : World) => mark_any b T w)
  have KNe := Hid.mk' (fun (T : Nat) (w : World) => neqW w (T * T) N)
  rw [W2, ← e0, ← e1'] at KLs KNe
  have HN := Hid.mk' hN
  clear hN e0 e1'
  go_enter Tryd.func38, Tryd.ntmps38
  go_wp2_with fail
  refine (KZ _).out.mono ?_
  rintro e w1 ⟨rfl, hb⟩
  have CN := Hid.mk' (c5_new.past.keep hb)
  have CR := Hid.mk' (c5_mid.keep hb)
  have HB := Hid.mk' (below2 hb)
  clear hb KZ
  obtain ⟨⟨c0, c1, c2, c3, c4⟩, -⟩ := CN.out
  go_wp2_with fail
  refine (KL _).out.mono ?_
  rintro e w2 ⟨rfl, hb⟩
  have CN2 := Hid.mk' (CN.out.keep hb)
  have CR2 := Hid.mk' (CR.out.keep hb)
  have HB2 := Hid.mk' (HB.out.trans (hb.mono HB.out.size))
  clear hb KL CN CR HB c0 c1 c2 c3 c4
  obtain ⟨⟨c0, c1, c2, c3, c4⟩, f0, f1, f2, f3, f4⟩ := CN2.out
  go_upto_region 8 with fail
  refine wp_gen (fun wr => C5 wr w.heap.size (.int .i64 0) (.bool false) (.int .i64 (2 * h)) (.int .u64 n0) (.int .u64 n1) ∧ C5 wr (w.heap.size + 1) (.int .i64 0) (.bool false) (.int .i64 0) (.int .u64 0) (.int .u64 0) ∧ Below w.heap.size w wr) ⟨CN2.out.setAll, ((((CR2.out.far (by omega)).far (by omega)).far (by omega)).far (by omega)).far (by omega), ((((HB2.out.setCell (Nat.le_refl _) _).setCell (Nat.le_refl _) _).setCell (Nat.le_refl _) _).setCell (Nat.le_refl _) _).setCell (Nat.le_refl _) _⟩ ?_
  clear CN2 CR2 HB2 c0 c1 c2 c3 c4 f0 f1 f2 f3 f4
  rintro w3 ⟨cn, cr, hb⟩
  have CN := Hid.mk' cn
  have CR := Hid.mk' cr
  have HB := Hid.mk' hb
  obtain ⟨⟨c0, c1, c2, c3, c4⟩, -⟩ := id cn
  clear cn cr hb
  go_upto_region 10 with fail
  clear c0 c1 c2 c3 c4
  go_wp2
  go_loopw [3, 4] (fun rv bv wr => ∃ (k R : Nat), k ≤ 64 ∧ rv = .int .u64 (R : Int) ∧ bv = .int .u64 ((2 ^ k / 2 : Nat) : Int) ∧ Hid (R % 2 ^ k = 0 ∧ R + 2 ^ k ≤ 18446744073709551616 ∧ R * R ≤ N ∧ N < (R + 2 ^ k) * (R + 2 ^ k)) ∧ C5 wr w.heap.size (.int .i64 0) (.bool false) (.int .i64 (2 * h)) (.int .u64 n0) (.int .u64 n1) ∧ C5 wr (w.heap.size + 1) (.int .i64 0) (.bool false) (.int .i64 0) (.int .u64 0) (.int .u64 0) ∧ Below w.heap.size w wr) (fun _ bv _ => (intOf bv).toNat)
  case atStart =>
    refine ⟨64, 0, by omega, rfl, rfl, ⟨by simp, by decide, by omega, ?_⟩, CN.out, CR.out, HB.out⟩
    have := HN.out
    have e : (0 + 2 ^ 64) * (0 + 2 ^ 64) = 340282366920938463463374607431768211456 := by decide
    rw [e]; exact this
  case round =>
    clear CN CR HB
    obtain ⟨k, R, hk, rfl, rfl, HQ, cn, cr, hb⟩ := hrel
    have CN := Hid.mk' cn
    have CR := Hid.mk' cr
    have HB := Hid.mk' hb
    obtain ⟨⟨c0, c1, c2, c3, c4⟩, -⟩ := id cn
    clear cn cr hb
    cases k with
    | zero =>
      have e0 : ((2 ^ 0 / 2 : Nat) : Int) = 0 := by decide
      rw [e0]
      obtain ⟨q1, q2, q3, q4⟩ := HQ.out
      rw [Nat.pow_zero] at q2 q4
      have HI : Hid (IsR N R) := ⟨q3, q4⟩
      have hRl : R < 18446744073709551616 := by omega
      clear q1 q2 q3 q4 HQ e0
      have K1 := fun w => Hid.mk' (KSq.out R hRl w)
      have K3 := fun w => KNe.out R w
      have K2 := fun w => Hid.mk' (KMk.out (decide (R * R ≠ N)) R hRl w)
      obtain ⟨M, hM⟩ : ∃ M : Nat, M = if decide (R * R ≠ N) then R + (1 - R % 2) else R := ⟨_, rfl⟩
      rw [← hM] at K2
      have HM := Hid.mk' hM
      have eR : W2 R = WV (R : Int) 0 := by rw [W2, Nat.mod_eq_of_lt hRl, Nat.div_eq_of_lt hRl]; rfl
      rw [eR] at K2
      obtain ⟨nb, hnb⟩ : ∃ nb, nb = decide (R * R ≠ N) := ⟨_, rfl⟩
      rw [← hnb] at K2 K3
      obtain ⟨s0, hs0⟩ : ∃ s0 : Int, s0 = ((R * R % 18446744073709551616 : Nat) : Int) := ⟨_, rfl⟩
      obtain ⟨s1, hs1⟩ : ∃ s1 : Int, s1 = ((R * R / 18446744073709551616 : Nat) : Int) := ⟨_, rfl⟩
      rw [W2, ← hs0, ← hs1] at K1 K3
      obtain ⟨m0, hm0⟩ : ∃ m0 : Int, m0 = ((M % 18446744073709551616 : Nat) : Int) := ⟨_, rfl⟩
      obtain ⟨m1, hm1⟩ : ∃ m1 : Int, m1 = ((M / 18446744073709551616 : Nat) : Int) := ⟨_, rfl⟩
      rw [W2, ← hm0, ← hm1] at K2
      have HM0 := Hid.mk' hm0
      have HM1 := Hid.mk' hm1
      clear hM hnb eR KSq KLs KMk KNe KE KE' hs0 hs1 hm0 hm1
      go_upto_region 16 with fail
      go_cut [5] from 6 (fun v5 wz => ∃ g5 : Nat, v5 = .pointer (some ⟨g5, 0, none⟩) ∧ C5 wz w.heap.size (.int .i64 0) (.bool false) (.int .i64 (2 * h)) (.int .u64 n0) (.int .u64 n1) ∧ C5 wz (w.heap.size + 1) (.int .i64 0) (.bool false) (.int .i64 0) (.int .u64 0) (.int .u64 0) ∧ C2 wz g5 (.int .u64 m0) (.int .u64 m1) ∧ Below w.heap.size w wz)
      case first =>
        have hlw := Nat.lt_of_lt_of_le CN.out.lt (Nat.le_refl _)
        have hlw1 := CR.out.lt
        have hnw : w.heap.size ≠ wr.heap.size := Nat.ne_of_lt hlw
        go_region_with (first
          | (go_at_call 82; refine (K1 _).out.mono ?_; rintro e w6 ⟨rfl, hb6⟩; (first | (have hq6 : Below wr.heap.size wr w6 := undrew hb6) | (have hq6 : Below wr.heap.size wr w6 := undrewA hb6; have z6 := Hid.mk' (c2_drewA hb6))); obtain ⟨⟨c0', c1', c2', c3', c4'⟩, -⟩ := CN.out.keep hq6; have CN6 := Hid.mk' (CN.out.keep hq6); have CR6 := Hid.mk' (CR.out.keep hq6); have HB6 := Hid.mk' (HB.out.trans (hq6.mono HB.out.size)); have hs6 := hq6.size; have hl6 := CN6.out.lt; have hn6 : w.heap.size ≠ w6.heap.size := Nat.ne_of_lt hl6; clear hb6 hq6)
          | (go_at_call 83; refine (K2 _).out.mono ?_; rintro e w7 ⟨rfl, hb7⟩; (first | (have hq7 : Below w6.heap.size w6 w7 := hb7) | (have hq7 : Below w6.heap.size w6 w7 := below_box hb7; have z7 := Hid.mk' (c2_new.keep hb7))); (try have z7 := Hid.mk' (z6.out.keep hq7)); (try obtain ⟨⟨zc0, zc1⟩, zf0, zf1⟩ := z7.out); have CN7 := Hid.mk' (CN6.out.keep hq7); have CR7 := Hid.mk' (CR6.out.keep hq7); have HB7 := Hid.mk' (HB6.out.trans (hq7.mono HB6.out.size)); have hs7 := hq7.size; clear hb7 hq7))
        all_goals go_wp2
        all_goals go_meet
        all_goals (
          first
          | exact ⟨w7.heap.size, rfl, CN7.out.past, CR7.out.past, c2_new, HB7.out.alloc HB7.out.size _⟩
          | exact ⟨_, rfl, (CN7.out.far (by omega)).far (by omega), (CR7.out.far (by omega)).far (by omega), z7.out.set01, (HB7.out.setCell (by simp; omega) _).setCell (by simp; omega) _⟩
          | exact ⟨_, rfl, (CN7.out.far (by simp; omega)).far (by simp; omega), (CR7.out.far (by simp; omega)).far (by simp; omega), z7.out.set01, (HB7.out.setCell (by simp; omega) _).setCell (by simp; omega) _⟩)
      case rest =>
      obtain ⟨g5, rfl, ⟨⟨d0, d1, d2, d3, d4⟩, -⟩, ⟨⟨r0, r1, r2, r3, r4⟩, v0, v1, v2, v3, v4⟩, ⟨⟨y0, y1⟩, -⟩, hzz⟩ := hcut
      have HZZ := Hid.mk' hzz
      clear hzz K1 K2 K3
      go_wp2
      refine bodyPost_ret (v := NV 0 false h m0 m1) (by simp [results, Tryd.results38, go_sem, r0, r1, r2, r3, r4]) rfl ⟨⟨R, HI.out, hRl, ?_⟩, by repeat (first | exact HZZ.out | refine Below.setCell ?_ (by first | (simp; done) | (simp; omega) | omega) _)⟩
      rw [← HM.out, N2, ← HM0.out, ← HM1.out]
    | succ j =>
      have eb : (2 ^ (j + 1) / 2 : Nat) = 2 ^ j := by rw [Nat.pow_succ]; omega
      rw [eb]
      obtain ⟨q1, q2, q3, q4⟩ := HQ.out
      have hp : 2 ^ (j + 1) = 2 * 2 ^ j := by rw [Nat.pow_succ, Nat.mul_comm]
      have hjp := Nat.two_pow_pos j
      have EO := or_bit R j q1 q2
      have hTl : R + 2 ^ j < 18446744073709551616 := by omega
      have hmh := mod_half R j q1
      obtain ⟨T, hT⟩ : ∃ T : Nat, T = R + 2 ^ j := ⟨_, rfl⟩
      rw [← hT] at EO hTl hmh
      have K1 := fun w => Hid.mk' (KSq.out T hTl w)
      have K2 := fun w => Hid.mk' (KLs.out T w)
      obtain ⟨b, hb2⟩ : ∃ b : Nat, b = 2 ^ j := ⟨_, rfl⟩
      rw [← hb2] at EO ⊢
      have hbp : (b : Int) ≠ 0 := by omega
      have hbn : ((b : Int) != 0) = true := by rw [bne_iff_ne]; exact hbp
      have hbl : b < 18446744073709551616 := by omega
      have HI : Hid ((T * T ≤ N → T % 2 ^ j = 0 ∧ T + 2 ^ j ≤ 18446744073709551616 ∧ T * T ≤ N ∧ N < (T + 2 ^ j) * (T + 2 ^ j)) ∧ (¬ T * T ≤ N → R % 2 ^ j = 0 ∧ R + 2 ^ j ≤ 18446744073709551616 ∧ R * R ≤ N ∧ N < (R + 2 ^ j) * (R + 2 ^ j))) := by
        refine ⟨fun h => ⟨hmh.2, by omega, h, ?_⟩, fun h => ⟨hmh.1, by omega, q3, by rw [← hT]; omega⟩⟩
        have e : T + 2 ^ j = R + 2 ^ (j + 1) := by omega
        rw [e]; exact q4
      have HNB : Hid (b / 2 = 2 ^ j / 2) := by show _ = _; rw [hb2]
      have hTT : T * T < 340282366920938463463374607431768211456 := by
        have := Nat.mul_le_mul (show T ≤ 18446744073709551615 by omega) (show T ≤ 18446744073709551615 by omega)
        omega
      obtain ⟨t0, ht0⟩ : ∃ t0 : Int, t0 = ((T * T % 18446744073709551616 : Nat) : Int) := ⟨_, rfl⟩
      obtain ⟨t1, ht1⟩ : ∃ t1 : Int, t1 = ((T * T / 18446744073709551616 : Nat) : Int) := ⟨_, rfl⟩
      rw [W2, ← ht0, ← ht1] at K1 K2
      obtain ⟨ls, hls⟩ : ∃ ls, ls = decide (N < T * T) := ⟨_, rfl⟩
      rw [← hls] at K2
      have HLS := Hid.mk' hls
      have HTT : Hid (T = R + b) := by show _ = _; rw [hb2]; exact hT
      clear ht0 ht1 hls hT hb2 eb q1 q2 q3 q4 hp hjp hmh HQ KSq KLs KMk KNe hTT
      go_upto_region 14 with fail
      have kc3 := cell_regrown c3
      have kc4 := cell_regrown c4
      have cSq : ∀ d os, Calls Tryd.prog 82 #[.int .u64 (T : Int)] (grow (redrawn wr d) os) fun e w'' => e = .returned (WV t0 t1) ∧ ∃ p : Regrown, w'' = grow (redrawn wr p.d) p.os := fun d os => Calls.regrown_of (K1 _).out
      have cLs : ∀ d os, Calls Tryd.prog 81 #[WV n0 n1, WV t0 t1] (grow (redrawn wr d) os) fun e w'' => e = .returned (.bool ls) ∧ ∃ p : Regrown, w'' = grow (redrawn wr p.d) p.os := fun d os => Calls.regrown_of (K2 _).out
      clear K1 K2
      refine wp_region_quiet_below (by kernel_rfl) (by kernel_rfl) ?_
      repeat (quiet_step ((first | (go_at_call 82; exact cSq _ _) | (go_at_call 81; exact cLs _ _))))
      refine wpQuiet_nil ?_
      intro _ hw'
      obtain ⟨⟨dq, osq⟩, hw''⟩ := hw'
      subst hw''
      have CN5 := Hid.mk' (CN.out.keep (below_regrown wr dq osq))
      have CR5 := Hid.mk' (CR.out.keep (below_regrown wr dq osq))
      have HB5 := Hid.mk' (HB.out.trans ((below_regrown wr dq osq).mono HB.out.size))
      show Exit.then _ _ Exit.normal _ (grow (redrawn wr dq) osq)
      generalize grow (redrawn wr dq) osq = w5 at *
      clear kc3 kc4 cSq cLs c0 c1 c2 c3 c4 CN CR HB
      cases ls
      · have hle : T * T ≤ N := by have := HLS.out; simpa using this.symm
        go_wp2
        go_roundw
        case rel => exact ⟨j, T, by omega, rfl, by have h9 := HNB.out; refine congrArg (Value.int .u64) ?_; omega, HI.out.1 hle, CN5.out, CR5.out, HB5.out⟩
        case measure => simp [intOf]; omega
      · have hle : ¬ T * T ≤ N := by have := HLS.out; simpa using this.symm
        go_wp2
        go_roundw
        case rel => exact ⟨j, R, by omega, rfl, by have h9 := HNB.out; refine congrArg (Value.int .u64) ?_; omega, HI.out.2 hle, CN5.out, CR5.out, HB5.out⟩
        case measure => simp [intOf]; omega
end Go.Proofs.YthmppcfhbbjhlaaDoor
