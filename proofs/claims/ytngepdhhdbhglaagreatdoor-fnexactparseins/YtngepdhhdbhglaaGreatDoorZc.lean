import Derived.Test.YtngepdhhdbhglaaGreatDoorZh
set_option linter.all false
set_option linter.unusedVariables false
namespace Go.Proofs.YtngepdhhdbhglaaGreatDoor
open Go.RowKit Go.Sort
set_option maxRecDepth 100000
attribute [-go_sem] run_index_string
def P2 (n : Int) : Int := 2 ^ n.toNat
theorem P2_pos (n : Int) : 1 ≤ P2 n := by unfold P2; have := Int.pow_pos (n := (2 : Int)) (m := n.toNat) (by omega); omega
theorem P2_succ (n : Int) (h : 0 ≤ n) : P2 (n + 1) = 2 * P2 n := by
  unfold P2; rw [show (n + 1).toNat = n.toNat + 1 by omega, Int.pow_succ]; omega
theorem P2_le {m n : Int} (h0 : m ≤ n) : P2 m ≤ P2 n := by
  unfold P2
  have h : 2 ^ m.toNat ≤ 2 ^ n.toNat := Nat.pow_le_pow_right (by omega) (by omega)
  have h' : ((2 ^ m.toNat : Nat) : Int) ≤ ((2 ^ n.toNat : Nat) : Int) := by omega
  simpa using h'
theorem P2_62 {n : Int} (h : n ≤ 62) : P2 n ≤ 4611686018427387904 := by
  have := P2_le h; rw [show P2 62 = 4611686018427387904 by decide] at this; exact this
set_option maxHeartbeats 400000 in
theorem pow_any (n : Int) (w : World) (h0 : 0 ≤ n) (h1 : n ≤ 63) :
    Calls Tryz.prog 66 #[.int .i64 n] w fun e w' => e = .returned (.int .u64 (P2 n)) ∧ w = w' := by
  go_enter Tryz.func66, Tryz.ntmps66
  go_wp2
  go_loop [3, 4] (fun x i => ∃ k : Int, 0 ≤ k ∧ k ≤ n ∧ i = .int .i64 k ∧ x = .int .u64 (P2 k)) (fun _ i => (n - intOf i).toNat)
  case atStart => exact ⟨0, by omega, h0, rfl, rfl⟩
  case round =>
    obtain ⟨k, hk0, hk, rfl, rfl⟩ := hrel
    have hp := P2_pos k
    by_cases hlt : k < n
    · have hb := P2_62 (n := k) (by omega)
      have HS : Hid (P2 (k + 1) = 2 * P2 k) := P2_succ k hk0
      go_wp2
      go_round
      case rel => exact ⟨k + 1, by omega, by omega, rfl, by rw [HS.out, Int.mul_comm]⟩
      case measure => simp [intOf]; omega
    · have e : k = n := by omega
      subst e
      go_wp2
      go_ret
      exact ⟨rfl, rfl⟩
set_option maxHeartbeats 400000 in
theorem low_c (x : Int) (w : World) (h0 : 0 ≤ x) (h1 : x ≤ 18446744073709551615) :
    Calls Tryz.prog 45 #[.int .u64 x, .int .i64 32] w fun e w' => e = .returned (.int .u64 (x % 4294967296)) ∧ w = w' := by
  have K := Hid.mk' (pow_any 32 w (by omega) (by omega))
  rw [show P2 32 = 4294967296 by decide] at K
  have hr : Int.tmod x 4294967296 = x % 4294967296 := Int.tmod_eq_emod_of_nonneg h0
  have hw : IntKind.u64.wrap (x % 4294967296) = x % 4294967296 := by rw [IntKind.wrap_u64]; omega
  go_enter Tryz.func45, Tryz.ntmps45
  go_wp2_with fail
  refine K.out.mono ?_
  rintro e w1 ⟨rfl, rfl⟩
  go_wp2
  go_ret
  exact ⟨rfl, rfl⟩
/-- What the specification reads of a constant: a value and whether it is good. -/
def CoP (ok : Bool) (V : Int → Prop) (w : World) (e : Ending) (w' : World) : Prop := w = w' ∧ ∃ x : Int, e = .returned (.tuple #[.int .u64 x, .bool ok]) ∧ (ok = true → V x)
set_option maxHeartbeats 2000000 in
theorem con65_c (s : Wd) (w : World) (hl : s.length ≤ 1099511627776) :
    Calls Tryz.prog 28 #[.int .i64 65, .string (S s)] w (CoP (okN (-2147483648) 2147483647 s) (fun x => ∃ v, okP s = some v ∧ x = v % 4294967296) w) := by
  have K := Hid.mk' (snum_c 10 true s w (by omega) hl)
  obtain ⟨h1, h2⟩ := okN_num (lo := -2147483648) (hi := 2147483647) (most := 10) (sg := true) (s := s) (by omega) (by omega) (fun v a b => by omega) (by omega) (fun h => by cases h)
  rw [h1]
  generalize numM 10 true s = o at *
  cases o with
  | none =>
    have KL := Hid.mk' (fun x a b => low_c x w a b)
    clear h1 h2 hl
    go_enter Tryz.func28, Tryz.ntmps28
    go_wp2_with fail
    refine K.out.mono ?_
    rintro e w1 ⟨rfl, x, rfl, -⟩
    go_wp2_with fail
    refine (KL.out _ (by rw [IntKind.wrap_u64]; omega) (by rw [IntKind.wrap_u64]; omega)).mono ?_
    rintro e w1 ⟨rfl, rfl⟩
    go_wp2
    go_ret2
    exact ⟨rfl, _, rfl, fun h => by cases h⟩
  | some v =>
    have hp := Hid.mk' (h2 v rfl)
    have KU := Hid.mk' (in_c v (-2147483648) 2147483647 w)
    have KL := Hid.mk' (low_c (IntKind.u64.wrap v) w (by rw [IntKind.wrap_u64]; omega) (by rw [IntKind.wrap_u64]; omega))
    have hm : Hid (IntKind.u64.wrap v % 4294967296 = v % 4294967296) := by show _ = _; rw [IntKind.wrap_u64]; omega
    clear h1 h2 hl
    go_enter Tryz.func28, Tryz.ntmps28
    go_wp2_with fail
    refine K.out.mono ?_
    rintro e w1 ⟨rfl, x, rfl, hx⟩
    have ex := hx v rfl
    subst ex
    clear hx
    go_wp2_with fail
    refine KL.out.mono ?_
    rintro e w1 ⟨rfl, rfl⟩
    go_wp2_with fail
    refine KU.out.mono ?_
    rintro e w1 ⟨rfl, rfl⟩
    go_wp2
    go_ret2
    exact ⟨rfl, _, rfl, fun _ => ⟨x, hp.out, hm.out⟩⟩
set_option maxHeartbeats 2000000 in
theorem con66_c (s : Wd) (w : World) (hl : s.length ≤ 1099511627776) :
    Calls Tryz.prog 28 #[.int .i64 66, .string (S s)] w (CoP (okN (-9223372036854775808) 9223372036854775807 s) (fun x => ∃ v, okP s = some v ∧ x = v % 18446744073709551616) w) := by
  have K := Hid.mk' (snum_c 19 true s w (by omega) hl)
  obtain ⟨h1, h2⟩ := okN_num (lo := -9223372036854775808) (hi := 9223372036854775807) (most := 19) (sg := true) (s := s) (by omega) (by omega) (fun v a b => by omega) (by omega) (fun h => by cases h)
  have h3 : okN (-9223372036854775808) 9223372036854775807 s = (numM 19 true s).isSome := by
    rw [h1]
    cases hn : numM 19 true s with
    | none => rfl
    | some v =>
      obtain ⟨_, e2, e3, _⟩ := numM_some hn
      simp [e2, e3]
  rw [h3]
  have HP := Hid.mk' h2
  clear h1 h2 h3 hl
  generalize numM 19 true s = o at *
  go_enter Tryz.func28, Tryz.ntmps28
  go_wp2_with fail
  refine K.out.mono ?_
  rintro e w1 ⟨rfl, x, rfl, hx⟩
  have HX := Hid.mk' hx
  clear hx
  go_wp2
  go_ret2
  refine ⟨rfl, _, rfl, fun h => ?_⟩
  obtain ⟨v, hv⟩ := Option.isSome_iff_exists.1 h
  have e := HX.out v hv
  exact ⟨v, HP.out v hv, by rw [e, IntKind.wrap_u64]⟩
theorem p16 {k acc : Nat} (h : acc < 16 ^ k) (hk : k ≤ 15) : acc < 1152921504606846976 := Nat.lt_of_lt_of_le h (Nat.le_trans (Nat.pow_le_pow_right (by omega) hk) (by decide))
set_option maxHeartbeats 4000000 in
theorem con67_c (s : Wd) (w : World) (hl : s.length ≤ 1099511627776) :
    Calls Tryz.prog 28 #[.int .i64 67, .string (S s)] w (CoP ((bitM 8 s).isSome) (fun x => ∃ u : Nat, bitM 8 s = some u ∧ x = u) w) := by
  have hz : (S s).size = s.length := S_size s
  by_cases h1 : s.length = 10
  · have i1 : (s.length : Int) = 10 := by omega
    have i0 : ¬ (s.length : Int) < 2 := by omega
    by_cases h2 : s.take 2 = [48, 120]
    · have i2 : (((S s).extract 0 2).toList == [48, 120]) = true := by
        rw [S_ext, List.drop_zero, ByteArray.toList_eq, S_toList]; simpa using h2
      have HM : Hid (bitM 8 s = hexV 0 (s.drop 2)) := by show _ = _; unfold bitM; rw [if_pos ⟨h1, h2⟩]
      clear h2
      go_enter Tryz.func28, Tryz.ntmps28
      go_upto_region 15 with fail
      go_loop [11, 12] (fun vx vi => ∃ j acc : Nat, vx = .int .u64 (acc : Int) ∧ vi = .int .i64 ((j : Int) + 2) ∧ j ≤ 8 ∧ Hid (acc < 16 ^ j ∧ hexV 0 (s.drop 2) = hexV acc (s.drop (j + 2)))) (fun _ vi => 10 - (intOf vi).toNat)
      case atStart => exact ⟨0, 0, rfl, rfl, by omega, by simp, rfl⟩
      case round =>
        obtain ⟨j, acc, rfl, rfl, hj, hh⟩ := hrel
        by_cases hlt : j < 8
        · have hki : (j : Int) + 2 < (s.length : Int) := by omega
          have hkn : j + 2 < s.length := by omega
          have hix : (Instr.index 9 (.string (S s)) (.int .i64 ((j : Int) + 2))).run Tryz.prog w = .ok (.int .u8 ((s.getD (j + 2) 0).toNat : Int)) w := by
            have := S_index s (j + 2) w hkn
            simpa using this
          have hdrop : s.drop (j + 2) = s[j + 2]'hkn :: s.drop (j + 2 + 1) := List.drop_eq_getElem_cons hkn
          have hget : s.getD (j + 2) 0 = s[j + 2]'hkn := by simp [List.getD, List.getElem?_eq_getElem hkn]
          have h15 := p16 hh.out.1 (by omega)
          have hdec := hh.out.2
          rw [hdrop] at hdec
          simp only [hexV] at hdec
          rw [hget] at hix
          generalize s[j + 2]'hkn = y at hix hdec
          have KN := Hid.mk' (snib_c y w)
          cases hdv : nib y with
          | none =>
            rw [hdv] at hdec
            rw [nibI_none hdv] at KN
            have HN := Hid.mk' (HM.out.trans hdec)
            clear hdec hdrop hget hh hdv hkn
            go_wp2_with fail
            refine KN.out.mono ?_
            rintro e w1 ⟨rfl, rfl⟩
            go_wp2
            go_ret2
            exact ⟨rfl, 0, by rw [HN.out]; rfl, fun h => by rw [HN.out] at h; cases h⟩
          | some d =>
            rw [hdv] at hdec
            rw [nibI_some hdv] at KN
            have hd := (nib_some hdv).1
            have HH : Hid (acc * 16 + d < 16 ^ (j + 1) ∧ hexV 0 (s.drop 2) = hexV (acc * 16 + d) (s.drop (j + 1 + 2))) := ⟨by have := hh.out.1; rw [Nat.pow_succ]; omega, by rw [hdec]⟩
            clear hdec hdrop hget hh hdv hkn
            have i5 : ¬ (d : Int) < 0 := by omega
            have w2 : IntKind.u64.wrap (d : Int) = (d : Int) := by rw [IntKind.wrap_u64]; omega
            have w3 : IntKind.u64.wrap (16 * (acc : Int)) = 16 * (acc : Int) := by rw [IntKind.wrap_u64]; omega
            have w4 : IntKind.u64.wrap (16 * (acc : Int) + (d : Int)) = 16 * (acc : Int) + (d : Int) := by rw [IntKind.wrap_u64]; omega
            have w5 : IntKind.i64.wrap ((j : Int) + 2 + 1) = (j : Int) + 2 + 1 := by rw [IntKind.wrap_i64]; omega
            go_wp2_with fail
            refine KN.out.mono ?_
            rintro e w1 ⟨rfl, rfl⟩
            go_wp2
            exact ⟨⟨j + 1, acc * 16 + d, (by first | rfl | (congr 1; omega) | congr 1), (by first | rfl | (congr 1; omega) | congr 1), by omega, HH⟩, by simp [intOf]; omega⟩
        · have ej : j = 8 := by omega
          subst ej
          have hdec := hh.out.2
          rw [show s.drop (8 + 2) = [] from List.drop_of_length_le (by omega)] at hdec
          have HN : Hid (bitM 8 s = some acc) := by show _ = _; rw [HM.out, hdec]; rfl
          have hki : ¬ ((8 : Nat) : Int) + 2 < (s.length : Int) := by omega
          have hki2 : ¬ (10 : Int) < (s.length : Int) := by omega
          clear hdec hh
          go_wp2
          go_ret2
          exact ⟨rfl, (acc : Int), by rw [HN.out]; rfl, fun _ => ⟨acc, HN.out, rfl⟩⟩
    · have i2 : (((S s).extract 0 2).toList == [48, 120]) = false := by
        rw [S_ext, List.drop_zero, ByteArray.toList_eq, S_toList]; simpa using h2
      have HN : Hid (bitM 8 s = none) := by show _ = _; unfold bitM; rw [if_neg (fun h => h2 h.2)]
      clear h2
      go_enter Tryz.func28, Tryz.ntmps28
      go_wp2
      go_ret2
      exact ⟨rfl, 0, by rw [HN.out]; rfl, fun h => by rw [HN.out] at h; cases h⟩
  · have i1 : ¬ (s.length : Int) = 10 := by omega
    have HN : Hid (bitM 8 s = none) := by show _ = _; unfold bitM; rw [if_neg (fun h => h1 h.1)]
    clear h1
    go_enter Tryz.func28, Tryz.ntmps28
    go_wp2
    go_ret2
    exact ⟨rfl, 0, by rw [HN.out]; rfl, fun h => by rw [HN.out] at h; cases h⟩
set_option maxHeartbeats 4000000 in
theorem con68_c (s : Wd) (w : World) (hl : s.length ≤ 1099511627776) :
    Calls Tryz.prog 28 #[.int .i64 68, .string (S s)] w (CoP ((bitM 16 s).isSome) (fun x => ∃ u : Nat, bitM 16 s = some u ∧ x = u) w) := by
  have hz : (S s).size = s.length := S_size s
  by_cases h1 : s.length = 18
  · have i1 : (s.length : Int) = 18 := by omega
    have i0 : ¬ (s.length : Int) < 2 := by omega
    by_cases h2 : s.take 2 = [48, 120]
    · have i2 : (((S s).extract 0 2).toList == [48, 120]) = true := by
        rw [S_ext, List.drop_zero, ByteArray.toList_eq, S_toList]; simpa using h2
      have HM : Hid (bitM 16 s = hexV 0 (s.drop 2)) := by show _ = _; unfold bitM; rw [if_pos ⟨h1, h2⟩]
      clear h2
      go_enter Tryz.func28, Tryz.ntmps28
      go_upto_region 15 with fail
      go_loop [11, 12] (fun vx vi => ∃ j acc : Nat, vx = .int .u64 (acc : Int) ∧ vi = .int .i64 ((j : Int) + 2) ∧ j ≤ 16 ∧ Hid (acc < 16 ^ j ∧ hexV 0 (s.drop 2) = hexV acc (s.drop (j + 2)))) (fun _ vi => 18 - (intOf vi).toNat)
      case atStart => exact ⟨0, 0, rfl, rfl, by omega, by simp, rfl⟩
      case round =>
        obtain ⟨j, acc, rfl, rfl, hj, hh⟩ := hrel
        by_cases hlt : j < 16
        · have hki : (j : Int) + 2 < (s.length : Int) := by omega
          have hkn : j + 2 < s.length := by omega
          have hix : (Instr.index 9 (.string (S s)) (.int .i64 ((j : Int) + 2))).run Tryz.prog w = .ok (.int .u8 ((s.getD (j + 2) 0).toNat : Int)) w := by
            have := S_index s (j + 2) w hkn
            simpa using this
          have hdrop : s.drop (j + 2) = s[j + 2]'hkn :: s.drop (j + 2 + 1) := List.drop_eq_getElem_cons hkn
          have hget : s.getD (j + 2) 0 = s[j + 2]'hkn := by simp [List.getD, List.getElem?_eq_getElem hkn]
          have h15 := p16 hh.out.1 (by omega)
          have hdec := hh.out.2
          rw [hdrop] at hdec
          simp only [hexV] at hdec
          rw [hget] at hix
          generalize s[j + 2]'hkn = y at hix hdec
          have KN := Hid.mk' (snib_c y w)
          cases hdv : nib y with
          | none =>
            rw [hdv] at hdec
            rw [nibI_none hdv] at KN
            have HN := Hid.mk' (HM.out.trans hdec)
            clear hdec hdrop hget hh hdv hkn
            go_wp2_with fail
            refine KN.out.mono ?_
            rintro e w1 ⟨rfl, rfl⟩
            go_wp2
            go_ret2
            exact ⟨rfl, 0, by rw [HN.out]; rfl, fun h => by rw [HN.out] at h; cases h⟩
          | some d =>
            rw [hdv] at hdec
            rw [nibI_some hdv] at KN
            have hd := (nib_some hdv).1
            have HH : Hid (acc * 16 + d < 16 ^ (j + 1) ∧ hexV 0 (s.drop 2) = hexV (acc * 16 + d) (s.drop (j + 1 + 2))) := ⟨by have := hh.out.1; rw [Nat.pow_succ]; omega, by rw [hdec]⟩
            clear hdec hdrop hget hh hdv hkn
            have i5 : ¬ (d : Int) < 0 := by omega
            have w2 : IntKind.u64.wrap (d : Int) = (d : Int) := by rw [IntKind.wrap_u64]; omega
            have w3 : IntKind.u64.wrap (16 * (acc : Int)) = 16 * (acc : Int) := by rw [IntKind.wrap_u64]; omega
            have w4 : IntKind.u64.wrap (16 * (acc : Int) + (d : Int)) = 16 * (acc : Int) + (d : Int) := by rw [IntKind.wrap_u64]; omega
            have w5 : IntKind.i64.wrap ((j : Int) + 2 + 1) = (j : Int) + 2 + 1 := by rw [IntKind.wrap_i64]; omega
            go_wp2_with fail
            refine KN.out.mono ?_
            rintro e w1 ⟨rfl, rfl⟩
            go_wp2
            exact ⟨⟨j + 1, acc * 16 + d, (by first | rfl | (congr 1; omega) | congr 1), (by first | rfl | (congr 1; omega) | congr 1), by omega, HH⟩, by simp [intOf]; omega⟩
        · have ej : j = 16 := by omega
          subst ej
          have hdec := hh.out.2
          rw [show s.drop (16 + 2) = [] from List.drop_of_length_le (by omega)] at hdec
          have HN : Hid (bitM 16 s = some acc) := by show _ = _; rw [HM.out, hdec]; rfl
          have hki : ¬ ((16 : Nat) : Int) + 2 < (s.length : Int) := by omega
          have hki2 : ¬ (18 : Int) < (s.length : Int) := by omega
          clear hdec hh
          go_wp2
          go_ret2
          exact ⟨rfl, (acc : Int), by rw [HN.out]; rfl, fun _ => ⟨acc, HN.out, rfl⟩⟩
    · have i2 : (((S s).extract 0 2).toList == [48, 120]) = false := by
        rw [S_ext, List.drop_zero, ByteArray.toList_eq, S_toList]; simpa using h2
      have HN : Hid (bitM 16 s = none) := by show _ = _; unfold bitM; rw [if_neg (fun h => h2 h.2)]
      clear h2
      go_enter Tryz.func28, Tryz.ntmps28
      go_wp2
      go_ret2
      exact ⟨rfl, 0, by rw [HN.out]; rfl, fun h => by rw [HN.out] at h; cases h⟩
  · have i1 : ¬ (s.length : Int) = 18 := by omega
    have HN : Hid (bitM 16 s = none) := by show _ = _; unfold bitM; rw [if_neg (fun h => h1 h.1)]
    clear h1
    go_enter Tryz.func28, Tryz.ntmps28
    go_wp2
    go_ret2
    exact ⟨rfl, 0, by rw [HN.out]; rfl, fun h => by rw [HN.out] at h; cases h⟩
end Go.Proofs.YtngepdhhdbhglaaGreatDoor
