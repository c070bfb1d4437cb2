import Derived.Test.YthmppcfhbbjhlaaDoorRt
set_option linter.all false
namespace Go.Proofs.YthmppcfhbbjhlaaDoor
open Go.RowKit Go.Sort

/-- One digit of a quotient: what a trial digit q with its rest r says. -/
theorem knuth_q {u un y y1 y0 q r : Nat} (hy : y = y1 * 4294967296 + y0) (hI : u = q * y1 + r) : q * y + r * 4294967296 = u * 4294967296 + q * y0 := by
  subst hy; subst hI
  rw [Nat.mul_add, Nat.add_mul, Nat.mul_assoc q y1]
  omega
theorem knuth_stop {u un y y1 y0 q r : Nat} (hy : y = y1 * 4294967296 + y0) (hpos : 0 < y) (hI : u = q * y1 + r) (hQ : (u * 4294967296 + un) / y ≤ q) (h : q * y0 ≤ 4294967296 * r + un) : q = (u * 4294967296 + un) / y := by
  have h1 := knuth_q (un := un) hy hI
  refine Nat.le_antisymm ?_ hQ
  rw [Nat.le_div_iff_mul_le hpos]
  omega
theorem knuth_next {u un y y1 y0 q r : Nat} (hy : y = y1 * 4294967296 + y0) (hpos : 0 < y) (hI : u = q * y1 + r) (h : 4294967296 * r + un < q * y0) : (u * 4294967296 + un) / y ≤ q - 1 := by
  have h1 := knuth_q (un := un) hy hI
  have h2 : (u * 4294967296 + un) / y < q := by
    rw [Nat.div_lt_iff_lt_mul hpos]
    omega
  omega
theorem knuth_big {u un y q : Nat} (hu : u < y) (hn : un < 4294967296) (h : 4294967296 ≤ q) : (u * 4294967296 + un) / y ≤ q - 1 := by
  have h2 : (u * 4294967296 + un) / y < 4294967296 := by
    rw [Nat.div_lt_iff_lt_mul (by omega)]
    have := Nat.mul_le_mul_right 4294967296 (show u + 1 ≤ y by omega)
    rw [Nat.add_mul] at this
    rw [Nat.mul_comm 4294967296 y]
    omega
  omega
theorem knuth_dec {u y1 q r : Nat} (hI : u = q * y1 + r) (hq : 1 ≤ q) : u = (q - 1) * y1 + (r + y1) := by
  obtain ⟨k, rfl⟩ : ∃ k, q = k + 1 := ⟨q - 1, by omega⟩
  rw [hI, Nat.add_mul, Nat.add_sub_cancel]
  omega
theorem knuth_start {u y y1 y0 : Nat} (hy : y = y1 * 4294967296 + y0) (h0 : y0 < 4294967296) (hb : 2147483648 ≤ y1) (hu : u < y) : u / y1 ≤ 4294967297 ∧ u = u / y1 * y1 + u % y1 := by
  have e := Nat.mod_add_div u y1
  refine ⟨?_, by rw [Nat.mul_comm]; omega⟩
  have h1 : u / y1 < 4294967298 := by
    rw [Nat.div_lt_iff_lt_mul (by omega), Nat.mul_comm]
    omega
  omega
theorem knuth_up {u un y y1 y0 : Nat} (hy : y = y1 * 4294967296 + y0) (hpos : 0 < y) (h1 : 0 < y1) : (u * 4294967296 + un) / y ≤ u / y1 ∨ 4294967296 ≤ un := by
  by_cases hn : 4294967296 ≤ un
  · exact .inr hn
  · left
    rw [Nat.le_div_iff_mul_le h1]
    have h2 := Nat.div_mul_le_self (u * 4294967296 + un) y
    generalize (u * 4294967296 + un) / y = Q at *
    subst hy
    rw [Nat.mul_add] at h2
    have h3 : Q * (y1 * 4294967296) = Q * y1 * 4294967296 := by rw [Nat.mul_assoc]
    rw [h3] at h2
    generalize Q * y1 = Z at *
    generalize Q * y0 = Z0 at *
    omega

theorem knuth_w {hi u1 y Q U : Nat} (x : Int) (hx : x = (Q : Int)) (h : hi * 4294967296 + u1 = Q * y + U) (hU : U < 18446744073709551616) :
    IntKind.u64.wrap (IntKind.u64.wrap (IntKind.u64.wrap ((hi : Int) * 4294967296) + (u1 : Int)) - IntKind.u64.wrap (x * (y : Int))) = (U : Int) := by
  subst hx
  rw [← Int.natCast_mul]
  generalize Q * y = Z at *
  simp only [IntKind.wrap_u64]
  omega
theorem knuth_b {b hi u1 u0 y Q U Q0 U0 : Nat} (h1 : hi * b + u1 = Q * y + U) (h0 : U * b + u0 = Q0 * y + U0) : hi * (b * b) + (u1 * b + u0) = U0 + y * (Q * b + Q0) := by
  rw [← Nat.mul_assoc, ← Nat.add_assoc, ← Nat.add_mul, h1, Nat.add_mul, Nat.add_assoc, h0, Nat.mul_add, Nat.mul_comm y Q0, ← Nat.mul_assoc, Nat.mul_comm y Q]
  generalize Q * y * b = Z at *
  generalize Q0 * y = Z0 at *
  omega
theorem knuth_end {hi u1 u0 y Q U Q0 U0 : Nat} (hpos : 0 < y) (h1 : hi * 4294967296 + u1 = Q * y + U) (h0 : U * 4294967296 + u0 = Q0 * y + U0) (hU0 : U0 < y) :
    (hi * 18446744073709551616 + (u1 * 4294967296 + u0)) / y = Q * 4294967296 + Q0 ∧ (hi * 18446744073709551616 + (u1 * 4294967296 + u0)) % y = U0 := by
  have e : hi * 18446744073709551616 + (u1 * 4294967296 + u0) = U0 + y * (Q * 4294967296 + Q0) := by
    have h := knuth_b (b := 4294967296) h1 h0
    rw [show (4294967296 : Nat) * 4294967296 = 18446744073709551616 by decide] at h
    exact h
  rw [e, Nat.add_mul_div_left _ _ hpos, Nat.add_mul_mod_self_left, Nat.div_eq_of_lt hU0, Nat.mod_eq_of_lt hU0]
  exact ⟨by omega, rfl⟩
theorem divmod (a y : Nat) : a = a / y * y + a % y := by have := Nat.mod_add_div a y; rw [Nat.mul_comm]; omega
theorem wrap_q {Q Q0 : Nat} (x z : Int) (hx : x = (Q : Int)) (hz : z = (Q0 : Int)) (h : Q * 4294967296 + Q0 < 18446744073709551616) : IntKind.u64.wrap (IntKind.u64.wrap (x * 4294967296) + z) = ((Q * 4294967296 + Q0 : Nat) : Int) := by
  subst hx; subst hz
  simp only [IntKind.wrap_u64]
  omega
theorem lz_top (y : Nat) (w : World) (hy : 9223372036854775808 ≤ y) (hy' : y < 18446744073709551616) :
    Calls Tryd.prog 106 #[.int .u64 (y : Int)] w fun e w' => e = .returned (.int .i64 0) ∧ w = w' := by
  have hb : Lib.bitLen y = 64 := by
    rw [bitLen_bl 64 y hy' (by omega)]
    exact bl_eq (k := 63) (by rw [show (2 : Nat) ^ 63 = 9223372036854775808 by decide]; exact hy) (by rw [show (2 : Nat) ^ 64 = 18446744073709551616 by decide]; exact hy')
  have KL := fun w => len64_any (y : Int) w (by omega) (by omega)
  rw [Int.toNat_natCast, hb] at KL
  go_enter Tryd.func106, Tryd.ntmps106
  go_wp2_with (go_at_call 109; refine (KL _).mono ?_; rintro e w' ⟨rfl, rfl⟩)
  go_ret
  exact ⟨rfl, rfl⟩
theorem and_low (a : Nat) (ha : a < 18446744073709551616) : bits .and .u64 (a : Int) 4294967295 = ((a % 4294967296 : Nat) : Int) := by
  have h := bits_and_u64_nat a 4294967295 ha (by decide)
  rw [show a &&& 4294967295 = a % 4294967296 from Nat.and_two_pow_sub_one_eq_mod a 32] at h
  exact h
theorem or_zero (a b : Nat) (ha : a < 18446744073709551616) (hb : b < 18446744073709551616) : bits .or .u64 (a : Int) ((b : Int) / 18446744073709551616) = (a : Int) := by
  have e : (b : Int) / 18446744073709551616 = ((0 : Nat) : Int) := by omega
  have h := bits_or_u64_nat a 0 ha (by decide)
  rw [Nat.or_zero] at h
  rw [e]; exact h
theorem wrapN (a : Nat) (ha : a < 18446744073709551616) : IntKind.u64.wrap (a : Int) = (a : Int) := by
  rw [IntKind.wrap_u64]; omega
theorem quoN (a b : Nat) (ha : a < 18446744073709551616) : IntKind.u64.wrap ((a : Int).tdiv (b : Int)) = ((a / b : Nat) : Int) := by
  rw [← Int.ofNat_tdiv, wrapN _ (Nat.lt_of_le_of_lt (Nat.div_le_self _ _) ha)]
theorem restN (a b : Nat) (ha : a < 18446744073709551616) : IntKind.u64.wrap ((a : Int) - IntKind.u64.wrap (((a / b : Nat) : Int) * (b : Int))) = ((a % b : Nat) : Int) := by
  have e := Nat.mod_add_div a b
  rw [← Int.natCast_mul, Nat.mul_comm (a / b) b, wrapN _ (by omega)]
  rw [show (a : Int) - ((b * (a / b) : Nat) : Int) = ((a % b : Nat) : Int) by omega]
  exact wrapN _ (by omega)

set_option maxHeartbeats 8000000 in
set_option maxRecDepth 100000 in
theorem div64_key (hi lo y y1 y0 u1 u0 Q1 U Q0 U0 : Nat) (w : World) (hh : hi < y) (h0 : 0 < hi) (hl : lo < 18446744073709551616) (hy : 9223372036854775808 ≤ y) (hy' : y < 18446744073709551616)
    (hy1 : y1 = y / 4294967296) (hy0 : y0 = y % 4294967296) (hu1 : u1 = lo / 4294967296) (hu0 : u0 = lo % 4294967296)
    (hQ1 : Q1 = (hi * 4294967296 + u1) / y) (hU : U = (hi * 4294967296 + u1) % y) (hQ0 : Q0 = (U * 4294967296 + u0) / y) (hU0 : U0 = (U * 4294967296 + u0) % y) :
    Calls Tryd.prog 96 #[.int .u64 hi, .int .u64 lo, .int .u64 y] w fun e w' => e = .returned (.tuple #[.int .u64 ((Q1 * 4294967296 + Q0 : Nat) : Int), .int .u64 (U0 : Int)]) ∧ w = w' := by
  have KZ := fun w => Hid.mk' (lz_top y w hy hy')
  have E0 := and_low y hy'
  have E1 : (y : Int) / 4294967296 = ((y1 : Nat) : Int) := by omega
  have E2 := and_low lo hl
  have E3 : (lo : Int) / 4294967296 = ((u1 : Nat) : Int) := by omega
  have E4 := or_zero hi lo (by omega) hl
  have E5 : IntKind.u64.wrap ((hi : Int) / (y1 : Int)) = ((hi / y1 : Nat) : Int) := by rw [← Int.natCast_ediv]; exact wrapN _ (Nat.lt_of_le_of_lt (Nat.div_le_self _ _) (by omega))
  have E6 := restN hi y1 (by omega)
  rw [← hy0] at E0
  rw [← hu0] at E2
  have Ey : y = y1 * 4294967296 + y0 := by omega
  have by0 : y0 < 4294967296 := by omega
  have by1 : 2147483648 ≤ y1 := by omega
  have by1' : y1 < 4294967296 := by omega
  have bu0 : u0 < 4294967296 := by omega
  have bu1 : u1 < 4294967296 := by omega
  have hpos : 0 < y := by omega
  have HS := Hid.mk' (knuth_start Ey by0 by1 hh)
  have hm : hi % y1 < y1 := Nat.mod_lt _ (by omega)
  have hq0 : hi / y1 ≤ 4294967297 := HS.out.1
  have HY := Hid.mk' Ey
  have HQs : Hid (Q1 ≤ hi / y1) := Hid.mk' (by rw [hQ1]; exact (knuth_up Ey hpos (by omega)).resolve_right (by omega))
  have HU : Hid (hi * 4294967296 + u1 = Q1 * y + U) := Hid.mk' (by rw [hQ1, hU]; exact divmod _ _)
  have HU0 : Hid (U * 4294967296 + u0 = Q0 * y + U0) := Hid.mk' (by rw [hQ0, hU0]; exact divmod _ _)
  have hhU : U < y := by rw [hU]; exact Nat.mod_lt _ hpos
  have bU : U < 18446744073709551616 := by omega
  have bU0 : U0 < 18446744073709551616 := by have : U0 < y := by rw [hU0]; exact Nat.mod_lt _ hpos
                                             omega
  have HLT : Hid (Q1 * 4294967296 + Q0 < 18446744073709551616) := Hid.mk' (by
    have h1 := knuth_big (q := 4294967296) hh bu1 (by omega)
    have h2 := knuth_big (q := 4294967296) hhU bu0 (by omega)
    rw [← hQ1] at h1; rw [← hQ0] at h2
    omega)
  have HQ1 := Hid.mk' hQ1
  have HQ0 := Hid.mk' hQ0
  clear Ey hy1 hy0 hu1 hu0 hQ1 hU hQ0 hU0
  generalize hi / y1 = qs at *
  generalize hi % y1 = rs at *
  go_enter Tryd.func96, Tryd.ntmps96
  go_wp2_with fail
  refine (KZ _).out.mono ?_
  rintro e w1 ⟨rfl, rfl⟩
  go_upto_region 17 with fail
  go_loop [15, 16] (fun qv rv => ∃ q r : Nat, qv = .int .u64 (q : Int) ∧ rv = .int .u64 (r : Int) ∧ r < 4294967296 ∧ q ≤ 4294967297 ∧ Hid (hi = q * y1 + r ∧ Q1 ≤ q)) (fun qv _ => (intOf qv).toNat)
  case atStart => exact ⟨qs, rs, rfl, rfl, by omega, hq0, HS.out.2, HQs.out⟩
  case round =>
    clear E0 E1 E2 E3 E4 E5 E6 HS HQs KZ hm hq0
    obtain ⟨q, r, rfl, rfl, hr, hq, HI⟩ := hrel
    by_cases hbig : 4294967296 ≤ q
    · have hbig' : (4294967296 : Int) ≤ (q : Int) := by omega
      have HQ1q : Hid (1 ≤ q) := Hid.mk' (by omega)
      have HN : Hid (Q1 ≤ q - 1) := Hid.mk' (by rw [HQ1.out]; exact knuth_big hh bu1 hbig)
      clear hbig
      by_cases hbr : 4294967296 ≤ r + y1
      · have hbr' : (4294967296 : Int) ≤ (r : Int) + (y1 : Int) := by omega
        have HX : Hid (q - 1 = Q1) := Hid.mk' (by
          have h1 := HQ1q.out
          have h2 : Q1 ≤ q - 1 := HN.out
          rw [HQ1.out] at h2 ⊢
          refine knuth_stop HY.out hpos (knuth_dec HI.out.1 h1) h2 ?_
          have h3 := Nat.mul_le_mul (show q - 1 ≤ 4294967296 by omega) (show y0 ≤ 4294967295 by omega)
          omega)
        have EX : ((q : Int) - 1) = ((Q1 : Nat) : Int) := by have h1 := HQ1q.out; have h2 := HX.out; omega
        have HEX := Hid.mk' EX
        clear EX hbr
        have EU := knuth_w ((q : Int) - 1) HEX.out HU.out bU
        have E9 : IntKind.u64.wrap ((U : Int) / (y1 : Int)) = ((U / y1 : Nat) : Int) := by rw [← Int.natCast_ediv]; exact wrapN _ (Nat.lt_of_le_of_lt (Nat.div_le_self _ _) (by omega))
        have E10 := restN U y1 (by omega)
        have HS2 := Hid.mk' (knuth_start HY.out by0 by1 hhU)
        have hm2 : U % y1 < y1 := Nat.mod_lt _ (by omega)
        have hq2 : U / y1 ≤ 4294967297 := HS2.out.1
        have HQ2 : Hid (Q0 ≤ U / y1) := Hid.mk' (by rw [HQ0.out]; exact (knuth_up HY.out hpos (by omega)).resolve_right (by omega))
        generalize U / y1 = qs2 at *
        generalize U % y1 = rs2 at *
        go_upto_region 24 with fail
        clear EU E9 E10
        try clear hbig'
        try clear hbr'
        try clear KP
        try clear HP
        try clear hT'
        try clear hq1'
        try clear bP
        clear HI
        have HEX1 := HEX
        clear HEX
        clear hq hr
        go_loop [18, 16] (fun qv rv => ∃ q r : Nat, qv = .int .u64 (q : Int) ∧ rv = .int .u64 (r : Int) ∧ r < 4294967296 ∧ q ≤ 4294967297 ∧ Hid (U = q * y1 + r ∧ Q0 ≤ q)) (fun qv _ => (intOf qv).toNat)
        case atStart => exact ⟨qs2, rs2, rfl, rfl, by omega, hq2, HS2.out.2, HQ2.out⟩
        case round =>
          obtain ⟨p, s, rfl, rfl, hr, hq, HI⟩ := hrel
          by_cases hbig : 4294967296 ≤ p
          · have hbig' : (4294967296 : Int) ≤ (p : Int) := by omega
            have HQ1q : Hid (1 ≤ p) := Hid.mk' (by omega)
            have HN : Hid (Q0 ≤ p - 1) := Hid.mk' (by rw [HQ0.out]; exact knuth_big hhU bu0 hbig)
            clear hbig
            by_cases hbr : 4294967296 ≤ s + y1
            · have hbr' : (4294967296 : Int) ≤ (s : Int) + (y1 : Int) := by omega
              have HX : Hid (p - 1 = Q0) := Hid.mk' (by
                have h1 := HQ1q.out
                have h2 : Q0 ≤ p - 1 := HN.out
                rw [HQ0.out] at h2 ⊢
                refine knuth_stop HY.out hpos (knuth_dec HI.out.1 h1) h2 ?_
                have h3 := Nat.mul_le_mul (show p - 1 ≤ 4294967296 by omega) (show y0 ≤ 4294967295 by omega)
                omega)
              have EX : ((p : Int) - 1) = ((Q0 : Nat) : Int) := by have h1 := HQ1q.out; have h2 := HX.out; omega
              have HEX := Hid.mk' EX
              clear EX hbr
              have E7 := wrap_q ((q : Int) - 1) ((p : Int) - 1) HEX1.out HEX.out HLT.out
              have E8 := knuth_w ((p : Int) - 1) HEX.out HU0.out bU0
              go_wp2
              go_ret2
              exact ⟨rfl, rfl⟩
            · have hbr' : ¬ ((4294967296 : Int) ≤ (s : Int) + (y1 : Int)) := by omega
              have HBR : Hid (s + y1 < 4294967296) := Hid.mk' (by omega)
              have HQQ := Hid.mk' hq
              clear hbr
              go_wp2
              go_round
              case rel => exact ⟨p - 1, s + y1, (congrArg (Value.int .u64) (by have := HQ1q.out; omega)), (congrArg (Value.int .u64) (by omega)), HBR.out, (by have := HQ1q.out; have := HQQ.out; omega), knuth_dec HI.out.1 HQ1q.out, HN.out⟩
              case measure => (have := HQ1q.out; simp [intOf]; omega)
          · have hbig' : ¬ ((4294967296 : Int) ≤ (p : Int)) := by omega
            obtain ⟨P, hP⟩ : ∃ P, P = p * y0 := ⟨_, rfl⟩
            have HP := Hid.mk' hP
            have bP : P < 18446744073709551616 := by
              have := Nat.mul_le_mul (show p ≤ 4294967295 by omega) (show y0 ≤ 4294967295 by omega)
              omega
            have KP : IntKind.u64.wrap ((p : Int) * (y0 : Int)) = (P : Int) := by rw [← Int.natCast_mul, ← hP, wrapN P bP]
            clear hP hbig
            by_cases hT : 4294967296 * s + u0 < P
            · have hT' : (4294967296 : Int) * (s : Int) + (u0 : Int) < (P : Int) := by omega
              have HQ1q : Hid (1 ≤ p) := Hid.mk' (by
                have h1 := HP.out
                rcases Nat.eq_zero_or_pos p with h | h
                · rw [h, Nat.zero_mul] at h1; omega
                · exact h)
              have hq1' : (1 : Int) ≤ (p : Int) := by have := HQ1q.out; omega
              have HN : Hid (Q0 ≤ p - 1) := Hid.mk' (by rw [HQ0.out]; exact knuth_next HY.out hpos HI.out.1 (by rw [← HP.out]; exact hT))
              clear hT
              by_cases hbr : 4294967296 ≤ s + y1
              · have hbr' : (4294967296 : Int) ≤ (s : Int) + (y1 : Int) := by omega
                have HX : Hid (p - 1 = Q0) := Hid.mk' (by
                  have h1 := HQ1q.out
                  have h2 : Q0 ≤ p - 1 := HN.out
                  rw [HQ0.out] at h2 ⊢
                  refine knuth_stop HY.out hpos (knuth_dec HI.out.1 h1) h2 ?_
                  have h3 := Nat.mul_le_mul (show p - 1 ≤ 4294967296 by omega) (show y0 ≤ 4294967295 by omega)
                  omega)
                have EX : ((p : Int) - 1) = ((Q0 : Nat) : Int) := by have h1 := HQ1q.out; have h2 := HX.out; omega
                have HEX := Hid.mk' EX
                clear EX hbr
                have E7 := wrap_q ((q : Int) - 1) ((p : Int) - 1) HEX1.out HEX.out HLT.out
                have E8 := knuth_w ((p : Int) - 1) HEX.out HU0.out bU0
                go_wp2
                go_ret2
                exact ⟨rfl, rfl⟩
              · have hbr' : ¬ ((4294967296 : Int) ≤ (s : Int) + (y1 : Int)) := by omega
                have HBR : Hid (s + y1 < 4294967296) := Hid.mk' (by omega)
                have HQQ := Hid.mk' hq
                clear hbr
                go_wp2
                go_round
                case rel => exact ⟨p - 1, s + y1, (congrArg (Value.int .u64) (by have := HQ1q.out; omega)), (congrArg (Value.int .u64) (by omega)), HBR.out, (by have := HQ1q.out; have := HQQ.out; omega), knuth_dec HI.out.1 HQ1q.out, HN.out⟩
                case measure => (have := HQ1q.out; simp [intOf]; omega)
            · have hT' : (P : Int) ≤ (4294967296 : Int) * (s : Int) + (u0 : Int) := by omega
              have HX : Hid (p = Q0) := Hid.mk' (by
                have h2 := HI.out.2
                rw [HQ0.out] at h2 ⊢
                exact knuth_stop HY.out hpos HI.out.1 h2 (by rw [← HP.out]; omega))
              have EX : (p : Int) = ((Q0 : Nat) : Int) := by have h2 := HX.out; omega
              have HEX := Hid.mk' EX
              clear EX hT
              have E7 := wrap_q ((q : Int) - 1) (p : Int) HEX1.out HEX.out HLT.out
              have E8 := knuth_w (p : Int) HEX.out HU0.out bU0
              go_wp2
              go_ret2
              exact ⟨rfl, rfl⟩
      · have hbr' : ¬ ((4294967296 : Int) ≤ (r : Int) + (y1 : Int)) := by omega
        have HBR : Hid (r + y1 < 4294967296) := Hid.mk' (by omega)
        have HQQ := Hid.mk' hq
        clear hbr
        go_wp2
        go_round
        case rel => exact ⟨q - 1, r + y1, (congrArg (Value.int .u64) (by have := HQ1q.out; omega)), (congrArg (Value.int .u64) (by omega)), HBR.out, (by have := HQ1q.out; have := HQQ.out; omega), knuth_dec HI.out.1 HQ1q.out, HN.out⟩
        case measure => (have := HQ1q.out; simp [intOf]; omega)
    · have hbig' : ¬ ((4294967296 : Int) ≤ (q : Int)) := by omega
      obtain ⟨P, hP⟩ : ∃ P, P = q * y0 := ⟨_, rfl⟩
      have HP := Hid.mk' hP
      have bP : P < 18446744073709551616 := by
        have := Nat.mul_le_mul (show q ≤ 4294967295 by omega) (show y0 ≤ 4294967295 by omega)
        omega
      have KP : IntKind.u64.wrap ((q : Int) * (y0 : Int)) = (P : Int) := by rw [← Int.natCast_mul, ← hP, wrapN P bP]
      clear hP hbig
      by_cases hT : 4294967296 * r + u1 < P
      · have hT' : (4294967296 : Int) * (r : Int) + (u1 : Int) < (P : Int) := by omega
        have HQ1q : Hid (1 ≤ q) := Hid.mk' (by
          have h1 := HP.out
          rcases Nat.eq_zero_or_pos q with h | h
          · rw [h, Nat.zero_mul] at h1; omega
          · exact h)
        have hq1' : (1 : Int) ≤ (q : Int) := by have := HQ1q.out; omega
        have HN : Hid (Q1 ≤ q - 1) := Hid.mk' (by rw [HQ1.out]; exact knuth_next HY.out hpos HI.out.1 (by rw [← HP.out]; exact hT))
        clear hT
        by_cases hbr : 4294967296 ≤ r + y1
        · have hbr' : (4294967296 : Int) ≤ (r : Int) + (y1 : Int) := by omega
          have HX : Hid (q - 1 = Q1) := Hid.mk' (by
            have h1 := HQ1q.out
            have h2 : Q1 ≤ q - 1 := HN.out
            rw [HQ1.out] at h2 ⊢
            refine knuth_stop HY.out hpos (knuth_dec HI.out.1 h1) h2 ?_
            have h3 := Nat.mul_le_mul (show q - 1 ≤ 4294967296 by omega) (show y0 ≤ 4294967295 by omega)
            omega)
          have EX : ((q : Int) - 1) = ((Q1 : Nat) : Int) := by have h1 := HQ1q.out; have h2 := HX.out; omega
          have HEX := Hid.mk' EX
          clear EX hbr
          have EU := knuth_w ((q : Int) - 1) HEX.out HU.out bU
          have E9 : IntKind.u64.wrap ((U : Int) / (y1 : Int)) = ((U / y1 : Nat) : Int) := by rw [← Int.natCast_ediv]; exact wrapN _ (Nat.lt_of_le_of_lt (Nat.div_le_self _ _) (by omega))
          have E10 := restN U y1 (by omega)
          have HS2 := Hid.mk' (knuth_start HY.out by0 by1 hhU)
          have hm2 : U % y1 < y1 := Nat.mod_lt _ (by omega)
          have hq2 : U / y1 ≤ 4294967297 := HS2.out.1
          have HQ2 : Hid (Q0 ≤ U / y1) := Hid.mk' (by rw [HQ0.out]; exact (knuth_up HY.out hpos (by omega)).resolve_right (by omega))
          generalize U / y1 = qs2 at *
          generalize U % y1 = rs2 at *
          go_upto_region 24 with fail
          clear EU E9 E10
          try clear hbig'
          try clear hbr'
          try clear KP
          try clear HP
          try clear hT'
          try clear hq1'
          try clear bP
          clear HI
          have HEX1 := HEX
          clear HEX
          clear hq hr
          go_loop [18, 16] (fun qv rv => ∃ q r : Nat, qv = .int .u64 (q : Int) ∧ rv = .int .u64 (r : Int) ∧ r < 4294967296 ∧ q ≤ 4294967297 ∧ Hid (U = q * y1 + r ∧ Q0 ≤ q)) (fun qv _ => (intOf qv).toNat)
          case atStart => exact ⟨qs2, rs2, rfl, rfl, by omega, hq2, HS2.out.2, HQ2.out⟩
          case round =>
            obtain ⟨p, s, rfl, rfl, hr, hq, HI⟩ := hrel
            by_cases hbig : 4294967296 ≤ p
            · have hbig' : (4294967296 : Int) ≤ (p : Int) := by omega
              have HQ1q : Hid (1 ≤ p) := Hid.mk' (by omega)
              have HN : Hid (Q0 ≤ p - 1) := Hid.mk' (by rw [HQ0.out]; exact knuth_big hhU bu0 hbig)
              clear hbig
              by_cases hbr : 4294967296 ≤ s + y1
              · have hbr' : (4294967296 : Int) ≤ (s : Int) + (y1 : Int) := by omega
                have HX : Hid (p - 1 = Q0) := Hid.mk' (by
                  have h1 := HQ1q.out
                  have h2 : Q0 ≤ p - 1 := HN.out
                  rw [HQ0.out] at h2 ⊢
                  refine knuth_stop HY.out hpos (knuth_dec HI.out.1 h1) h2 ?_
                  have h3 := Nat.mul_le_mul (show p - 1 ≤ 4294967296 by omega) (show y0 ≤ 4294967295 by omega)
                  omega)
                have EX : ((p : Int) - 1) = ((Q0 : Nat) : Int) := by have h1 := HQ1q.out; have h2 := HX.out; omega
                have HEX := Hid.mk' EX
                clear EX hbr
                have E7 := wrap_q ((q : Int) - 1) ((p : Int) - 1) HEX1.out HEX.out HLT.out
                have E8 := knuth_w ((p : Int) - 1) HEX.out HU0.out bU0
                go_wp2
                go_ret2
                exact ⟨rfl, rfl⟩
              · have hbr' : ¬ ((4294967296 : Int) ≤ (s : Int) + (y1 : Int)) := by omega
                have HBR : Hid (s + y1 < 4294967296) := Hid.mk' (by omega)
                have HQQ := Hid.mk' hq
                clear hbr
                go_wp2
                go_round
                case rel => exact ⟨p - 1, s + y1, (congrArg (Value.int .u64) (by have := HQ1q.out; omega)), (congrArg (Value.int .u64) (by omega)), HBR.out, (by have := HQ1q.out; have := HQQ.out; omega), knuth_dec HI.out.1 HQ1q.out, HN.out⟩
                case measure => (have := HQ1q.out; simp [intOf]; omega)
            · have hbig' : ¬ ((4294967296 : Int) ≤ (p : Int)) := by omega
              obtain ⟨P, hP⟩ : ∃ P, P = p * y0 := ⟨_, rfl⟩
              have HP := Hid.mk' hP
              have bP : P < 18446744073709551616 := by
                have := Nat.mul_le_mul (show p ≤ 4294967295 by omega) (show y0 ≤ 4294967295 by omega)
                omega
              have KP : IntKind.u64.wrap ((p : Int) * (y0 : Int)) = (P : Int) := by rw [← Int.natCast_mul, ← hP, wrapN P bP]
              clear hP hbig
              by_cases hT : 4294967296 * s + u0 < P
              · have hT' : (4294967296 : Int) * (s : Int) + (u0 : Int) < (P : Int) := by omega
                have HQ1q : Hid (1 ≤ p) := Hid.mk' (by
                  have h1 := HP.out
                  rcases Nat.eq_zero_or_pos p with h | h
                  · rw [h, Nat.zero_mul] at h1; omega
                  · exact h)
                have hq1' : (1 : Int) ≤ (p : Int) := by have := HQ1q.out; omega
                have HN : Hid (Q0 ≤ p - 1) := Hid.mk' (by rw [HQ0.out]; exact knuth_next HY.out hpos HI.out.1 (by rw [← HP.out]; exact hT))
                clear hT
                by_cases hbr : 4294967296 ≤ s + y1
                · have hbr' : (4294967296 : Int) ≤ (s : Int) + (y1 : Int) := by omega
                  have HX : Hid (p - 1 = Q0) := Hid.mk' (by
                    have h1 := HQ1q.out
                    have h2 : Q0 ≤ p - 1 := HN.out
                    rw [HQ0.out] at h2 ⊢
                    refine knuth_stop HY.out hpos (knuth_dec HI.out.1 h1) h2 ?_
                    have h3 := Nat.mul_le_mul (show p - 1 ≤ 4294967296 by omega) (show y0 ≤ 4294967295 by omega)
                    omega)
                  have EX : ((p : Int) - 1) = ((Q0 : Nat) : Int) := by have h1 := HQ1q.out; have h2 := HX.out; omega
                  have HEX := Hid.mk' EX
                  clear EX hbr
                  have E7 := wrap_q ((q : Int) - 1) ((p : Int) - 1) HEX1.out HEX.out HLT.out
                  have E8 := knuth_w ((p : Int) - 1) HEX.out HU0.out bU0
                  go_wp2
                  go_ret2
                  exact ⟨rfl, rfl⟩
                · have hbr' : ¬ ((4294967296 : Int) ≤ (s : Int) + (y1 : Int)) := by omega
                  have HBR : Hid (s + y1 < 4294967296) := Hid.mk' (by omega)
                  have HQQ := Hid.mk' hq
                  clear hbr
                  go_wp2
                  go_round
                  case rel => exact ⟨p - 1, s + y1, (congrArg (Value.int .u64) (by have := HQ1q.out; omega)), (congrArg (Value.int .u64) (by omega)), HBR.out, (by have := HQ1q.out; have := HQQ.out; omega), knuth_dec HI.out.1 HQ1q.out, HN.out⟩
                  case measure => (have := HQ1q.out; simp [intOf]; omega)
              · have hT' : (P : Int) ≤ (4294967296 : Int) * (s : Int) + (u0 : Int) := by omega
                have HX : Hid (p = Q0) := Hid.mk' (by
                  have h2 := HI.out.2
                  rw [HQ0.out] at h2 ⊢
                  exact knuth_stop HY.out hpos HI.out.1 h2 (by rw [← HP.out]; omega))
                have EX : (p : Int) = ((Q0 : Nat) : Int) := by have h2 := HX.out; omega
                have HEX := Hid.mk' EX
                clear EX hT
                have E7 := wrap_q ((q : Int) - 1) (p : Int) HEX1.out HEX.out HLT.out
                have E8 := knuth_w (p : Int) HEX.out HU0.out bU0
                go_wp2
                go_ret2
                exact ⟨rfl, rfl⟩
        · have hbr' : ¬ ((4294967296 : Int) ≤ (r : Int) + (y1 : Int)) := by omega
          have HBR : Hid (r + y1 < 4294967296) := Hid.mk' (by omega)
          have HQQ := Hid.mk' hq
          clear hbr
          go_wp2
          go_round
          case rel => exact ⟨q - 1, r + y1, (congrArg (Value.int .u64) (by have := HQ1q.out; omega)), (congrArg (Value.int .u64) (by omega)), HBR.out, (by have := HQ1q.out; have := HQQ.out; omega), knuth_dec HI.out.1 HQ1q.out, HN.out⟩
          case measure => (have := HQ1q.out; simp [intOf]; omega)
      · have hT' : (P : Int) ≤ (4294967296 : Int) * (r : Int) + (u1 : Int) := by omega
        have HX : Hid (q = Q1) := Hid.mk' (by
          have h2 := HI.out.2
          rw [HQ1.out] at h2 ⊢
          exact knuth_stop HY.out hpos HI.out.1 h2 (by rw [← HP.out]; omega))
        have EX : (q : Int) = ((Q1 : Nat) : Int) := by have h2 := HX.out; omega
        have HEX := Hid.mk' EX
        clear EX hT
        have EU := knuth_w (q : Int) HEX.out HU.out bU
        have E9 : IntKind.u64.wrap ((U : Int) / (y1 : Int)) = ((U / y1 : Nat) : Int) := by rw [← Int.natCast_ediv]; exact wrapN _ (Nat.lt_of_le_of_lt (Nat.div_le_self _ _) (by omega))
        have E10 := restN U y1 (by omega)
        have HS2 := Hid.mk' (knuth_start HY.out by0 by1 hhU)
        have hm2 : U % y1 < y1 := Nat.mod_lt _ (by omega)
        have hq2 : U / y1 ≤ 4294967297 := HS2.out.1
        have HQ2 : Hid (Q0 ≤ U / y1) := Hid.mk' (by rw [HQ0.out]; exact (knuth_up HY.out hpos (by omega)).resolve_right (by omega))
        generalize U / y1 = qs2 at *
        generalize U % y1 = rs2 at *
        go_upto_region 24 with fail
        clear EU E9 E10
        try clear hbig'
        try clear hbr'
        try clear KP
        try clear HP
        try clear hT'
        try clear hq1'
        try clear bP
        clear HI
        have HEX1 := HEX
        clear HEX
        clear hq hr
        go_loop [18, 16] (fun qv rv => ∃ q r : Nat, qv = .int .u64 (q : Int) ∧ rv = .int .u64 (r : Int) ∧ r < 4294967296 ∧ q ≤ 4294967297 ∧ Hid (U = q * y1 + r ∧ Q0 ≤ q)) (fun qv _ => (intOf qv).toNat)
        case atStart => exact ⟨qs2, rs2, rfl, rfl, by omega, hq2, HS2.out.2, HQ2.out⟩
        case round =>
          obtain ⟨p, s, rfl, rfl, hr, hq, HI⟩ := hrel
          by_cases hbig : 4294967296 ≤ p
          · have hbig' : (4294967296 : Int) ≤ (p : Int) := by omega
            have HQ1q : Hid (1 ≤ p) := Hid.mk' (by omega)
            have HN : Hid (Q0 ≤ p - 1) := Hid.mk' (by rw [HQ0.out]; exact knuth_big hhU bu0 hbig)
            clear hbig
            by_cases hbr : 4294967296 ≤ s + y1
            · have hbr' : (4294967296 : Int) ≤ (s : Int) + (y1 : Int) := by omega
              have HX : Hid (p - 1 = Q0) := Hid.mk' (by
                have h1 := HQ1q.out
                have h2 : Q0 ≤ p - 1 := HN.out
                rw [HQ0.out] at h2 ⊢
                refine knuth_stop HY.out hpos (knuth_dec HI.out.1 h1) h2 ?_
                have h3 := Nat.mul_le_mul (show p - 1 ≤ 4294967296 by omega) (show y0 ≤ 4294967295 by omega)
                omega)
              have EX : ((p : Int) - 1) = ((Q0 : Nat) : Int) := by have h1 := HQ1q.out; have h2 := HX.out; omega
              have HEX := Hid.mk' EX
              clear EX hbr
              have E7 := wrap_q (q : Int) ((p : Int) - 1) HEX1.out HEX.out HLT.out
              have E8 := knuth_w ((p : Int) - 1) HEX.out HU0.out bU0
              go_wp2
              go_ret2
              exact ⟨rfl, rfl⟩
            · have hbr' : ¬ ((4294967296 : Int) ≤ (s : Int) + (y1 : Int)) := by omega
              have HBR : Hid (s + y1 < 4294967296) := Hid.mk' (by omega)
              have HQQ := Hid.mk' hq
              clear hbr
              go_wp2
              go_round
              case rel => exact ⟨p - 1, s + y1, (congrArg (Value.int .u64) (by have := HQ1q.out; omega)), (congrArg (Value.int .u64) (by omega)), HBR.out, (by have := HQ1q.out; have := HQQ.out; omega), knuth_dec HI.out.1 HQ1q.out, HN.out⟩
              case measure => (have := HQ1q.out; simp [intOf]; omega)
          · have hbig' : ¬ ((4294967296 : Int) ≤ (p : Int)) := by omega
            obtain ⟨P, hP⟩ : ∃ P, P = p * y0 := ⟨_, rfl⟩
            have HP := Hid.mk' hP
            have bP : P < 18446744073709551616 := by
              have := Nat.mul_le_mul (show p ≤ 4294967295 by omega) (show y0 ≤ 4294967295 by omega)
              omega
            have KP : IntKind.u64.wrap ((p : Int) * (y0 : Int)) = (P : Int) := by rw [← Int.natCast_mul, ← hP, wrapN P bP]
            clear hP hbig
            by_cases hT : 4294967296 * s + u0 < P
            · have hT' : (4294967296 : Int) * (s : Int) + (u0 : Int) < (P : Int) := by omega
              have HQ1q : Hid (1 ≤ p) := Hid.mk' (by
                have h1 := HP.out
                rcases Nat.eq_zero_or_pos p with h | h
                · rw [h, Nat.zero_mul] at h1; omega
                · exact h)
              have hq1' : (1 : Int) ≤ (p : Int) := by have := HQ1q.out; omega
              have HN : Hid (Q0 ≤ p - 1) := Hid.mk' (by rw [HQ0.out]; exact knuth_next HY.out hpos HI.out.1 (by rw [← HP.out]; exact hT))
              clear hT
              by_cases hbr : 4294967296 ≤ s + y1
              · have hbr' : (4294967296 : Int) ≤ (s : Int) + (y1 : Int) := by omega
                have HX : Hid (p - 1 = Q0) := Hid.mk' (by
                  have h1 := HQ1q.out
                  have h2 : Q0 ≤ p - 1 := HN.out
                  rw [HQ0.out] at h2 ⊢
                  refine knuth_stop HY.out hpos (knuth_dec HI.out.1 h1) h2 ?_
                  have h3 := Nat.mul_le_mul (show p - 1 ≤ 4294967296 by omega) (show y0 ≤ 4294967295 by omega)
                  omega)
                have EX : ((p : Int) - 1) = ((Q0 : Nat) : Int) := by have h1 := HQ1q.out; have h2 := HX.out; omega
                have HEX := Hid.mk' EX
                clear EX hbr
                have E7 := wrap_q (q : Int) ((p : Int) - 1) HEX1.out HEX.out HLT.out
                have E8 := knuth_w ((p : Int) - 1) HEX.out HU0.out bU0
                go_wp2
                go_ret2
                exact ⟨rfl, rfl⟩
              · have hbr' : ¬ ((4294967296 : Int) ≤ (s : Int) + (y1 : Int)) := by omega
                have HBR : Hid (s + y1 < 4294967296) := Hid.mk' (by omega)
                have HQQ := Hid.mk' hq
                clear hbr
                go_wp2
                go_round
                case rel => exact ⟨p - 1, s + y1, (congrArg (Value.int .u64) (by have := HQ1q.out; omega)), (congrArg (Value.int .u64) (by omega)), HBR.out, (by have := HQ1q.out; have := HQQ.out; omega), knuth_dec HI.out.1 HQ1q.out, HN.out⟩
                case measure => (have := HQ1q.out; simp [intOf]; omega)
            · have hT' : (P : Int) ≤ (4294967296 : Int) * (s : Int) + (u0 : Int) := by omega
              have HX : Hid (p = Q0) := Hid.mk' (by
                have h2 := HI.out.2
                rw [HQ0.out] at h2 ⊢
                exact knuth_stop HY.out hpos HI.out.1 h2 (by rw [← HP.out]; omega))
              have EX : (p : Int) = ((Q0 : Nat) : Int) := by have h2 := HX.out; omega
              have HEX := Hid.mk' EX
              clear EX hT
              have E7 := wrap_q (q : Int) (p : Int) HEX1.out HEX.out HLT.out
              have E8 := knuth_w (p : Int) HEX.out HU0.out bU0
              go_wp2
              go_ret2
              exact ⟨rfl, rfl⟩
theorem div64_any (hi lo y : Nat) (w : World) (hh : hi < y) (h0 : 0 < hi) (hl : lo < 18446744073709551616) (hy : 9223372036854775808 ≤ y) (hy' : y < 18446744073709551616) :
    Calls Tryd.prog 96 #[.int .u64 hi, .int .u64 lo, .int .u64 y] w fun e w' => e = .returned (.tuple #[.int .u64 (((hi * 18446744073709551616 + lo) / y : Nat) : Int), .int .u64 (((hi * 18446744073709551616 + lo) % y : Nat) : Int)]) ∧ w = w' := by
  have h := div64_key hi lo y _ _ _ _ _ _ _ _ w hh h0 hl hy hy' rfl rfl rfl rfl rfl rfl rfl rfl
  have hpos : 0 < y := by omega
  obtain ⟨e1, e2⟩ := knuth_end (hi := hi) (u1 := lo / 4294967296) (u0 := lo % 4294967296) hpos (divmod _ _) (divmod _ _) (Nat.mod_lt _ hpos)
  rw [← e1, ← e2, show lo / 4294967296 * 4294967296 + lo % 4294967296 = lo by omega] at h
  exact h
end Go.Proofs.YthmppcfhbbjhlaaDoor
