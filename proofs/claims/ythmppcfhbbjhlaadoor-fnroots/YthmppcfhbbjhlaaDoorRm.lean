import Derived.Test.YthmppcfhbbjhlaaDoorIc
set_option linter.all false
namespace Go.Proofs.YthmppcfhbbjhlaaDoor
open Go.RowKit Go.Sort

theorem and_pow (A i : Nat) (h : A < 2 ^ (i + 1)) : A &&& 2 ^ i = A / 2 ^ i * 2 ^ i := by
  have h1 : A / 2 ^ i < 2 := by
    rw [Nat.div_lt_iff_lt_mul (Nat.two_pow_pos i)]
    have : 2 * 2 ^ i = 2 ^ (i + 1) := by rw [Nat.pow_succ, Nat.mul_comm]
    omega
  apply Nat.eq_of_testBit_eq
  intro j
  rw [Nat.testBit_and, Nat.testBit_two_pow]
  have h3 : A / 2 ^ i = 0 ∨ A / 2 ^ i = 1 := by generalize A / 2 ^ i = q at *; omega
  rcases h3 with h2 | h2
  · rw [h2, Nat.zero_mul, Nat.zero_testBit]
    by_cases hj : i = j
    · subst hj
      rw [Nat.testBit_eq_decide_div_mod_eq, h2]; simp
    · simp [hj]
  · rw [h2, Nat.one_mul, Nat.testBit_two_pow]
    by_cases hj : i = j
    · subst hj
      rw [Nat.testBit_eq_decide_div_mod_eq, h2]; simp
    · simp [hj]
def kd_n (m : Nat) : Int := if 2139095040 < m then 2 else if m = 2139095040 then 1 else 0
def ex_n (m : Nat) : Int := if 2139095040 ≤ m then 0 else if m < 8388608 then -149 else (m / 8388608 : Nat) - 1 + (-149)
def mt_n (m : Nat) : Nat := if 2139095040 ≤ m then 0 else if m < 8388608 then m else m % 8388608 + 8388608
theorem low_n_m (a : Nat) (ha : a < 18446744073709551616) : bits .and .u64 (a : Int) 4294967295 = ((a % 4294967296 : Nat) : Int) := by
  have h := bits_and_u64_nat a 4294967295 ha (by decide)
  rw [show a &&& 4294967295 = a % 4294967296 from Nat.and_two_pow_sub_one_eq_mod a 32] at h
  exact h
theorem sgn_n_m (A : Nat) (hA : A < 4294967296) : (bits .and .u64 (A : Int) 2147483648 != 0) = decide (2147483648 ≤ A) := by
  have h := bits_and_u64_nat A 2147483648 (by omega) (by decide)
  have h2 := and_pow A 31 hA
  rw [show (2 : Nat) ^ 31 = 2147483648 by decide] at h2
  rw [h2] at h
  rw [show ((2147483648 : Nat) : Int) = 2147483648 from rfl] at h
  rw [h, Bool.eq_iff_iff]
  simp
  omega
theorem mag_n_m (A : Nat) (hA : A < 4294967296) : bits .andNot .u64 (A : Int) 2147483648 = ((A % 2147483648 : Nat) : Int) := by
  have h := u64_andNot_nat A 2147483648 (by omega) (by decide)
  have h1 : A &&& (18446744073709551615 - 2147483648) = A % 2147483648 := by
    have e1 : (A &&& (18446744073709551615 - 2147483648)) % 2 ^ 32 = A &&& (18446744073709551615 - 2147483648) := Nat.mod_eq_of_lt (Nat.lt_of_le_of_lt Nat.and_le_left hA)
    rw [← e1, Nat.and_mod_two_pow, Nat.mod_eq_of_lt (show A < 2 ^ 32 from hA), show (18446744073709551615 - 2147483648) % 2 ^ 32 = 2 ^ 31 - 1 by decide]
    exact Nat.and_two_pow_sub_one_eq_mod A 31
  rw [h1] at h
  rw [show ((2147483648 : Nat) : Int) = 2147483648 from rfl] at h
  exact h
theorem nor_n_m (m : Nat) (hm : m < 2147483648) : bits .or .u64 (bits .and .u64 (m : Int) 8388607) 8388608 = ((m % 8388608 + 8388608 : Nat) : Int) := by
  have h := bits_and_u64_nat m 8388607 (by omega) (by decide)
  rw [show m &&& 8388607 = m % 8388608 from Nat.and_two_pow_sub_one_eq_mod m 23, show ((8388607 : Nat) : Int) = 8388607 from rfl] at h
  have h2 := bits_or_u64_nat (m % 8388608) 8388608 (by omega) (by decide)
  have h3 := or_add' 1 (m % 8388608) 23 (Nat.mod_lt _ (Nat.two_pow_pos 23))
  rw [show (1 : Nat) * 2 ^ 23 = 8388608 by decide] at h3
  rw [h3, show ((8388608 : Nat) : Int) = 8388608 from rfl] at h2
  rw [h, h2]
  omega
theorem iread_n (a : Nat) (w : World) (ha : a < 18446744073709551616) (m : Nat) (g : Bool) (hm : m = a % 4294967296 % 2147483648) (hg : g = decide (2147483648 ≤ a % 4294967296)) :
    Calls Tryd.prog 33 #[FVn, .int .u64 (a : Int)] w fun e w' => e = .returned (N2 (kd_n m) (if 2139095040 < m then false else g) (ex_n m) (mt_n m)) ∧ Below w.heap.size w w' := by
  have hA : a % 4294967296 < 4294967296 := Nat.mod_lt _ (by decide)
  have KL := fun w => low_n (a : Int) w
  rw [low_n_m a ha] at KL
  have KG := sgn_n_m (a % 4294967296) hA
  have KM := mag_n_m (a % 4294967296) hA
  rw [← hg] at KG
  rw [← hm] at KM
  have hml : m < 2147483648 := by omega
  unfold kd_n ex_n mt_n
  by_cases h1 : 2139095040 < m
  · rw [if_pos h1, if_pos h1, if_pos (show 2139095040 ≤ m by omega), if_pos (show 2139095040 ≤ m by omega)]
    exact read_n_nan a _ m g w (by omega) (by omega) KL KG KM
  · rw [if_neg h1, if_neg h1]
    by_cases h2 : m = 2139095040
    · rw [if_pos h2, if_pos (show 2139095040 ≤ m by omega), if_pos (show 2139095040 ≤ m by omega)]
      exact read_n_inf a _ m g w (by omega) (by omega) KL KG KM
    · rw [if_neg h2, if_neg (show ¬ 2139095040 ≤ m by omega), if_neg (show ¬ 2139095040 ≤ m by omega)]
      by_cases h3 : m < 8388608
      · rw [if_pos h3, if_pos h3]
        have e1 : N2 0 g (-149) m = NV 0 g (-149) (m : Int) 0 := by
          rw [N2, Nat.mod_eq_of_lt (by omega), Nat.div_eq_of_lt (by omega)]; rfl
        rw [e1]
        exact read_n_sub a _ m g w (by omega) (by omega) KL KG KM
      · rw [if_neg h3, if_neg h3]
        have h := read_n_nor a _ m g w (by omega) (by omega) (by omega) KL KG KM
        rw [nor_n_m m hml] at h
        have e1 : N2 0 g ((m / 8388608 : Nat) - 1 + (-149)) (m % 8388608 + 8388608) = NV 0 g ((m : Int) / 8388608 - 1 + (-149)) ((m % 8388608 + 8388608 : Nat) : Int) 0 := by
          rw [N2, Nat.mod_eq_of_lt (show m % 8388608 + 8388608 < 18446744073709551616 by omega), Nat.div_eq_of_lt (show m % 8388608 + 8388608 < 18446744073709551616 by omega), show ((m / 8388608 : Nat) : Int) = (m : Int) / 8388608 by omega]; rfl
        rw [e1]
        exact h
theorem sread_n (a : Nat) (w : World) (ha : a < 18446744073709551616) (m : Nat) (g : Bool) (hm : m = a % 4294967296 % 2147483648) (hg : g = decide (2147483648 ≤ a % 4294967296)) :
    Calls Tryd.prog 26 #[FSn, .int .u64 (a : Int)] w fun e w' => (∃ v, e = .returned (SV (kd_n m) g v (ex_n m)) ∧ SN w' v (mt_n m)) ∧ Below w.heap.size w w' := by
  have hA : a % 4294967296 < 4294967296 := Nat.mod_lt _ (by decide)
  have KL : ∀ w, Hid (Calls Tryd.prog 23 #[.int .u64 (a : Int), .int .i64 32] w fun e w' => e = .returned (.int .u64 ((a % 4294967296 : Nat) : Int)) ∧ w = w') := fun w => by
    have h := low32 (a : Int) w (by omega) (by omega)
    have e : (a : Int) % 4294967296 = ((a % 4294967296 : Nat) : Int) := by omega
    rw [e] at h
    exact h
  have HG : ((((a % 4294967296 : Nat) : Int) / 2147483648) == 1) = g := by rw [hg, Bool.eq_iff_iff]; simp; omega
  have hml : m < 2147483648 := by omega
  have HF : ((a % 4294967296 : Nat) : Int) % 8388608 = ((m % 8388608 : Nat) : Int) := by omega
  have HE : ((a % 4294967296 : Nat) : Int) / 8388608 % 256 = ((m / 8388608 : Nat) : Int) := by omega
  have hf0 : (0 : Int) ≤ ((m % 8388608 : Nat) : Int) := by omega
  have hf1 : ((m % 8388608 : Nat) : Int) < 8388608 := by omega
  unfold kd_n ex_n mt_n
  by_cases h1 : 2139095040 < m
  · rw [if_pos h1, if_pos (show 2139095040 ≤ m by omega), if_pos (show 2139095040 ≤ m by omega)]
    refine (sread_n_nan a _ _ _ g w hf0 hf1 (by omega) (by omega) KL (by omega) (by omega) HF HE HG).mono ?_
    rintro e w' ⟨rfl, hb⟩
    exact ⟨⟨_, rfl, sn_nil⟩, hb⟩
  · rw [if_neg h1]
    by_cases h2 : m = 2139095040
    · rw [if_pos h2, if_pos (show 2139095040 ≤ m by omega), if_pos (show 2139095040 ≤ m by omega)]
      refine (sread_n_inf a _ _ _ g w hf0 hf1 (by omega) (by omega) KL (by omega) (by omega) HF HE HG).mono ?_
      rintro e w' ⟨rfl, hb⟩
      exact ⟨⟨_, rfl, sn_nil⟩, hb⟩
    · rw [if_neg h2, if_neg (show ¬ 2139095040 ≤ m by omega), if_neg (show ¬ 2139095040 ≤ m by omega)]
      by_cases h3 : m < 8388608
      · rw [if_pos h3, if_pos h3]
        refine (sread_n_sub a _ _ _ g w hf0 hf1 (by omega) KL (by omega) (by omega) HF HE HG).mono ?_
        rintro e w' ⟨⟨v, rfl, hv⟩, hb⟩
        rw [Int.toNat_natCast, Nat.mod_eq_of_lt h3] at hv
        exact ⟨⟨v, rfl, hv⟩, hb⟩
      · rw [if_neg h3, if_neg h3]
        refine (sread_n_nor a _ _ _ g w hf0 hf1 (by omega) (by omega) KL (by omega) (by omega) HF HE HG).mono ?_
        rintro e w' ⟨⟨v, rfl, hv⟩, hb⟩
        rw [show (((m % 8388608 : Nat) : Int) + 8388608).toNat = m % 8388608 + 8388608 by omega] at hv
        refine ⟨⟨v, ?_, hv⟩, hb⟩
        rw [show (-149 : Int) + ((m / 8388608 : Nat) : Int) - 1 = (m / 8388608 : Nat) - 1 + (-149) by omega]
theorem kd_n_k (m : Nat) : kd_n m = 0 ∨ kd_n m = 1 ∨ kd_n m = 2 := by
  unfold kd_n; split
  · exact .inr (.inr rfl)
  · split
    · exact .inr (.inl rfl)
    · exact .inl rfl
theorem ex_n_b (m : Nat) (hm : m < 2147483648) : -1100 ≤ ex_n m ∧ ex_n m ≤ 1000 := by
  unfold ex_n
  split
  · omega
  · split <;> omega
theorem mt_n_b (m : Nat) : mt_n m < 16777216 := by
  unfold mt_n
  split
  · omega
  · split <;> omega
def kd_w (m : Nat) : Int := if 9218868437227405312 < m then 2 else if m = 9218868437227405312 then 1 else 0
def ex_w (m : Nat) : Int := if 9218868437227405312 ≤ m then 0 else if m < 4503599627370496 then -1074 else (m / 4503599627370496 : Nat) - 1 + (-1074)
def mt_w (m : Nat) : Nat := if 9218868437227405312 ≤ m then 0 else if m < 4503599627370496 then m else m % 4503599627370496 + 4503599627370496
theorem low_w_m (a : Nat) (ha : a < 18446744073709551616) : bits .and .u64 (a : Int) 18446744073709551615 = ((a % 18446744073709551616 : Nat) : Int) := by
  have h := bits_and_u64_nat a 18446744073709551615 ha (by decide)
  rw [show a &&& 18446744073709551615 = a % 18446744073709551616 from Nat.and_two_pow_sub_one_eq_mod a 64] at h
  exact h
theorem sgn_w_m (A : Nat) (hA : A < 18446744073709551616) : (bits .and .u64 (A : Int) 9223372036854775808 != 0) = decide (9223372036854775808 ≤ A) := by
  have h := bits_and_u64_nat A 9223372036854775808 (by omega) (by decide)
  have h2 := and_pow A 63 hA
  rw [show (2 : Nat) ^ 63 = 9223372036854775808 by decide] at h2
  rw [h2] at h
  rw [show ((9223372036854775808 : Nat) : Int) = 9223372036854775808 from rfl] at h
  rw [h, Bool.eq_iff_iff]
  simp
  omega
theorem mag_w_m (A : Nat) (hA : A < 18446744073709551616) : bits .andNot .u64 (A : Int) 9223372036854775808 = ((A % 9223372036854775808 : Nat) : Int) := by
  have h := u64_andNot_nat A 9223372036854775808 (by omega) (by decide)
  have h1 : A &&& (18446744073709551615 - 9223372036854775808) = A % 9223372036854775808 := by
    have e1 : (A &&& (18446744073709551615 - 9223372036854775808)) % 2 ^ 64 = A &&& (18446744073709551615 - 9223372036854775808) := Nat.mod_eq_of_lt (Nat.lt_of_le_of_lt Nat.and_le_left hA)
    rw [← e1, Nat.and_mod_two_pow, Nat.mod_eq_of_lt (show A < 2 ^ 64 from hA), show (18446744073709551615 - 9223372036854775808) % 2 ^ 64 = 2 ^ 63 - 1 by decide]
    exact Nat.and_two_pow_sub_one_eq_mod A 63
  rw [h1] at h
  rw [show ((9223372036854775808 : Nat) : Int) = 9223372036854775808 from rfl] at h
  exact h
theorem nor_w_m (m : Nat) (hm : m < 9223372036854775808) : bits .or .u64 (bits .and .u64 (m : Int) 4503599627370495) 4503599627370496 = ((m % 4503599627370496 + 4503599627370496 : Nat) : Int) := by
  have h := bits_and_u64_nat m 4503599627370495 (by omega) (by decide)
  rw [show m &&& 4503599627370495 = m % 4503599627370496 from Nat.and_two_pow_sub_one_eq_mod m 52, show ((4503599627370495 : Nat) : Int) = 4503599627370495 from rfl] at h
  have h2 := bits_or_u64_nat (m % 4503599627370496) 4503599627370496 (by omega) (by decide)
  have h3 := or_add' 1 (m % 4503599627370496) 52 (Nat.mod_lt _ (Nat.two_pow_pos 52))
  rw [show (1 : Nat) * 2 ^ 52 = 4503599627370496 by decide] at h3
  rw [h3, show ((4503599627370496 : Nat) : Int) = 4503599627370496 from rfl] at h2
  rw [h, h2]
  omega
theorem iread_w (a : Nat) (w : World) (ha : a < 18446744073709551616) (m : Nat) (g : Bool) (hm : m = a % 18446744073709551616 % 9223372036854775808) (hg : g = decide (9223372036854775808 ≤ a % 18446744073709551616)) :
    Calls Tryd.prog 33 #[FVw, .int .u64 (a : Int)] w fun e w' => e = .returned (N2 (kd_w m) (if 9218868437227405312 < m then false else g) (ex_w m) (mt_w m)) ∧ Below w.heap.size w w' := by
  have hA : a % 18446744073709551616 < 18446744073709551616 := Nat.mod_lt _ (by decide)
  have KL := fun w => low_w (a : Int) w
  rw [low_w_m a ha] at KL
  have KG := sgn_w_m (a % 18446744073709551616) hA
  have KM := mag_w_m (a % 18446744073709551616) hA
  rw [← hg] at KG
  rw [← hm] at KM
  have hml : m < 9223372036854775808 := by omega
  unfold kd_w ex_w mt_w
  by_cases h1 : 9218868437227405312 < m
  · rw [if_pos h1, if_pos h1, if_pos (show 9218868437227405312 ≤ m by omega), if_pos (show 9218868437227405312 ≤ m by omega)]
    exact read_w_nan a _ m g w (by omega) (by omega) KL KG KM
  · rw [if_neg h1, if_neg h1]
    by_cases h2 : m = 9218868437227405312
    · rw [if_pos h2, if_pos (show 9218868437227405312 ≤ m by omega), if_pos (show 9218868437227405312 ≤ m by omega)]
      exact read_w_inf a _ m g w (by omega) (by omega) KL KG KM
    · rw [if_neg h2, if_neg (show ¬ 9218868437227405312 ≤ m by omega), if_neg (show ¬ 9218868437227405312 ≤ m by omega)]
      by_cases h3 : m < 4503599627370496
      · rw [if_pos h3, if_pos h3]
        have e1 : N2 0 g (-1074) m = NV 0 g (-1074) (m : Int) 0 := by
          rw [N2, Nat.mod_eq_of_lt (by omega), Nat.div_eq_of_lt (by omega)]; rfl
        rw [e1]
        exact read_w_sub a _ m g w (by omega) (by omega) KL KG KM
      · rw [if_neg h3, if_neg h3]
        have h := read_w_nor a _ m g w (by omega) (by omega) (by omega) KL KG KM
        rw [nor_w_m m hml] at h
        have e1 : N2 0 g ((m / 4503599627370496 : Nat) - 1 + (-1074)) (m % 4503599627370496 + 4503599627370496) = NV 0 g ((m : Int) / 4503599627370496 - 1 + (-1074)) ((m % 4503599627370496 + 4503599627370496 : Nat) : Int) 0 := by
          rw [N2, Nat.mod_eq_of_lt (show m % 4503599627370496 + 4503599627370496 < 18446744073709551616 by omega), Nat.div_eq_of_lt (show m % 4503599627370496 + 4503599627370496 < 18446744073709551616 by omega), show ((m / 4503599627370496 : Nat) : Int) = (m : Int) / 4503599627370496 by omega]; rfl
        rw [e1]
        exact h
theorem sread_w (a : Nat) (w : World) (ha : a < 18446744073709551616) (m : Nat) (g : Bool) (hm : m = a % 18446744073709551616 % 9223372036854775808) (hg : g = decide (9223372036854775808 ≤ a % 18446744073709551616)) :
    Calls Tryd.prog 26 #[FSw, .int .u64 (a : Int)] w fun e w' => (∃ v, e = .returned (SV (kd_w m) g v (ex_w m)) ∧ SN w' v (mt_w m)) ∧ Below w.heap.size w w' := by
  have hA : a % 18446744073709551616 < 18446744073709551616 := Nat.mod_lt _ (by decide)
  have KL : ∀ w, Hid (Calls Tryd.prog 23 #[.int .u64 (a : Int), .int .i64 64] w fun e w' => e = .returned (.int .u64 ((a % 18446744073709551616 : Nat) : Int)) ∧ w = w') := fun w => by
    have h := low64 (a : Int) w
    have e : (a : Int) = ((a % 18446744073709551616 : Nat) : Int) := by omega
    rw [e] at h
    rw [← e] at h ⊢; exact h
  have HG : ((((a % 18446744073709551616 : Nat) : Int) / 9223372036854775808) == 1) = g := by rw [hg, Bool.eq_iff_iff]; simp; omega
  have hml : m < 9223372036854775808 := by omega
  have HF : ((a % 18446744073709551616 : Nat) : Int) % 4503599627370496 = ((m % 4503599627370496 : Nat) : Int) := by omega
  have HE : ((a % 18446744073709551616 : Nat) : Int) / 4503599627370496 % 2048 = ((m / 4503599627370496 : Nat) : Int) := by omega
  have hf0 : (0 : Int) ≤ ((m % 4503599627370496 : Nat) : Int) := by omega
  have hf1 : ((m % 4503599627370496 : Nat) : Int) < 4503599627370496 := by omega
  unfold kd_w ex_w mt_w
  by_cases h1 : 9218868437227405312 < m
  · rw [if_pos h1, if_pos (show 9218868437227405312 ≤ m by omega), if_pos (show 9218868437227405312 ≤ m by omega)]
    refine (sread_w_nan a _ _ _ g w hf0 hf1 (by omega) (by omega) KL (by omega) (by omega) HF HE HG).mono ?_
    rintro e w' ⟨rfl, hb⟩
    exact ⟨⟨_, rfl, sn_nil⟩, hb⟩
  · rw [if_neg h1]
    by_cases h2 : m = 9218868437227405312
    · rw [if_pos h2, if_pos (show 9218868437227405312 ≤ m by omega), if_pos (show 9218868437227405312 ≤ m by omega)]
      refine (sread_w_inf a _ _ _ g w hf0 hf1 (by omega) (by omega) KL (by omega) (by omega) HF HE HG).mono ?_
      rintro e w' ⟨rfl, hb⟩
      exact ⟨⟨_, rfl, sn_nil⟩, hb⟩
    · rw [if_neg h2, if_neg (show ¬ 9218868437227405312 ≤ m by omega), if_neg (show ¬ 9218868437227405312 ≤ m by omega)]
      by_cases h3 : m < 4503599627370496
      · rw [if_pos h3, if_pos h3]
        refine (sread_w_sub a _ _ _ g w hf0 hf1 (by omega) KL (by omega) (by omega) HF HE HG).mono ?_
        rintro e w' ⟨⟨v, rfl, hv⟩, hb⟩
        rw [Int.toNat_natCast, Nat.mod_eq_of_lt h3] at hv
        exact ⟨⟨v, rfl, hv⟩, hb⟩
      · rw [if_neg h3, if_neg h3]
        refine (sread_w_nor a _ _ _ g w hf0 hf1 (by omega) (by omega) KL (by omega) (by omega) HF HE HG).mono ?_
        rintro e w' ⟨⟨v, rfl, hv⟩, hb⟩
        rw [show (((m % 4503599627370496 : Nat) : Int) + 4503599627370496).toNat = m % 4503599627370496 + 4503599627370496 by omega] at hv
        refine ⟨⟨v, ?_, hv⟩, hb⟩
        rw [show (-1074 : Int) + ((m / 4503599627370496 : Nat) : Int) - 1 = (m / 4503599627370496 : Nat) - 1 + (-1074) by omega]
theorem kd_w_k (m : Nat) : kd_w m = 0 ∨ kd_w m = 1 ∨ kd_w m = 2 := by
  unfold kd_w; split
  · exact .inr (.inr rfl)
  · split
    · exact .inr (.inl rfl)
    · exact .inl rfl
theorem ex_w_b (m : Nat) (hm : m < 9223372036854775808) : -1100 ≤ ex_w m ∧ ex_w m ≤ 1000 := by
  unfold ex_w
  split
  · omega
  · split <;> omega
theorem mt_w_b (m : Nat) : mt_w m < 9007199254740992 := by
  unfold mt_w
  split
  · omega
  · split <;> omega
end Go.Proofs.YthmppcfhbbjhlaaDoor
