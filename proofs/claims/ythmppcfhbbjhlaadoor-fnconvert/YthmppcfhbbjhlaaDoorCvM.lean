import Derived.Test.YthmppcfhbbjhlaaDoorCl
set_option linter.all false
namespace Go.Proofs.YthmppcfhbbjhlaaDoor
open Go.RowKit Go.Sort
theorem bl_53 {s : Nat} (h : s < 9007199254740992) : bl s ≤ 53 := bl_le (k := 53) h
theorem bl_24 {s : Nat} (h : s < 16777216) : bl s ≤ 24 := bl_le (k := 24) h
/-- A number of at most 53 bits, not too small and not too large, is a wide float as it stands. -/
theorem read_rnd_w (s : Nat) (x : Int) (h0 : s ≠ 0) (hs : s < 9007199254740992) (hx : -1000 ≤ x) (hx' : x ≤ 900) :
    kd_w (rnd 53 11 (-1074) s x false) = 0 ∧ mt_w (rnd 53 11 (-1074) s x false) = s * 2 ^ (53 - bl s) ∧ ex_w (rnd 53 11 (-1074) s x false) = x - ((53 - bl s : Nat) : Int) ∧ rnd 53 11 (-1074) s x false < 9218868437227405312 := by
  have hb := bl_53 hs
  have hp := bl_pos h0
  have hcut : cutOf 53 (-1074) s x = -((53 - bl s : Nat) : Int) := by unfold cutOf; omega
  have hq : rq s (cutOf 53 (-1074) s x) false = s * 2 ^ (53 - bl s) := by
    rw [hcut]; unfold rq; rw [if_pos (by omega)]; congr 2; omega
  have hlt : s * 2 ^ (53 - bl s) < 9007199254740992 := by
    have := bl_lt s
    have h2 : s * 2 ^ (53 - bl s) < 2 ^ bl s * 2 ^ (53 - bl s) := Nat.mul_lt_mul_of_pos_right this (Nat.two_pow_pos _)
    rw [← Nat.pow_add, show bl s + (53 - bl s) = 53 by omega] at h2
    exact h2
  have hge : 4503599627370496 ≤ s * 2 ^ (53 - bl s) := by
    have := bl_ge h0
    have h2 : 2 ^ (bl s - 1) * 2 ^ (53 - bl s) ≤ s * 2 ^ (53 - bl s) := Nat.mul_le_mul_right _ this
    rw [← Nat.pow_add, show bl s - 1 + (53 - bl s) = 52 by omega] at h2
    exact h2
  obtain ⟨k, hk⟩ : ∃ k : Nat, x + cutOf 53 (-1074) s x - -1074 = k := ⟨(x + cutOf 53 (-1074) s x - -1074).toNat, by rw [hcut]; omega⟩
  have hkl : k ≤ 2000 := by rw [hcut] at hk; omega
  have hr : rnd 53 11 (-1074) s x false = k * 4503599627370496 + s * 2 ^ (53 - bl s) := by
    unfold rnd infM
    rw [if_neg h0, hk, hq]
    rw [show ((k : Int)).toNat = k from rfl]
    rw [if_neg (show ¬ (2 ^ 11 - 1 ≤ k) by simp; omega)]
    generalize s * 2 ^ (53 - bl s) = q at *
    simp only [show (2 : Nat) ^ (53 - 1) = 4503599627370496 from rfl, show (2 : Nat) ^ 11 = 2048 from rfl]
    omega
  rw [hr]
  generalize s * 2 ^ (53 - bl s) = q at *
  rw [hcut] at hk
  refine ⟨?_, ?_, ?_, by omega⟩
  · unfold kd_w; rw [if_neg (by omega), if_neg (by omega)]
  · unfold mt_w; rw [if_neg (by omega), if_neg (by omega)]; omega
  · unfold ex_w; rw [if_neg (by omega), if_neg (by omega)]; omega
/-- A narrow float is itself, rounded. -/
theorem rnd_narrow (m j : Nat) (h0 : m ≠ 0) (hm : m < 2139095040) (hj : 1 ≤ j) :
    rnd 24 8 (-149) (mt_n m * 2 ^ j) (ex_n m - j) false = m := by
  have hs0 : mt_n m ≠ 0 := by unfold mt_n; rw [if_neg (by omega)]; split <;> omega
  have hs := mt_n_b m
  have hb := bl_24 hs
  have e1 := bl_mul hs0 j
  have hcut : cutOf 24 (-149) (mt_n m * 2 ^ j) (ex_n m - j) = j := by
    unfold cutOf
    rw [e1]
    unfold ex_n
    rw [if_neg (by omega)]
    by_cases h : m < 8388608
    · rw [if_pos h]; omega
    · rw [if_neg h]
      have : 24 ≤ bl (mt_n m) := by
        apply lt_bl (k := 23)
        unfold mt_n; rw [if_neg (by omega), if_neg h]; omega
      omega
  have hq : rq (mt_n m * 2 ^ j) (j : Int) false = mt_n m := by
    unfold rq
    rw [if_neg (by omega), show ((j : Int)).toNat = j from rfl]
    unfold rqN
    have e : mt_n m * 2 ^ j / 2 ^ (j - 1) = mt_n m * 2 := by
      obtain ⟨i, rfl⟩ : ∃ i, j = i + 1 := ⟨j - 1, by omega⟩
      rw [Nat.add_sub_cancel, Nat.pow_succ, Nat.mul_comm (2 ^ i) 2, ← Nat.mul_assoc, Nat.mul_div_cancel _ (Nat.two_pow_pos i)]
    rw [e, if_neg (by omega)]; omega
  have hne : mt_n m * 2 ^ j ≠ 0 := by have := Nat.two_pow_pos j; exact Nat.mul_ne_zero hs0 (by omega)
  unfold rnd infM
  rw [if_neg hne, hcut, hq, show ex_n m - (j : Int) + j - -149 = ex_n m + 149 by omega]
  simp only [show (2 : Nat) ^ (24 - 1) = 8388608 from rfl, show (2 : Nat) ^ 8 = 256 from rfl]
  have hE : ((ex_n m + 149).toNat = 0 ∧ m < 8388608) ∨ (8388608 ≤ m ∧ (ex_n m + 149).toNat = m / 8388608 - 1) := by
    unfold ex_n
    rw [if_neg (by omega)]
    by_cases h : m < 8388608
    · rw [if_pos h]; left; exact ⟨by omega, h⟩
    · rw [if_neg h]; right; exact ⟨by omega, by omega⟩
  have hM : (m < 8388608 → mt_n m = m) ∧ (8388608 ≤ m → mt_n m = m % 8388608 + 8388608) := by
    unfold mt_n
    rw [if_neg (by omega)]
    exact ⟨fun h => by rw [if_pos h], fun h => by rw [if_neg (by omega)]⟩
  rcases hE with ⟨e, h⟩ | ⟨h, e⟩
  · rw [e, hM.1 h, if_neg (by omega)]; omega
  · rw [e, hM.2 h, if_neg (by omega)]; omega
/-- A wide float is itself, rounded. -/
theorem rnd_wide (m : Nat) (h0 : m ≠ 0) (hm : m < 9218868437227405312) : rnd 53 11 (-1074) (mt_w m) (ex_w m) false = m := by
  have hs0 : mt_w m ≠ 0 := by unfold mt_w; rw [if_neg (by omega)]; split <;> omega
  have hs := mt_w_b m
  have hb := bl_53 hs
  have hcut : cutOf 53 (-1074) (mt_w m) (ex_w m) = 0 := by
    unfold cutOf ex_w
    rw [if_neg (by omega)]
    by_cases h : m < 4503599627370496
    · rw [if_pos h]; omega
    · rw [if_neg h]
      have : 53 ≤ bl (mt_w m) := by
        apply lt_bl (k := 52)
        unfold mt_w; rw [if_neg (by omega), if_neg h]; omega
      omega
  have hq : rq (mt_w m) 0 false = mt_w m := by unfold rq; rw [if_pos (by omega)]; simp
  unfold rnd infM
  rw [if_neg hs0, hcut, hq, show ex_w m + 0 - -1074 = ex_w m + 1074 by omega]
  simp only [show (2 : Nat) ^ (53 - 1) = 4503599627370496 from rfl, show (2 : Nat) ^ 11 = 2048 from rfl]
  have hE : ((ex_w m + 1074).toNat = 0 ∧ m < 4503599627370496) ∨ (4503599627370496 ≤ m ∧ (ex_w m + 1074).toNat = m / 4503599627370496 - 1) := by
    unfold ex_w
    rw [if_neg (by omega)]
    by_cases h : m < 4503599627370496
    · rw [if_pos h]; left; exact ⟨by omega, h⟩
    · rw [if_neg h]; right; exact ⟨by omega, by omega⟩
  have hM : (m < 4503599627370496 → mt_w m = m) ∧ (4503599627370496 ≤ m → mt_w m = m % 4503599627370496 + 4503599627370496) := by
    unfold mt_w
    rw [if_neg (by omega)]
    exact ⟨fun h => by rw [if_pos h], fun h => by rw [if_neg (by omega)]⟩
  rcases hE with ⟨e, h⟩ | ⟨h, e⟩
  · rw [e, hM.1 h, if_neg (by omega)]; omega
  · rw [e, hM.2 h, if_neg (by omega)]; omega
/-- The whole number of a rounded whole number is that number. -/
theorem wh_whole (g : Bool) (s j : Nat) : wh 3 g (s * 2 ^ j) (0 - (j : Int)) = s := by
  by_cases h : j = 0
  · subst h; rw [wh3_pos (by omega)]; simp
  · rw [wh3_neg (by omega), show (-(0 - (j : Int))).toNat = j by omega, Nat.mul_div_cancel _ (Nat.two_pow_pos j)]
theorem wh_zero (g : Bool) (x : Int) : wh 3 g 0 x = 0 := by
  by_cases h : 0 ≤ x
  · rw [wh3_pos h]; simp
  · rw [wh3_neg h]; simp
theorem rnd_z (p e : Nat) (L x : Int) : rnd p e L 0 x false = 0 := by unfold rnd; rw [if_pos rfl]
/-- A whole number of at most 53 bits as a wide float: read and cut again. -/
theorem wh_rnd (g : Bool) (N : Nat) (hN : N < 9007199254740992) :
    kd_w (rnd 53 11 (-1074) N 0 false) = 0 ∧ wh 3 g (mt_w (rnd 53 11 (-1074) N 0 false)) (ex_w (rnd 53 11 (-1074) N 0 false)) = N ∧ rnd 53 11 (-1074) N 0 false < 9218868437227405312 := by
  by_cases h : N = 0
  · subst h
    rw [rnd_z]
    refine ⟨by decide, ?_, by decide⟩
    rw [show mt_w 0 = 0 by decide]
    exact wh_zero _ _
  · obtain ⟨h1, h2, h3, h4⟩ := read_rnd_w N 0 h hN (by omega) (by omega)
    refine ⟨h1, ?_, h4⟩
    rw [h2, h3]
    exact wh_whole g N _
/-- A wide word: its magnitude and its sign. -/
theorem word_w (g : Bool) (M : Nat) (hM : M < 9223372036854775808) : ∃ a : Nat, sg_w g + (M : Int) = (a : Int) ∧ a < 18446744073709551616 ∧ a % 18446744073709551616 % 9223372036854775808 = M ∧ decide (9223372036854775808 ≤ a % 18446744073709551616) = g := by
  cases g
  · refine ⟨M, by unfold sg_w; simp, by omega, by omega, by simp; omega⟩
  · refine ⟨9223372036854775808 + M, by unfold sg_w; simp, by omega, by omega, by simp; omega⟩
theorem word_n (a : Nat) (ha : a < 4294967296) : sg_n (decide (2147483648 ≤ a)) + ((a % 2147483648 : Nat) : Int) = a := by
  by_cases h : 2147483648 ≤ a
  · rw [decide_eq_true h]; unfold sg_n; simp; omega
  · rw [decide_eq_false h]; unfold sg_n; simp; omega
end Go.Proofs.YthmppcfhbbjhlaaDoor
