import Derived.Test.YthmppcfhbbjhlaaDoorMod
import Derived.Test.YthmppcfhbbjhlaaDoorRnd
import Derived.Laws.Bits64b
set_option linter.all false
namespace Go.Proofs.YthmppcfhbbjhlaaDoor
open Go.RowKit

theorem M64_pow : 18446744073709551616 = 2 ^ 64 := by decide
theorem M128_pow : 340282366920938463463374607431768211456 = 2 ^ 128 := by decide +kernel

abbrev WV (lo hi : Int) : Value := .agg #[.int .u64 lo, .int .u64 hi]
/-- A number of 128 bits as its two words. -/
abbrev W2 (s : Nat) : Value := WV ((s % 18446744073709551616 : Nat) : Int) ((s / 18446744073709551616 : Nat) : Int)

theorem or_add (x y s : Nat) (h : y < 2 ^ s) : (x * 2 ^ s) ||| y = x * 2 ^ s + y := by
  rw [Nat.mul_comm, Nat.two_pow_add_eq_or_of_lt h]
theorem or_add' (x y s : Nat) (h : y < 2 ^ s) : y ||| (x * 2 ^ s) = x * 2 ^ s + y := by
  rw [Nat.or_comm, or_add x y s h]

theorem pow64 {n : Nat} (h : n ≤ 64) : 2 ^ n * 2 ^ (64 - n) = 18446744073709551616 := by
  rw [← Nat.pow_add, M64_pow]; congr 1; omega

theorem mul_split (r B q A c : Nat) : (r + B * q) * A + c = r * A + c + A * B * q := by
  have e : B * q * A = A * B * q := by rw [Nat.mul_comm (B * q) A, Nat.mul_assoc]
  rw [Nat.add_mul]; omega
theorem mul_split' (r B q A c : Nat) : c + A * (r + B * q) = r * A + c + B * A * q := by
  have e : A * (B * q) = B * A * q := by rw [← Nat.mul_assoc, Nat.mul_comm A B]
  have e2 : A * r = r * A := Nat.mul_comm _ _
  rw [Nat.mul_add]; omega
theorem up_ge_g (s k K : Nat) (hM : K = 2 ^ 64) : s * 2 ^ (k + 64) % (K * K) = K * (s % K * 2 ^ min k 64 % K) := by
  have e1 : s * 2 ^ (k + 64) = K * (s * 2 ^ k) := by
    rw [Nat.pow_add, ← hM, ← Nat.mul_assoc, Nat.mul_comm]
  rw [e1, Nat.mul_mod_mul_left]
  have e5 : s * 2 ^ k % K = s % K * 2 ^ min k 64 % K := ?_
  · rw [e5]
  by_cases hk : k ≤ 64
  · rw [Nat.min_eq_left hk, Nat.mod_mul_mod]
  · rw [Nat.min_eq_right (by omega)]
    have e3 : 2 ^ k = 2 ^ (k - 64) * K := by
      have h := Nat.pow_add 2 (k - 64) 64
      rw [← hM, Nat.sub_add_cancel (by omega)] at h
      exact h
    rw [e3, ← hM, ← Nat.mul_assoc, Nat.mul_mod_left, Nat.mul_mod_left]
theorem up_ge_m (s k : Nat) : s * 2 ^ (k + 64) % 340282366920938463463374607431768211456 = 18446744073709551616 * (s % 18446744073709551616 * 2 ^ min k 64 % 18446744073709551616) := by
  have e2 : 340282366920938463463374607431768211456 = 18446744073709551616 * 18446744073709551616 := by decide
  rw [e2]
  exact up_ge_g s k 18446744073709551616 M64_pow

theorem up_lt_m (s n : Nat) (hn : n < 64) : (s * 2 ^ n % 340282366920938463463374607431768211456) % 18446744073709551616 = s % 18446744073709551616 * 2 ^ n % 18446744073709551616 ∧ (s * 2 ^ n % 340282366920938463463374607431768211456) / 18446744073709551616 = (s / 18446744073709551616 * 2 ^ n % 18446744073709551616) ||| (s % 18446744073709551616 / 2 ^ (64 - n)) := by
  have e2 : 340282366920938463463374607431768211456 = 18446744073709551616 * 18446744073709551616 := by decide
  have hp := pow64 (n := n) (by omega)
  have hA := Nat.two_pow_pos n
  have hB := Nat.two_pow_pos (64 - n)
  have hlo : s % 18446744073709551616 < 18446744073709551616 := Nat.mod_lt _ (by decide)
  have hs : s = s % 18446744073709551616 + 18446744073709551616 * (s / 18446744073709551616) := (Nat.mod_add_div s 18446744073709551616).symm
  refine ⟨?_, ?_⟩
  · rw [e2, Nat.mod_mul_right_mod, Nat.mod_mul_mod]
  · generalize hlo' : s % 18446744073709551616 = lo at *
    generalize s / 18446744073709551616 = hi at *
    have h1 : s * 2 ^ n / 18446744073709551616 = hi * 2 ^ n + lo / 2 ^ (64 - n) := by
      rw [hs, Nat.add_mul, Nat.mul_assoc, Nat.add_mul_div_left _ _ (by decide)]
      rw [Nat.add_comm]
      congr 1
      rw [← hp, Nat.mul_comm (2 ^ n) (2 ^ (64 - n)), Nat.mul_div_mul_right _ _ hA]
    have hc : lo / 2 ^ (64 - n) < 2 ^ n := by
      rw [Nat.div_lt_iff_lt_mul hB, hp]; exact hlo
    rw [e2, Nat.mod_mul_right_div_self, h1]
    have h2 : hi * 2 ^ n % 18446744073709551616 = hi % 2 ^ (64 - n) * 2 ^ n := by
      rw [← hp, Nat.mul_comm (2 ^ n) (2 ^ (64 - n)), Nat.mul_mod_mul_right]
    rw [h2, or_add _ _ _ hc]
    have h3 : hi * 2 ^ n + lo / 2 ^ (64 - n) = (hi % 2 ^ (64 - n) * 2 ^ n + lo / 2 ^ (64 - n)) + 18446744073709551616 * (hi / 2 ^ (64 - n)) := by
      have := mul_split (hi % 2 ^ (64 - n)) (2 ^ (64 - n)) (hi / 2 ^ (64 - n)) (2 ^ n) (lo / 2 ^ (64 - n))
      rw [Nat.mod_add_div, hp] at this
      exact this
    rw [h3, Nat.add_mul_mod_self_left, Nat.mod_eq_of_lt]
    have h4 : hi % 2 ^ (64 - n) + 1 ≤ 2 ^ (64 - n) := Nat.mod_lt _ hB
    have h5 := Nat.mul_le_mul_right (2 ^ n) h4
    rw [Nat.add_mul, Nat.mul_comm (2 ^ (64 - n)), hp] at h5
    omega

theorem down_ge_m (s k : Nat) (hs : s < 340282366920938463463374607431768211456) : s / 2 ^ (k + 64) = s / 18446744073709551616 / 2 ^ min k 64 := by
  have h1 : s / 2 ^ (k + 64) = s / 18446744073709551616 / 2 ^ k := by rw [Nat.div_div_eq_div_mul, M64_pow, ← Nat.pow_add, Nat.add_comm]
  rw [h1]
  by_cases hk : k ≤ 64
  · rw [Nat.min_eq_left hk]
  · have h2 : s / 18446744073709551616 < 2 ^ 64 := by
      rw [Nat.div_lt_iff_lt_mul (by decide)]
      exact hs
    have h3 := pow_le (show 64 ≤ k by omega)
    rw [Nat.min_eq_right (by omega), Nat.div_eq_of_lt h2, Nat.div_eq_of_lt (by omega)]

theorem down_lt_m (s n : Nat) (hn : n < 64) : s / 2 ^ n % 18446744073709551616 = (s % 18446744073709551616 / 2 ^ n) ||| (s / 18446744073709551616 * 2 ^ (64 - n) % 18446744073709551616) ∧ s / 2 ^ n / 18446744073709551616 = s / 18446744073709551616 / 2 ^ n := by
  have hp := pow64 (n := n) (by omega)
  have hA := Nat.two_pow_pos n
  have hB := Nat.two_pow_pos (64 - n)
  have hlo : s % 18446744073709551616 < 18446744073709551616 := Nat.mod_lt _ (by decide)
  have hs : s = s % 18446744073709551616 + 18446744073709551616 * (s / 18446744073709551616) := (Nat.mod_add_div s 18446744073709551616).symm
  refine ⟨?_, by rw [Nat.div_div_eq_div_mul, Nat.div_div_eq_div_mul, Nat.mul_comm]⟩
  generalize hlo' : s % 18446744073709551616 = lo at *
  generalize s / 18446744073709551616 = hi at *
  have h1 : s / 2 ^ n = lo / 2 ^ n + 2 ^ (64 - n) * hi := by
    rw [hs, ← hp, Nat.mul_assoc, Nat.add_mul_div_left _ _ hA]
  have hc : lo / 2 ^ n < 2 ^ (64 - n) := by
    rw [Nat.div_lt_iff_lt_mul hA, Nat.mul_comm, hp]; exact hlo
  have h2 : hi * 2 ^ (64 - n) % 18446744073709551616 = hi % 2 ^ n * 2 ^ (64 - n) := by
    rw [← hp, Nat.mul_mod_mul_right]
  rw [h1, h2, or_add' _ _ _ hc]
  have h3 : lo / 2 ^ n + 2 ^ (64 - n) * hi = (hi % 2 ^ n * 2 ^ (64 - n) + lo / 2 ^ n) + 18446744073709551616 * (hi / 2 ^ n) := by
    have := mul_split' (hi % 2 ^ n) (2 ^ n) (hi / 2 ^ n) (2 ^ (64 - n)) (lo / 2 ^ n)
    rw [Nat.mod_add_div, hp] at this
    exact this
  rw [h3, Nat.add_mul_mod_self_left, Nat.mod_eq_of_lt]
  have h4 : hi % 2 ^ n + 1 ≤ 2 ^ n := Nat.mod_lt _ hA
  have h5 := Nat.mul_le_mul_right (2 ^ (64 - n)) h4
  rw [Nat.add_mul, hp] at h5
  omega

theorem updown (s n : Nat) (hs : s < 340282366920938463463374607431768211456) : s / 2 ^ n * 2 ^ n % 340282366920938463463374607431768211456 = s - s % 2 ^ n := by
  have h := Nat.mod_add_div s (2 ^ n)
  have h2 : 2 ^ n * (s / 2 ^ n) = s / 2 ^ n * 2 ^ n := Nat.mul_comm _ _
  have h3 := Nat.mod_le s (2 ^ n)
  rw [Nat.mod_eq_of_lt (by omega)]
  omega
theorem updown_ne (s n : Nat) (hs : s < 340282366920938463463374607431768211456) : (s / 2 ^ n * 2 ^ n % 340282366920938463463374607431768211456 = s) ↔ s % 2 ^ n = 0 := by
  have h := Nat.mod_le s (2 ^ n)
  have := updown s n hs
  omega
theorem two_inj {s t : Nat} (h : s % 18446744073709551616 = t % 18446744073709551616) (h' : s / 18446744073709551616 = t / 18446744073709551616) : s = t := by
  have h1 := Nat.mod_add_div s 18446744073709551616
  have h2 := Nat.mod_add_div t 18446744073709551616
  rw [h, h'] at h1
  omega
theorem or_one (x : Nat) : x ||| 1 = x + (1 - x % 2) := by
  have h := or_add (x / 2) 1 1 (by decide)
  have h2 := or_add (x / 2) 0 1 (by decide)
  rw [Nat.pow_one] at *
  rcases Nat.mod_two_eq_zero_or_one x with hx | hx
  · have : x = x / 2 * 2 := by omega
    rw [this, h]; omega
  · have e : x = x / 2 * 2 + 1 := by omega
    have : x = (x / 2 * 2) ||| 1 := by rw [h]; exact e
    have h5 : x ||| 1 = x := by
      rw [this, Nat.or_assoc, Nat.or_self]
    rw [h5]; omega
end Go.Proofs.YthmppcfhbbjhlaaDoor
