import Derived.Test.YthmppcfhbbjhlaaDoorRtM
set_option linter.all false
namespace Go.Proofs.YthmppcfhbbjhlaaDoor
open Go.RowKit

theorem rnd_shift {p e : Nat} {L : Int} {s j : Nat} {E : Int} (h0 : s ≠ 0) : rnd p e L (s * 2 ^ j) (E - j) false = rnd p e L s E false := by
  have h1 : s * 2 ^ j ≠ 0 := by have := Nat.mul_pos (show 0 < s by omega) (Nat.two_pow_pos j); omega
  have hbl := bl_mul h0 j
  have hcut : cutOf p L (s * 2 ^ j) (E - j) = cutOf p L s E + j := by unfold cutOf; rw [hbl]; omega
  unfold rnd
  rw [if_neg h0, if_neg h1, hcut]
  rw [show E - (j : Int) + (cutOf p L s E + j) - L = E + cutOf p L s E - L by omega]
  generalize cutOf p L s E = c
  have hq : rq (s * 2 ^ j) (c + j) false = rq s c false := by
    unfold rq
    by_cases hc : c ≤ 0
    · rw [if_pos hc]
      by_cases hc2 : c + (j : Int) ≤ 0
      · rw [if_pos hc2, Nat.mul_assoc, ← Nat.pow_add]
        congr 2
        omega
      · rw [if_neg hc2]
        unfold rqN
        have e1 : s * 2 ^ j = s * 2 ^ (-c).toNat * 2 * 2 ^ ((c + (j : Int)).toNat - 1) := by
          rw [Nat.mul_assoc, Nat.mul_assoc, ← Nat.pow_succ', ← Nat.pow_add]
          congr 2
          omega
        rw [e1, Nat.mul_div_cancel _ (Nat.two_pow_pos _), Nat.mul_mod_left]
        rw [Nat.mul_div_cancel _ (by decide), Nat.mul_mod_left]
        simp
    · rw [if_neg hc, if_neg (by omega)]
      have h := rqN_coarse s c.toNat j 0 false (Nat.two_pow_pos j) (by omega)
      rw [Nat.add_zero] at h
      rw [show (c + (j : Int)).toNat = c.toNat + j by omega, h]
      simp
  rw [hq]
end Go.Proofs.YthmppcfhbbjhlaaDoor
