import Derived.Test.YtjiaainhieeepaaDoorAgree
import Derived.Test.YtjiaainhieeepaaDoorInt1
set_option linter.unusedVariables false
namespace Go.Proofs.YtjiaainhieeepaaDoor
open Go.RowKit

def I2 (op x y t v : Int) : Prop := ∀ W, Calls Tryd.prog 9 #[.int .i64 op, .int .u64 x, .int .u64 y] W fun e W' => e = .returned (RV true t v) ∧ Below W.heap.size W W'
def S2 (op x y t v : Int) : Prop := ∀ W, Calls Tryd.prog 10 #[.int .i64 op, .int .u64 x, .int .u64 y] W fun e W' => e = .returned (RV true t v) ∧ Below W.heap.size W W'
def I1 (op x v : Int) : Prop := ∀ W, Tab0 W → 0 < W.heap.size → Calls Tryd.prog 6 #[.int .i64 op, .int .u64 x] W fun e W' => e = .returned (RV true 0 v) ∧ Below W.heap.size W W'

/-- What a round of the inner loop asks. -/
def InKit (d k x y : Int) : Prop := ∃ tq vq tr vr tm vm tb vb : Int, I2 (109 + d + k) x y tq vq ∧ S2 (109 + d + k) x y tq vq ∧ I2 (111 + d + k) x y tr vr ∧
  I2 (108 + d) vq y tm vm ∧ I2 (106 + d) vm vr tb vb ∧ (tq = 0 → vb = x) ∧ (tq ≠ 0 → (y == 0) = (tq == 2) ∧ (y == 0) = (tr == 2))
/-- What a round of the outer loop asks behind it. -/
def OutKit (d u x y : Int) : Prop := ∃ vl vo vx vz : Int, I2 (119 + d) x y 0 vl ∧ I2 (120 + d) vl y 0 x ∧ I1 (105 + d) x vo ∧ I2 (115 + d) x 18446744073709551615 0 vx ∧ I1 (105 + d) vx vz ∧
  0 ≤ vo ∧ vo ≤ 64 ∧ 0 ≤ vz ∧ vz ≤ 64 ∧ vo + vz = 32 + 32 * u

theorem Mo_pos (wd : Bool) : 0 < Mo wd := by cases wd <;> decide
theorem sg_emod (wd : Bool) (x : Int) : sg wd x % Mo wd = x % Mo wd := by
  have h := sg_mod wd x
  exact Int.emod_eq_emod_iff_emod_sub_eq_zero.2 h

theorem back_s (wd : Bool) (x y : Int) (hx0 : 0 ≤ x) (hx : x < Mo wd) :
    ((sg wd x).tdiv (sg wd y) % Mo wd * y % Mo wd + (sg wd x).tmod (sg wd y) % Mo wd) % Mo wd = x := by
  have e1 : (sg wd x).tdiv (sg wd y) % Mo wd * y % Mo wd = (sg wd x).tdiv (sg wd y) * sg wd y % Mo wd := by
    rw [Int.mul_emod, Int.emod_emod, ← sg_emod wd y, ← Int.mul_emod]
  rw [e1, ← Int.add_emod, Int.mul_comm, Int.mul_tdiv_add_tmod, sg_emod]
  exact Int.emod_eq_of_lt hx0 hx
theorem back_u (wd : Bool) (x y : Int) (hx0 : 0 ≤ x) (hx : x < Mo wd) (hy : 0 < y) : (x / y * y % Mo wd + x % y) % Mo wd = x := by
  have h := Int.mul_ediv_add_emod x y
  have h0 : 0 ≤ x / y * y := Int.mul_nonneg (Int.ediv_nonneg hx0 (by omega)) (by omega)
  have h1 := Int.emod_nonneg x (show y ≠ 0 by omega)
  rw [Int.mul_comm] at h
  rw [Int.emod_eq_of_lt h0 (by omega), h]
  exact Int.emod_eq_of_lt hx0 hx

/-- Quotient and remainder belong together. -/
theorem div_kit (wd : Bool) (x y : Int) (hx0 : 0 ≤ x) (hx : x < Mo wd) (hy0 : 0 ≤ y) (hy : y < Mo wd) :
    ((binR wd 3 x y).1 = 0 → (binR wd 0 (binR wd 2 (binR wd 3 x y).2 y).2 (binR wd 5 x y).2).2 = x) ∧
    ((binR wd 3 x y).1 ≠ 0 → (y == 0) = ((binR wd 3 x y).1 == 2) ∧ (y == 0) = ((binR wd 5 x y).1 == 2)) := by
  by_cases hz : y = 0
  · subst hz
    refine ⟨fun h => ?_, fun _ => ⟨rfl, rfl⟩⟩
    exact absurd (show (2 : Int) = 0 from h) (by decide)
  · have hyb : (y == 0) = false := beq_eq_false_iff_ne.2 hz
    have e5 : binR wd 5 x y = (0, (sg wd x).tmod (sg wd y) % Mo wd) := if_neg hz
    by_cases ho : x = hf wd ∧ y = Mo wd - 1
    · have e3 : binR wd 3 x y = (3, 0) := by simp only [binR]; rw [if_neg hz, if_pos ho]
      rw [e3, e5, hyb]
      exact ⟨fun h => absurd h (by decide), fun _ => ⟨rfl, rfl⟩⟩
    · have e3 : binR wd 3 x y = (0, (sg wd x).tdiv (sg wd y) % Mo wd) := by simp only [binR]; rw [if_neg hz, if_neg ho]
      rw [e3, e5]
      exact ⟨fun _ => back_s wd x y hx0 hx, fun h => absurd rfl h⟩
theorem divu_kit (wd : Bool) (x y : Int) (hx0 : 0 ≤ x) (hx : x < Mo wd) (hy0 : 0 ≤ y) (hy : y < Mo wd) :
    ((binR wd 4 x y).1 = 0 → (binR wd 0 (binR wd 2 (binR wd 4 x y).2 y).2 (binR wd 6 x y).2).2 = x) ∧
    ((binR wd 4 x y).1 ≠ 0 → (y == 0) = ((binR wd 4 x y).1 == 2) ∧ (y == 0) = ((binR wd 6 x y).1 == 2)) := by
  by_cases hz : y = 0
  · subst hz
    refine ⟨fun h => ?_, fun _ => ⟨rfl, rfl⟩⟩
    exact absurd (show (2 : Int) = 0 from h) (by decide)
  · have e4 : binR wd 4 x y = (0, x / y) := if_neg hz
    have e6 : binR wd 6 x y = (0, x % y) := if_neg hz
    rw [e4, e6]
    exact ⟨fun _ => back_u wd x y hx0 hx (by omega), fun h => absurd rfl h⟩

theorem rot_back (wd : Bool) (x y : Int) (hx0 : 0 ≤ x) (hx : x < Mo wd) (hy0 : 0 ≤ y) : (binR wd 14 (binR wd 13 x y).2 y).2 = x := by
  show rot wd ((Nn wd - y % Nn wd) % Nn wd).toNat (rot wd (y % Nn wd).toNat x) = x
  have hN : 0 < Nn wd := by cases wd <;> decide
  have h0 := Int.emod_nonneg y (show Nn wd ≠ 0 by omega)
  have h1 := Int.emod_lt_of_pos y hN
  generalize y % Nn wd = s at *
  by_cases hs : s = 0
  · subst hs
    rw [Int.sub_zero, Int.emod_self]
    rfl
  · rw [Int.emod_eq_of_lt (by omega) (by omega), ← rot_add]
    have e : s.toNat + (Nn wd - s).toNat = Nw wd := by rw [Nn_Nw] at *; omega
    rw [e]
    exact rot_all wd x hx0 hx

theorem xor_ones (n x : Nat) (h : x < 2 ^ n) : x ^^^ (2 ^ n - 1) = 2 ^ n - 1 - x := by
  apply Nat.eq_of_testBit_eq
  intro i
  rw [Nat.testBit_xor, Nat.testBit_two_pow_sub_one, show 2 ^ n - 1 - x = 2 ^ n - (x + 1) by omega, Nat.testBit_two_pow_sub_succ h]
  by_cases hi : i < n
  · simp [hi]
  · have hf : x.testBit i = false := Nat.testBit_lt_two_pow (Nat.lt_of_lt_of_le h (Nat.pow_le_pow_right (by omega) (by omega)))
    simp [hi, hf]

section
variable (a b : Int) (ha0 : 0 ≤ a) (ha : a ≤ 18446744073709551615) (hb0 : 0 ≤ b) (hb : b ≤ 18446744073709551615)
theorem inKit_64_0 (ha0 : 0 ≤ a) (ha : a ≤ 18446744073709551615) (hb0 : 0 ≤ b) (hb : b ≤ 18446744073709551615) : InKit 18 0 a b := by
  have hM : Mo true = 18446744073709551616 := rfl
  have q := binR_bd true 3 a b ha0 (by omega) hb0 (by omega)
  have r := binR_bd true 5 a b ha0 (by omega) hb0 (by omega)
  have m := binR_bd true 2 (binR true 3 a b).2 b q.1 q.2 hb0 (by omega)
  have K := div_kit true a b ha0 (by omega) hb0 (by omega)
  exact ⟨_, _, _, _, _, _, _, _, (ag_b64_3 a b ha0 ha hb0 hb).1, (ag_b64_3 a b ha0 ha hb0 hb).2, (ag_b64_5 a b ha0 ha hb0 hb).1, (ag_b64_2 _ b q.1 (by omega) hb0 hb).1, (ag_b64_0 _ _ m.1 (by omega) r.1 (by omega)).1, K.1, K.2⟩
theorem inKit_64_1 (ha0 : 0 ≤ a) (ha : a ≤ 18446744073709551615) (hb0 : 0 ≤ b) (hb : b ≤ 18446744073709551615) : InKit 18 1 a b := by
  have hM : Mo true = 18446744073709551616 := rfl
  have q := binR_bd true 4 a b ha0 (by omega) hb0 (by omega)
  have r := binR_bd true 6 a b ha0 (by omega) hb0 (by omega)
  have m := binR_bd true 2 (binR true 4 a b).2 b q.1 q.2 hb0 (by omega)
  have K := divu_kit true a b ha0 (by omega) hb0 (by omega)
  exact ⟨_, _, _, _, _, _, _, _, (ag_b64_4 a b ha0 ha hb0 hb).1, (ag_b64_4 a b ha0 ha hb0 hb).2, (ag_b64_6 a b ha0 ha hb0 hb).1, (ag_b64_2 _ b q.1 (by omega) hb0 hb).1, (ag_b64_0 _ _ m.1 (by omega) r.1 (by omega)).1, K.1, K.2⟩
end
/-- In the narrow width, of numbers that fit it. -/
theorem low_id (x : Int) (h0 : 0 ≤ x) (h : x < 4294967296) : x % 4294967296 = x := Int.emod_eq_of_lt h0 h
theorem n32_bin (k : Nat) (op x y : Int) (hx0 : 0 ≤ x) (hx : x < 4294967296) (hy0 : 0 ≤ y) (hy : y < 4294967296)
    (h : Agree2 op x y true (binR false k (x % 4294967296) (y % 4294967296)).1 (binR false k (x % 4294967296) (y % 4294967296)).2) : Agree2 op x y true (binR false k x y).1 (binR false k x y).2 := by
  rw [low_id x hx0 hx, low_id y hy0 hy] at h
  exact h
theorem inKit_32_0 (x y : Int) (hx0 : 0 ≤ x) (hx : x < 4294967296) (hy0 : 0 ≤ y) (hy : y < 4294967296) : InKit 0 0 x y := by
  have hM : Mo false = 4294967296 := rfl
  have q := binR_bd false 3 x y hx0 (by omega) hy0 (by omega)
  have r := binR_bd false 5 x y hx0 (by omega) hy0 (by omega)
  have m := binR_bd false 2 (binR false 3 x y).2 y q.1 q.2 hy0 (by omega)
  have K := div_kit false x y hx0 (by omega) hy0 (by omega)
  have A3 := n32_bin 3 109 x y hx0 hx hy0 hy (ag_b32_3 x y hx0 (by omega) hy0 (by omega))
  have A5 := n32_bin 5 111 x y hx0 hx hy0 hy (ag_b32_5 x y hx0 (by omega) hy0 (by omega))
  have A2 := n32_bin 2 108 _ y q.1 (by omega) hy0 hy (ag_b32_2 (binR false 3 x y).2 y q.1 (by omega) hy0 (by omega))
  have A0 := n32_bin 0 106 _ _ m.1 (by omega) r.1 (by omega) (ag_b32_0 (binR false 2 (binR false 3 x y).2 y).2 (binR false 5 x y).2 m.1 (by omega) r.1 (by omega))
  exact ⟨_, _, _, _, _, _, _, _, A3.1, A3.2, A5.1, A2.1, A0.1, K.1, K.2⟩
theorem inKit_32_1 (x y : Int) (hx0 : 0 ≤ x) (hx : x < 4294967296) (hy0 : 0 ≤ y) (hy : y < 4294967296) : InKit 0 1 x y := by
  have hM : Mo false = 4294967296 := rfl
  have q := binR_bd false 4 x y hx0 (by omega) hy0 (by omega)
  have r := binR_bd false 6 x y hx0 (by omega) hy0 (by omega)
  have m := binR_bd false 2 (binR false 4 x y).2 y q.1 q.2 hy0 (by omega)
  have K := divu_kit false x y hx0 (by omega) hy0 (by omega)
  have A3 := n32_bin 4 110 x y hx0 hx hy0 hy (ag_b32_4 x y hx0 (by omega) hy0 (by omega))
  have A5 := n32_bin 6 112 x y hx0 hx hy0 hy (ag_b32_6 x y hx0 (by omega) hy0 (by omega))
  have A2 := n32_bin 2 108 _ y q.1 (by omega) hy0 hy (ag_b32_2 (binR false 4 x y).2 y q.1 (by omega) hy0 (by omega))
  have A0 := n32_bin 0 106 _ _ m.1 (by omega) r.1 (by omega) (ag_b32_0 (binR false 2 (binR false 4 x y).2 y).2 (binR false 6 x y).2 m.1 (by omega) r.1 (by omega))
  exact ⟨_, _, _, _, _, _, _, _, A3.1, A3.2, A5.1, A2.1, A0.1, K.1, K.2⟩

theorem outKit_64 (A : Nat) (y : Int) (hA : A < 18446744073709551616) (hy0 : 0 ≤ y) (hy : y ≤ 18446744073709551615) : OutKit 18 1 A y := by
  have hM : Mo true = 18446744073709551616 := rfl
  have l := binR_bd true 13 A y (by omega) (by omega) hy0 (by omega)
  have R := rot_back true A y (by omega) (by omega) hy0
  have C := ones_comp 64 A hA
  have L1 := ones_le 64 A
  have L2 := ones_le 64 (2 ^ 64 - 1 - A)
  have hlt : 2 ^ 64 - 1 - A < 18446744073709551616 := by omega
  have ex : (binR true 9 A 18446744073709551615).2 = ((2 ^ 64 - 1 - A : Nat) : Int) := by
    show (((A : Int).toNat ^^^ (18446744073709551615 : Int).toNat : Nat) : Int) = _
    rw [Int.toNat_natCast, show (18446744073709551615 : Int).toNat = 2 ^ 64 - 1 from rfl, xor_ones 64 A hA]
  have X9 := (ag_b64_9 A 18446744073709551615 (by omega) (by omega) (by omega) (by omega)).1
  rw [ex] at X9
  have T := (ag_b64_14 (binR true 13 A y).2 y l.1 (by omega) hy0 hy).1
  rw [R] at T
  obtain ⟨X, hx⟩ : ∃ X : Nat, (A : Int) % 4294967296 = (X : Int) := ⟨A % 4294967296, by omega⟩
  obtain ⟨Z, hz⟩ : ∃ Z : Nat, ((2 ^ 64 - 1 - A : Nat) : Int) % 4294967296 = (Z : Int) := ⟨(2 ^ 64 - 1 - A) % 4294967296, by omega⟩
  exact ⟨_, _, _, _, (ag_b64_13 A y (by omega) (by omega) hy0 hy).1, T, (ag1_123 A X hA hx).1, X9, (ag1_123 (2 ^ 64 - 1 - A) Z hlt hz).1, by omega, by omega, by omega, by omega, by omega⟩
theorem outKit_32 (A : Nat) (y : Int) (hA : A < 4294967296) (hy0 : 0 ≤ y) (hy : y < 4294967296) : OutKit 0 0 A y := by
  have hM : Mo false = 4294967296 := rfl
  have l := binR_bd false 13 A y (by omega) (by omega) hy0 (by omega)
  have R := rot_back false A y (by omega) (by omega) hy0
  have C := ones_comp 32 A hA
  have L1 := ones_le 32 A
  have L2 := ones_le 32 (2 ^ 32 - 1 - A)
  have ex : (binR false 9 ((A : Int) % 4294967296) (18446744073709551615 % 4294967296)).2 = ((2 ^ 32 - 1 - A : Nat) : Int) := by
    show ((((A : Int) % 4294967296).toNat ^^^ ((18446744073709551615 : Int) % 4294967296).toNat : Nat) : Int) = _
    rw [show ((A : Int) % 4294967296).toNat = A by omega, show ((18446744073709551615 : Int) % 4294967296).toNat = 2 ^ 32 - 1 from rfl, xor_ones 32 A hA]
  have X9 := (ag_b32_9 A 18446744073709551615 (by omega) (by omega) (by omega) (by omega)).1
  rw [ex] at X9
  have A13 := n32_bin 13 119 A y (by omega) (by omega) hy0 hy (ag_b32_13 A y (by omega) (by omega) hy0 (by omega))
  have T := (n32_bin 14 120 _ y l.1 (by omega) hy0 hy (ag_b32_14 (binR false 13 A y).2 y l.1 (by omega) hy0 (by omega))).1
  rw [R] at T
  have P1 := (ag1_105 A A (by omega) (by omega)).1
  have P2 := (ag1_105 (2 ^ 32 - 1 - A) (2 ^ 32 - 1 - A) (by omega) (by omega)).1
  exact ⟨_, _, _, _, A13.1, T, P1, X9, P2, by omega, by omega, by omega, by omega, by omega⟩
end Go.Proofs.YtjiaainhieeepaaDoor
