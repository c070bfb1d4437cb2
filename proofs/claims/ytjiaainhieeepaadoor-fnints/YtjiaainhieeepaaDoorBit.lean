import Derived.Test.YtjiaainhieeepaaDoorSpec1
import Derived.Lib.BitFns
import Derived.Lib.TrailingZeros
set_option linter.unusedVariables false
namespace Go.Proofs.YtjiaainhieeepaaDoor
open Go.RowKit

/-- How many of the lowest n bits are 1. -/
def ones : Nat → Nat → Nat
  | 0, _ => 0
  | n + 1, x => ones n x + x / 2 ^ n % 2

theorem ones_low (n x : Nat) : ones (n + 1) x = x % 2 + ones n (x / 2) := by
  induction n with
  | zero => simp [ones]
  | succ n ih =>
    have e : x / 2 ^ (n + 1) = x / 2 / 2 ^ n := by rw [Nat.pow_succ, Nat.mul_comm, Nat.div_div_eq_div_mul]
    rw [ones, ih, e, ones]; omega
theorem ones_add (m n x : Nat) : ones (m + n) x = ones m (x % 2 ^ m) + ones n (x / 2 ^ m) := by
  induction m generalizing x with
  | zero => simp [ones]
  | succ m ih =>
    rw [show m + 1 + n = (m + n) + 1 by omega, ones_low, ones_low, ih]
    have e1 : x % 2 ^ (m + 1) % 2 = x % 2 := Nat.mod_mod_of_dvd x ⟨2 ^ m, by rw [Nat.pow_succ, Nat.mul_comm]⟩
    have e2 : x % 2 ^ (m + 1) / 2 = x / 2 % 2 ^ m := by rw [Nat.pow_succ, Nat.mul_comm, Nat.mod_mul_right_div_self]
    have e3 : x / 2 ^ (m + 1) = x / 2 / 2 ^ m := by rw [Nat.pow_succ, Nat.mul_comm, Nat.div_div_eq_div_mul]
    rw [e1, e2, e3]; omega
theorem ones_zero (n : Nat) : ones n 0 = 0 := by
  induction n with
  | zero => rfl
  | succ n ih => rw [ones, ih]; simp
theorem ones_ext (n m x : Nat) (h : x < 2 ^ n) : ones (n + m) x = ones n x := by
  rw [ones_add, Nat.mod_eq_of_lt h, Nat.div_eq_of_lt h, ones_zero]; omega
theorem ones_le (n x : Nat) : ones n x ≤ n := by
  induction n with
  | zero => simp [ones]
  | succ n ih => rw [ones]; omega
theorem ones_comp (n x : Nat) (h : x < 2 ^ n) : ones n x + ones n (2 ^ n - 1 - x) = n := by
  induction n generalizing x with
  | zero => simp [ones]
  | succ n ih =>
    rw [Nat.pow_succ] at h
    have := ih (x / 2) (by omega)
    rw [ones_low, ones_low, Nat.pow_succ]
    have e1 : (2 ^ n * 2 - 1 - x) % 2 = 1 - x % 2 := by omega
    have e2 : (2 ^ n * 2 - 1 - x) / 2 = 2 ^ n - 1 - x / 2 := by omega
    rw [e1, e2]; omega

theorem and_byte (X m q : Nat) (hm : m < 256) : X &&& (m + 256 * q) = (X % 256 &&& m) + 256 * (X / 256 &&& q) := by
  have a := Nat.and_mod_two_pow (a := X) (b := m + 256 * q) (n := 8)
  have b := Nat.and_div_two_pow (a := X) (b := m + 256 * q) (n := 8)
  have e1 : (m + 256 * q) % 2 ^ 8 = m := by omega
  have e2 : (m + 256 * q) / 2 ^ 8 = q := by omega
  rw [e1] at a
  rw [e2] at b
  have d := Nat.mod_add_div (X &&& (m + 256 * q)) (2 ^ 8)
  rw [a, b] at d
  exact d.symm

def m5 : Nat → Nat
  | 0 => 0
  | n + 1 => 0x55 + 256 * m5 n
def m3 : Nat → Nat
  | 0 => 0
  | n + 1 => 0x33 + 256 * m3 n
def mf : Nat → Nat
  | 0 => 0
  | n + 1 => 0x0f + 256 * mf n

def t1 (n x : Nat) : Nat := (x / 2 &&& m5 n) + (x &&& m5 n)
def t2 (n x : Nat) : Nat := (x / 4 &&& m3 n) + (x &&& m3 n)
def t3 (n x : Nat) : Nat := (x / 16 + x) &&& mf n
def t1b (b : Nat) : Nat := (b / 2 &&& 0x55) + (b &&& 0x55)
def t2b (b : Nat) : Nat := (b / 4 &&& 0x33) + (b &&& 0x33)

theorem k1 : ∀ b, b < 256 → ∀ t, t < 2 → (b / 2 + 128 * t) &&& 0x55 = b / 2 &&& 0x55 := by decide +kernel
theorem k2 : ∀ b, b < 256 → ∀ t, t < 4 → (b / 4 + 64 * t) &&& 0x33 = b / 4 &&& 0x33 := by decide +kernel
theorem b1 : ∀ b, b < 256 → t1b b < 256 := by decide +kernel
theorem b2 : ∀ b, b < 256 → t2b (t1b b) ≤ 68 ∧ t2b (t1b b) % 16 ≤ 4 ∧ (t2b (t1b b) / 16 + t2b (t1b b)) % 16 = ones 8 b := by decide +kernel
theorem k3 : ∀ s, s < 256 → s &&& 0x0f = s % 16 := by decide +kernel

theorem t1_succ (n x : Nat) : t1 (n + 1) x = t1b (x % 256) + 256 * t1 n (x / 256) := by
  unfold t1 t1b
  rw [show m5 (n + 1) = 0x55 + 256 * m5 n from rfl, and_byte _ _ _ (by decide), and_byte _ _ _ (by decide)]
  have e1 : x / 2 / 256 = x / 256 / 2 := by omega
  have e2 : x / 2 % 256 = x % 256 / 2 + 128 * (x / 256 % 2) := by omega
  rw [e1, e2, k1 _ (by omega) _ (by omega)]
  omega
theorem t2_succ (n x : Nat) : t2 (n + 1) x = t2b (x % 256) + 256 * t2 n (x / 256) := by
  unfold t2 t2b
  rw [show m3 (n + 1) = 0x33 + 256 * m3 n from rfl, and_byte _ _ _ (by decide), and_byte _ _ _ (by decide)]
  have e1 : x / 4 / 256 = x / 256 / 4 := by omega
  have e2 : x / 4 % 256 = x % 256 / 4 + 64 * (x / 256 % 4) := by omega
  rw [e1, e2, k2 _ (by omega) _ (by omega)]
  omega
theorem t12_succ (n x : Nat) : t2 (n + 1) (t1 (n + 1) x) = t2b (t1b (x % 256)) + 256 * t2 n (t1 n (x / 256)) := by
  have h := b1 (x % 256) (by omega)
  rw [t2_succ, t1_succ]
  have e1 : (t1b (x % 256) + 256 * t1 n (x / 256)) % 256 = t1b (x % 256) := by omega
  have e2 : (t1b (x % 256) + 256 * t1 n (x / 256)) / 256 = t1 n (x / 256) := by omega
  rw [e1, e2]
theorem t12_nib (n x : Nat) : t2 n (t1 n x) % 16 ≤ 4 := by
  cases n with
  | zero => simp [t2, m3]
  | succ n =>
    have h := b2 (x % 256) (by omega)
    rw [t12_succ]; omega
def pc (n x : Nat) : Nat := t3 n (t2 n (t1 n x))
theorem pc_succ (n x : Nat) : pc (n + 1) x = ones 8 (x % 256) + 256 * pc n (x / 256) := by
  unfold pc
  have hb := b2 (x % 256) (by omega)
  have hq := t12_nib n (x / 256)
  rw [t12_succ]
  generalize t2b (t1b (x % 256)) = p at *
  generalize t2 n (t1 n (x / 256)) = q at *
  unfold t3
  rw [show mf (n + 1) = 0x0f + 256 * mf n from rfl, and_byte _ _ _ (by decide)]
  have e1 : ((p + 256 * q) / 16 + (p + 256 * q)) % 256 = p / 16 + p + 16 * (q % 16) := by omega
  have e2 : ((p + 256 * q) / 16 + (p + 256 * q)) / 256 = q / 16 + q := by omega
  rw [e1, e2, k3 _ (by omega), ← hb.2.2]
  omega

theorem pc_zero (x : Nat) : pc 0 x = 0 := by simp [pc, t3, mf]
theorem fold_arith (o0 o1 o2 o3 o4 o5 o6 o7 y : Nat) (l0 : o0 ≤ 8) (l1 : o1 ≤ 8) (l2 : o2 ≤ 8) (l3 : o3 ≤ 8) (l4 : o4 ≤ 8) (l5 : o5 ≤ 8) (l6 : o6 ≤ 8) (l7 : o7 ≤ 8) (hy : y = o0 + 256 * (o1 + 256 * (o2 + 256 * (o3 + 256 * (o4 + 256 * (o5 + 256 * (o6 + 256 * (o7 + 256 * 0)))))))) : y ≤ 578721382704613384 ∧
    (y + y / 256 + (y + y / 256) / 65536 + (y + y / 256 + (y + y / 256) / 65536) / 4294967296) % 128 = o0 + (o1 + (o2 + (o3 + (o4 + (o5 + (o6 + o7)))))) := by
  refine ⟨by omega, ?_⟩
  have d1 : y / 256 = o1 + 256 * (o2 + 256 * (o3 + 256 * (o4 + 256 * (o5 + 256 * (o6 + 256 * o7))))) := by omega
  rw [d1]
  generalize hz : y + (o1 + 256 * (o2 + 256 * (o3 + 256 * (o4 + 256 * (o5 + 256 * (o6 + 256 * o7)))))) = z
  have z1 : z = (o0 + o1) + 256 * ((o1 + o2) + 256 * ((o2 + o3) + 256 * ((o3 + o4) + 256 * ((o4 + o5) + 256 * ((o5 + o6) + 256 * ((o6 + o7) + 256 * o7)))))) := by omega
  clear hz hy d1
  have d2 : z / 65536 = (o2 + o3) + 256 * ((o3 + o4) + 256 * ((o4 + o5) + 256 * ((o5 + o6) + 256 * ((o6 + o7) + 256 * o7)))) := by omega
  rw [d2]
  generalize hu : z + ((o2 + o3) + 256 * ((o3 + o4) + 256 * ((o4 + o5) + 256 * ((o5 + o6) + 256 * ((o6 + o7) + 256 * o7))))) = u
  have u1 : u = (o0 + o1 + o2 + o3) + 256 * ((o1 + o2 + o3 + o4) + 256 * ((o2 + o3 + o4 + o5) + 256 * ((o3 + o4 + o5 + o6) + 256 * ((o4 + o5 + o6 + o7) + 256 * ((o5 + o6 + o7) + 256 * ((o6 + o7) + 256 * o7)))))) := by omega
  clear hu z1 d2
  have d3 : u / 4294967296 = (o4 + o5 + o6 + o7) + 256 * ((o5 + o6 + o7) + 256 * ((o6 + o7) + 256 * o7)) := by omega
  rw [d3]
  omega
theorem ones_bytes (x : Nat) : ones 64 x = ones 8 (x % 256) + (ones 8 (x / 256 % 256) + (ones 8 (x / 256 / 256 % 256) + (ones 8 (x / 256 / 256 / 256 % 256) + (ones 8 (x / 256 / 256 / 256 / 256 % 256) + (ones 8 (x / 256 / 256 / 256 / 256 / 256 % 256) + (ones 8 (x / 256 / 256 / 256 / 256 / 256 / 256 % 256) + ones 8 (x / 256 / 256 / 256 / 256 / 256 / 256 / 256 % 256))))))) := by
  have a : ∀ n z, ones (8 + n) z = ones 8 (z % 256) + ones n (z / 256) := fun n z => ones_add 8 n z
  have a56 : ∀ z, ones 64 z = ones 8 (z % 256) + ones 56 (z / 256) := fun z => a 56 z
  have a48 : ∀ z, ones 56 z = ones 8 (z % 256) + ones 48 (z / 256) := fun z => a 48 z
  have a40 : ∀ z, ones 48 z = ones 8 (z % 256) + ones 40 (z / 256) := fun z => a 40 z
  have a32 : ∀ z, ones 40 z = ones 8 (z % 256) + ones 32 (z / 256) := fun z => a 32 z
  have a24 : ∀ z, ones 32 z = ones 8 (z % 256) + ones 24 (z / 256) := fun z => a 24 z
  have a16 : ∀ z, ones 24 z = ones 8 (z % 256) + ones 16 (z / 256) := fun z => a 16 z
  have a8 : ∀ z, ones 16 z = ones 8 (z % 256) + ones 8 (z / 256) := fun z => a 8 z
  have a0 : ∀ z, ones 8 z = ones 8 (z % 256) := fun z => by have h := ones_add 8 0 z; rw [h]; rfl
  rw [a56, a48, a40, a32, a24, a16, a8, a0 (x / 256 / 256 / 256 / 256 / 256 / 256 / 256)]
theorem fold_pc (x : Nat) : pc 8 x ≤ 578721382704613384 ∧
    (pc 8 x + pc 8 x / 256 + (pc 8 x + pc 8 x / 256) / 65536 + (pc 8 x + pc 8 x / 256 + (pc 8 x + pc 8 x / 256) / 65536) / 4294967296) % 128 = ones 64 x := by
  rw [ones_bytes]
  refine fold_arith _ _ _ _ _ _ _ _ (pc 8 x) (ones_le 8 _) (ones_le 8 _) (ones_le 8 _) (ones_le 8 _) (ones_le 8 _) (ones_le 8 _) (ones_le 8 _) (ones_le 8 _) ?_
  rw [pc_succ, pc_succ, pc_succ, pc_succ, pc_succ, pc_succ, pc_succ, pc_succ, pc_zero]

/-- The bits above the highest 1, of n, after k of them. -/
def highN (n : Nat) : Nat → Nat → Nat
  | 0, _ => n
  | k + 1, x => if x / 2 ^ k % 2 = 1 then n - 1 - k else highN n k x
def lowN (n : Nat) : Nat → Nat → Nat
  | 0, _ => n
  | k + 1, x => if x / 2 ^ k % 2 = 1 ∧ lowN n k x = n then k else lowN n k x

theorem mod_succ (x k : Nat) : x % 2 ^ (k + 1) = x % 2 ^ k + 2 ^ k * (x / 2 ^ k % 2) := by rw [Nat.pow_succ, Nat.mod_mul]
theorem high_at (n k x : Nat) (hk : k ≤ n) (hn : n ≤ 64) : highN n k x + Lib.bitLen (x % 2 ^ k) = n := by
  induction k with
  | zero => rw [Nat.pow_zero, Nat.mod_one]; rfl
  | succ k ih =>
    have ih := ih (by omega)
    have hlt : x % 2 ^ k < 2 ^ k := Nat.mod_lt _ (Nat.two_pow_pos k)
    simp only [highN]
    split
    · rename_i h
      rw [mod_succ, h]
      have hle : 2 ^ (k + 1) ≤ 2 ^ 64 := Nat.pow_le_pow_right (by omega) (by omega)
      rw [Nat.pow_succ] at hle
      rw [Lib.bitLen_shift k (x % 2 ^ k + 2 ^ k * 1) (by omega) (by omega), Nat.mul_one, Nat.add_div_right _ (Nat.two_pow_pos k), Nat.div_eq_of_lt hlt, show Lib.bitLen (Nat.succ 0) = 1 by decide +kernel]
      omega
    · rename_i h
      have h0 : x / 2 ^ k % 2 = 0 := by omega
      rw [mod_succ, h0, Nat.mul_zero, Nat.add_zero]
      exact ih
theorem low_at (n k x : Nat) (hk : k ≤ n) : (lowN n k x = n ∧ x % 2 ^ k = 0) ∨ (lowN n k x < k ∧ x % 2 ^ lowN n k x = 0 ∧ x / 2 ^ lowN n k x % 2 = 1) := by
  induction k with
  | zero => left; exact ⟨rfl, by rw [Nat.pow_zero, Nat.mod_one]⟩
  | succ k ih =>
    have ih := ih (by omega)
    simp only [lowN]
    split
    · rename_i h
      right
      rcases ih with ⟨a, b⟩ | ⟨a, b, c⟩
      · exact ⟨by omega, b, h.1⟩
      · omega
    · rename_i h
      rcases ih with ⟨a, b⟩ | ⟨a, b, c⟩
      · left
        refine ⟨a, ?_⟩
        have h0 : x / 2 ^ k % 2 = 0 := by omega
        rw [mod_succ, h0, b]; simp
      · right; exact ⟨by omega, b, c⟩
theorem low_ctz (n x : Nat) (hn : n ≤ 64) (hx : x < 2 ^ n) : lowN n n x = min n (Lib.ctz 64 x) := by
  have h := low_at n n x (Nat.le_refl _)
  by_cases h0 : x = 0
  · subst h0
    rcases h with ⟨a, b⟩ | ⟨a, b, c⟩
    · rw [a]; simp [Lib.ctz]; omega
    · simp at c
  · rcases h with ⟨a, b⟩ | ⟨a, b, c⟩
    · rw [Nat.mod_eq_of_lt hx] at b; omega
    · have h64 : x < 2 ^ 64 := Nat.lt_of_lt_of_le hx (Nat.pow_le_pow_right (by omega) hn)
      obtain ⟨m, hm, hc⟩ := Lib.ctzFrom_spec 64 x (by omega) h64
      have e : Lib.ctz 64 x = Lib.ctzFrom 64 x := by unfold Lib.ctz; rw [if_neg h0]
      rw [e]
      generalize Lib.ctzFrom 64 x = C at *
      generalize lowN n n x = L at *
      have hLC : L = C := by
        rcases Nat.lt_trichotomy L C with h | h | h
        · exfalso
          obtain ⟨d, hd⟩ : ∃ d, C = L + (d + 1) := ⟨C - L - 1, by omega⟩
          have : x / 2 ^ L = 2 * (2 ^ d * (2 * m + 1)) := by
            rw [hm, hd, Nat.pow_add, Nat.mul_assoc, Nat.mul_div_cancel_left _ (Nat.two_pow_pos L), Nat.pow_succ, Nat.mul_comm (2 ^ d) 2, Nat.mul_assoc]
          omega
        · exact h
        · exfalso
          obtain ⟨d, hd⟩ : ∃ d, L = C + (d + 1) := ⟨L - C - 1, by omega⟩
          have hdv : 2 ^ L ∣ x := Nat.dvd_of_mod_eq_zero b
          obtain ⟨q, hq⟩ := hdv
          rw [hd, Nat.pow_add, Nat.mul_assoc] at hq
          have : 2 * m + 1 = 2 ^ (d + 1) * q := Nat.eq_of_mul_eq_mul_left (Nat.two_pow_pos C) (by rw [← hm, hq])
          rw [Nat.pow_succ, Nat.mul_comm (2 ^ d) 2, Nat.mul_assoc] at this
          omega
      rw [hLC]
      have : C < n := by omega
      omega
end Go.Proofs.YtjiaainhieeepaaDoor
