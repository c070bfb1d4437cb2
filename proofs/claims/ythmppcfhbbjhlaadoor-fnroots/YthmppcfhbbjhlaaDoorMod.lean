import Derived.Test.YthmppcfhbbjhlaaDoorBase
import Derived.Laws.BitsAllLaws
set_option linter.all false
namespace Go.Proofs.YthmppcfhbbjhlaaDoor
open Go.RowKit

def Mo (wd : Bool) : Int := if wd then 18446744073709551616 else 4294967296
def Nn (wd : Bool) : Int := if wd then 64 else 32
def hf (wd : Bool) : Int := if wd then 9223372036854775808 else 2147483648
def sg (wd : Bool) (x : Int) : Int := if wd then wrap64 x else wrap32 x

/-- A turn to the left, a place a round. -/
def rot (wd : Bool) : Nat → Int → Int
  | 0, a => a
  | s + 1, a => rot wd s a * 2 % Mo wd + rot wd s a / hf wd

/-- The comparison number k. -/
def cmpB (wd : Bool) (k : Nat) (a b : Int) : Bool :=
  match k with
  | 0 => a == b
  | 1 => a != b
  | 2 => decide (sg wd a < sg wd b)
  | 3 => decide (a < b)
  | 4 => decide (sg wd b < sg wd a)
  | 5 => decide (b < a)
  | 6 => decide (sg wd a ≤ sg wd b)
  | 7 => decide (a ≤ b)
  | 8 => decide (sg wd b ≤ sg wd a)
  | _ => decide (b ≤ a)

/-- The operation number k: the trap, the value. -/
def binR (wd : Bool) (k : Nat) (a b : Int) : Int × Int :=
  match k with
  | 0 => (0, (a + b) % Mo wd)
  | 1 => (0, (a - b) % Mo wd)
  | 2 => (0, a * b % Mo wd)
  | 3 => if b = 0 then (2, 0) else if a = hf wd ∧ b = Mo wd - 1 then (3, 0) else (0, (sg wd a).tdiv (sg wd b) % Mo wd)
  | 4 => if b = 0 then (2, 0) else (0, a / b)
  | 5 => if b = 0 then (2, 0) else (0, (sg wd a).tmod (sg wd b) % Mo wd)
  | 6 => if b = 0 then (2, 0) else (0, a % b)
  | 7 => (0, ((a.toNat &&& b.toNat : Nat) : Int))
  | 8 => (0, ((a.toNat ||| b.toNat : Nat) : Int))
  | 9 => (0, ((a.toNat ^^^ b.toNat : Nat) : Int))
  | 10 => (0, a * 2 ^ (b % Nn wd).toNat % Mo wd)
  | 11 => (0, sg wd a / 2 ^ (b % Nn wd).toNat % Mo wd)
  | 12 => (0, a / 2 ^ (b % Nn wd).toNat)
  | 13 => (0, rot wd (b % Nn wd).toNat a)
  | _ => (0, rot wd ((Nn wd - b % Nn wd) % Nn wd).toNat a)

theorem hf_pos (wd : Bool) : 0 < hf wd := by cases wd <;> decide
theorem Mo_hf (wd : Bool) : Mo wd = 2 * hf wd := by cases wd <;> decide
theorem rot_bd (wd : Bool) (s : Nat) (a : Int) (h0 : 0 ≤ a) (h1 : a < Mo wd) : 0 ≤ rot wd s a ∧ rot wd s a < Mo wd := by
  induction s with
  | zero => exact ⟨h0, h1⟩
  | succ s ih =>
    have e := Mo_hf wd
    have p := hf_pos wd
    simp only [rot]
    obtain ⟨i0, i1⟩ := ih
    cases wd
    · simp only [Mo, hf] at *; simp at *; omega
    · simp only [Mo, hf] at *; simp at *; omega

theorem sg_bd (wd : Bool) (x : Int) : -hf wd ≤ sg wd x ∧ sg wd x < hf wd := by
  cases wd
  · simp only [sg, hf, wrap32]; simp; omega
  · simp only [sg, hf, wrap64]; simp; omega
theorem sg_mod (wd : Bool) (x : Int) : (sg wd x - x) % Mo wd = 0 := by
  cases wd
  · simp only [sg, Mo, wrap32]; simp; omega
  · simp only [sg, Mo, wrap64]; simp; omega

/-- The turn in one step. -/
theorem rot_step (P R q r t : Int) (hP : 0 < P) (hR : 0 < R) (hq0 : 0 ≤ q) (hq : q < P) (hr0 : 0 ≤ r) (hr : r < R) :
    ((t * R + r) * P + q) / (P * R) = t ∧ ((t * R + r) * P + q) * 2 % (2 * (P * R)) = (r * P + q) * 2 := by
  have hPR : 0 < P * R := Int.mul_pos hP hR
  have hm : r * P + q < P * R := by
    have h1 : (r + 1) * P ≤ R * P := Int.mul_le_mul_of_nonneg_right (by omega) (by omega)
    rw [Int.add_mul, Int.one_mul, Int.mul_comm R P] at h1
    omega
  have hm0 : 0 ≤ r * P + q := by have := Int.mul_nonneg hr0 (show 0 ≤ P by omega); omega
  have e : (t * R + r) * P + q = (r * P + q) + t * (P * R) := by
    rw [Int.add_mul, Int.mul_assoc, Int.mul_comm R P]; omega
  rw [e]
  generalize r * P + q = z at *
  generalize P * R = y at *
  constructor
  · rw [Int.add_mul_ediv_right _ _ (by omega), Int.ediv_eq_zero_of_lt hm0 hm]; omega
  · rw [show (z + t * y) * 2 = z * 2 + (2 * y) * t by rw [Int.add_mul, Int.mul_comm t y, Int.mul_assoc, Int.mul_comm t 2, ← Int.mul_assoc, Int.mul_comm y 2], Int.add_mul_emod_self_left]
    exact Int.emod_eq_of_lt (by omega) (by omega)

def Nw (wd : Bool) : Nat := if wd then 64 else 32
theorem Mo_pow (wd : Bool) : Mo wd = 2 ^ Nw wd := by cases wd <;> decide
theorem Nn_Nw (wd : Bool) : Nn wd = (Nw wd : Int) := by cases wd <;> decide

theorem pow_split (wd : Bool) (s : Nat) (hs : s ≤ Nw wd) : Mo wd = 2 ^ s * 2 ^ (Nw wd - s) := by
  rw [Mo_pow, ← Int.pow_add, show s + (Nw wd - s) = Nw wd by omega]

theorem rot_closed (wd : Bool) (s : Nat) (a : Int) (h0 : 0 ≤ a) (h1 : a < Mo wd) (hs : s ≤ Nw wd) :
    rot wd s a = a % 2 ^ (Nw wd - s) * 2 ^ s + a / 2 ^ (Nw wd - s) := by
  induction s with
  | zero =>
    simp only [rot, Nat.sub_zero, Int.pow_zero, Int.mul_one]
    rw [← Mo_pow, Int.emod_eq_of_lt h0 h1, Int.ediv_eq_zero_of_lt h0 h1]; omega
  | succ s ih =>
    have ih := ih (by omega)
    have hM := pow_split wd s (by omega)
    have hM2 := Mo_hf wd
    obtain ⟨m, hm⟩ : ∃ m, Nw wd - s = m + 1 := ⟨Nw wd - s - 1, by omega⟩
    have hm' : Nw wd - (s + 1) = m := by omega
    rw [hm, Int.pow_succ] at ih hM
    rw [hm', Int.pow_succ]
    simp only [rot]
    have hP : (0 : Int) < 2 ^ s := Int.pow_pos (by omega)
    have hR : (0 : Int) < 2 ^ m := Int.pow_pos (by omega)
    generalize (2 : Int) ^ s = P at *
    generalize (2 : Int) ^ m = R at *
    have e1 : a / (R * 2) = a / R / 2 := by rw [Int.ediv_ediv_of_nonneg (by omega)]
    have e2 : a % (R * 2) = a / R % 2 * R + a % R := by
      have d1 := Int.emod_def a (R * 2)
      have d2 := Int.emod_def a R
      rw [e1] at d1
      have d3 : a / R = 2 * (a / R / 2) + a / R % 2 := by omega
      generalize a / R % 2 = t at *
      generalize a / R / 2 = q at *
      rw [d3, Int.mul_add] at d2
      rw [d1, d2, Int.mul_assoc, Int.mul_comm t R]; omega
    have hfe : hf wd = P * R := by
      have : P * (R * 2) = 2 * (P * R) := by rw [← Int.mul_assoc]; omega
      omega
    have hq0 : 0 ≤ a / R / 2 := by
      have := Int.ediv_nonneg h0 (show 0 ≤ R by omega); omega
    have hq : a / R / 2 < P := by
      rw [← e1]; exact Int.ediv_lt_of_lt_mul (by omega) (by rw [hM] at h1; exact h1)
    have hr0 := Int.emod_nonneg a (show R ≠ 0 by omega)
    have hr := Int.emod_lt_of_pos a hR
    have S := rot_step P R (a / R / 2) (a % R) (a / R % 2) hP hR hq0 hq hr0 hr
    rw [ih, hM2, hfe, e2, e1, S.1, S.2]
    have : a % R * (P * 2) = a % R * P * 2 := by rw [Int.mul_assoc]
    omega

theorem rot_add (wd : Bool) (s t : Nat) (a : Int) : rot wd (s + t) a = rot wd t (rot wd s a) := by
  induction t with
  | zero => rfl
  | succ t ih =>
    show rot wd (s + t) a * 2 % Mo wd + rot wd (s + t) a / hf wd = _
    rw [ih]; rfl
theorem rot_all (wd : Bool) (a : Int) (h0 : 0 ≤ a) (h1 : a < Mo wd) : rot wd (Nw wd) a = a := by
  rw [rot_closed wd _ a h0 h1 (Nat.le_refl _)]; simp

theorem or_sum (x y : Int) (s : Nat) (hx : 0 ≤ x) (hy : 0 ≤ y) (hlt : y < 2 ^ s) : (((x * 2 ^ s).toNat ||| y.toNat : Nat) : Int) = x * 2 ^ s + y := by
  obtain ⟨X, rfl⟩ := Int.eq_ofNat_of_zero_le hx
  obtain ⟨Y, rfl⟩ := Int.eq_ofNat_of_zero_le hy
  have h : Y < 2 ^ s := by
    have e : ((2 ^ s : Nat) : Int) = (2 : Int) ^ s := by simp
    omega
  have e : ((X : Int) * 2 ^ s) = ((2 ^ s * X : Nat) : Int) := by simp [Int.mul_comm]
  rw [e, Int.toNat_natCast, Int.toNat_natCast, ← Nat.two_pow_add_eq_or_of_lt h]
  omega

theorem mul_mod_pow (wd : Bool) (s : Nat) (a : Int) (hs : s ≤ Nw wd) : a * 2 ^ s % Mo wd = a % 2 ^ (Nw wd - s) * 2 ^ s := by
  rw [pow_split wd s hs, Int.mul_comm a, Int.mul_emod_mul_of_pos _ _ (Int.pow_pos (by omega)), Int.mul_comm]

theorem turn_closed (wd : Bool) (s : Nat) (a : Int) (h0 : 0 ≤ a) (h1 : a < Mo wd) (hs : s ≤ Nw wd) :
    (((a * 2 ^ s % Mo wd).toNat ||| (a / 2 ^ (Nw wd - s)).toNat : Nat) : Int) = rot wd s a := by
  rw [rot_closed wd s a h0 h1 hs, mul_mod_pow wd s a hs]
  have hR : (0 : Int) < 2 ^ (Nw wd - s) := Int.pow_pos (by omega)
  refine or_sum _ _ _ (Int.emod_nonneg a (by omega)) (Int.ediv_nonneg h0 (by omega)) ?_
  have hM := pow_split wd s hs
  exact Int.ediv_lt_of_lt_mul hR (by rw [← hM]; exact h1)
end Go.Proofs.YthmppcfhbbjhlaaDoor
