import Derived.WalkKit
import Derived.Laws.BitsAllLaws
set_option linter.all false
namespace Go.Proofs.Ytfaajmhmcdoibaa
open Go.RowKit

/-- The bytes as cells. -/
abbrev U (xs : List Int) : List Value := xs.map (Value.int .u8)

/-- The unsigned writing, with fuel. -/
def lebU : Nat → Int → List Int
  | 0, x => [x]
  | f + 1, x => if x < 128 then [x] else (x % 128 + 128) :: lebU f (x / 128)

/-- The signed writing, with fuel. -/
def lebS : Nat → Int → List Int
  | 0, x => [x % 128]
  | f + 1, x => if -64 ≤ x ∧ x ≤ 63 then [x % 128] else (x % 128 + 128) :: lebS f (x / 128)

theorem lebU_small (f : Nat) (y : Int) (h : y < 128) : lebU f y = [y] := by cases f <;> simp [lebU, h]
theorem lebU_step (f : Nat) (y : Int) (h : 128 ≤ y) : lebU (f + 1) y = (y % 128 + 128) :: lebU f (y / 128) := by
  simp [lebU]; omega
theorem lebS_small (f : Nat) (y : Int) (h : -64 ≤ y) (h' : y ≤ 63) : lebS f y = [y % 128] := by cases f <;> simp [lebS, h, h']
theorem lebS_step (f : Nat) (y : Int) (h : y < -64 ∨ 63 < y) : lebS (f + 1) y = (y % 128 + 128) :: lebS f (y / 128) := by
  simp [lebS]; omega

/-- Where y stands so many rounds ahead of the end. -/
def fitU (f : Nat) (y : Int) : Prop := y < 128 ^ (f + 1)
theorem fitU_zero {y : Int} (h : fitU 0 y) : y < 128 := by unfold fitU at h; simpa using h
theorem fitU_step {f : Nat} {y : Int} (h : fitU (f + 1) y) : fitU f (y / 128) := by
  unfold fitU at *
  rw [Int.pow_succ] at h
  exact Int.ediv_lt_of_lt_mul (by omega) h
theorem fitU_start {y : Int} (h : y ≤ 18446744073709551615) : fitU 9 y := by
  unfold fitU
  have e : (128 : Int) ^ (9 + 1) = 1180591620717411303424 := by decide
  rw [e]; omega

def fitS (f : Nat) (y : Int) : Prop := -(128 ^ f * 64) ≤ y ∧ y < 128 ^ f * 64
theorem fitS_zero {y : Int} (h : fitS 0 y) : -64 ≤ y ∧ y ≤ 63 := by unfold fitS at h; simp at h; omega
theorem fitS_step {f : Nat} {y : Int} (h : fitS (f + 1) y) : fitS f (y / 128) := by
  unfold fitS at *
  rw [Int.pow_succ] at h
  generalize (128 : Int) ^ f = p at *
  omega
theorem fitS_start {y : Int} (h : -9223372036854775808 ≤ y) (h' : y ≤ 9223372036854775807) : fitS 9 y := by
  unfold fitS
  have e : (128 : Int) ^ 9 = 9223372036854775808 := by decide
  rw [e]; omega

theorem lebU_len (f : Nat) (y : Int) : 1 ≤ (lebU f y).length ∧ (lebU f y).length ≤ f + 1 := by
  induction f generalizing y with
  | zero => simp [lebU]
  | succ f ih => simp only [lebU]; split <;> simp; exact (ih _).2
theorem lebS_len (f : Nat) (y : Int) : 1 ≤ (lebS f y).length ∧ (lebS f y).length ≤ f + 1 := by
  induction f generalizing y with
  | zero => simp [lebS]
  | succ f ih => simp only [lebS]; split <;> simp; exact (ih _).2

theorem lebU_bytes (f : Nat) (y : Int) (h0 : 0 ≤ y) (h : fitU f y) : ∀ b ∈ lebU f y, 0 ≤ b ∧ b ≤ 255 := by
  induction f generalizing y with
  | zero => have := fitU_zero h; simp [lebU]; omega
  | succ f ih =>
    intro b hb
    simp only [lebU] at hb
    split at hb
    · simp at hb; omega
    · simp at hb
      rcases hb with rfl | hb
      · omega
      · exact ih (y / 128) (by omega) (fitU_step h) b hb
theorem lebS_bytes (f : Nat) (y : Int) : ∀ b ∈ lebS f y, 0 ≤ b ∧ b ≤ 255 := by
  induction f generalizing y with
  | zero => simp [lebS]; omega
  | succ f ih =>
    intro b hb
    simp only [lebS] at hb
    split at hb
    · simp at hb; omega
    · simp at hb
      rcases hb with rfl | hb
      · omega
      · exact ih (y / 128) b hb

/-- lebCut at uint64 and at int64. -/
def cutU (x wd : Int) : Int := if 64 ≤ wd then x else IntKind.u64.wrap (x * 2 ^ (64 - wd).toNat) / 2 ^ (64 - wd).toNat
def cutS (x wd : Int) : Int := if 64 ≤ wd then x else wrap64 (x * 2 ^ (64 - wd).toNat) / 2 ^ (64 - wd).toNat

theorem cutU_7 (x : Int) : cutU x 7 = x % 128 := by
  unfold cutU
  rw [if_neg (by omega), IntKind.wrap_u64]
  have e : (2 : Int) ^ (64 - (7 : Int)).toNat = 144115188075855872 := by decide
  rw [e]; omega
theorem cutS_7 (x : Int) : cutS x 7 = (x + 64) % 128 - 64 := by
  unfold cutS wrap64
  rw [if_neg (by omega)]
  have e : (2 : Int) ^ (64 - (7 : Int)).toNat = 144115188075855872 := by decide
  rw [e]; omega

theorem or128 (y : Int) : bits .or .u8 (y % 256) 128 = y % 128 + 128 := by
  rw [u8_or _ _ (by omega) (by omega) (by omega) (by omega)]
  have h : ∀ n : Nat, n < 256 → n ||| 128 = n % 128 + 128 := by decide +kernel
  have := h (y % 256).toNat (by omega)
  show (((y % 256).toNat ||| 128 : Nat) : Int) = _
  omega
theorem andNot128 (y : Int) : bits .andNot .u8 (y % 256) 128 = y % 128 := by
  rw [u8_andNot _ _ (by omega) (by omega) (by omega) (by omega)]
  have h : ∀ n : Nat, n < 256 → n &&& (255 - 128) = n % 128 := by decide +kernel
  have := h (y % 256).toNat (by omega)
  show (((y % 256).toNat &&& (255 - 128) : Nat) : Int) = _
  omega
theorem u64w (y : Int) : 0 ≤ IntKind.u64.wrap y ∧ IntKind.u64.wrap y ≤ 18446744073709551615 ∧ IntKind.u64.wrap y % 128 = y % 128 := by
  rw [IntKind.wrap_u64]; omega
theorem andNot128' (y : Int) (h0 : 0 ≤ y) (h : y < 128) : bits .andNot .u8 y 128 = y := by
  have := andNot128 y
  rw [show y % 256 = y by omega] at this
  omega
end Go.Proofs.Ytfaajmhmcdoibaa
