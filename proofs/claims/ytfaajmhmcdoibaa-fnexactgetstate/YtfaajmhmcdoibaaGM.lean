import Derived.Test.YtfaajmhmcdoibaaMath
import Derived.Laws.BitsLemmas
set_option linter.all false
set_option linter.unusedVariables false
namespace Go.Proofs.Ytfaajmhmcdoibaa.By
open Go.RowKit
set_option maxRecDepth 100000


def P2 (n : Int) : Int := 2 ^ n.toNat
theorem P2_nat (k : Nat) : P2 (7 * (k : Int)) = 2 ^ (7 * k) := by unfold P2; rw [show (7 * (k : Int)).toNat = 7 * k by omega]
theorem P2_pos (n : Int) : 1 ≤ P2 n := by unfold P2; have := Int.pow_pos (n := (2 : Int)) (m := n.toNat) (by omega); omega
theorem P2_succ (n : Int) (h : 0 ≤ n) : P2 (n + 1) = 2 * P2 n := by
  unfold P2; rw [show (n + 1).toNat = n.toNat + 1 by omega, Int.pow_succ]; omega
theorem P2_7 (n : Int) (h : 0 ≤ n) : P2 (n + 7) = 128 * P2 n := by
  unfold P2; rw [show (n + 7).toNat = n.toNat + 7 by omega, Int.pow_add]; omega
theorem P2_le {m n : Int} (h0 : m ≤ n) : P2 m ≤ P2 n := by
  unfold P2
  have h : 2 ^ m.toNat ≤ 2 ^ n.toNat := Nat.pow_le_pow_right (by omega) (by omega)
  have h' : ((2 ^ m.toNat : Nat) : Int) ≤ ((2 ^ n.toNat : Nat) : Int) := by omega
  simpa using h'
theorem P2_63 {n : Int} (h : n ≤ 63) : P2 n ≤ 9223372036854775808 := by
  have := P2_le h; rw [show P2 63 = 9223372036854775808 by decide] at this; exact this
theorem P2_62 {n : Int} (h : n ≤ 62) : P2 n ≤ 4611686018427387904 := by
  have := P2_le h; rw [show P2 62 = 4611686018427387904 by decide] at this; exact this
theorem P2_56 {n : Int} (h : n ≤ 56) : P2 n ≤ 72057594037927936 := by
  have := P2_le h; rw [show P2 56 = 72057594037927936 by decide] at this; exact this

/-- Whether a last byte's upper bits may be as they are. -/
def rok (s : Bool) (c u : Int) : Bool :=
  if 7 ≤ u then true else if s then (c % 128 / P2 (u - 1) == 0) || (c % 128 / P2 (u - 1) == P2 (8 - u) - 1) else c % 128 / P2 u == 0

/-- What is wrong with a byte. -/
def lastE (s : Bool) (c room : Int) : Int := if 7 < room then 0 else if 128 ≤ c then 2 else if rok s c room then 0 else 3

theorem rokU_nat : ∀ c : Nat, c < 128 → ∀ u : Nat, u < 8 → 1 ≤ u → (cutU (cutU c 7) u != cutU c 7) = !rok false c u := by decide +kernel
theorem rokS_nat : ∀ c : Nat, c < 128 → ∀ u : Nat, u < 8 → 1 ≤ u → (cutS (cutS c 7) u != cutS c 7) = !rok true c u := by decide +kernel
theorem rokU (c u : Int) (h0 : 0 ≤ c) (h1 : c < 128) (h2 : 1 ≤ u) (h3 : u ≤ 7) : (cutU (cutU c 7) u != cutU c 7) = !rok false c u := by
  obtain ⟨C, rfl⟩ := Int.eq_ofNat_of_zero_le h0
  obtain ⟨V, rfl⟩ := Int.eq_ofNat_of_zero_le (show 0 ≤ u by omega)
  exact rokU_nat C (by omega) V (by omega) (by omega)
theorem rokS (c u : Int) (h0 : 0 ≤ c) (h1 : c < 128) (h2 : 1 ≤ u) (h3 : u ≤ 7) : (cutS (cutS c 7) u != cutS c 7) = !rok true c u := by
  obtain ⟨C, rfl⟩ := Int.eq_ofNat_of_zero_le h0
  obtain ⟨V, rfl⟩ := Int.eq_ofNat_of_zero_le (show 0 ≤ u by omega)
  exact rokS_nat C (by omega) V (by omega) (by omega)
theorem rok1U_nat : ∀ c : Nat, c < 128 → rok false c 1 = true → c ≤ 1 := by decide +kernel
theorem rok1S_nat : ∀ c : Nat, c < 128 → rok true c 1 = true → c = 0 ∨ c = 127 := by decide +kernel
theorem rok1U (c : Int) (h0 : 0 ≤ c) (h1 : c < 128) (h : rok false c 1 = true) : c ≤ 1 := by
  obtain ⟨C, rfl⟩ := Int.eq_ofNat_of_zero_le h0
  have := rok1U_nat C (by omega) h; omega
theorem rok1S (c : Int) (h0 : 0 ≤ c) (h1 : c < 128) (h : rok true c 1 = true) : c = 0 ∨ c = 127 := by
  obtain ⟨C, rfl⟩ := Int.eq_ofNat_of_zero_le h0
  have := rok1S_nat C (by omega) h; omega

/-- The value at the last byte. -/
def fin (s : Bool) (a c : Int) (k : Nat) : Int := if s = true ∧ 64 ≤ c then (a - P2 (7 * (k : Int) + 7)) % 18446744073709551616 else a % 18446744073709551616

/-- The reading from byte k on. -/
def getR (s : Bool) (bs : List Int) (p : Nat) (B : Int) : Nat → Nat → Int → Int × Int × Int
  | 0, _, _ => (0, 0, 0)
  | f + 1, k, acc =>
    if bs.length ≤ p + k then (1, 0, bs.length)
    else if B - 7 * (k : Int) ≤ 7 ∧ 128 ≤ bs.getD (p + k) 0 then (2, 0, (p : Int) + k + 1)
    else if B - 7 * (k : Int) ≤ 7 ∧ rok s (bs.getD (p + k) 0) (B - 7 * (k : Int)) = false then (3, 0, (p : Int) + k + 1)
    else if bs.getD (p + k) 0 < 128 then (0, fin s (acc + bs.getD (p + k) 0 % 128 * P2 (7 * (k : Int))) (bs.getD (p + k) 0) k, (p : Int) + k + 1)
    else getR s bs p B f (k + 1) (acc + bs.getD (p + k) 0 % 128 * P2 (7 * (k : Int)))

/-- The widths that are none count for 64. -/
def normB (b : Int) : Int := if 1 ≤ b ∧ b ≤ 64 then b else 64
theorem normB_bd (b : Int) : 1 ≤ normB b ∧ normB b ≤ 64 := by unfold normB; omega

/-- The reading at a place. -/
def getA (s : Bool) (bs : List Int) (a b : Int) : Int × Int × Int :=
  if 0 ≤ a ∧ a ≤ bs.length then getR s bs a.toNat (normB b) 10 0 0 else (1, 0, bs.length)

section
variable {s : Bool} {bs : List Int} {p f k : Nat} {B acc : Int}
theorem getR_short (h : bs.length ≤ p + k) : getR s bs p B (f + 1) k acc = (1, 0, (bs.length : Int)) := by
  simp only [getR]; rw [if_pos h]
theorem getR_long (h : p + k < bs.length) (hr : B - 7 * (k : Int) ≤ 7) (hc : 128 ≤ bs.getD (p + k) 0) : getR s bs p B (f + 1) k acc = (2, 0, (p : Int) + k + 1) := by
  simp only [getR]; rw [if_neg (by omega), if_pos ⟨hr, hc⟩]
theorem getR_bits (h : p + k < bs.length) (hr : B - 7 * (k : Int) ≤ 7) (hc : bs.getD (p + k) 0 < 128) (ho : rok s (bs.getD (p + k) 0) (B - 7 * (k : Int)) = false) : getR s bs p B (f + 1) k acc = (3, 0, (p : Int) + k + 1) := by
  simp only [getR]; rw [if_neg (by omega), if_neg (by omega), if_pos ⟨hr, ho⟩]
theorem getR_end (h : p + k < bs.length) (hc : bs.getD (p + k) 0 < 128) (ho : B - 7 * (k : Int) ≤ 7 → rok s (bs.getD (p + k) 0) (B - 7 * (k : Int)) = true) :
    getR s bs p B (f + 1) k acc = (0, fin s (acc + bs.getD (p + k) 0 % 128 * P2 (7 * (k : Int))) (bs.getD (p + k) 0) k, (p : Int) + k + 1) := by
  simp only [getR]
  rw [if_neg (by omega), if_neg (by omega), if_neg (by rintro ⟨h1, h2⟩; rw [ho h1] at h2; cases h2), if_pos hc]
theorem getR_more (h : p + k < bs.length) (hr : 7 < B - 7 * (k : Int)) (hc : 128 ≤ bs.getD (p + k) 0) :
    getR s bs p B (f + 1) k acc = getR s bs p B f (k + 1) (acc + bs.getD (p + k) 0 % 128 * P2 (7 * (k : Int))) := by
  simp only [getR]
  rw [if_neg (by omega), if_neg (by omega), if_neg (by omega), if_neg (by omega)]
end

/-! The accumulating. -/
theorem mul_bd (c p : Int) (h0 : 0 ≤ c) (h1 : c ≤ 127) (hp : 1 ≤ p) : 0 ≤ c * p ∧ c * p ≤ 127 * p :=
  ⟨Int.mul_nonneg h0 (by omega), Int.mul_le_mul_of_nonneg_right h1 (by omega)⟩

theorem acc_step (acc c : Int) (k : Nat) (h0 : 0 ≤ acc) (h1 : acc < P2 (7 * (k : Int))) : 0 ≤ acc + c % 128 * P2 (7 * (k : Int)) ∧ acc + c % 128 * P2 (7 * (k : Int)) < P2 (7 * ((k + 1 : Nat) : Int)) := by
  have h := mul_bd (c % 128) (P2 (7 * (k : Int))) (by omega) (by omega) (P2_pos _)
  have e : P2 (7 * ((k + 1 : Nat) : Int)) = 128 * P2 (7 * (k : Int)) := by rw [← P2_7 _ (by omega), show 7 * ((k + 1 : Nat) : Int) = 7 * (k : Int) + 7 by omega]
  rw [e]; omega

theorem or_comm' (k : IntKind) (x y : Int) : bits .or k x y = bits .or k y x := by
  unfold bits; simp only [BitVec.or_comm]

theorem join_u64 (acc d : Int) (k : Nat) (h0 : 0 ≤ acc) (h1 : acc < P2 (7 * (k : Int))) (hk : k ≤ 9) (hd : 0 ≤ d) (hd' : d * P2 (7 * (k : Int)) ≤ 18446744073709551615) :
    bits .or .u64 acc (IntKind.u64.wrap (d * 2 ^ (7 * k))) = acc + d * P2 (7 * (k : Int)) := by
  have hp := P2_pos (7 * (k : Int))
  have hb := P2_63 (n := 7 * (k : Int)) (by omega)
  have hn : 0 ≤ d * P2 (7 * (k : Int)) := Int.mul_nonneg hd (by omega)
  rw [← P2_nat, IntKind.wrap_u64, Int.emod_eq_of_lt hn (by omega), or_comm', bits_join .u64 64 (by decide) (fun n a b => by rw [IntKind.wrap_u64]; omega) (7 * k) _ _ hn ?_ (by omega) h0 ?_ (by omega)]
  · omega
  · rw [P2_nat]; exact Int.mul_emod_left _ _
  · rw [← P2_nat]; exact h1

theorem join_i64 (acc d : Int) (k : Nat) (h0 : 0 ≤ acc) (h1 : acc < P2 (7 * (k : Int))) (hk : k ≤ 8) (hd : 0 ≤ d) (hd' : d ≤ 127) :
    bits .or .i64 acc (wrap64 (d * 2 ^ (7 * k))) = acc + d * P2 (7 * (k : Int)) := by
  have hp := P2_pos (7 * (k : Int))
  have hb := P2_56 (n := 7 * (k : Int)) (by omega)
  have hm := mul_bd d (P2 (7 * (k : Int))) hd hd' hp
  rw [← P2_nat]
  have e : wrap64 (d * P2 (7 * (k : Int))) = d * P2 (7 * (k : Int)) := by unfold wrap64; omega
  rw [e, or_comm', bits_join .i64 63 (by decide) (fun n a b => by rw [IntKind.wrap_i64]; omega) (7 * k) _ _ hm.1 ?_ (by omega) h0 ?_ (by omega)]
  · omega
  · rw [P2_nat]; exact Int.mul_emod_left _ _
  · rw [← P2_nat]; exact h1

theorem join_i64_9 (acc : Int) (h0 : 0 ≤ acc) (h1 : acc < 9223372036854775808) : bits .or .i64 acc (wrap64 (127 * 2 ^ (7 * 9))) = acc - 9223372036854775808 := by
  have e : wrap64 (127 * 2 ^ (7 * 9)) = -9223372036854775808 := by unfold wrap64; decide
  rw [e]
  obtain ⟨A, rfl⟩ := Int.eq_ofNat_of_zero_le h0
  show IntKind.i64.wrap ((BitVec.ofInt 64 (A : Int) ||| BitVec.ofInt 64 (-9223372036854775808)).toNat : Int) = _
  have e2 : (BitVec.ofInt 64 (-9223372036854775808)).toNat = 9223372036854775808 := by decide
  rw [BitVec.toNat_or, ofInt_u64 A (by omega), e2, Nat.or_comm, nat_join 63 9223372036854775808 A (by decide) (by omega), IntKind.wrap_i64]
  omega
theorem join_i64_0 (acc : Int) (h0 : 0 ≤ acc) (h1 : acc < 9223372036854775808) (k : Nat) : bits .or .i64 acc (wrap64 (0 * 2 ^ (7 * k))) = acc := by
  rw [Int.zero_mul]
  have e : wrap64 0 = 0 := by unfold wrap64; decide
  rw [e, or_comm', bits_join .i64 63 (by decide) (fun n a b => by rw [IntKind.wrap_i64]; omega) 63 _ _ (by omega) (by omega) (by omega) h0 (by omega) (by omega)]
  omega

theorem cutU_fit (a : Int) (k : Nat) (hk : k ≤ 8) (h0 : 0 ≤ a) (h1 : a < P2 (7 * ((k + 1 : Nat) : Int))) : cutU a (7 * ((k : Int) + 1)) = a := by
  rcases (show k = 0 ∨ k = 1 ∨ k = 2 ∨ k = 3 ∨ k = 4 ∨ k = 5 ∨ k = 6 ∨ k = 7 ∨ k = 8 by omega) with rfl | rfl | rfl | rfl | rfl | rfl | rfl | rfl | rfl
  all_goals (simp [P2, cutU, IntKind.wrap_u64] at *; omega)
theorem cutS_fit (a : Int) (k : Nat) (hk : k ≤ 8) (h0 : 0 ≤ a) (h1 : a < P2 (7 * ((k + 1 : Nat) : Int))) : cutS a (7 * ((k : Int) + 1)) = if 64 * P2 (7 * (k : Int)) ≤ a then a - P2 (7 * (k : Int) + 7) else a := by
  rcases (show k = 0 ∨ k = 1 ∨ k = 2 ∨ k = 3 ∨ k = 4 ∨ k = 5 ∨ k = 6 ∨ k = 7 ∨ k = 8 by omega) with rfl | rfl | rfl | rfl | rfl | rfl | rfl | rfl | rfl
  all_goals (simp [P2, cutS, wrap64] at *; omega)

/-- The unsigned value, as lebGet comes to it. -/
theorem finU (acc c : Int) (k : Nat) (hk : k ≤ 9) (h0 : 0 ≤ acc) (h1 : acc < P2 (7 * (k : Int))) (hc0 : 0 ≤ c) (hc : c < 128) (h9 : k = 9 → c ≤ 1) :
    c % 128 * P2 (7 * (k : Int)) ≤ 18446744073709551615 ∧ 0 ≤ acc + c % 128 * P2 (7 * (k : Int)) ∧ acc + c % 128 * P2 (7 * (k : Int)) ≤ 18446744073709551615 ∧
    cutU (acc + c % 128 * P2 (7 * (k : Int))) (7 * ((k : Int) + 1)) = fin false (acc + c % 128 * P2 (7 * (k : Int))) c k := by
  have hs := acc_step acc c k h0 h1
  by_cases h : k = 9
  · subst h
    have hc1 := h9 rfl
    have e : P2 (7 * ((9 : Nat) : Int)) = 9223372036854775808 := by decide
    rw [e] at h1 hs ⊢
    rw [show c % 128 = c by omega] at hs ⊢
    refine ⟨by omega, by omega, by omega, ?_⟩
    unfold cutU fin
    rw [if_pos (by omega), if_neg (by simp)]
    omega
  · have hm := mul_bd (c % 128) (P2 (7 * (k : Int))) (by omega) (by omega) (P2_pos _)
    have hb := P2_56 (n := 7 * (k : Int)) (by omega)
    refine ⟨by omega, by omega, by omega, ?_⟩
    rw [cutU_fit _ k (by omega) hs.1 hs.2]
    unfold fin
    rw [if_neg (by simp)]
    omega

/-- The signed value, as lebGet comes to it. -/
theorem finS (acc c : Int) (k : Nat) (hk : k ≤ 9) (h0 : 0 ≤ acc) (h1 : acc < P2 (7 * (k : Int))) (hc0 : 0 ≤ c) (hc : c < 128) (h9 : k = 9 → c = 0 ∨ c = 127) :
    ∃ x, bits .or .i64 acc (wrap64 (c % 128 * 2 ^ (7 * k))) = x ∧ -9223372036854775808 ≤ x ∧ x ≤ 9223372036854775807 ∧
    IntKind.u64.wrap (cutS x (7 * ((k : Int) + 1))) = fin true (acc + c % 128 * P2 (7 * (k : Int))) c k := by
  have hs := acc_step acc c k h0 h1
  by_cases h : k = 9
  · subst h
    have e : P2 (7 * ((9 : Nat) : Int)) = 9223372036854775808 := by decide
    have e' : P2 (7 * ((9 : Nat) : Int) + 7) = 1180591620717411303424 := by decide
    rw [e] at h1 hs ⊢
    rcases h9 rfl with rfl | rfl
    · refine ⟨acc, join_i64_0 acc h0 h1 9, by omega, by omega, ?_⟩
      unfold cutS fin
      rw [if_pos (by omega), if_neg (by omega), IntKind.wrap_u64]
      omega
    · refine ⟨acc - 9223372036854775808, join_i64_9 acc h0 h1, by omega, by omega, ?_⟩
      unfold cutS fin
      rw [if_pos (by omega), if_pos ⟨rfl, by omega⟩, IntKind.wrap_u64, e']
      omega
  · have hm := mul_bd (c % 128) (P2 (7 * (k : Int))) (by omega) (by omega) (P2_pos _)
    have hb := P2_56 (n := 7 * (k : Int)) (by omega)
    refine ⟨_, join_i64 acc (c % 128) k h0 h1 (by omega) (by omega) (by omega), by omega, by omega, ?_⟩
    rw [cutS_fit _ k (by omega) hs.1 hs.2, IntKind.wrap_u64]
    have hp := P2_pos (7 * (k : Int))
    unfold fin
    rw [show c % 128 = c by omega] at *
    by_cases h64 : 64 ≤ c
    · have h1' : 64 * P2 (7 * (k : Int)) ≤ c * P2 (7 * (k : Int)) := Int.mul_le_mul_of_nonneg_right h64 (by omega)
      rw [if_pos (by omega), if_pos ⟨rfl, h64⟩]
    · have h1' : c * P2 (7 * (k : Int)) ≤ 63 * P2 (7 * (k : Int)) := Int.mul_le_mul_of_nonneg_right (by omega) (by omega)
      rw [if_neg (by omega), if_neg (by omega)]
end Go.Proofs.Ytfaajmhmcdoibaa.By
