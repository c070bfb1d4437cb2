import Derived.WalkKit
import Derived.Lib.BitFns
set_option linter.all false
namespace Go.Proofs.YthmppcfhbbjhlaaDoor
open Go.RowKit

/-- The number of bits. -/
def bl (x : Nat) : Nat := if x = 0 then 0 else Nat.log2 x + 1
theorem bl_zero : bl 0 = 0 := rfl
theorem bl_pos {x : Nat} (h : x ≠ 0) : 1 ≤ bl x := by simp [bl, h]
theorem bl_lt (x : Nat) : x < 2 ^ bl x := by
  unfold bl
  split
  · rename_i h; subst h; decide
  · exact Nat.lt_log2_self
theorem bl_ge {x : Nat} (h : x ≠ 0) : 2 ^ (bl x - 1) ≤ x := by
  unfold bl
  rw [if_neg h]
  exact Nat.log2_self_le h
theorem pow_le {m n : Nat} (h : m ≤ n) : 2 ^ m ≤ 2 ^ n := Nat.pow_le_pow_right (by decide) h
theorem bl_le {x k : Nat} (h : x < 2 ^ k) : bl x ≤ k := by
  by_cases h0 : x = 0
  · subst h0; simp [bl]
  · by_cases hc : bl x ≤ k
    · exact hc
    · have := pow_le (show k ≤ bl x - 1 by omega)
      have := bl_ge h0
      omega
theorem lt_bl {x k : Nat} (h : 2 ^ k ≤ x) : k < bl x := by
  by_cases hc : k < bl x
  · exact hc
  · have := pow_le (show bl x ≤ k by omega)
    have := bl_lt x
    omega
theorem bl_eq {x k : Nat} (h0 : 2 ^ k ≤ x) (h1 : x < 2 ^ (k + 1)) : bl x = k + 1 := by
  have := bl_le h1
  have := lt_bl h0
  omega
theorem bl_mul {x : Nat} (h : x ≠ 0) (j : Nat) : bl (x * 2 ^ j) = bl x + j := by
  have e : bl x + j = bl x - 1 + j + 1 := by have := bl_pos h; omega
  rw [e]
  apply bl_eq
  · rw [Nat.pow_add]; exact Nat.mul_le_mul_right _ (bl_ge h)
  · have : bl x - 1 + j + 1 = bl x + j := by omega
    rw [this, Nat.pow_add]
    exact Nat.mul_lt_mul_of_pos_right (bl_lt x) (Nat.two_pow_pos j)
theorem bl_div (x k : Nat) : bl (x / 2 ^ k) = bl x - k := by
  by_cases h : 2 ^ k ≤ x
  · have h0 : x ≠ 0 := by have := Nat.two_pow_pos k; omega
    have hk := lt_bl h
    have e : bl x - k = (bl x - 1 - k) + 1 := by omega
    rw [e]
    apply bl_eq
    · rw [Nat.le_div_iff_mul_le (Nat.two_pow_pos k), ← Nat.pow_add]
      have : bl x - 1 - k + k = bl x - 1 := by omega
      rw [this]; exact bl_ge h0
    · rw [Nat.div_lt_iff_lt_mul (Nat.two_pow_pos k), ← Nat.pow_add]
      have : bl x - 1 - k + 1 + k = bl x := by omega
      rw [this]; exact bl_lt x
  · have := bl_le (x := x) (k := k) (by omega)
    rw [Nat.div_eq_of_lt (by omega)]
    simp [bl_zero]; omega
theorem bl_mono {x y : Nat} (h : x ≤ y) : bl x ≤ bl y := bl_le (Nat.lt_of_le_of_lt h (bl_lt y))
theorem bitLen_bl : ∀ (k x : Nat), x < 2 ^ k → k ≤ 64 → Lib.bitLen x = bl x
  | 0, x, h, _ => by have : x = 0 := by simpa using h
                     subst this; rfl
  | k + 1, x, h, hk => by
    by_cases h0 : x = 0
    · subst h0; rfl
    · have h64 := pow_le hk
      rw [Lib.bitLen_half x h0 (by omega), bitLen_bl k (x / 2) (by rw [Nat.pow_succ] at h; omega) (by omega)]
      have := bl_div x 1
      have := bl_pos h0
      rename_i e
      rw [Nat.pow_one] at e
      omega

/-- A number left at its last places: q of sig by 2^cut, to the nearest, ties to even. -/
def rqN (sig c : Nat) (more : Bool) : Nat :=
  sig / 2 ^ (c - 1) / 2 + if sig / 2 ^ (c - 1) % 2 = 1 ∧ (sig % 2 ^ (c - 1) ≠ 0 ∨ more = true ∨ sig / 2 ^ (c - 1) / 2 % 2 = 1) then 1 else 0
def rq (sig : Nat) (cut : Int) (more : Bool) : Nat := if cut ≤ 0 then sig * 2 ^ (-cut).toNat else rqN sig cut.toNat more

theorem rqN_le (sig c n : Nat) (more : Bool) (h : sig < 2 ^ (c + n)) (hc : 1 ≤ c) : rqN sig c more ≤ 2 ^ n := by
  have e : sig / 2 ^ (c - 1) < 2 * 2 ^ n := by
    rw [Nat.div_lt_iff_lt_mul (Nat.two_pow_pos _)]
    have : 2 * 2 ^ n * 2 ^ (c - 1) = 2 ^ (c + n) := by
      rw [Nat.mul_comm 2 (2 ^ n), ← Nat.pow_succ, ← Nat.pow_add]; congr 1; omega
    omega
  unfold rqN
  split <;> omega
theorem rqN_ge (sig c n : Nat) (more : Bool) (h : 2 ^ (c + n) ≤ sig) (hc : 1 ≤ c) : 2 ^ n ≤ rqN sig c more := by
  have e : 2 * 2 ^ n ≤ sig / 2 ^ (c - 1) := by
    rw [Nat.le_div_iff_mul_le (Nat.two_pow_pos _)]
    have : 2 * 2 ^ n * 2 ^ (c - 1) = 2 ^ (c + n) := by
      rw [Nat.mul_comm 2 (2 ^ n), ← Nat.pow_succ, ← Nat.pow_add]; congr 1; omega
    omega
  unfold rqN
  split <;> omega

def cutOf (p : Nat) (least : Int) (sig : Nat) (ex : Int) : Int := max ((bl sig : Int) - p) (least - ex)
def infM (p e : Nat) : Nat := (2 ^ e - 1) * 2 ^ (p - 1)

/-- The magnitude of the nearest float. -/
def rnd (p e : Nat) (least : Int) (sig : Nat) (ex : Int) (more : Bool) : Nat :=
  if sig = 0 then 0 else
  if 2 ^ e - 1 ≤ (ex + cutOf p least sig ex - least).toNat then infM p e else
  min (infM p e) ((ex + cutOf p least sig ex - least).toNat * 2 ^ (p - 1) + rq sig (cutOf p least sig ex) more)

theorem rq_le {p : Nat} {least : Int} {sig : Nat} {ex : Int} {more : Bool} : rq sig (cutOf p least sig ex) more ≤ 2 ^ p := by
  have hb := bl_lt sig
  unfold rq
  have hc : (bl sig : Int) - p ≤ cutOf p least sig ex := by unfold cutOf; omega
  generalize cutOf p least sig ex = c at *
  split
  · have : sig * 2 ^ (-c).toNat < 2 ^ (bl sig + (-c).toNat) := by
      rw [Nat.pow_add]; exact Nat.mul_lt_mul_of_pos_right hb (Nat.two_pow_pos _)
    have := pow_le (show bl sig + (-c).toNat ≤ p by omega)
    omega
  · apply rqN_le _ _ _ _ _ (by omega)
    have := pow_le (show bl sig ≤ c.toNat + p by omega)
    omega
theorem rq_ge {p : Nat} {least : Int} {sig : Nat} {ex : Int} {more : Bool} (h0 : sig ≠ 0) (hp : 1 ≤ p) (hl : least < ex + cutOf p least sig ex) : 2 ^ (p - 1) ≤ rq sig (cutOf p least sig ex) more := by
  have hb := bl_ge h0
  have hpos := bl_pos h0
  unfold rq
  have hc : (bl sig : Int) - p = cutOf p least sig ex := by unfold cutOf at *; omega
  generalize cutOf p least sig ex = c at *
  split
  · have : 2 ^ (bl sig - 1 + (-c).toNat) ≤ sig * 2 ^ (-c).toNat := by
      rw [Nat.pow_add]; exact Nat.mul_le_mul_right _ hb
    have := pow_le (show p - 1 ≤ bl sig - 1 + (-c).toNat by omega)
    omega
  · apply rqN_ge _ _ _ _ _ (by omega)
    have := pow_le (show c.toNat + (p - 1) ≤ bl sig - 1 by omega)
    omega
theorem cut_least (p : Nat) (least : Int) (sig : Nat) (ex : Int) : least ≤ ex + cutOf p least sig ex := by unfold cutOf; omega

theorem pow_p {p : Nat} (hp : 1 ≤ p) : 2 ^ p = 2 * 2 ^ (p - 1) := by
  rw [Nat.mul_comm, ← Nat.pow_succ]; congr 1; omega

/-- The specification's way to put it together. -/
theorem rnd_spec {p e : Nat} {least : Int} {sig : Nat} {ex : Int} {more : Bool} (hp : 1 ≤ p) (he : 2 ≤ e) (W : Nat) (E : Int)
    (hw : (rq sig (cutOf p least sig ex) more = 2 ^ p ∧ W = 2 ^ (p - 1) ∧ E = ex + cutOf p least sig ex + 1) ∨ (rq sig (cutOf p least sig ex) more ≠ 2 ^ p ∧ W = rq sig (cutOf p least sig ex) more ∧ E = ex + cutOf p least sig ex)) :
    (W < 2 ^ (p - 1) → rnd p e least sig ex more = W) ∧
    (2 ^ (p - 1) ≤ W → ((2 ^ e : Nat) : Int) - 1 ≤ E - least + 1 → rnd p e least sig ex more = infM p e) ∧
    (2 ^ (p - 1) ≤ W → E - least + 1 < ((2 ^ e : Nat) : Int) - 1 → rnd p e least sig ex more = (E - least + 1).toNat * 2 ^ (p - 1) + W - 2 ^ (p - 1)) := by
  have hq := rq_le (p := p) (least := least) (sig := sig) (ex := ex) (more := more)
  have hcl := cut_least p least sig ex
  have hpp := pow_p hp
  have he4 := pow_le he
  by_cases h0 : sig = 0
  · subst h0
    have hz : rq 0 (cutOf p least 0 ex) more = 0 := by
      unfold rq rqN; split <;> simp
    rw [hz] at hw
    have := Nat.two_pow_pos (p - 1)
    have hW : W = 0 := by omega
    subst hW
    refine ⟨fun _ => by simp [rnd], fun h => by omega, fun h => by omega⟩
  have hge := fun h => rq_ge (p := p) (least := least) (sig := sig) (ex := ex) (more := more) h0 hp h
  unfold rnd infM
  rw [if_neg h0]
  generalize rq sig (cutOf p least sig ex) more = q at *
  generalize ex + cutOf p least sig ex = E0 at *
  generalize 2 ^ (p - 1) = H at *
  obtain ⟨k, hk⟩ : ∃ k : Nat, E0 = least + k := ⟨(E0 - least).toNat, by omega⟩
  subst hk
  have ek : (least + (k : Int) - least).toNat = k := by omega
  rw [ek]
  generalize 2 ^ e = M at *
  have hm : ∀ a b : Nat, a ≤ b → a * H ≤ b * H := fun a b h => Nat.mul_le_mul_right H h
  refine ⟨fun hW => ?_, fun hW hE => ?_, fun hW hE => ?_⟩
  · rcases hw with ⟨h1, h2, h3⟩ | ⟨h1, h2, h3⟩
    · omega
    · have hk0 : k = 0 := by
        by_cases hk : k = 0
        · exact hk
        · have := hge (by omega); omega
      subst hk0
      rw [if_neg (by omega)]
      have := hm 1 (M - 1) (by omega)
      simp only [Nat.zero_mul]; omega
  · by_cases hc : M - 1 ≤ k
    · rw [if_pos hc]
    · rw [if_neg hc]
      have h2 := hm (M - 1) (k + 1) 
      have h3 := hm (M - 1) (k + 2)
      have e1 : (k + 1) * H = k * H + H := by rw [Nat.add_mul]; omega
      have e2 : (k + 2) * H = k * H + 2 * H := by rw [Nat.add_mul]
      rcases hw with ⟨h1, h2, h3⟩ | ⟨h1, h2, h3⟩ <;> omega
  · have hkM : ¬ (M - 1 ≤ k) := by rcases hw with ⟨h1, h2, h3⟩ | ⟨h1, h2, h3⟩ <;> omega
    rw [if_neg hkM]
    have h2 := hm (k + 2) (M - 1)
    have h3 := hm (k + 3) (M - 1)
    have e1 : (k + 1) * H = k * H + H := by rw [Nat.add_mul]; omega
    have e2 : (k + 2) * H = k * H + 2 * H := by rw [Nat.add_mul]
    have e3 : (k + 3) * H = k * H + 3 * H := by rw [Nat.add_mul]
    rcases hw with ⟨h4, h5, h6⟩ | ⟨h4, h5, h6⟩
    · have : (E - least + 1).toNat = k + 2 := by omega
      rw [this]; omega
    · have : (E - least + 1).toNat = k + 1 := by omega
      rw [this]; omega
end Go.Proofs.YthmppcfhbbjhlaaDoor
