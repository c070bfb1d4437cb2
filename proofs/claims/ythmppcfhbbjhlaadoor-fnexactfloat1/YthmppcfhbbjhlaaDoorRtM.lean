import Derived.Test.YthmppcfhbbjhlaaDoorRnd
import Derived.Test.YthmppcfhbbjhlaaDoorWdM
set_option linter.all false
namespace Go.Proofs.YthmppcfhbbjhlaaDoor
open Go.RowKit

theorem coarse_div (sig j r k : Nat) (hr : r < 2 ^ j) : (sig * 2 ^ j + r) / 2 ^ (k + j) = sig / 2 ^ k := by
  rw [Nat.add_comm k j, Nat.pow_add, ← Nat.div_div_eq_div_mul, Nat.mul_comm sig, Nat.mul_add_div (Nat.two_pow_pos j), Nat.div_eq_of_lt hr, Nat.add_zero]
theorem coarse_mod (sig j r k : Nat) (hr : r < 2 ^ j) : (sig * 2 ^ j + r) % 2 ^ (k + j) = sig % 2 ^ k * 2 ^ j + r := by
  have h1 := Nat.mod_add_div (sig * 2 ^ j + r) (2 ^ (k + j))
  rw [coarse_div sig j r k hr] at h1
  have h2 := Nat.mod_add_div sig (2 ^ k)
  have e : 2 ^ (k + j) * (sig / 2 ^ k) = 2 ^ k * (sig / 2 ^ k) * 2 ^ j := by
    rw [Nat.pow_add, Nat.mul_assoc, Nat.mul_assoc, Nat.mul_comm (2 ^ j)]
  have e2 : sig * 2 ^ j = sig % 2 ^ k * 2 ^ j + 2 ^ k * (sig / 2 ^ k) * 2 ^ j := by rw [← Nat.add_mul, h2]
  omega
theorem bl_coarse {sig : Nat} (h : sig ≠ 0) (j r : Nat) (hr : r < 2 ^ j) : bl (sig * 2 ^ j + r) = bl sig + j := by
  have e : bl sig + j = bl sig - 1 + j + 1 := by have := bl_pos h; omega
  rw [e]
  have h1 := bl_ge h
  have h2 := bl_lt sig
  apply bl_eq
  · rw [Nat.pow_add]
    have := Nat.mul_le_mul_right (2 ^ j) h1
    omega
  · have e2 : bl sig - 1 + j + 1 = bl sig + j := by omega
    rw [e2, Nat.pow_add]
    have h3 := Nat.mul_le_mul_right (2 ^ j) (show sig + 1 ≤ 2 ^ bl sig by omega)
    rw [Nat.add_mul] at h3
    omega
theorem rqN_coarse (sig c j r : Nat) (m : Bool) (hr : r < 2 ^ j) (hc : 1 ≤ c) : rqN (sig * 2 ^ j + r) (c + j) m = rqN sig c (m || decide (r ≠ 0)) := by
  unfold rqN
  have e : c + j - 1 = (c - 1) + j := by omega
  rw [e, coarse_div sig j r (c - 1) hr, coarse_mod sig j r (c - 1) hr]
  have hj := Nat.two_pow_pos j
  have h2 : (sig % 2 ^ (c - 1) * 2 ^ j + r ≠ 0 ∨ m = true ∨ sig / 2 ^ (c - 1) / 2 % 2 = 1) ↔ (sig % 2 ^ (c - 1) ≠ 0 ∨ (m || decide (r ≠ 0)) = true ∨ sig / 2 ^ (c - 1) / 2 % 2 = 1) := by
    by_cases hs : sig % 2 ^ (c - 1) = 0
    · rw [hs, Nat.zero_mul, Nat.zero_add]
      cases m <;> simp
    · have : 0 < sig % 2 ^ (c - 1) * 2 ^ j := Nat.mul_pos (by omega) hj
      constructor
      · intro _; left; exact hs
      · intro _; left; omega
  simp only [h2]
theorem rnd_coarse {p e : Nat} {L : Int} {sig j r : Nat} {E : Int} {m : Bool} (hr : r < 2 ^ j) (hb : p + 1 ≤ bl sig) :
    rnd p e L (sig * 2 ^ j + r) (E - j) m = rnd p e L sig E (m || decide (r ≠ 0)) := by
  have h0 : sig ≠ 0 := by intro h; rw [h, bl_zero] at hb; omega
  have h1 : sig * 2 ^ j + r ≠ 0 := by
    have := Nat.mul_pos (show 0 < sig by omega) (Nat.two_pow_pos j); omega
  have hbl := bl_coarse h0 j r hr
  have hcut : cutOf p L (sig * 2 ^ j + r) (E - j) = cutOf p L sig E + j := by unfold cutOf; rw [hbl]; omega
  have hc : 1 ≤ cutOf p L sig E := by unfold cutOf; omega
  unfold rnd
  rw [if_neg h0, if_neg h1, hcut]
  rw [show E - (j : Int) + (cutOf p L sig E + j) - L = E + cutOf p L sig E - L by omega]
  have hq : rq (sig * 2 ^ j + r) (cutOf p L sig E + j) m = rq sig (cutOf p L sig E) (m || decide (r ≠ 0)) := by
    unfold rq
    rw [if_neg (by omega), if_neg (by omega)]
    rw [show (cutOf p L sig E + (j : Int)).toNat = (cutOf p L sig E).toNat + j by omega]
    exact rqN_coarse sig _ j r m hr (by omega)
  rw [hq]
theorem rnd_mark {p e : Nat} {L : Int} {sig : Nat} {E : Int} (hb : p + 2 ≤ bl sig) :
    rnd p e L (sig + (1 - sig % 2)) E false = rnd p e L sig E true := by
  have h0 : sig ≠ 0 := by intro h; rw [h, bl_zero] at hb; omega
  have es : sig + (1 - sig % 2) = sig / 2 * 2 ^ 1 + 1 := by omega
  have es2 : sig = sig / 2 * 2 ^ 1 + sig % 2 := by omega
  have hb2 : bl (sig / 2) = bl sig - 1 := by
    have := bl_div sig 1
    rwa [Nat.pow_one] at this
  have h1 := rnd_coarse (p := p) (e := e) (L := L) (sig := sig / 2) (j := 1) (r := 1) (E := E + 1) (m := false) (by decide) (by omega)
  have h2 := rnd_coarse (p := p) (e := e) (L := L) (sig := sig / 2) (j := 1) (r := sig % 2) (E := E + 1) (m := true) (by omega) (by omega)
  rw [← es, show E + 1 - ((1 : Nat) : Int) = E by omega] at h1
  rw [← es2, show E + 1 - ((1 : Nat) : Int) = E by omega] at h2
  rw [h1, h2]
  simp

/-- The root of a number, rounded down. -/
def IsR (N r : Nat) : Prop := r * r ≤ N ∧ N < (r + 1) * (r + 1)
theorem isR_le {N r t : Nat} (h : IsR N r) (ht : t * t ≤ N) : t ≤ r := by
  by_cases hc : t ≤ r
  · exact hc
  · have := Nat.mul_le_mul (show r + 1 ≤ t by omega) (show r + 1 ≤ t by omega)
    have := h.2
    omega
theorem isR_eq {N r t : Nat} (h : IsR N r) (h' : IsR N t) : r = t := Nat.le_antisymm (isR_le h' h.1) (isR_le h h'.1)
theorem pow4 (j : Nat) : 2 ^ (2 * j) = 2 ^ j * 2 ^ j := by rw [← Nat.pow_add]; congr 1; omega
/-- A finer root and a coarser one. -/
theorem isR_coarse {N j r : Nat} (h : IsR (N * 2 ^ (2 * j)) r) : IsR N (r / 2 ^ j) := by
  rw [pow4] at h
  have hj := Nat.two_pow_pos j
  obtain ⟨h1, h2⟩ := h
  have e := Nat.mod_add_div r (2 ^ j)
  have hl := Nat.mod_lt r hj
  generalize 2 ^ j = J at *
  generalize r / J = R at *
  generalize r % J = t at *
  constructor
  · have h3 : J * R ≤ r := by omega
    have h4 := Nat.mul_le_mul h3 h3
    have h5 : J * R * (J * R) = R * R * (J * J) := by
      rw [Nat.mul_comm J R, Nat.mul_assoc, Nat.mul_left_comm J R J, ← Nat.mul_assoc R R]
    have h6 : R * R * (J * J) ≤ N * (J * J) := by omega
    exact Nat.le_of_mul_le_mul_right h6 (Nat.mul_pos hj hj)
  · have h3 : r + 1 ≤ J * (R + 1) := by rw [Nat.mul_add]; omega
    have h4 := Nat.mul_le_mul h3 h3
    have h5 : J * (R + 1) * (J * (R + 1)) = (R + 1) * (R + 1) * (J * J) := by
      rw [Nat.mul_comm J (R + 1), Nat.mul_assoc, Nat.mul_left_comm J (R + 1) J, ← Nat.mul_assoc (R + 1) (R + 1)]
    have h6 : N * (J * J) < (R + 1) * (R + 1) * (J * J) := by omega
    exact Nat.lt_of_mul_lt_mul_right h6
theorem isR_exact {N j r : Nat} (h : IsR (N * 2 ^ (2 * j)) r) : (decide (r * r ≠ N * 2 ^ (2 * j)) || decide (r % 2 ^ j ≠ 0)) = decide (r / 2 ^ j * (r / 2 ^ j) ≠ N) := by
  have hc := isR_coarse h
  rw [pow4] at *
  have hj := Nat.two_pow_pos j
  have e := Nat.mod_add_div r (2 ^ j)
  generalize 2 ^ j = J at *
  generalize hR : r / J = R at *
  generalize r % J = t at *
  have h5 : J * R * (J * R) = R * R * (J * J) := by
    rw [Nat.mul_comm J R, Nat.mul_assoc, Nat.mul_left_comm J R J, ← Nat.mul_assoc R R]
  rw [Bool.eq_iff_iff]
  simp only [Bool.or_eq_true, decide_eq_true_eq]
  constructor
  · rintro hx hN
    subst hN
    have h6 : J * R ≤ r := isR_le h (by omega)
    have h7 : IsR (R * R * (J * J)) (J * R) := by
      refine ⟨by omega, ?_⟩
      rw [← h5, Nat.add_mul, Nat.mul_add]; omega
    have h8 := isR_eq h h7
    have ht : t = 0 := by omega
    rcases hx with hx | hx
    · rw [h8] at hx; omega
    · exact hx ht
  · intro hN
    by_cases ht : t = 0
    · left
      intro hx
      have h8 : r = J * R := by omega
      rw [h8, h5] at hx
      exact hN (Nat.eq_of_mul_eq_mul_right (Nat.mul_pos hj hj) hx)
    · right; exact ht
theorem isR_bl {N r k : Nat} (h : IsR N r) (hk : 2 ^ (2 * k) ≤ N) : k + 1 ≤ bl r := by
  rw [pow4] at hk
  exact lt_bl (isR_le h hk)
/-- Both ways to the root round alike. -/
theorem root_eq {p e : Nat} {L : Int} {s n pl r R : Nat} {ex : Int} (hs : s ≠ 0) (hr : IsR (s * 2 ^ n) r) (hR : IsR (s * 2 ^ pl) R) (hn : (ex - n) % 2 = 0) (hp : (ex - pl) % 2 = 0)
    (hbn : 2 * p + 4 ≤ n) (hbp : 2 * p + 4 ≤ bl s + pl) :
    rnd p e L (if decide (R * R ≠ s * 2 ^ pl) then R + (1 - R % 2) else R) ((ex - pl) / 2) false = rnd p e L r ((ex - n) / 2) (decide (r * r ≠ s * 2 ^ n)) := by
  have bR : p + 2 ≤ bl R := by
    have h1 : 2 ^ (2 * (p + 1)) ≤ s * 2 ^ pl := by
      have h2 := bl_ge (x := s * 2 ^ pl) (by have := Nat.mul_pos (show 0 < s by omega) (Nat.two_pow_pos pl); omega)
      rw [bl_mul hs] at h2
      have := pow_le (show 2 * (p + 1) ≤ bl s + pl - 1 by omega)
      omega
    have := isR_bl hR h1
    omega
  have br : p + 2 ≤ bl r := by
    have h1 : 2 ^ (2 * (p + 1)) ≤ s * 2 ^ n := by
      have h2 := Nat.mul_le_mul (show 1 ≤ s by omega) (pow_le (show 2 * (p + 1) ≤ n by omega))
      omega
    have := isR_bl hr h1
    omega
  have hm : rnd p e L (if decide (R * R ≠ s * 2 ^ pl) then R + (1 - R % 2) else R) ((ex - pl) / 2) false = rnd p e L R ((ex - pl) / 2) (decide (R * R ≠ s * 2 ^ pl)) := by
    by_cases h : R * R = s * 2 ^ pl
    · simp [h]
    · rw [show decide (R * R ≠ s * 2 ^ pl) = true from decide_eq_true h]
      exact rnd_mark bR
  rw [hm]
  rcases Nat.le_total pl n with hle | hle
  · obtain ⟨j, hj⟩ : ∃ j : Nat, n = pl + 2 * j := ⟨(n - pl) / 2, by omega⟩
    have eN : s * 2 ^ n = s * 2 ^ pl * 2 ^ (2 * j) := by rw [hj, Nat.pow_add, Nat.mul_assoc]
    rw [eN] at hr ⊢
    have hRr := isR_eq hR (isR_coarse hr)
    have hex := isR_exact hr
    have e1 := Nat.mod_add_div r (2 ^ j)
    have e2 : r = r / 2 ^ j * 2 ^ j + r % 2 ^ j := by rw [Nat.mul_comm]; omega
    have h := rnd_coarse (p := p) (e := e) (L := L) (sig := r / 2 ^ j) (j := j) (r := r % 2 ^ j) (E := (ex - pl) / 2) (m := decide (r * r ≠ s * 2 ^ pl * 2 ^ (2 * j))) (Nat.mod_lt _ (Nat.two_pow_pos j)) (by rw [← hRr]; omega)
    rw [← e2, hex, ← hRr] at h
    rw [← h]
    congr 1
    omega
  · obtain ⟨j, hj⟩ : ∃ j : Nat, pl = n + 2 * j := ⟨(pl - n) / 2, by omega⟩
    have eN : s * 2 ^ pl = s * 2 ^ n * 2 ^ (2 * j) := by rw [hj, Nat.pow_add, Nat.mul_assoc]
    rw [eN] at hR ⊢
    have hRr := isR_eq hr (isR_coarse hR)
    have hex := isR_exact hR
    have e1 := Nat.mod_add_div R (2 ^ j)
    have e2 : R = R / 2 ^ j * 2 ^ j + R % 2 ^ j := by rw [Nat.mul_comm]; omega
    have h := rnd_coarse (p := p) (e := e) (L := L) (sig := R / 2 ^ j) (j := j) (r := R % 2 ^ j) (E := (ex - n) / 2) (m := decide (R * R ≠ s * 2 ^ n * 2 ^ (2 * j))) (Nat.mod_lt _ (Nat.two_pow_pos j)) (by rw [← hRr]; omega)
    rw [← e2, hex, ← hRr] at h
    rw [← h]
    congr 1
    omega
end Go.Proofs.YthmppcfhbbjhlaaDoor
