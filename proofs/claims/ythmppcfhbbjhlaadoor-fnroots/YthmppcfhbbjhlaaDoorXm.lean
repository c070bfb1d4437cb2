import Derived.Test.YthmppcfhbbjhlaaDoorRnd
import Derived.Test.YthmppcfhbbjhlaaDoorWdM
set_option linter.all false
namespace Go.Proofs.YthmppcfhbbjhlaaDoor
open Go.RowKit

theorem coarse_div (sig j r k : Nat) (hr : r < 2 ^ j) : (sig * 2 ^ j + r) / 2 ^ (k + j) = sig / 2 ^ k := by
  rw [Nat.add_comm k j, Nat.pow_add, ← Nat.div_div_eq_div_mul, Nat.mul_comm sig, Nat.mul_add_div (Nat.two_pow_pos j), Nat.div_eq_of_lt hr, Nat.add_zero]
theorem coarse_mod (sig j r k : Nat) (hr : r < 2 ^ j) : (sig * 2 ^ j + r) % 2 ^ (k + j) = sig % 2 ^ k * 2 ^ j + r := by
  have h1 := Nat.mod_add_div (sig * 2 ^ j + r) (2 ^ (k + j))
  rw [coarse_div sig j r k hr] at h1
  have h2 := Nat.mod_add_div sig (2 ^ k)
  have e : 2 ^ (k + j) * (sig / 2 ^ k) = 2 ^ k * (sig / 2 ^ k) * 2 ^ j := by
    rw [Nat.pow_add, Nat.mul_assoc, Nat.mul_assoc, Nat.mul_comm (2 ^ j)]
  have e2 : sig * 2 ^ j = sig % 2 ^ k * 2 ^ j + 2 ^ k * (sig / 2 ^ k) * 2 ^ j := by rw [← Nat.add_mul, h2]
  omega
theorem bl_coarse {sig : Nat} (h : sig ≠ 0) (j r : Nat) (hr : r < 2 ^ j) : bl (sig * 2 ^ j + r) = bl sig + j := by
  have e : bl sig + j = bl sig - 1 + j + 1 := by have := bl_pos h; omega
  rw [e]
  have h1 := bl_ge h
  have h2 := bl_lt sig
  apply bl_eq
  · rw [Nat.pow_add]
    have := Nat.mul_le_mul_right (2 ^ j) h1
    omega
  · have e2 : bl sig - 1 + j + 1 = bl sig + j := by omega
    rw [e2, Nat.pow_add]
    have h3 := Nat.mul_le_mul_right (2 ^ j) (show sig + 1 ≤ 2 ^ bl sig by omega)
    rw [Nat.add_mul] at h3
    omega
theorem rqN_coarse (sig c j r : Nat) (m : Bool) (hr : r < 2 ^ j) (hc : 1 ≤ c) : rqN (sig * 2 ^ j + r) (c + j) m = rqN sig c (m || decide (r ≠ 0)) := by
  unfold rqN
  have e : c + j - 1 = (c - 1) + j := by omega
  rw [e, coarse_div sig j r (c - 1) hr, coarse_mod sig j r (c - 1) hr]
  have hj := Nat.two_pow_pos j
  have h2 : (sig % 2 ^ (c - 1) * 2 ^ j + r ≠ 0 ∨ m = true ∨ sig / 2 ^ (c - 1) / 2 % 2 = 1) ↔ (sig % 2 ^ (c - 1) ≠ 0 ∨ (m || decide (r ≠ 0)) = true ∨ sig / 2 ^ (c - 1) / 2 % 2 = 1) := by
    by_cases hs : sig % 2 ^ (c - 1) = 0
    · rw [hs, Nat.zero_mul, Nat.zero_add]
      cases m <;> simp
    · have : 0 < sig % 2 ^ (c - 1) * 2 ^ j := Nat.mul_pos (by omega) hj
      constructor
      · intro _; left; exact hs
      · intro _; left; omega
  simp only [h2]
theorem rnd_coarse {p e : Nat} {L : Int} {sig j r : Nat} {E : Int} {m : Bool} (hr : r < 2 ^ j) (hb : p + 1 ≤ bl sig) :
    rnd p e L (sig * 2 ^ j + r) (E - j) m = rnd p e L sig E (m || decide (r ≠ 0)) := by
  have h0 : sig ≠ 0 := by intro h; rw [h, bl_zero] at hb; omega
  have h1 : sig * 2 ^ j + r ≠ 0 := by
    have := Nat.mul_pos (show 0 < sig by omega) (Nat.two_pow_pos j); omega
  have hbl := bl_coarse h0 j r hr
  have hcut : cutOf p L (sig * 2 ^ j + r) (E - j) = cutOf p L sig E + j := by unfold cutOf; rw [hbl]; omega
  have hc : 1 ≤ cutOf p L sig E := by unfold cutOf; omega
  unfold rnd
  rw [if_neg h0, if_neg h1, hcut]
  rw [show E - (j : Int) + (cutOf p L sig E + j) - L = E + cutOf p L sig E - L by omega]
  have hq : rq (sig * 2 ^ j + r) (cutOf p L sig E + j) m = rq sig (cutOf p L sig E) (m || decide (r ≠ 0)) := by
    unfold rq
    rw [if_neg (by omega), if_neg (by omega)]
    rw [show (cutOf p L sig E + (j : Int)).toNat = (cutOf p L sig E).toNat + j by omega]
    exact rqN_coarse sig _ j r m hr (by omega)
  rw [hq]
theorem rnd_mark {p e : Nat} {L : Int} {sig : Nat} {E : Int} (hb : p + 2 ≤ bl sig) :
    rnd p e L (sig + (1 - sig % 2)) E false = rnd p e L sig E true := by
  have h0 : sig ≠ 0 := by intro h; rw [h, bl_zero] at hb; omega
  have es : sig + (1 - sig % 2) = sig / 2 * 2 ^ 1 + 1 := by omega
  have es2 : sig = sig / 2 * 2 ^ 1 + sig % 2 := by omega
  have hb2 : bl (sig / 2) = bl sig - 1 := by
    have := bl_div sig 1
    rwa [Nat.pow_one] at this
  have h1 := rnd_coarse (p := p) (e := e) (L := L) (sig := sig / 2) (j := 1) (r := 1) (E := E + 1) (m := false) (by decide) (by omega)
  have h2 := rnd_coarse (p := p) (e := e) (L := L) (sig := sig / 2) (j := 1) (r := sig % 2) (E := E + 1) (m := true) (by omega) (by omega)
  rw [← es, show E + 1 - ((1 : Nat) : Int) = E by omega] at h1
  rw [← es2, show E + 1 - ((1 : Nat) : Int) = E by omega] at h2
  rw [h1, h2]
  simp

/-- The root of a number, rounded down. -/
def IsR (N r : Nat) : Prop := r * r ≤ N ∧ N < (r + 1) * (r + 1)
theorem isR_le {N r t : Nat} (h : IsR N r) (ht : t * t ≤ N) : t ≤ r := by
  by_cases hc : t ≤ r
  · exact hc
  · have := Nat.mul_le_mul (show r + 1 ≤ t by omega) (show r + 1 ≤ t by omega)
    have := h.2
    omega
theorem isR_eq {N r t : Nat} (h : IsR N r) (h' : IsR N t) : r = t := Nat.le_antisymm (isR_le h' h.1) (isR_le h h'.1)
theorem pow4 (j : Nat) : 2 ^ (2 * j) = 2 ^ j * 2 ^ j := by rw [← Nat.pow_add]; congr 1; omega
/-- A finer root and a coarser one. -/
theorem isR_coarse {N j r : Nat} (h : IsR (N * 2 ^ (2 * j)) r) : IsR N (r / 2 ^ j) := by
  rw [pow4] at h
  have hj := Nat.two_pow_pos j
  obtain ⟨h1, h2⟩ := h
  have e := Nat.mod_add_div r (2 ^ j)
  have hl := Nat.mod_lt r hj
  generalize 2 ^ j = J at *
  generalize r / J = R at *
  generalize r % J = t at *
  constructor
  · have h3 : J * R ≤ r := by omega
    have h4 := Nat.mul_le_mul h3 h3
    have h5 : J * R * (J * R) = R * R * (J * J) := by
      rw [Nat.mul_comm J R, Nat.mul_assoc, Nat.mul_left_comm J R J, ← Nat.mul_assoc R R]
    have h6 : R * R * (J * J) ≤ N * (J * J) := by omega
    exact Nat.le_of_mul_le_mul_right h6 (Nat.mul_pos hj hj)
  · have h3 : r + 1 ≤ J * (R + 1) := by rw [Nat.mul_add]; omega
    have h4 := Nat.mul_le_mul h3 h3
    have h5 : J * (R + 1) * (J * (R + 1)) = (R + 1) * (R + 1) * (J * J) := by
      rw [Nat.mul_comm J (R + 1), Nat.mul_assoc, Nat.mul_left_comm J (R + 1) J, ← Nat.mul_assoc (R + 1) (R + 1)]
    have h6 : N * (J * J) < (R + 1) * (R + 1) * (J * J) := by omega
    exact Nat.lt_of_mul_lt_mul_right h6
theorem isR_exact {N j r : Nat} (h : IsR (N * 2 ^ (2 * j)) r) : (decide (r * r ≠ N * 2 ^ (2 * j)) || decide (r % 2 ^ j ≠ 0)) = decide (r / 2 ^ j * (r / 2 ^ j) ≠ N) := by
  have hc := isR_coarse h
  rw [pow4] at *
  have hj := Nat.two_pow_pos j
  have e := Nat.mod_add_div r (2 ^ j)
  generalize 2 ^ j = J at *
  generalize hR : r / J = R at *
  generalize r % J = t at *
  have h5 : J * R * (J * R) = R * R * (J * J) := by
    rw [Nat.mul_comm J R, Nat.mul_assoc, Nat.mul_left_comm J R J, ← Nat.mul_assoc R R]
  rw [Bool.eq_iff_iff]
  simp only [Bool.or_eq_true, decide_eq_true_eq]
  constructor
  · rintro hx hN
    subst hN
    have h6 : J * R ≤ r := isR_le h (by omega)
    have h7 : IsR (R * R * (J * J)) (J * R) := by
      refine ⟨by omega, ?_⟩
      rw [← h5, Nat.add_mul, Nat.mul_add]; omega
    have h8 := isR_eq h h7
    have ht : t = 0 := by omega
    rcases hx with hx | hx
    · rw [h8] at hx; omega
    · exact hx ht
  · intro hN
    by_cases ht : t = 0
    · left
      intro hx
      have h8 : r = J * R := by omega
      rw [h8, h5] at hx
      exact hN (Nat.eq_of_mul_eq_mul_right (Nat.mul_pos hj hj) hx)
    · right; exact ht
theorem isR_bl {N r k : Nat} (h : IsR N r) (hk : 2 ^ (2 * k) ≤ N) : k + 1 ≤ bl r := by
  rw [pow4] at hk
  exact lt_bl (isR_le h hk)
/-- Both ways to the root round alike. -/
theorem root_eq {p e : Nat} {L : Int} {s n pl r R : Nat} {ex : Int} (hs : s ≠ 0) (hr : IsR (s * 2 ^ n) r) (hR : IsR (s * 2 ^ pl) R) (hn : (ex - n) % 2 = 0) (hp : (ex - pl) % 2 = 0)
    (hbn : 2 * p + 4 ≤ n) (hbp : 2 * p + 4 ≤ bl s + pl) :
    rnd p e L (if decide (R * R ≠ s * 2 ^ pl) then R + (1 - R % 2) else R) ((ex - pl) / 2) false = rnd p e L r ((ex - n) / 2) (decide (r * r ≠ s * 2 ^ n)) := by
  have bR : p + 2 ≤ bl R := by
    have h1 : 2 ^ (2 * (p + 1)) ≤ s * 2 ^ pl := by
      have h2 := bl_ge (x := s * 2 ^ pl) (by have := Nat.mul_pos (show 0 < s by omega) (Nat.two_pow_pos pl); omega)
      rw [bl_mul hs] at h2
      have := pow_le (show 2 * (p + 1) ≤ bl s + pl - 1 by omega)
      omega
    have := isR_bl hR h1
    omega
  have br : p + 2 ≤ bl r := by
    have h1 : 2 ^ (2 * (p + 1)) ≤ s * 2 ^ n := by
      have h2 := Nat.mul_le_mul (show 1 ≤ s by omega) (pow_le (show 2 * (p + 1) ≤ n by omega))
      omega
    have := isR_bl hr h1
    omega
  have hm : rnd p e L (if decide (R * R ≠ s * 2 ^ pl) then R + (1 - R % 2) else R) ((ex - pl) / 2) false = rnd p e L R ((ex - pl) / 2) (decide (R * R ≠ s * 2 ^ pl)) := by
    by_cases h : R * R = s * 2 ^ pl
    · simp [h]
    · rw [show decide (R * R ≠ s * 2 ^ pl) = true from decide_eq_true h]
      exact rnd_mark bR
  rw [hm]
  rcases Nat.le_total pl n with hle | hle
  · obtain ⟨j, hj⟩ : ∃ j : Nat, n = pl + 2 * j := ⟨(n - pl) / 2, by omega⟩
    have eN : s * 2 ^ n = s * 2 ^ pl * 2 ^ (2 * j) := by rw [hj, Nat.pow_add, Nat.mul_assoc]
    rw [eN] at hr ⊢
    have hRr := isR_eq hR (isR_coarse hr)
    have hex := isR_exact hr
    have e1 := Nat.mod_add_div r (2 ^ j)
    have e2 : r = r / 2 ^ j * 2 ^ j + r % 2 ^ j := by rw [Nat.mul_comm]; omega
    have h := rnd_coarse (p := p) (e := e) (L := L) (sig := r / 2 ^ j) (j := j) (r := r % 2 ^ j) (E := (ex - pl) / 2) (m := decide (r * r ≠ s * 2 ^ pl * 2 ^ (2 * j))) (Nat.mod_lt _ (Nat.two_pow_pos j)) (by rw [← hRr]; omega)
    rw [← e2, hex, ← hRr] at h
    rw [← h]
    congr 1
    omega
  · obtain ⟨j, hj⟩ : ∃ j : Nat, pl = n + 2 * j := ⟨(pl - n) / 2, by omega⟩
    have eN : s * 2 ^ pl = s * 2 ^ n * 2 ^ (2 * j) := by rw [hj, Nat.pow_add, Nat.mul_assoc]
    rw [eN] at hR ⊢
    have hRr := isR_eq hr (isR_coarse hR)
    have hex := isR_exact hR
    have e1 := Nat.mod_add_div R (2 ^ j)
    have e2 : R = R / 2 ^ j * 2 ^ j + R % 2 ^ j := by rw [Nat.mul_comm]; omega
    have h := rnd_coarse (p := p) (e := e) (L := L) (sig := R / 2 ^ j) (j := j) (r := R % 2 ^ j) (E := (ex - n) / 2) (m := decide (R * R ≠ s * 2 ^ n * 2 ^ (2 * j))) (Nat.mod_lt _ (Nat.two_pow_pos j)) (by rw [← hRr]; omega)
    rw [← e2, hex, ← hRr] at h
    rw [← h]
    congr 1
    omega
end Go.Proofs.YthmppcfhbbjhlaaDoor
namespace Go.Proofs.YthmppcfhbbjhlaaDoor
open Go.RowKit

theorem rnd_shift {p e : Nat} {L : Int} {s j : Nat} {E : Int} (h0 : s ≠ 0) : rnd p e L (s * 2 ^ j) (E - j) false = rnd p e L s E false := by
  have h1 : s * 2 ^ j ≠ 0 := by have := Nat.mul_pos (show 0 < s by omega) (Nat.two_pow_pos j); omega
  have hbl := bl_mul h0 j
  have hcut : cutOf p L (s * 2 ^ j) (E - j) = cutOf p L s E + j := by unfold cutOf; rw [hbl]; omega
  unfold rnd
  rw [if_neg h0, if_neg h1, hcut]
  rw [show E - (j : Int) + (cutOf p L s E + j) - L = E + cutOf p L s E - L by omega]
  generalize cutOf p L s E = c
  have hq : rq (s * 2 ^ j) (c + j) false = rq s c false := by
    unfold rq
    by_cases hc : c ≤ 0
    · rw [if_pos hc]
      by_cases hc2 : c + (j : Int) ≤ 0
      · rw [if_pos hc2, Nat.mul_assoc, ← Nat.pow_add]
        congr 2
        omega
      · rw [if_neg hc2]
        unfold rqN
        have e1 : s * 2 ^ j = s * 2 ^ (-c).toNat * 2 * 2 ^ ((c + (j : Int)).toNat - 1) := by
          rw [Nat.mul_assoc, Nat.mul_assoc, ← Nat.pow_succ', ← Nat.pow_add]
          congr 2
          omega
        rw [e1, Nat.mul_div_cancel _ (Nat.two_pow_pos _), Nat.mul_mod_left]
        rw [Nat.mul_div_cancel _ (by decide), Nat.mul_mod_left]
        simp
    · rw [if_neg hc, if_neg (by omega)]
      have h := rqN_coarse s c.toNat j 0 false (Nat.two_pow_pos j) (by omega)
      rw [Nat.add_zero] at h
      rw [show (c + (j : Int)).toNat = c.toNat + j by omega, h]
      simp
  rw [hq]
end Go.Proofs.YthmppcfhbbjhlaaDoor
namespace Go.Proofs.YthmppcfhbbjhlaaDoor
open Go.RowKit

theorem half_even {sig c : Nat} (hc : 1 ≤ c) (h : sig % 2 ^ c = 0) : sig / 2 ^ (c - 1) = 2 * (sig / 2 ^ c) := by
  have e : 2 ^ c = 2 ^ (c - 1) * 2 := by rw [← Nat.pow_succ]; congr 1; omega
  have h1 := Nat.mod_add_div sig (2 ^ c)
  rw [h, Nat.zero_add] at h1
  rw [← h1, Nat.mul_div_cancel_left _ (Nat.two_pow_pos c), e, Nat.mul_assoc, Nat.mul_div_cancel_left _ (Nat.two_pow_pos _)]
theorem rqN_more {sig c : Nat} (hc : 1 ≤ c) (h : sig % 2 ^ c = 0) (m : Bool) : rqN sig c m = sig / 2 ^ c := by
  have h2 := half_even hc h
  unfold rqN
  rw [h2, if_neg (by omega)]
  omega
theorem rnd_more {p e : Nat} {L : Int} {sig c : Nat} {E : Int} (hc : (c : Int) = cutOf p L sig E) (h1 : 1 ≤ c) (hd : sig % 2 ^ c = 0) (m : Bool) :
    rnd p e L sig E m = rnd p e L sig E false := by
  unfold rnd rq
  rw [← hc, if_neg (show ¬ ((c : Int) ≤ 0) by omega), if_neg (show ¬ ((c : Int) ≤ 0) by omega), Int.toNat_natCast, rqN_more h1 hd, rqN_more h1 hd]
theorem rqN_below {N c : Nat} (hc : 1 ≤ c) (h : N % 2 ^ c = 0) (hN : N ≠ 0) : rqN (N - 1) c true = N / 2 ^ c := by
  have h2 := half_even hc h
  have e : 2 ^ c = 2 ^ (c - 1) * 2 := by rw [← Nat.pow_succ]; congr 1; omega
  have h1 := Nat.mod_add_div N (2 ^ c)
  rw [h, Nat.zero_add] at h1
  generalize N / 2 ^ c = k at *
  have hk : 1 ≤ k := by
    rcases Nat.eq_zero_or_pos k with h0 | h0
    · subst h0; omega
    · exact h0
  have h3 : (N - 1) / 2 ^ (c - 1) = 2 * k - 1 := by
    have hpos := Nat.two_pow_pos (c - 1)
    rw [e, Nat.mul_assoc] at h1
    have h4 : N - 1 = 2 ^ (c - 1) * (2 * k - 1) + (2 ^ (c - 1) - 1) := by
      have h5 : 2 ^ (c - 1) * (2 * k) = 2 ^ (c - 1) * (2 * k - 1) + 2 ^ (c - 1) := by rw [← Nat.mul_succ]; congr 1; omega
      omega
    rw [h4, Nat.mul_add_div hpos, Nat.div_eq_of_lt (by omega)]
    omega
  unfold rqN
  rw [h3, if_pos ⟨by omega, .inr (.inl rfl)⟩]
  omega
theorem pow_c (c : Nat) (h : 1 ≤ c) : 2 ^ c = 2 * 2 ^ (c - 1) := by rw [Nat.mul_comm, ← Nat.pow_succ]; congr 1; omega
theorem rnd_below {p e : Nat} {L E : Int} {N c : Nat} (hp : 1 ≤ p) (hb : bl N = p + 3) (hc : (c : Int) = cutOf p L N E) (hd : N % 2 ^ c = 0) :
    rnd p e L (N - 1) E true = rnd p e L N E false := by
  have hN : N ≠ 0 := by intro h; rw [h, bl_zero] at hb; omega
  have hge := bl_ge hN
  have hlt := bl_lt N
  rw [hb, show p + 3 - 1 = p + 2 by omega] at hge
  rw [hb] at hlt
  have h8 := pow_le (show 2 ≤ p + 2 by omega)
  have hc3 : 3 ≤ c := by unfold cutOf at hc; omega
  have hN1 : N - 1 ≠ 0 := by omega
  have same : cutOf p L (N - 1) E = c → rnd p e L (N - 1) E true = rnd p e L N E false := fun hs => by
    unfold rnd rq
    rw [if_neg hN1, if_neg hN, hs, ← hc, if_neg (show ¬ ((c : Int) ≤ 0) by omega), if_neg (show ¬ ((c : Int) ≤ 0) by omega), Int.toNat_natCast, rqN_below (by omega) hd hN, rqN_more (by omega) hd]
  by_cases hA : 2 ^ (p + 2) ≤ N - 1
  · apply same
    have : bl (N - 1) = p + 2 + 1 := bl_eq hA (by rw [show p + 2 + 1 = p + 3 by omega]; omega)
    unfold cutOf at *
    rw [this]; rw [hb] at hc; omega
  · have hNe : N = 2 ^ (p + 2) := by omega
    have hb1 : bl (N - 1) = p + 1 + 1 := bl_eq (by have := pow_c (p + 2) (by omega); rw [show p + 2 - 1 = p + 1 by omega] at this; have := Nat.two_pow_pos (p + 1); omega) (by rw [show p + 1 + 1 = p + 2 by omega]; omega)
    by_cases hL : 3 ≤ L - E
    · apply same
      unfold cutOf at *
      rw [hb1]; rw [hb] at hc; omega
    · have hce : c = 3 := by unfold cutOf at hc; rw [hb] at hc; omega
      subst hce
      have hcu : cutOf p L (N - 1) E = ((2 : Nat) : Int) := by unfold cutOf; rw [hb1]; omega
      obtain ⟨t, ht⟩ : ∃ t : Nat, E + 2 - L = t := ⟨(E + 2 - L).toNat, by omega⟩
      unfold rnd rq
      rw [if_neg hN1, if_neg hN, hcu, ← hc, if_neg (show ¬ (((2 : Nat) : Int) ≤ 0) by omega), if_neg (show ¬ (((3 : Nat) : Int) ≤ 0) by omega), Int.toNat_natCast, Int.toNat_natCast]
      rw [show (E + ((2 : Nat) : Int) - L).toNat = t by omega, show (E + ((3 : Nat) : Int) - L).toNat = t + 1 by omega]
      have q2 : rqN (N - 1) 2 true = 2 ^ p := by
        have h := rqN_below (N := N) (c := 2) (by omega) (by rw [hNe, Nat.pow_add]; exact Nat.mul_mod_left _ _) hN
        rw [h, hNe, Nat.pow_add, Nat.mul_div_cancel _ (by decide)]
      have q3 : rqN N 3 false = 2 ^ (p - 1) := by
        rw [rqN_more (by omega) hd, hNe, show p + 2 = p - 1 + 3 by omega, Nat.pow_add, Nat.mul_div_cancel _ (by decide)]
      rw [q2, q3, pow_p hp]
      unfold infM
      generalize 2 ^ (p - 1) = P
      have he := Nat.two_pow_pos e
      generalize 2 ^ e = F at *
      by_cases h1 : F - 1 ≤ t
      · rw [if_pos h1, if_pos (by omega)]
      · rw [if_neg h1]
        by_cases h2 : F - 1 ≤ t + 1
        · rw [if_pos h2]
          have : F - 1 = t + 1 := by omega
          rw [this, Nat.add_mul]
          omega
        · rw [if_neg h2, Nat.add_mul]
          congr 1
          omega

/-- A float and something far below it. -/
theorem far_base {p : Nat} {L : Int} {s : Nat} {x : Int} (hs : s ≠ 0) (hb : bl s ≤ p) (hx : L ≤ x) :
    ∃ (N2 c : Nat), N2 = s * 2 ^ (p + 3 - bl s) ∧ bl N2 = p + 3 ∧ (c : Int) = cutOf p L N2 (x - ((p + 3 - bl s : Nat) : Int)) ∧ 1 ≤ c ∧ N2 % 2 ^ c = 0 := by
  have h1 := bl_mul hs (p + 3 - bl s)
  have hc : 3 ≤ cutOf p L (s * 2 ^ (p + 3 - bl s)) (x - ((p + 3 - bl s : Nat) : Int)) ∧ cutOf p L (s * 2 ^ (p + 3 - bl s)) (x - ((p + 3 - bl s : Nat) : Int)) ≤ ((p + 3 - bl s : Nat) : Int) := by
    unfold cutOf; rw [h1]; omega
  refine ⟨_, (cutOf p L (s * 2 ^ (p + 3 - bl s)) (x - ((p + 3 - bl s : Nat) : Int))).toNat, rfl, by rw [h1]; omega, by omega, by omega, ?_⟩
  generalize cutOf p L (s * 2 ^ (p + 3 - bl s)) (x - ((p + 3 - bl s : Nat) : Int)) = C at *
  obtain ⟨d, hd⟩ : ∃ d, p + 3 - bl s = d + C.toNat := ⟨p + 3 - bl s - C.toNat, by omega⟩
  rw [hd, Nat.pow_add, ← Nat.mul_assoc]
  exact Nat.mul_mod_left _ _
theorem far_add {p e : Nat} {L : Int} {s J r : Nat} {x : Int} (hp : 1 ≤ p) (hs : s ≠ 0) (hb : bl s ≤ p) (hx : L ≤ x) (hJ : p + 3 - bl s ≤ J) (hr : r < 2 ^ (J - (p + 3 - bl s))) :
    rnd p e L (s * 2 ^ J + r) (x - J) false = rnd p e L s x false := by
  obtain ⟨N2, c, h1, h2, h3, h4, h5⟩ := far_base (p := p) (L := L) hs hb hx
  have e1 : s * 2 ^ J = N2 * 2 ^ (J - (p + 3 - bl s)) := by rw [h1, Nat.mul_assoc, ← Nat.pow_add]; congr 2; omega
  have h := rnd_coarse (p := p) (e := e) (L := L) (sig := N2) (E := x - ((p + 3 - bl s : Nat) : Int)) (m := false) hr (by omega)
  rw [rnd_more h3 h4 h5] at h
  rw [e1, show x - (J : Int) = x - ((p + 3 - bl s : Nat) : Int) - ((J - (p + 3 - bl s) : Nat) : Int) by omega, h, h1]
  exact rnd_shift hs
theorem far_sub {p e : Nat} {L : Int} {s J r : Nat} {x : Int} (hp : 1 ≤ p) (hs : s ≠ 0) (hb : bl s ≤ p) (hx : L ≤ x) (hJ : p + 3 - bl s ≤ J) (hr : r < 2 ^ (J - (p + 3 - bl s))) :
    rnd p e L (s * 2 ^ J - r) (x - J) false = rnd p e L s x false := by
  rcases Nat.eq_zero_or_pos r with h0 | h0
  · subst h0
    exact far_add (r := 0) hp hs hb hx hJ (Nat.two_pow_pos _)
  obtain ⟨N2, c, h1, h2, h3, h4, h5⟩ := far_base (p := p) (L := L) hs hb hx
  have hN2 : N2 ≠ 0 := by intro h; rw [h, bl_zero] at h2; omega
  have e1 : s * 2 ^ J = N2 * 2 ^ (J - (p + 3 - bl s)) := by rw [h1, Nat.mul_assoc, ← Nat.pow_add]; congr 2; omega
  have e2 : s * 2 ^ J - r = (N2 - 1) * 2 ^ (J - (p + 3 - bl s)) + (2 ^ (J - (p + 3 - bl s)) - r) := by
    rw [e1]
    obtain ⟨k, hk⟩ : ∃ k, N2 = k + 1 := ⟨N2 - 1, by omega⟩
    rw [hk, Nat.add_sub_cancel, Nat.add_mul]
    omega
  have hb2 : p + 1 ≤ bl (N2 - 1) := by
    have h6 := bl_ge hN2
    rw [h2, show p + 3 - 1 = p + 1 + 1 by omega, Nat.pow_succ] at h6
    have := Nat.two_pow_pos (p + 1)
    exact Nat.le_of_lt (lt_bl (k := p + 1) (by omega))
  have h := rnd_coarse (p := p) (e := e) (L := L) (sig := N2 - 1) (j := J - (p + 3 - bl s)) (r := 2 ^ (J - (p + 3 - bl s)) - r) (E := x - ((p + 3 - bl s : Nat) : Int)) (m := false) (by omega) hb2
  rw [show (false || decide (2 ^ (J - (p + 3 - bl s)) - r ≠ 0)) = true by simp; omega, rnd_below hp h2 h3 h5] at h
  rw [e2, show x - (J : Int) = x - ((p + 3 - bl s : Nat) : Int) - ((J - (p + 3 - bl s) : Nat) : Int) by omega, h, h1]
  exact rnd_shift hs

/-- What both ways to a sum are about: N, M lifted to 127 bits, d places apart. -/
theorem lift_parts {s : Nat} (hs : s ≠ 0) (hb : bl s ≤ 60) : bl (s * 2 ^ (127 - bl s)) = 127 ∧ 2 ^ 126 ≤ s * 2 ^ (127 - bl s) ∧ s * 2 ^ (127 - bl s) < 2 ^ 127 := by
  have h1 := bl_mul hs (127 - bl s)
  have h2 : s * 2 ^ (127 - bl s) ≠ 0 := by have := Nat.mul_pos (show 0 < s by omega) (Nat.two_pow_pos (127 - bl s)); omega
  have h3 := bl_ge h2
  have h4 := bl_lt (s * 2 ^ (127 - bl s))
  have h5 : bl s + (127 - bl s) = 127 := by omega
  rw [h1, h5] at h3 h4
  rw [h5] at h1
  exact ⟨h1, h3, h4⟩
theorem apart_lost {p s d : Nat} (hb : bl s ≤ p) (hp : p ≤ 60) (h : s * 2 ^ (127 - bl s) % 2 ^ d ≠ 0) : 128 - p ≤ d := by
  by_cases hc : 128 - p ≤ d
  · exact hc
  · exfalso; apply h
    obtain ⟨k, hk⟩ : ∃ k, 127 - bl s = k + d := ⟨127 - bl s - d, by omega⟩
    rw [hk, Nat.pow_add, ← Nat.mul_assoc]
    exact Nat.mul_mod_left _ _
theorem low_small {p M d : Nat} (hp : p ≤ 60) (hp1 : 1 ≤ p) (hM : M < 2 ^ 127) (hd : 128 - p ≤ d) : M / 2 ^ d < 2 ^ (p - 1) := by
  rw [Nat.div_lt_iff_lt_mul (Nat.two_pow_pos d), ← Nat.pow_add]
  have := pow_le (show 127 ≤ p - 1 + d by omega)
  omega
theorem sum_add {p e : Nat} {L : Int} {s1 s2 d : Nat} {x1 : Int} (hp1 : 1 ≤ p) (hp : p ≤ 60) (h1 : s1 ≠ 0) (h2 : s2 ≠ 0) (b1 : bl s1 ≤ p) (b2 : bl s2 ≤ p) (hx1 : L ≤ x1) :
    rnd p e L (s1 * 2 ^ (127 - bl s1) + s2 * 2 ^ (127 - bl s2) / 2 ^ d) (x1 - ((127 - bl s1 : Nat) : Int)) false = rnd p e L (s1 * 2 ^ (127 - bl s1) * 2 ^ d + s2 * 2 ^ (127 - bl s2)) (x1 - ((127 - bl s1 : Nat) : Int) - d) false := by
  obtain ⟨_, n1, n2⟩ := lift_parts h1 (by omega)
  obtain ⟨_, m1, m2⟩ := lift_parts h2 (by omega)
  by_cases hd : s2 * 2 ^ (127 - bl s2) % 2 ^ d = 0
  · have h3 := Nat.mod_add_div (s2 * 2 ^ (127 - bl s2)) (2 ^ d)
    generalize s2 * 2 ^ (127 - bl s2) = M at *
    have e1 : s1 * 2 ^ (127 - bl s1) * 2 ^ d + M = (s1 * 2 ^ (127 - bl s1) + M / 2 ^ d) * 2 ^ d := by rw [Nat.add_mul, Nat.mul_comm (M / 2 ^ d)]; omega
    rw [e1]
    refine (rnd_shift ?_).symm
    generalize s1 * 2 ^ (127 - bl s1) = N at *
    generalize M / 2 ^ d = Q at *
    have := Nat.two_pow_pos 126
    omega
  · have h3 := apart_lost b2 hp hd
    have h4 := low_small hp hp1 m2 h3
    have h5 := pow_le (show p - 1 ≤ 127 - bl s1 - (p + 3 - bl s1) by omega)
    have h6 := pow_le (show 127 ≤ 127 - bl s1 + d - (p + 3 - bl s1) by omega)
    rw [far_add hp1 h1 b1 hx1 (by omega) (by omega), Nat.mul_assoc, ← Nat.pow_add]
    rw [show x1 - ((127 - bl s1 : Nat) : Int) - (d : Int) = x1 - ((127 - bl s1 + d : Nat) : Int) by omega]
    rw [far_add hp1 h1 b1 hx1 (by omega) (by omega)]
theorem sum_sub {p e : Nat} {L : Int} {s1 s2 d : Nat} {x1 : Int} (hp1 : 1 ≤ p) (hp : p ≤ 60) (h1 : s1 ≠ 0) (h2 : s2 ≠ 0) (b1 : bl s1 ≤ p) (b2 : bl s2 ≤ p) (hx1 : L ≤ x1)
    (hlt : s2 * 2 ^ (127 - bl s2) / 2 ^ d < s1 * 2 ^ (127 - bl s1)) :
    rnd p e L (s1 * 2 ^ (127 - bl s1) - s2 * 2 ^ (127 - bl s2) / 2 ^ d) (x1 - ((127 - bl s1 : Nat) : Int)) false = rnd p e L (s1 * 2 ^ (127 - bl s1) * 2 ^ d - s2 * 2 ^ (127 - bl s2)) (x1 - ((127 - bl s1 : Nat) : Int) - d) false := by
  obtain ⟨_, n1, n2⟩ := lift_parts h1 (by omega)
  obtain ⟨_, m1, m2⟩ := lift_parts h2 (by omega)
  by_cases hd : s2 * 2 ^ (127 - bl s2) % 2 ^ d = 0
  · have h3 := Nat.mod_add_div (s2 * 2 ^ (127 - bl s2)) (2 ^ d)
    generalize s2 * 2 ^ (127 - bl s2) = M at *
    have e1 : s1 * 2 ^ (127 - bl s1) * 2 ^ d - M = (s1 * 2 ^ (127 - bl s1) - M / 2 ^ d) * 2 ^ d := by rw [Nat.sub_mul, Nat.mul_comm (M / 2 ^ d)]; omega
    rw [e1]
    refine (rnd_shift ?_).symm
    generalize s1 * 2 ^ (127 - bl s1) = N at *
    generalize M / 2 ^ d = Q at *
    omega
  · have h3 := apart_lost b2 hp hd
    have h4 := low_small hp hp1 m2 h3
    have h5 := pow_le (show p - 1 ≤ 127 - bl s1 - (p + 3 - bl s1) by omega)
    have h6 := pow_le (show 127 ≤ 127 - bl s1 + d - (p + 3 - bl s1) by omega)
    rw [far_sub hp1 h1 b1 hx1 (by omega) (by omega), Nat.mul_assoc, ← Nat.pow_add]
    rw [show x1 - ((127 - bl s1 : Nat) : Int) - (d : Int) = x1 - ((127 - bl s1 + d : Nat) : Int) by omega]
    rw [far_sub hp1 h1 b1 hx1 (by omega) (by omega)]
/-- Lifted, and as the specification has them. -/
theorem sum_scale {s1 s2 d : Nat} {x1 x2 m : Int} (b1 : bl s1 ≤ 60) (b2 : bl s2 ≤ 60) (hm : m = min x1 x2)
    (hd : (x1 - ((127 - bl s1 : Nat) : Int)) - (x2 - ((127 - bl s2 : Nat) : Int)) = d) :
    ∃ k : Nat, s1 * 2 ^ (127 - bl s1) * 2 ^ d = s1 * 2 ^ (x1 - m).toNat * 2 ^ k ∧ s2 * 2 ^ (127 - bl s2) = s2 * 2 ^ (x2 - m).toNat * 2 ^ k ∧ x1 - ((127 - bl s1 : Nat) : Int) - d = m - k := by
  refine ⟨(m - (x2 - ((127 - bl s2 : Nat) : Int))).toNat, ?_, ?_, by omega⟩
  · rw [Nat.mul_assoc, Nat.mul_assoc, ← Nat.pow_add, ← Nat.pow_add]; congr 2; omega
  · rw [Nat.mul_assoc, ← Nat.pow_add]; congr 2; omega
theorem add_eq {p e : Nat} {L : Int} {s1 s2 d : Nat} {x1 x2 m : Int} (hp1 : 1 ≤ p) (hp : p ≤ 60) (h1 : s1 ≠ 0) (h2 : s2 ≠ 0) (b1 : bl s1 ≤ p) (b2 : bl s2 ≤ p) (hx1 : L ≤ x1) (hm : m = min x1 x2)
    (hd : (x1 - ((127 - bl s1 : Nat) : Int)) - (x2 - ((127 - bl s2 : Nat) : Int)) = d) :
    rnd p e L (s1 * 2 ^ (127 - bl s1) + s2 * 2 ^ (127 - bl s2) / 2 ^ d) (x1 - ((127 - bl s1 : Nat) : Int)) false = rnd p e L (s1 * 2 ^ (x1 - m).toNat + s2 * 2 ^ (x2 - m).toNat) m false := by
  rw [sum_add hp1 hp h1 h2 b1 b2 hx1]
  obtain ⟨k, e1, e2, e3⟩ := sum_scale (by omega) (by omega) hm hd
  rw [e1, e2, e3, ← Nat.add_mul]
  have := Nat.mul_pos (show 0 < s1 by omega) (Nat.two_pow_pos (x1 - m).toNat)
  exact rnd_shift (by omega)
theorem sub_gt {p e : Nat} {L : Int} {s1 s2 d : Nat} {x1 x2 m : Int} (hp1 : 1 ≤ p) (hp : p ≤ 60) (h1 : s1 ≠ 0) (h2 : s2 ≠ 0) (b1 : bl s1 ≤ p) (b2 : bl s2 ≤ p) (hx1 : L ≤ x1) (hm : m = min x1 x2)
    (hd : (x1 - ((127 - bl s1 : Nat) : Int)) - (x2 - ((127 - bl s2 : Nat) : Int)) = d) (hlt : s2 * 2 ^ (127 - bl s2) / 2 ^ d < s1 * 2 ^ (127 - bl s1)) :
    s2 * 2 ^ (x2 - m).toNat < s1 * 2 ^ (x1 - m).toNat ∧ rnd p e L (s1 * 2 ^ (127 - bl s1) - s2 * 2 ^ (127 - bl s2) / 2 ^ d) (x1 - ((127 - bl s1 : Nat) : Int)) false = rnd p e L (s1 * 2 ^ (x1 - m).toNat - s2 * 2 ^ (x2 - m).toNat) m false := by
  rw [sum_sub hp1 hp h1 h2 b1 b2 hx1 hlt]
  obtain ⟨k, e1, e2, e3⟩ := sum_scale (by omega) (by omega) hm hd
  rw [Nat.div_lt_iff_lt_mul (Nat.two_pow_pos d), e1, e2] at hlt
  have hlt2 := Nat.lt_of_mul_lt_mul_right hlt
  refine ⟨hlt2, ?_⟩
  rw [e1, e2, e3, ← Nat.sub_mul]
  exact rnd_shift (by omega)
theorem sub_near {s1 s2 d : Nat} (h1 : s1 ≠ 0) (h2 : s2 ≠ 0) (b1 : bl s1 ≤ 60) (b2 : bl s2 ≤ 60) (hle : s1 * 2 ^ (127 - bl s1) ≤ s2 * 2 ^ (127 - bl s2) / 2 ^ d) : d = 0 := by
  obtain ⟨_, n1, n2⟩ := lift_parts h1 b1
  obtain ⟨_, m1, m2⟩ := lift_parts h2 b2
  rcases Nat.eq_zero_or_pos d with h | h
  · exact h
  · have h3 : s2 * 2 ^ (127 - bl s2) / 2 ^ d < 2 ^ 126 := by
      rw [Nat.div_lt_iff_lt_mul (Nat.two_pow_pos d), ← Nat.pow_add]
      have := pow_le (show 127 ≤ 126 + d by omega)
      omega
    omega
theorem sub_same {s1 s2 d : Nat} {x1 x2 m : Int} (h1 : s1 ≠ 0) (h2 : s2 ≠ 0) (b1 : bl s1 ≤ 60) (b2 : bl s2 ≤ 60) (hm : m = min x1 x2)
    (hd : (x1 - ((127 - bl s1 : Nat) : Int)) - (x2 - ((127 - bl s2 : Nat) : Int)) = d) (he : s1 * 2 ^ (127 - bl s1) = s2 * 2 ^ (127 - bl s2) / 2 ^ d) :
    s1 * 2 ^ (x1 - m).toNat = s2 * 2 ^ (x2 - m).toNat := by
  have h0 := sub_near h1 h2 b1 b2 (Nat.le_of_eq he)
  obtain ⟨k, e1, e2, e3⟩ := sum_scale b1 b2 hm hd
  subst h0
  rw [Nat.pow_zero, Nat.div_one] at he
  rw [Nat.pow_zero, Nat.mul_one] at e1
  rw [e1, e2] at he
  exact Nat.eq_of_mul_eq_mul_right (Nat.two_pow_pos k) he
theorem sub_lt {p e : Nat} {L : Int} {s1 s2 d : Nat} {x1 x2 m : Int} (hp : p ≤ 60) (h1 : s1 ≠ 0) (h2 : s2 ≠ 0) (b1 : bl s1 ≤ p) (b2 : bl s2 ≤ p) (hm : m = min x1 x2)
    (hd : (x1 - ((127 - bl s1 : Nat) : Int)) - (x2 - ((127 - bl s2 : Nat) : Int)) = d) (hlt : s1 * 2 ^ (127 - bl s1) < s2 * 2 ^ (127 - bl s2) / 2 ^ d) :
    s1 * 2 ^ (x1 - m).toNat < s2 * 2 ^ (x2 - m).toNat ∧ rnd p e L (s2 * 2 ^ (127 - bl s2) / 2 ^ d - s1 * 2 ^ (127 - bl s1)) (x1 - ((127 - bl s1 : Nat) : Int)) false = rnd p e L (s2 * 2 ^ (x2 - m).toNat - s1 * 2 ^ (x1 - m).toNat) m false := by
  have h0 := sub_near h1 h2 (by omega) (by omega) (Nat.le_of_lt hlt)
  obtain ⟨k, e1, e2, e3⟩ := sum_scale (by omega) (by omega) hm hd
  subst h0
  rw [Nat.pow_zero, Nat.div_one] at *
  rw [Nat.mul_one] at e1
  rw [e1, e2] at hlt ⊢
  have hlt2 := Nat.lt_of_mul_lt_mul_right hlt
  refine ⟨hlt2, ?_⟩
  rw [show x1 - ((127 - bl s1 : Nat) : Int) = m - k by omega, ← Nat.sub_mul]
  exact rnd_shift (by omega)
/-- Quotients at two scales. -/
theorem quo_scale {a b n j : Nat} (hb : 0 < b) : a * 2 ^ (n + j) / b / 2 ^ j = a * 2 ^ n / b ∧ (decide (a * 2 ^ (n + j) % b ≠ 0) || decide (a * 2 ^ (n + j) / b % 2 ^ j ≠ 0)) = decide (a * 2 ^ n % b ≠ 0) := by
  have hj := Nat.two_pow_pos j
  have e1 : a * 2 ^ (n + j) / b / 2 ^ j = a * 2 ^ n / b := by
    rw [Nat.div_div_eq_div_mul, Nat.mul_comm b, ← Nat.div_div_eq_div_mul, Nat.pow_add, ← Nat.mul_assoc, Nat.mul_div_cancel _ hj]
  refine ⟨e1, ?_⟩
  have h1 := Nat.mod_add_div (a * 2 ^ (n + j)) b
  have h2 := Nat.mod_add_div (a * 2 ^ (n + j) / b) (2 ^ j)
  have h3 := Nat.mod_add_div (a * 2 ^ n) b
  have h4 : a * 2 ^ (n + j) = a * 2 ^ n * 2 ^ j := by rw [Nat.pow_add, Nat.mul_assoc]
  rw [e1] at h2
  rw [h4] at h1 h2 e1 ⊢
  generalize a * 2 ^ n = A at *
  generalize 2 ^ j = J at *
  generalize A / b = q at *
  generalize A % b = r at *
  generalize A * J / b = Q at *
  generalize A * J % b = R at *
  generalize Q % J = T at *
  have h5 : R + b * T = r * J := by
    have h6 : R + b * (T + J * q) = (r + b * q) * J := by rw [h2, h1, h3]
    rw [Nat.mul_add, Nat.add_mul] at h6
    have h7 : b * (J * q) = b * q * J := by rw [Nat.mul_comm J q, Nat.mul_assoc]
    omega
  rw [Bool.eq_iff_iff]
  simp only [Bool.or_eq_true, decide_eq_true_eq]
  constructor
  · intro h hr
    rw [hr, Nat.zero_mul] at h5
    have h8 : R = 0 ∧ b * T = 0 := by omega
    rcases h with h | h
    · exact h h8.1
    · have := Nat.mul_pos hb (show 0 < T by omega); omega
  · intro h
    have := Nat.mul_pos (show 0 < r by omega) hj
    by_cases hR : R = 0
    · right; intro hT; rw [hT, hR, Nat.mul_zero] at h5; omega
    · left; exact hR
theorem quo_eq {p e : Nat} {L : Int} {a b n k : Nat} {ex : Int} (hb : 0 < b) (hn : p + 2 ≤ bl (a * 2 ^ n / b)) (hk : p + 2 ≤ bl (a * 2 ^ k / b)) :
    rnd p e L (if decide (a * 2 ^ k % b ≠ 0) then a * 2 ^ k / b + (1 - a * 2 ^ k / b % 2) else a * 2 ^ k / b) (ex - k) false = rnd p e L (a * 2 ^ n / b) (ex - n) (decide (a * 2 ^ n % b ≠ 0)) := by
  have hm : rnd p e L (if decide (a * 2 ^ k % b ≠ 0) then a * 2 ^ k / b + (1 - a * 2 ^ k / b % 2) else a * 2 ^ k / b) (ex - k) false = rnd p e L (a * 2 ^ k / b) (ex - k) (decide (a * 2 ^ k % b ≠ 0)) := by
    by_cases h : a * 2 ^ k % b = 0
    · simp [h]
    · rw [show decide (a * 2 ^ k % b ≠ 0) = true from decide_eq_true h]
      exact rnd_mark hk
  rw [hm]
  have key : ∀ n j : Nat, p + 2 ≤ bl (a * 2 ^ n / b) → rnd p e L (a * 2 ^ (n + j) / b) (ex - ((n + j : Nat) : Int)) (decide (a * 2 ^ (n + j) % b ≠ 0)) = rnd p e L (a * 2 ^ n / b) (ex - n) (decide (a * 2 ^ n % b ≠ 0)) := fun n j h => by
    obtain ⟨e1, e2⟩ := quo_scale (a := a) (n := n) (j := j) hb
    have h2 := Nat.mod_add_div (a * 2 ^ (n + j) / b) (2 ^ j)
    have h3 := rnd_coarse (p := p) (e := e) (L := L) (sig := a * 2 ^ n / b) (j := j) (r := a * 2 ^ (n + j) / b % 2 ^ j) (E := ex - n) (m := decide (a * 2 ^ (n + j) % b ≠ 0)) (Nat.mod_lt _ (Nat.two_pow_pos j)) (by omega)
    rw [e2, ← e1, Nat.mul_comm (a * 2 ^ (n + j) / b / 2 ^ j), show 2 ^ j * (a * 2 ^ (n + j) / b / 2 ^ j) + a * 2 ^ (n + j) / b % 2 ^ j = a * 2 ^ (n + j) / b by omega, e1] at h3
    rw [← h3]
    congr 1
    omega
  rcases Nat.le_total k n with h | h
  · obtain ⟨j, rfl⟩ : ∃ j, n = k + j := ⟨n - k, by omega⟩
    exact (key k j hk).symm
  · obtain ⟨j, rfl⟩ : ∃ j, k = n + j := ⟨k - n, by omega⟩
    exact key n j hn

/-- The order of floats is that of their words. -/
def vw (P m : Nat) : Nat := if m < P then m else (m % P + P) * 2 ^ (m / P - 1)
theorem vw_next {P : Nat} (hP : 0 < P) (m : Nat) : vw P m < vw P (m + 1) := by
  unfold vw
  by_cases h1 : m + 1 < P
  · rw [if_pos h1, if_pos (by omega)]; omega
  · rw [if_neg h1]
    have hd := Nat.mod_add_div m P
    have hl := Nat.mod_lt m hP
    by_cases h2 : m < P
    · rw [if_pos h2]
      have : m + 1 = P := by omega
      rw [this, Nat.mod_self, Nat.div_self hP]; simp; omega
    · rw [if_neg h2]
      have hq : 1 ≤ m / P := by rw [Nat.le_div_iff_mul_le hP]; omega
      by_cases h3 : m % P + 1 < P
      · have e1 : (m + 1) % P = m % P + 1 := by
          rw [show m + 1 = (m % P + 1) + P * (m / P) by omega, Nat.add_mul_mod_self_left, Nat.mod_eq_of_lt h3]
        have e2 : (m + 1) / P = m / P := by
          rw [show m + 1 = (m % P + 1) + P * (m / P) by omega, Nat.add_mul_div_left _ _ hP, Nat.div_eq_of_lt h3]; omega
        rw [e1, e2]
        exact Nat.mul_lt_mul_of_pos_right (by omega) (Nat.two_pow_pos _)
      · have e0 : m + 1 = P * (m / P + 1) := by rw [Nat.mul_add]; omega
        have e1 : (m + 1) % P = 0 := by rw [e0]; exact Nat.mul_mod_right _ _
        have e2 : (m + 1) / P = m / P + 1 := by rw [e0]; exact Nat.mul_div_cancel_left _ hP
        rw [e1, e2, show m / P + 1 - 1 = (m / P - 1) + 1 by omega, Nat.pow_succ, Nat.zero_add, ← Nat.mul_assoc, Nat.mul_assoc, Nat.mul_comm (2 ^ (m / P - 1)) 2, ← Nat.mul_assoc]
        exact Nat.mul_lt_mul_of_pos_right (by omega) (Nat.two_pow_pos _)
theorem vw_lt {P : Nat} (hP : 0 < P) {m n : Nat} (h : m < n) : vw P m < vw P n := by
  induction n with
  | zero => omega
  | succ n ih =>
    rcases Nat.lt_or_ge m n with h1 | h1
    · exact Nat.lt_trans (ih h1) (vw_next hP n)
    · have : m = n := by omega
      subst this; exact vw_next hP m
theorem vw_iff {P : Nat} (hP : 0 < P) {m n : Nat} : vw P m < vw P n ↔ m < n := by
  constructor
  · intro h
    rcases Nat.lt_or_ge m n with h1 | h1
    · exact h1
    · rcases Nat.lt_or_eq_of_le h1 with h2 | h2
      · have := vw_lt hP h2; omega
      · subst h2; omega
  · exact vw_lt hP
end Go.Proofs.YthmppcfhbbjhlaaDoor
