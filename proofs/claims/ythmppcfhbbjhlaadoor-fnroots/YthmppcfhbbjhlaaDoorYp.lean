import Derived.Test.YthmppcfhbbjhlaaDoorXa
import Derived.Test.YthmppcfhbbjhlaaDoorXc
import Derived.Test.YthmppcfhbbjhlaaDoorXh
import Derived.Test.YthmppcfhbbjhlaaDoorXg
import Derived.Test.YthmppcfhbbjhlaaDoorDv2
import Derived.Test.YthmppcfhbbjhlaaDoorXt
import Derived.Test.YthmppcfhbbjhlaaDoorIw
set_option linter.all false
namespace Go.Proofs.YthmppcfhbbjhlaaDoor
open Go.RowKit Go.Sort

set_option maxHeartbeats 1000000 in
theorem isum_any {p e : Nat} {L : Int} (g1 g2 : Bool) (x1 x2 : Int) (s1 s2 : Nat) (hp1 : 1 ≤ p) (hp : p ≤ 60) (h1 : s1 ≠ 0) (h2 : s2 ≠ 0) (b1 : bl s1 ≤ p) (b2 : bl s2 ≤ p) (hL1 : L ≤ x1) (hL2 : L ≤ x2) (hx1 : -1100 ≤ x1) (hx1' : x1 ≤ 1100) (hx2 : -1100 ≤ x2) (hx2' : x2 ≤ 1100) (m : Int) (hm : m = min x1 x2) :
    ∃ (g3 : Bool) (x3 : Int) (s3 : Nat), (∀ w, Calls Tryd.prog 94 #[N2 0 g1 x1 s1, N2 0 g2 x2 s2] w fun e w' => e = .returned (N2 0 g3 x3 s3) ∧ Below w.heap.size w w') ∧ s3 < 340282366920938463463374607431768211456 ∧ -5000 ≤ x3 ∧ x3 ≤ 5000 ∧
      (g1 = g2 → g3 = g1 ∧ rnd p e L s3 x3 false = rnd p e L (s1 * 2 ^ (x1 - m).toNat + s2 * 2 ^ (x2 - m).toNat) m false) ∧
      (g1 ≠ g2 → (s1 * 2 ^ (x1 - m).toNat = s2 * 2 ^ (x2 - m).toNat ∧ s3 = 0 ∧ g3 = false) ∨ (s2 * 2 ^ (x2 - m).toNat < s1 * 2 ^ (x1 - m).toNat ∧ g3 = g1 ∧ rnd p e L s3 x3 false = rnd p e L (s1 * 2 ^ (x1 - m).toNat - s2 * 2 ^ (x2 - m).toNat) m false) ∨ (s1 * 2 ^ (x1 - m).toNat < s2 * 2 ^ (x2 - m).toNat ∧ g3 = g2 ∧ rnd p e L s3 x3 false = rnd p e L (s2 * 2 ^ (x2 - m).toNat - s1 * 2 ^ (x1 - m).toNat) m false)) := by
  have q1 := bl_pos h1
  have q2 := bl_pos h2
  have t1 : s1 < 340282366920938463463374607431768211456 := by
    have := bl_lt s1; have := pow_le (show bl s1 ≤ 128 by omega); rw [← M128_pow] at this; omega
  have t2 : s2 < 340282366920938463463374607431768211456 := by
    have := bl_lt s2; have := pow_le (show bl s2 ≤ 128 by omega); rw [← M128_pow] at this; omega
  have KN := fun w => lift_any 0 g1 x1 127 s1 w t1 h1 (by omega) (by omega) (by omega) (by omega)
  have KM := fun w => lift_any 0 g2 x2 127 s2 w t2 h2 (by omega) (by omega) (by omega) (by omega)
  rw [show (127 - (bl s1 : Int)).toNat = 127 - bl s1 by omega, show (127 - (bl s1 : Int)) = ((127 - bl s1 : Nat) : Int) by omega] at KN
  rw [show (127 - (bl s2 : Int)).toNat = 127 - bl s2 by omega, show (127 - (bl s2 : Int)) = ((127 - bl s2 : Nat) : Int) by omega] at KM
  obtain ⟨-, n1, n2⟩ := lift_parts h1 (by omega)
  obtain ⟨-, m1, m2⟩ := lift_parts h2 (by omega)
  rw [show (2 : Nat) ^ 127 = 170141183460469231731687303715884105728 by decide] at n2 m2
  have hm' : m = min x2 x1 := by omega
  by_cases hs : x1 - ((127 - bl s1 : Nat) : Int) < x2 - ((127 - bl s2 : Nat) : Int)
  · have K := fun w => isum_lt g1 g2 x1 x2 _ _ _ _ _ _ (s1 * 2 ^ (127 - bl s1)) (s2 * 2 ^ (127 - bl s2)) w n2 m2 hs (by omega) (by omega) (by omega) (by omega) KN KM
    rw [if_pos hs] at K
    obtain ⟨d, hd⟩ : ∃ d : Nat, (x2 - ((127 - bl s2 : Nat) : Int)) - (x1 - ((127 - bl s1 : Nat) : Int)) = d := ⟨((x2 - ((127 - bl s2 : Nat) : Int)) - (x1 - ((127 - bl s1 : Nat) : Int))).toNat, by omega⟩
    rw [show ((x2 - ((127 - bl s2 : Nat) : Int)) - (x1 - ((127 - bl s1 : Nat) : Int))).toNat = d by omega] at K
    have hD : s1 * 2 ^ (127 - bl s1) / 2 ^ d ≤ s1 * 2 ^ (127 - bl s1) := Nat.div_le_self _ _
    by_cases hg : g2 = g1
    · rw [smR, if_pos hg] at K
      have e1 := add_eq (p := p) (e := e) (L := L) hp1 hp h2 h1 b2 b1 hL2 hm' hd
      refine ⟨_, _, _, K, by omega, by omega, by omega, fun _ => ⟨hg, ?_⟩, fun h => absurd hg.symm h⟩
      rw [e1, Nat.add_comm]
    · rw [smR, if_neg hg] at K
      by_cases hE : s2 * 2 ^ (127 - bl s2) = s1 * 2 ^ (127 - bl s1) / 2 ^ d
      · rw [if_pos hE] at K
        have e1 := sub_same h2 h1 (by omega) (by omega) hm' hd hE
        exact ⟨_, _, _, K, by decide, by decide, by decide, fun h => absurd h.symm hg, fun _ => .inl ⟨e1.symm, rfl, rfl⟩⟩
      · rw [if_neg hE] at K
        by_cases hl : s2 * 2 ^ (127 - bl s2) < s1 * 2 ^ (127 - bl s1) / 2 ^ d
        · rw [if_pos hl] at K
          have e1 := sub_lt (p := p) (e := e) (L := L) hp h2 h1 b2 b1 hm' hd hl
          exact ⟨_, _, _, K, by omega, by omega, by omega, fun h => absurd h.symm hg, fun _ => .inr (.inl ⟨e1.1, rfl, e1.2⟩)⟩
        · rw [if_neg hl] at K
          have e1 := sub_gt (p := p) (e := e) (L := L) hp1 hp h2 h1 b2 b1 hL2 hm' hd (by omega)
          exact ⟨_, _, _, K, Nat.lt_of_le_of_lt (Nat.sub_le _ _) (by omega), by omega, by omega, fun h => absurd h.symm hg, fun _ => .inr (.inr ⟨e1.1, rfl, e1.2⟩)⟩
  · have K := fun w => isum_ge g1 g2 x1 x2 _ _ _ _ _ _ (s1 * 2 ^ (127 - bl s1)) (s2 * 2 ^ (127 - bl s2)) w n2 m2 hs (by omega) (by omega) (by omega) (by omega) KN KM
    rw [if_neg hs] at K
    obtain ⟨d, hd⟩ : ∃ d : Nat, (x1 - ((127 - bl s1 : Nat) : Int)) - (x2 - ((127 - bl s2 : Nat) : Int)) = d := ⟨((x1 - ((127 - bl s1 : Nat) : Int)) - (x2 - ((127 - bl s2 : Nat) : Int))).toNat, by omega⟩
    rw [show ((x1 - ((127 - bl s1 : Nat) : Int)) - (x2 - ((127 - bl s2 : Nat) : Int))).toNat = d by omega] at K
    have hD : s2 * 2 ^ (127 - bl s2) / 2 ^ d ≤ s2 * 2 ^ (127 - bl s2) := Nat.div_le_self _ _
    by_cases hg : g1 = g2
    · rw [smR, if_pos hg] at K
      have e1 := add_eq (p := p) (e := e) (L := L) hp1 hp h1 h2 b1 b2 hL1 hm hd
      exact ⟨_, _, _, K, by omega, by omega, by omega, fun _ => ⟨rfl, e1⟩, fun h => absurd hg h⟩
    · rw [smR, if_neg hg] at K
      by_cases hE : s1 * 2 ^ (127 - bl s1) = s2 * 2 ^ (127 - bl s2) / 2 ^ d
      · rw [if_pos hE] at K
        have e1 := sub_same h1 h2 (by omega) (by omega) hm hd hE
        exact ⟨_, _, _, K, by decide, by decide, by decide, fun h => absurd h hg, fun _ => .inl ⟨e1, rfl, rfl⟩⟩
      · rw [if_neg hE] at K
        by_cases hl : s1 * 2 ^ (127 - bl s1) < s2 * 2 ^ (127 - bl s2) / 2 ^ d
        · rw [if_pos hl] at K
          have e1 := sub_lt (p := p) (e := e) (L := L) hp h1 h2 b1 b2 hm hd hl
          exact ⟨_, _, _, K, by omega, by omega, by omega, fun h => absurd h hg, fun _ => .inr (.inr ⟨e1.1, rfl, e1.2⟩)⟩
        · rw [if_neg hl] at K
          have e1 := sub_gt (p := p) (e := e) (L := L) hp1 hp h1 h2 b1 b2 hL1 hm hd (by omega)
          exact ⟨_, _, _, K, Nat.lt_of_le_of_lt (Nat.sub_le _ _) (by omega), by omega, by omega, fun h => absurd h hg, fun _ => .inr (.inl ⟨e1.1, rfl, e1.2⟩)⟩
theorem bl_add {x y k : Nat} (hx : bl x ≤ k) (hy : bl y ≤ k) : bl (x + y) ≤ k + 1 := by
  apply bl_le
  have h1 := bl_lt x
  have h2 := bl_lt y
  have h3 := pow_le hx
  have h4 := pow_le hy
  rw [Nat.pow_succ]
  omega
theorem rnd_min {p e : Nat} {L : Int} {s : Nat} {x m : Int} (hm : m ≤ x) : rnd p e L (s * 2 ^ (x - m).toNat) m false = rnd p e L s x false := by
  by_cases h0 : s = 0
  · subst h0; rw [Nat.zero_mul, rnd_zz, rnd_zz]
  · have h := rnd_shift (p := p) (e := e) (L := L) (s := s) (j := (x - m).toNat) (E := x) h0
    rw [show x - (((x - m).toNat : Nat) : Int) = m by omega] at h
    exact h
end Go.Proofs.YthmppcfhbbjhlaaDoor
namespace Go.Proofs.YthmppcfhbbjhlaaDoor
open Go.RowKit Go.Sort

theorem quo_low {s1 s2 pl1 pl2 k : Nat} (hk : pl1 = k + pl2) : s1 * 2 ^ pl1 / (s2 * 2 ^ pl2) = s1 * 2 ^ k / s2 ∧ (s1 * 2 ^ pl1 % (s2 * 2 ^ pl2) = 0 ↔ s1 * 2 ^ k % s2 = 0) := by
  have e : s1 * 2 ^ pl1 = s1 * 2 ^ k * 2 ^ pl2 := by rw [hk, Nat.pow_add, Nat.mul_assoc]
  have hp := Nat.two_pow_pos pl2
  rw [e, Nat.mul_div_mul_right _ _ hp, Nat.mul_mod_mul_right]
  refine ⟨rfl, ?_⟩
  constructor
  · intro h
    rcases Nat.mul_eq_zero.1 h with h | h
    · exact h
    · omega
  · intro h; rw [h, Nat.zero_mul]
theorem wr0_n (g : Bool) (s : Nat) (x : Int) : wr_n 0 g s x = sg_n g + (rnd 24 8 (-149) s x false : Nat) := by rw [wr_n, if_neg (by decide), if_neg (by decide)]
end Go.Proofs.YthmppcfhbbjhlaaDoor
namespace Go.Proofs.YthmppcfhbbjhlaaDoor
open Go.RowKit Go.Sort

theorem wr0_w (g : Bool) (s : Nat) (x : Int) : wr_w 0 g s x = sg_w g + (rnd 53 11 (-1074) s x false : Nat) := by rw [wr_w, if_neg (by decide), if_neg (by decide)]
end Go.Proofs.YthmppcfhbbjhlaaDoor
namespace Go.Proofs.YthmppcfhbbjhlaaDoor
open Go.RowKit Go.Sort

end Go.Proofs.YthmppcfhbbjhlaaDoor
namespace Go.Proofs.YthmppcfhbbjhlaaDoor
open Go.RowKit Go.Sort

end Go.Proofs.YthmppcfhbbjhlaaDoor
namespace Go.Proofs.YthmppcfhbbjhlaaDoor
open Go.RowKit Go.Sort

end Go.Proofs.YthmppcfhbbjhlaaDoor
namespace Go.Proofs.YthmppcfhbbjhlaaDoor
open Go.RowKit Go.Sort

end Go.Proofs.YthmppcfhbbjhlaaDoor
