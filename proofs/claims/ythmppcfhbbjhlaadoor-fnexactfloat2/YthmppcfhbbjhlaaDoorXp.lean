import Derived.Test.YthmppcfhbbjhlaaDoorXa
import Derived.Test.YthmppcfhbbjhlaaDoorXc
import Derived.Test.YthmppcfhbbjhlaaDoorXh
import Derived.Test.YthmppcfhbbjhlaaDoorXg
import Derived.Test.YthmppcfhbbjhlaaDoorDv2
import Derived.Test.YthmppcfhbbjhlaaDoorXt
import Derived.Test.YthmppcfhbbjhlaaDoorIw
set_option linter.all false
namespace Go.Proofs.YthmppcfhbbjhlaaDoor
open Go.RowKit Go.Sort

set_option maxHeartbeats 1000000 in
theorem isum_any {p e : Nat} {L : Int} (g1 g2 : Bool) (x1 x2 : Int) (s1 s2 : Nat) (hp1 : 1 ≤ p) (hp : p ≤ 60) (h1 : s1 ≠ 0) (h2 : s2 ≠ 0) (b1 : bl s1 ≤ p) (b2 : bl s2 ≤ p) (hL1 : L ≤ x1) (hL2 : L ≤ x2) (hx1 : -1100 ≤ x1) (hx1' : x1 ≤ 1100) (hx2 : -1100 ≤ x2) (hx2' : x2 ≤ 1100) (m : Int) (hm : m = min x1 x2) :
    ∃ (g3 : Bool) (x3 : Int) (s3 : Nat), (∀ w, Calls Tryd.prog 94 #[N2 0 g1 x1 s1, N2 0 g2 x2 s2] w fun e w' => e = .returned (N2 0 g3 x3 s3) ∧ Below w.heap.size w w') ∧ s3 < 340282366920938463463374607431768211456 ∧ -5000 ≤ x3 ∧ x3 ≤ 5000 ∧
      (g1 = g2 → g3 = g1 ∧ rnd p e L s3 x3 false = rnd p e L (s1 * 2 ^ (x1 - m).toNat + s2 * 2 ^ (x2 - m).toNat) m false) ∧
      (g1 ≠ g2 → (s1 * 2 ^ (x1 - m).toNat = s2 * 2 ^ (x2 - m).toNat ∧ s3 = 0 ∧ g3 = false) ∨ (s2 * 2 ^ (x2 - m).toNat < s1 * 2 ^ (x1 - m).toNat ∧ g3 = g1 ∧ rnd p e L s3 x3 false = rnd p e L (s1 * 2 ^ (x1 - m).toNat - s2 * 2 ^ (x2 - m).toNat) m false) ∨ (s1 * 2 ^ (x1 - m).toNat < s2 * 2 ^ (x2 - m).toNat ∧ g3 = g2 ∧ rnd p e L s3 x3 false = rnd p e L (s2 * 2 ^ (x2 - m).toNat - s1 * 2 ^ (x1 - m).toNat) m false)) := by
  have q1 := bl_pos h1
  have q2 := bl_pos h2
  have t1 : s1 < 340282366920938463463374607431768211456 := by
    have := bl_lt s1; have := pow_le (show bl s1 ≤ 128 by omega); rw [← M128_pow] at this; omega
  have t2 : s2 < 340282366920938463463374607431768211456 := by
    have := bl_lt s2; have := pow_le (show bl s2 ≤ 128 by omega); rw [← M128_pow] at this; omega
  have KN := fun w => lift_any 0 g1 x1 127 s1 w t1 h1 (by omega) (by omega) (by omega) (by omega)
  have KM := fun w => lift_any 0 g2 x2 127 s2 w t2 h2 (by omega) (by omega) (by omega) (by omega)
  rw [show (127 - (bl s1 : Int)).toNat = 127 - bl s1 by omega, show (127 - (bl s1 : Int)) = ((127 - bl s1 : Nat) : Int) by omega] at KN
  rw [show (127 - (bl s2 : Int)).toNat = 127 - bl s2 by omega, show (127 - (bl s2 : Int)) = ((127 - bl s2 : Nat) : Int) by omega] at KM
  obtain ⟨-, n1, n2⟩ := lift_parts h1 (by omega)
  obtain ⟨-, m1, m2⟩ := lift_parts h2 (by omega)
  rw [show (2 : Nat) ^ 127 = 170141183460469231731687303715884105728 by decide] at n2 m2
  have hm' : m = min x2 x1 := by omega
  by_cases hs : x1 - ((127 - bl s1 : Nat) : Int) < x2 - ((127 - bl s2 : Nat) : Int)
  · have K := fun w => isum_lt g1 g2 x1 x2 _ _ _ _ _ _ (s1 * 2 ^ (127 - bl s1)) (s2 * 2 ^ (127 - bl s2)) w n2 m2 hs (by omega) (by omega) (by omega) (by omega) KN KM
    rw [if_pos hs] at K
    obtain ⟨d, hd⟩ : ∃ d : Nat, (x2 - ((127 - bl s2 : Nat) : Int)) - (x1 - ((127 - bl s1 : Nat) : Int)) = d := ⟨((x2 - ((127 - bl s2 : Nat) : Int)) - (x1 - ((127 - bl s1 : Nat) : Int))).toNat, by omega⟩
    rw [show ((x2 - ((127 - bl s2 : Nat) : Int)) - (x1 - ((127 - bl s1 : Nat) : Int))).toNat = d by omega] at K
    have hD : s1 * 2 ^ (127 - bl s1) / 2 ^ d ≤ s1 * 2 ^ (127 - bl s1) := Nat.div_le_self _ _
    by_cases hg : g2 = g1
    · rw [smR, if_pos hg] at K
      have e1 := add_eq (p := p) (e := e) (L := L) hp1 hp h2 h1 b2 b1 hL2 hm' hd
      refine ⟨_, _, _, K, by omega, by omega, by omega, fun _ => ⟨hg, ?_⟩, fun h => absurd hg.symm h⟩
      rw [e1, Nat.add_comm]
    · rw [smR, if_neg hg] at K
      by_cases hE : s2 * 2 ^ (127 - bl s2) = s1 * 2 ^ (127 - bl s1) / 2 ^ d
      · rw [if_pos hE] at K
        have e1 := sub_same h2 h1 (by omega) (by omega) hm' hd hE
        exact ⟨_, _, _, K, by decide, by decide, by decide, fun h => absurd h.symm hg, fun _ => .inl ⟨e1.symm, rfl, rfl⟩⟩
      · rw [if_neg hE] at K
        by_cases hl : s2 * 2 ^ (127 - bl s2) < s1 * 2 ^ (127 - bl s1) / 2 ^ d
        · rw [if_pos hl] at K
          have e1 := sub_lt (p := p) (e := e) (L := L) hp h2 h1 b2 b1 hm' hd hl
          exact ⟨_, _, _, K, by omega, by omega, by omega, fun h => absurd h.symm hg, fun _ => .inr (.inl ⟨e1.1, rfl, e1.2⟩)⟩
        · rw [if_neg hl] at K
          have e1 := sub_gt (p := p) (e := e) (L := L) hp1 hp h2 h1 b2 b1 hL2 hm' hd (by omega)
          exact ⟨_, _, _, K, Nat.lt_of_le_of_lt (Nat.sub_le _ _) (by omega), by omega, by omega, fun h => absurd h.symm hg, fun _ => .inr (.inr ⟨e1.1, rfl, e1.2⟩)⟩
  · have K := fun w => isum_ge g1 g2 x1 x2 _ _ _ _ _ _ (s1 * 2 ^ (127 - bl s1)) (s2 * 2 ^ (127 - bl s2)) w n2 m2 hs (by omega) (by omega) (by omega) (by omega) KN KM
    rw [if_neg hs] at K
    obtain ⟨d, hd⟩ : ∃ d : Nat, (x1 - ((127 - bl s1 : Nat) : Int)) - (x2 - ((127 - bl s2 : Nat) : Int)) = d := ⟨((x1 - ((127 - bl s1 : Nat) : Int)) - (x2 - ((127 - bl s2 : Nat) : Int))).toNat, by omega⟩
    rw [show ((x1 - ((127 - bl s1 : Nat) : Int)) - (x2 - ((127 - bl s2 : Nat) : Int))).toNat = d by omega] at K
    have hD : s2 * 2 ^ (127 - bl s2) / 2 ^ d ≤ s2 * 2 ^ (127 - bl s2) := Nat.div_le_self _ _
    by_cases hg : g1 = g2
    · rw [smR, if_pos hg] at K
      have e1 := add_eq (p := p) (e := e) (L := L) hp1 hp h1 h2 b1 b2 hL1 hm hd
      exact ⟨_, _, _, K, by omega, by omega, by omega, fun _ => ⟨rfl, e1⟩, fun h => absurd hg h⟩
    · rw [smR, if_neg hg] at K
      by_cases hE : s1 * 2 ^ (127 - bl s1) = s2 * 2 ^ (127 - bl s2) / 2 ^ d
      · rw [if_pos hE] at K
        have e1 := sub_same h1 h2 (by omega) (by omega) hm hd hE
        exact ⟨_, _, _, K, by decide, by decide, by decide, fun h => absurd h hg, fun _ => .inl ⟨e1, rfl, rfl⟩⟩
      · rw [if_neg hE] at K
        by_cases hl : s1 * 2 ^ (127 - bl s1) < s2 * 2 ^ (127 - bl s2) / 2 ^ d
        · rw [if_pos hl] at K
          have e1 := sub_lt (p := p) (e := e) (L := L) hp h1 h2 b1 b2 hm hd hl
          exact ⟨_, _, _, K, by omega, by omega, by omega, fun h => absurd h hg, fun _ => .inr (.inr ⟨e1.1, rfl, e1.2⟩)⟩
        · rw [if_neg hl] at K
          have e1 := sub_gt (p := p) (e := e) (L := L) hp1 hp h1 h2 b1 b2 hL1 hm hd (by omega)
          exact ⟨_, _, _, K, Nat.lt_of_le_of_lt (Nat.sub_le _ _) (by omega), by omega, by omega, fun h => absurd h hg, fun _ => .inr (.inl ⟨e1.1, rfl, e1.2⟩)⟩
theorem bl_add {x y k : Nat} (hx : bl x ≤ k) (hy : bl y ≤ k) : bl (x + y) ≤ k + 1 := by
  apply bl_le
  have h1 := bl_lt x
  have h2 := bl_lt y
  have h3 := pow_le hx
  have h4 := pow_le hy
  rw [Nat.pow_succ]
  omega
theorem rnd_min {p e : Nat} {L : Int} {s : Nat} {x m : Int} (hm : m ≤ x) : rnd p e L (s * 2 ^ (x - m).toNat) m false = rnd p e L s x false := by
  by_cases h0 : s = 0
  · subst h0; rw [Nat.zero_mul, rnd_zz, rnd_zz]
  · have h := rnd_shift (p := p) (e := e) (L := L) (s := s) (j := (x - m).toNat) (E := x) h0
    rw [show x - (((x - m).toNat : Nat) : Int) = m by omega] at h
    exact h
end Go.Proofs.YthmppcfhbbjhlaaDoor
namespace Go.Proofs.YthmppcfhbbjhlaaDoor
open Go.RowKit Go.Sort

theorem quo_low {s1 s2 pl1 pl2 k : Nat} (hk : pl1 = k + pl2) : s1 * 2 ^ pl1 / (s2 * 2 ^ pl2) = s1 * 2 ^ k / s2 ∧ (s1 * 2 ^ pl1 % (s2 * 2 ^ pl2) = 0 ↔ s1 * 2 ^ k % s2 = 0) := by
  have e : s1 * 2 ^ pl1 = s1 * 2 ^ k * 2 ^ pl2 := by rw [hk, Nat.pow_add, Nat.mul_assoc]
  have hp := Nat.two_pow_pos pl2
  rw [e, Nat.mul_div_mul_right _ _ hp, Nat.mul_mod_mul_right]
  refine ⟨rfl, ?_⟩
  constructor
  · intro h
    rcases Nat.mul_eq_zero.1 h with h | h
    · exact h
    · omega
  · intro h; rw [h, Nat.zero_mul]
theorem wr0_n (g : Bool) (s : Nat) (x : Int) : wr_n 0 g s x = sg_n g + (rnd 24 8 (-149) s x false : Nat) := by rw [wr_n, if_neg (by decide), if_neg (by decide)]
set_option maxHeartbeats 1000000 in
theorem byB_n (m1 m2 : Nat) (g1 g2 ga gb : Bool) (hm1 : m1 < 2147483648) (hm2 : m2 < 2147483648) (hga : m1 ≤ 2139095040 → ga = g1) (hgb : m2 ≤ 2139095040 → gb = g2) :
    ∃ (k3 : Int) (g3 : Bool) (x3 l3 h3 R : Int),
      (∀ w, Calls Tryd.prog 56 #[N2 (kd_n m1) ga (ex_n m1) (mt_n m1), N2 (kd_n m2) gb (ex_n m2) (mt_n m2)] w fun e w' => e = .returned (NV k3 g3 x3 l3 h3) ∧ Below w.heap.size w w') ∧
      (∀ w, Calls Tryd.prog 39 #[FVn, NV k3 g3 x3 l3 h3] w fun e w' => e = .returned (.int .u64 R) ∧ Below w.heap.size w w') ∧
      (∀ v1 v2 w, SN w v1 (mt_n m1) → SN w v2 (mt_n m2) → Calls Tryd.prog 49 #[FSn, SV (kd_n m1) g1 v1 (ex_n m1), SV (kd_n m2) g2 v2 (ex_n m2)] w fun e w' => e = .returned (.int .u64 R) ∧ Below w.heap.size w w') := by
  have hx1 := ex_n_b m1 hm1
  have hx2 := ex_n_b m2 hm2
  have hs1 := mt_n_b m1
  have hs2 := mt_n_b m2
  have hb1 : bl (mt_n m1) ≤ 60 := bl60 (by omega)
  have hb2 : bl (mt_n m2) ≤ 60 := bl60 (by omega)
  have KZi : ∀ (k : Int) (g : Bool) (x : Int) (s : Nat) (w : World), s < 16777216 → Hid (Calls Tryd.prog 79 #[N2 k g x s] w fun e w' => e = .returned (.bool (decide (k = 0) && decide (s = 0))) ∧ Below w.heap.size w w') := fun k g x s w hs => nzero_key k g x _ _ (decide (s = 0)) w (fun w => isZero_any s w (by omega))
  have KZs : ∀ (k : Int) (g : Bool) (x : Int) (s : Nat) (v : Value) (w : World), bl s ≤ 60 → SN w v s → Hid (Calls Tryd.prog 66 #[SV k g v x] w fun e w' => e = .returned (.bool (decide (k = 0) && decide (s = 0))) ∧ Below w.heap.size w w') := fun k g x s v w hb hs => szero_key k g v x s w (by omega) hs
  have NN : (∀ w, Calls Tryd.prog 39 #[FVn, NV 2 false 0 0 0] w fun e w' => e = .returned (.int .u64 2143289344) ∧ Below w.heap.size w w') := fun w => write_n_2 false 0 0 0 w
  have NI : ∀ g w, Calls Tryd.prog 39 #[FVn, NV 1 g 0 0 0] w fun e w' => e = .returned (.int .u64 (sg_n g + 2139095040)) ∧ Below w.heap.size w w' := fun g w => write_n 1 g 0 0 w (.inr (.inl rfl)) (by decide) (by decide) (by decide)
  have NZ : ∀ g w, Calls Tryd.prog 39 #[FVn, NV 0 g 0 0 0] w fun e w' => e = .returned (.int .u64 (sg_n g)) ∧ Below w.heap.size w w' := fun g w => by
    have h := write_n 0 g 0 0 w (.inl rfl) (by decide) (by decide) (by decide)
    rw [show wr_n 0 g 0 0 = sg_n g by rw [wr_n, if_neg (by decide), if_neg (by decide), rnd_zz]; simp] at h
    exact h
  rcases (show 2139095040 < m1 ∨ m1 = 2139095040 ∨ m1 < 2139095040 by omega) with h1 | h1 | h1
  · rw [kd_n_n h1]
    exact ⟨2, false, 0, 0, 0, 2143289344, fun w => by_2x _ ga gb _ _ _ _ _ _ w, NN, fun v1 v2 w hS1 hS2 => dvs_2x _ _ _ _ g1 g2 v1 v2 _ _ _ _ w _ hS1 hS2 (fun w => nan_n w)⟩
  · rcases (show 2139095040 < m2 ∨ m2 = 2139095040 ∨ m2 < 2139095040 by omega) with h2 | h2 | h2
    · rw [kd_n_n h2]
      exact ⟨2, false, 0, 0, 0, 2143289344, fun w => by_x2 _ ga gb _ _ _ _ _ _ w (by rw [h1]; decide), NN, fun v1 v2 w hS1 hS2 => dvs_x2 _ _ _ _ g1 g2 v1 v2 _ _ _ _ w _ hS1 hS2 (by rw [h1]; decide) (fun w => nan_n w)⟩
    · rw [h1, h2, kd_n_i]
      exact ⟨2, false, 0, 0, 0, 2143289344, fun w => by_11 ga gb _ _ _ _ _ _ w, NN, fun v1 v2 w hS1 hS2 => dvs_11 _ _ _ g1 g2 v1 v2 _ _ _ _ w _ hS1 hS2 (fun w => nan_n w)⟩
    · obtain rfl := hga (by omega)
      obtain rfl := hgb (by omega)
      rw [h1, kd_n_i, kd_n_f h2]
      rw [h1] at hs1 hb1
      exact ⟨1, !(ga == gb), 0, 0, 0, _, fun w => by_10 _ ga gb _ _ _ _ _ _ w (fun w => KZi 1 ga _ _ w hs1) rfl, NI _, fun v1 v2 w hS1 hS2 => dvs_10 _ _ _ _ ga gb v1 v2 _ _ _ _ w _ hS1 hS2 rfl (fun w hs => KZs 1 ga _ _ v1 w hb1 hs) (fun w => inf_n _ w)⟩
  · rcases (show 2139095040 < m2 ∨ m2 = 2139095040 ∨ m2 < 2139095040 by omega) with h2 | h2 | h2
    · rw [kd_n_n h2]
      exact ⟨2, false, 0, 0, 0, 2143289344, fun w => by_x2 _ ga gb _ _ _ _ _ _ w (by rw [kd_n_f h1]; decide), NN, fun v1 v2 w hS1 hS2 => dvs_x2 _ _ _ _ g1 g2 v1 v2 _ _ _ _ w _ hS1 hS2 (by rw [kd_n_f h1]; decide) (fun w => nan_n w)⟩
    · obtain rfl := hga (by omega)
      obtain rfl := hgb (by omega)
      rw [h2, kd_n_i, kd_n_f h1]
      rw [h2] at hs2 hb2
      have KA := fun w => KZi 0 ga (ex_n m1) (mt_n m1) w hs1
      have KB := fun (v : Value) w hs => KZs 0 ga (ex_n m1) (mt_n m1) v w hb1 hs
      by_cases hz : mt_n m1 = 0
      · rw [show (decide ((0 : Int) = 0) && decide (mt_n m1 = 0)) = true by simp [hz]] at KA KB
        exact ⟨0, !(ga == gb), 0, 0, 0, _, fun w => by_z1 _ ga gb _ _ _ _ _ _ w KA (fun w => KZi 1 gb _ _ w hs2) rfl, NZ _, fun v1 v2 w hS1 hS2 => dvs_z1 _ _ _ _ ga gb v1 v2 _ _ _ _ w _ hS1 hS2 rfl (KB v1) (fun w hs => KZs 1 gb _ _ v2 w hb2 hs) (fun w => sign_n _ w)⟩
      · rw [show (decide ((0 : Int) = 0) && decide (mt_n m1 = 0)) = false by simp [hz]] at KA KB
        exact ⟨0, !(ga == gb), 0, 0, 0, _, fun w => by_n1 _ ga gb _ _ _ _ _ _ w KA (fun w => KZi 1 gb _ _ w hs2) rfl, NZ _, fun v1 v2 w hS1 hS2 => dvs_n1 _ _ _ _ ga gb v1 v2 _ _ _ _ w _ hS1 hS2 rfl (KB v1) (fun w hs => KZs 1 gb _ _ v2 w hb2 hs) (fun w => sign_n _ w)⟩
    · obtain rfl := hga (by omega)
      obtain rfl := hgb (by omega)
      rw [kd_n_f h1, kd_n_f h2]
      have KA := fun w => KZi 0 ga (ex_n m1) (mt_n m1) w hs1
      have KB := fun w => KZi 0 gb (ex_n m2) (mt_n m2) w hs2
      have SA := fun (v : Value) w hs => KZs 0 ga (ex_n m1) (mt_n m1) v w hb1 hs
      have SB := fun (v : Value) w hs => KZs 0 gb (ex_n m2) (mt_n m2) v w hb2 hs
      by_cases z1 : mt_n m1 = 0
      · rw [show (decide ((0 : Int) = 0) && decide (mt_n m1 = 0)) = true by simp [z1]] at KA SA
        by_cases z2 : mt_n m2 = 0
        · rw [show (decide ((0 : Int) = 0) && decide (mt_n m2 = 0)) = true by simp [z2]] at KB SB
          exact ⟨2, false, 0, 0, 0, 2143289344, fun w => by_zz ga gb _ _ _ _ _ _ w KA KB, NN, fun v1 v2 w hS1 hS2 => dvs_zz _ _ _ ga gb v1 v2 _ _ _ _ w _ hS1 hS2 (SA v1) (SB v2) (fun w => nan_n w)⟩
        · rw [show (decide ((0 : Int) = 0) && decide (mt_n m2 = 0)) = false by simp [z2]] at KB SB
          exact ⟨0, !(ga == gb), 0, 0, 0, _, fun w => by_zn _ ga gb _ _ _ _ _ _ w KA KB rfl, NZ _, fun v1 v2 w hS1 hS2 => dvs_zn _ _ _ _ ga gb v1 v2 _ _ _ _ w _ hS1 hS2 rfl (SA v1) (SB v2) (fun w => sign_n _ w)⟩
      · rw [show (decide ((0 : Int) = 0) && decide (mt_n m1 = 0)) = false by simp [z1]] at KA SA
        by_cases z2 : mt_n m2 = 0
        · rw [show (decide ((0 : Int) = 0) && decide (mt_n m2 = 0)) = true by simp [z2]] at KB SB
          exact ⟨1, !(ga == gb), 0, 0, 0, _, fun w => by_nz _ ga gb _ _ _ _ _ _ w KA KB rfl, NI _, fun v1 v2 w hS1 hS2 => dvs_nz _ _ _ _ ga gb v1 v2 _ _ _ _ w _ hS1 hS2 rfl (SA v1) (SB v2) (fun w => inf_n _ w)⟩
        · rw [show (decide ((0 : Int) = 0) && decide (mt_n m2 = 0)) = false by simp [z2]] at KB SB
          have c1 : bl (mt_n m1) ≤ 24 := bl_le (k := 24) hs1
          have c2 : bl (mt_n m2) ≤ 24 := bl_le (k := 24) hs2
          have q1 := bl_pos z1
          have q2 := bl_pos z2
          generalize ex_n m1 = x1 at *
          generalize ex_n m2 = x2 at *
          generalize mt_n m1 = s1 at *
          generalize mt_n m2 = s2 at *
          obtain ⟨-, n1, n2⟩ := lift_parts z1 (by omega)
          have KN := fun w => lift_any 0 ga x1 127 s1 w (by omega) z1 (by omega) (by omega) (by omega) (by omega)
          have KM := fun w => lift_any 0 gb x2 64 s2 w (by omega) z2 (by omega) (by omega) (by omega) (by omega)
          obtain ⟨pl1, hp1⟩ : ∃ k, k = 127 - bl s1 := ⟨_, rfl⟩
          obtain ⟨pl2, hp2⟩ : ∃ k, k = 64 - bl s2 := ⟨_, rfl⟩
          rw [show (127 - (bl s1 : Int)).toNat = pl1 by omega, show (127 - (bl s1 : Int)) = (pl1 : Int) by omega] at KN
          rw [show (64 - (bl s2 : Int)).toNat = pl2 by omega, show (64 - (bl s2 : Int)) = (pl2 : Int) by omega] at KM
          rw [← hp1] at n1 n2
          have hM : 2 ^ 63 ≤ s2 * 2 ^ pl2 ∧ s2 * 2 ^ pl2 < 2 ^ 64 := by
            have e1 := bl_mul z2 pl2
            have e2 : s2 * 2 ^ pl2 ≠ 0 := by have := Nat.mul_pos (show 0 < s2 by omega) (Nat.two_pow_pos pl2); omega
            have e3 := bl_ge e2
            have e4 := bl_lt (s2 * 2 ^ pl2)
            rw [e1, show bl s2 + pl2 = 64 by omega] at e3 e4
            exact ⟨e3, e4⟩
          rw [show (2 : Nat) ^ 127 = 170141183460469231731687303715884105728 by decide] at n2
          rw [show (2 : Nat) ^ 126 = 85070591730234615865843651857942052864 by decide] at n1
          rw [show (2 : Nat) ^ 63 = 9223372036854775808 by decide, show (2 : Nat) ^ 64 = 18446744073709551616 by decide] at hM
          obtain ⟨k, hk⟩ : ∃ k, pl1 = k + pl2 := ⟨pl1 - pl2, by omega⟩
          obtain ⟨ql, qr⟩ := quo_low (s1 := s1) (s2 := s2) hk
          have KD := fun w => div64_any (s1 * 2 ^ pl1 / 18446744073709551616) (s1 * 2 ^ pl1 % 18446744073709551616) (s2 * 2 ^ pl2) w (by rw [Nat.div_lt_iff_lt_mul (by decide)]; omega) (by rw [Nat.div_pos_iff]; omega) (Nat.mod_lt _ (by decide)) hM.1 hM.2
          rw [show s1 * 2 ^ pl1 / 18446744073709551616 * 18446744073709551616 + s1 * 2 ^ pl1 % 18446744073709551616 = s1 * 2 ^ pl1 by have := Nat.mod_add_div (s1 * 2 ^ pl1) 18446744073709551616; omega] at KD
          have hQ : s1 * 2 ^ pl1 / (s2 * 2 ^ pl2) < 18446744073709551616 := by
            rw [Nat.div_lt_iff_lt_mul (by omega)]
            have := Nat.mul_le_mul_left 18446744073709551616 hM.1
            omega
          have hQ1 : 2 ^ 62 ≤ s1 * 2 ^ pl1 / (s2 * 2 ^ pl2) := by
            rw [Nat.le_div_iff_mul_le (by omega), show (2 : Nat) ^ 62 = 4611686018427387904 by decide]
            have := Nat.mul_le_mul_left 4611686018427387904 (Nat.le_of_lt hM.2)
            omega
          have KK := fun w => mark_any (decide (s1 * 2 ^ pl1 % (s2 * 2 ^ pl2) ≠ 0)) (s1 * 2 ^ pl1 / (s2 * 2 ^ pl2)) w
          have eW : W2 (s1 * 2 ^ pl1 / (s2 * 2 ^ pl2)) = WV ((s1 * 2 ^ pl1 / (s2 * 2 ^ pl2) : Nat) : Int) 0 := by
            rw [W2, Nat.mod_eq_of_lt hQ, Nat.div_eq_of_lt hQ]; rfl
          rw [eW] at KK
          have eM : N2 0 gb (x2 - (pl2 : Int)) (s2 * 2 ^ pl2) = NV 0 gb (x2 - (pl2 : Int)) ((s2 * 2 ^ pl2 : Nat) : Int) 0 := by
            rw [N2, Nat.mod_eq_of_lt hM.2, Nat.div_eq_of_lt hM.2]; rfl
          rw [eM] at KM
          obtain ⟨n, hn⟩ : ∃ n : Nat, n = 24 + 2 + bl s2 := ⟨_, rfl⟩
          have bn : 24 + 2 ≤ bl (s1 * 2 ^ n / s2) := by
            have e1 : 2 ^ (24 + 2) ≤ s1 * 2 ^ n / s2 := by
              rw [Nat.le_div_iff_mul_le (by omega)]
              have e2 := Nat.mul_le_mul_left (2 ^ (24 + 2)) (Nat.le_of_lt (bl_lt s2))
              rw [← Nat.pow_add, ← hn] at e2
              have e3 := Nat.mul_le_mul_right (2 ^ n) (show 1 ≤ s1 by omega)
              omega
            exact Nat.le_of_lt (lt_bl e1)
          have bk : 24 + 2 ≤ bl (s1 * 2 ^ k / s2) := by
            rw [← ql]
            have := lt_bl hQ1
            omega
          have hq := quo_eq (p := 24) (e := 8) (L := -149) (a := s1) (b := s2) (n := n) (k := k) (ex := x1 - x2) (by omega) bn bk
          refine ⟨0, !(ga == gb), (x1 - pl1) - (x2 - pl2), _, _, sg_n (!(ga == gb)) + (rnd 24 8 (-149) (s1 * 2 ^ n / s2) (x1 - x2 - n) (decide (s1 * 2 ^ n % s2 ≠ 0)) : Nat), fun w => by_nn _ ga gb _ _ _ _ _ _ _ _ _ _ _ _ _ _ _ _ _ w KA KB rfl (by omega) (by omega) (by omega) (by omega) KN KM KD ?_ KK, fun w => ?_, fun v1 v2 w hS1 hS2 => ?_⟩
          · generalize s1 * 2 ^ pl1 % (s2 * 2 ^ pl2) = z
            rw [Bool.eq_iff_iff]; simp
          · have h := write_n 0 (!(ga == gb)) ((x1 - pl1) - (x2 - pl2)) (if decide (s1 * 2 ^ pl1 % (s2 * 2 ^ pl2) ≠ 0) then s1 * 2 ^ pl1 / (s2 * 2 ^ pl2) + (1 - s1 * 2 ^ pl1 / (s2 * 2 ^ pl2) % 2) else s1 * 2 ^ pl1 / (s2 * 2 ^ pl2)) w (.inl rfl) (by split <;> omega) (by omega) (by omega)
            rw [wr0_n] at h
            rw [← hq]
            have e5 : decide (s1 * 2 ^ k % s2 ≠ 0) = decide (s1 * 2 ^ pl1 % (s2 * 2 ^ pl2) ≠ 0) := by rw [decide_eq_decide]; exact not_congr qr.symm
            rw [e5, ← ql, show x1 - x2 - (k : Int) = x1 - pl1 - (x2 - pl2) by omega]
            exact h
          · have hbA : bl (s1 * 2 ^ n) = bl s1 + n := bl_mul z1 n
            have hbq : bl (s1 * 2 ^ n / s2) ≤ bl (s1 * 2 ^ n) := bl_mono (Nat.div_le_self _ _)
            refine dvs_nn _ _ _ _ ga gb v1 v2 _ _ _ _ (n : Int) (s1 * 2 ^ n) w _ hS1 hS2 rfl (SA v1) (SB v2) z1 z2 hb1 hb2 (by omega) (by omega) (by omega) (by omega) (by decide) (by decide) (by omega) (by rw [Int.toNat_natCast]) (fun v w hs => round_n _ _ _ _ v w (by omega) (by omega) (by omega) hs)
end Go.Proofs.YthmppcfhbbjhlaaDoor
namespace Go.Proofs.YthmppcfhbbjhlaaDoor
open Go.RowKit Go.Sort

theorem wr0_w (g : Bool) (s : Nat) (x : Int) : wr_w 0 g s x = sg_w g + (rnd 53 11 (-1074) s x false : Nat) := by rw [wr_w, if_neg (by decide), if_neg (by decide)]
set_option maxHeartbeats 1000000 in
theorem byB_w (m1 m2 : Nat) (g1 g2 ga gb : Bool) (hm1 : m1 < 9223372036854775808) (hm2 : m2 < 9223372036854775808) (hga : m1 ≤ 9218868437227405312 → ga = g1) (hgb : m2 ≤ 9218868437227405312 → gb = g2) :
    ∃ (k3 : Int) (g3 : Bool) (x3 l3 h3 R : Int),
      (∀ w, Calls Tryd.prog 56 #[N2 (kd_w m1) ga (ex_w m1) (mt_w m1), N2 (kd_w m2) gb (ex_w m2) (mt_w m2)] w fun e w' => e = .returned (NV k3 g3 x3 l3 h3) ∧ Below w.heap.size w w') ∧
      (∀ w, Calls Tryd.prog 39 #[FVw, NV k3 g3 x3 l3 h3] w fun e w' => e = .returned (.int .u64 R) ∧ Below w.heap.size w w') ∧
      (∀ v1 v2 w, SN w v1 (mt_w m1) → SN w v2 (mt_w m2) → Calls Tryd.prog 49 #[FSw, SV (kd_w m1) g1 v1 (ex_w m1), SV (kd_w m2) g2 v2 (ex_w m2)] w fun e w' => e = .returned (.int .u64 R) ∧ Below w.heap.size w w') := by
  have hx1 := ex_w_b m1 hm1
  have hx2 := ex_w_b m2 hm2
  have hs1 := mt_w_b m1
  have hs2 := mt_w_b m2
  have hb1 : bl (mt_w m1) ≤ 60 := bl60 (by omega)
  have hb2 : bl (mt_w m2) ≤ 60 := bl60 (by omega)
  have KZi : ∀ (k : Int) (g : Bool) (x : Int) (s : Nat) (w : World), s < 9007199254740992 → Hid (Calls Tryd.prog 79 #[N2 k g x s] w fun e w' => e = .returned (.bool (decide (k = 0) && decide (s = 0))) ∧ Below w.heap.size w w') := fun k g x s w hs => nzero_key k g x _ _ (decide (s = 0)) w (fun w => isZero_any s w (by omega))
  have KZs : ∀ (k : Int) (g : Bool) (x : Int) (s : Nat) (v : Value) (w : World), bl s ≤ 60 → SN w v s → Hid (Calls Tryd.prog 66 #[SV k g v x] w fun e w' => e = .returned (.bool (decide (k = 0) && decide (s = 0))) ∧ Below w.heap.size w w') := fun k g x s v w hb hs => szero_key k g v x s w (by omega) hs
  have NN : (∀ w, Calls Tryd.prog 39 #[FVw, NV 2 false 0 0 0] w fun e w' => e = .returned (.int .u64 9221120237041090560) ∧ Below w.heap.size w w') := fun w => write_w_2 false 0 0 0 w
  have NI : ∀ g w, Calls Tryd.prog 39 #[FVw, NV 1 g 0 0 0] w fun e w' => e = .returned (.int .u64 (sg_w g + 9218868437227405312)) ∧ Below w.heap.size w w' := fun g w => write_w 1 g 0 0 w (.inr (.inl rfl)) (by decide) (by decide) (by decide)
  have NZ : ∀ g w, Calls Tryd.prog 39 #[FVw, NV 0 g 0 0 0] w fun e w' => e = .returned (.int .u64 (sg_w g)) ∧ Below w.heap.size w w' := fun g w => by
    have h := write_w 0 g 0 0 w (.inl rfl) (by decide) (by decide) (by decide)
    rw [show wr_w 0 g 0 0 = sg_w g by rw [wr_w, if_neg (by decide), if_neg (by decide), rnd_zz]; simp] at h
    exact h
  rcases (show 9218868437227405312 < m1 ∨ m1 = 9218868437227405312 ∨ m1 < 9218868437227405312 by omega) with h1 | h1 | h1
  · rw [kd_w_n h1]
    exact ⟨2, false, 0, 0, 0, 9221120237041090560, fun w => by_2x _ ga gb _ _ _ _ _ _ w, NN, fun v1 v2 w hS1 hS2 => dvs_2x _ _ _ _ g1 g2 v1 v2 _ _ _ _ w _ hS1 hS2 (fun w => nan_w w)⟩
  · rcases (show 9218868437227405312 < m2 ∨ m2 = 9218868437227405312 ∨ m2 < 9218868437227405312 by omega) with h2 | h2 | h2
    · rw [kd_w_n h2]
      exact ⟨2, false, 0, 0, 0, 9221120237041090560, fun w => by_x2 _ ga gb _ _ _ _ _ _ w (by rw [h1]; decide), NN, fun v1 v2 w hS1 hS2 => dvs_x2 _ _ _ _ g1 g2 v1 v2 _ _ _ _ w _ hS1 hS2 (by rw [h1]; decide) (fun w => nan_w w)⟩
    · rw [h1, h2, kd_w_i]
      exact ⟨2, false, 0, 0, 0, 9221120237041090560, fun w => by_11 ga gb _ _ _ _ _ _ w, NN, fun v1 v2 w hS1 hS2 => dvs_11 _ _ _ g1 g2 v1 v2 _ _ _ _ w _ hS1 hS2 (fun w => nan_w w)⟩
    · obtain rfl := hga (by omega)
      obtain rfl := hgb (by omega)
      rw [h1, kd_w_i, kd_w_f h2]
      rw [h1] at hs1 hb1
      exact ⟨1, !(ga == gb), 0, 0, 0, _, fun w => by_10 _ ga gb _ _ _ _ _ _ w (fun w => KZi 1 ga _ _ w hs1) rfl, NI _, fun v1 v2 w hS1 hS2 => dvs_10 _ _ _ _ ga gb v1 v2 _ _ _ _ w _ hS1 hS2 rfl (fun w hs => KZs 1 ga _ _ v1 w hb1 hs) (fun w => inf_w _ w)⟩
  · rcases (show 9218868437227405312 < m2 ∨ m2 = 9218868437227405312 ∨ m2 < 9218868437227405312 by omega) with h2 | h2 | h2
    · rw [kd_w_n h2]
      exact ⟨2, false, 0, 0, 0, 9221120237041090560, fun w => by_x2 _ ga gb _ _ _ _ _ _ w (by rw [kd_w_f h1]; decide), NN, fun v1 v2 w hS1 hS2 => dvs_x2 _ _ _ _ g1 g2 v1 v2 _ _ _ _ w _ hS1 hS2 (by rw [kd_w_f h1]; decide) (fun w => nan_w w)⟩
    · obtain rfl := hga (by omega)
      obtain rfl := hgb (by omega)
      rw [h2, kd_w_i, kd_w_f h1]
      rw [h2] at hs2 hb2
      have KA := fun w => KZi 0 ga (ex_w m1) (mt_w m1) w hs1
      have KB := fun (v : Value) w hs => KZs 0 ga (ex_w m1) (mt_w m1) v w hb1 hs
      by_cases hz : mt_w m1 = 0
      · rw [show (decide ((0 : Int) = 0) && decide (mt_w m1 = 0)) = true by simp [hz]] at KA KB
        exact ⟨0, !(ga == gb), 0, 0, 0, _, fun w => by_z1 _ ga gb _ _ _ _ _ _ w KA (fun w => KZi 1 gb _ _ w hs2) rfl, NZ _, fun v1 v2 w hS1 hS2 => dvs_z1 _ _ _ _ ga gb v1 v2 _ _ _ _ w _ hS1 hS2 rfl (KB v1) (fun w hs => KZs 1 gb _ _ v2 w hb2 hs) (fun w => sign_w _ w)⟩
      · rw [show (decide ((0 : Int) = 0) && decide (mt_w m1 = 0)) = false by simp [hz]] at KA KB
        exact ⟨0, !(ga == gb), 0, 0, 0, _, fun w => by_n1 _ ga gb _ _ _ _ _ _ w KA (fun w => KZi 1 gb _ _ w hs2) rfl, NZ _, fun v1 v2 w hS1 hS2 => dvs_n1 _ _ _ _ ga gb v1 v2 _ _ _ _ w _ hS1 hS2 rfl (KB v1) (fun w hs => KZs 1 gb _ _ v2 w hb2 hs) (fun w => sign_w _ w)⟩
    · obtain rfl := hga (by omega)
      obtain rfl := hgb (by omega)
      rw [kd_w_f h1, kd_w_f h2]
      have KA := fun w => KZi 0 ga (ex_w m1) (mt_w m1) w hs1
      have KB := fun w => KZi 0 gb (ex_w m2) (mt_w m2) w hs2
      have SA := fun (v : Value) w hs => KZs 0 ga (ex_w m1) (mt_w m1) v w hb1 hs
      have SB := fun (v : Value) w hs => KZs 0 gb (ex_w m2) (mt_w m2) v w hb2 hs
      by_cases z1 : mt_w m1 = 0
      · rw [show (decide ((0 : Int) = 0) && decide (mt_w m1 = 0)) = true by simp [z1]] at KA SA
        by_cases z2 : mt_w m2 = 0
        · rw [show (decide ((0 : Int) = 0) && decide (mt_w m2 = 0)) = true by simp [z2]] at KB SB
          exact ⟨2, false, 0, 0, 0, 9221120237041090560, fun w => by_zz ga gb _ _ _ _ _ _ w KA KB, NN, fun v1 v2 w hS1 hS2 => dvs_zz _ _ _ ga gb v1 v2 _ _ _ _ w _ hS1 hS2 (SA v1) (SB v2) (fun w => nan_w w)⟩
        · rw [show (decide ((0 : Int) = 0) && decide (mt_w m2 = 0)) = false by simp [z2]] at KB SB
          exact ⟨0, !(ga == gb), 0, 0, 0, _, fun w => by_zn _ ga gb _ _ _ _ _ _ w KA KB rfl, NZ _, fun v1 v2 w hS1 hS2 => dvs_zn _ _ _ _ ga gb v1 v2 _ _ _ _ w _ hS1 hS2 rfl (SA v1) (SB v2) (fun w => sign_w _ w)⟩
      · rw [show (decide ((0 : Int) = 0) && decide (mt_w m1 = 0)) = false by simp [z1]] at KA SA
        by_cases z2 : mt_w m2 = 0
        · rw [show (decide ((0 : Int) = 0) && decide (mt_w m2 = 0)) = true by simp [z2]] at KB SB
          exact ⟨1, !(ga == gb), 0, 0, 0, _, fun w => by_nz _ ga gb _ _ _ _ _ _ w KA KB rfl, NI _, fun v1 v2 w hS1 hS2 => dvs_nz _ _ _ _ ga gb v1 v2 _ _ _ _ w _ hS1 hS2 rfl (SA v1) (SB v2) (fun w => inf_w _ w)⟩
        · rw [show (decide ((0 : Int) = 0) && decide (mt_w m2 = 0)) = false by simp [z2]] at KB SB
          have c1 : bl (mt_w m1) ≤ 53 := bl_le (k := 53) hs1
          have c2 : bl (mt_w m2) ≤ 53 := bl_le (k := 53) hs2
          have q1 := bl_pos z1
          have q2 := bl_pos z2
          generalize ex_w m1 = x1 at *
          generalize ex_w m2 = x2 at *
          generalize mt_w m1 = s1 at *
          generalize mt_w m2 = s2 at *
          obtain ⟨-, n1, n2⟩ := lift_parts z1 (by omega)
          have KN := fun w => lift_any 0 ga x1 127 s1 w (by omega) z1 (by omega) (by omega) (by omega) (by omega)
          have KM := fun w => lift_any 0 gb x2 64 s2 w (by omega) z2 (by omega) (by omega) (by omega) (by omega)
          obtain ⟨pl1, hp1⟩ : ∃ k, k = 127 - bl s1 := ⟨_, rfl⟩
          obtain ⟨pl2, hp2⟩ : ∃ k, k = 64 - bl s2 := ⟨_, rfl⟩
          rw [show (127 - (bl s1 : Int)).toNat = pl1 by omega, show (127 - (bl s1 : Int)) = (pl1 : Int) by omega] at KN
          rw [show (64 - (bl s2 : Int)).toNat = pl2 by omega, show (64 - (bl s2 : Int)) = (pl2 : Int) by omega] at KM
          rw [← hp1] at n1 n2
          have hM : 2 ^ 63 ≤ s2 * 2 ^ pl2 ∧ s2 * 2 ^ pl2 < 2 ^ 64 := by
            have e1 := bl_mul z2 pl2
            have e2 : s2 * 2 ^ pl2 ≠ 0 := by have := Nat.mul_pos (show 0 < s2 by omega) (Nat.two_pow_pos pl2); omega
            have e3 := bl_ge e2
            have e4 := bl_lt (s2 * 2 ^ pl2)
            rw [e1, show bl s2 + pl2 = 64 by omega] at e3 e4
            exact ⟨e3, e4⟩
          rw [show (2 : Nat) ^ 127 = 170141183460469231731687303715884105728 by decide] at n2
          rw [show (2 : Nat) ^ 126 = 85070591730234615865843651857942052864 by decide] at n1
          rw [show (2 : Nat) ^ 63 = 9223372036854775808 by decide, show (2 : Nat) ^ 64 = 18446744073709551616 by decide] at hM
          obtain ⟨k, hk⟩ : ∃ k, pl1 = k + pl2 := ⟨pl1 - pl2, by omega⟩
          obtain ⟨ql, qr⟩ := quo_low (s1 := s1) (s2 := s2) hk
          have KD := fun w => div64_any (s1 * 2 ^ pl1 / 18446744073709551616) (s1 * 2 ^ pl1 % 18446744073709551616) (s2 * 2 ^ pl2) w (by rw [Nat.div_lt_iff_lt_mul (by decide)]; omega) (by rw [Nat.div_pos_iff]; omega) (Nat.mod_lt _ (by decide)) hM.1 hM.2
          rw [show s1 * 2 ^ pl1 / 18446744073709551616 * 18446744073709551616 + s1 * 2 ^ pl1 % 18446744073709551616 = s1 * 2 ^ pl1 by have := Nat.mod_add_div (s1 * 2 ^ pl1) 18446744073709551616; omega] at KD
          have hQ : s1 * 2 ^ pl1 / (s2 * 2 ^ pl2) < 18446744073709551616 := by
            rw [Nat.div_lt_iff_lt_mul (by omega)]
            have := Nat.mul_le_mul_left 18446744073709551616 hM.1
            omega
          have hQ1 : 2 ^ 62 ≤ s1 * 2 ^ pl1 / (s2 * 2 ^ pl2) := by
            rw [Nat.le_div_iff_mul_le (by omega), show (2 : Nat) ^ 62 = 4611686018427387904 by decide]
            have := Nat.mul_le_mul_left 4611686018427387904 (Nat.le_of_lt hM.2)
            omega
          have KK := fun w => mark_any (decide (s1 * 2 ^ pl1 % (s2 * 2 ^ pl2) ≠ 0)) (s1 * 2 ^ pl1 / (s2 * 2 ^ pl2)) w
          have eW : W2 (s1 * 2 ^ pl1 / (s2 * 2 ^ pl2)) = WV ((s1 * 2 ^ pl1 / (s2 * 2 ^ pl2) : Nat) : Int) 0 := by
            rw [W2, Nat.mod_eq_of_lt hQ, Nat.div_eq_of_lt hQ]; rfl
          rw [eW] at KK
          have eM : N2 0 gb (x2 - (pl2 : Int)) (s2 * 2 ^ pl2) = NV 0 gb (x2 - (pl2 : Int)) ((s2 * 2 ^ pl2 : Nat) : Int) 0 := by
            rw [N2, Nat.mod_eq_of_lt hM.2, Nat.div_eq_of_lt hM.2]; rfl
          rw [eM] at KM
          obtain ⟨n, hn⟩ : ∃ n : Nat, n = 53 + 2 + bl s2 := ⟨_, rfl⟩
          have bn : 53 + 2 ≤ bl (s1 * 2 ^ n / s2) := by
            have e1 : 2 ^ (53 + 2) ≤ s1 * 2 ^ n / s2 := by
              rw [Nat.le_div_iff_mul_le (by omega)]
              have e2 := Nat.mul_le_mul_left (2 ^ (53 + 2)) (Nat.le_of_lt (bl_lt s2))
              rw [← Nat.pow_add, ← hn] at e2
              have e3 := Nat.mul_le_mul_right (2 ^ n) (show 1 ≤ s1 by omega)
              omega
            exact Nat.le_of_lt (lt_bl e1)
          have bk : 53 + 2 ≤ bl (s1 * 2 ^ k / s2) := by
            rw [← ql]
            have := lt_bl hQ1
            omega
          have hq := quo_eq (p := 53) (e := 11) (L := -1074) (a := s1) (b := s2) (n := n) (k := k) (ex := x1 - x2) (by omega) bn bk
          refine ⟨0, !(ga == gb), (x1 - pl1) - (x2 - pl2), _, _, sg_w (!(ga == gb)) + (rnd 53 11 (-1074) (s1 * 2 ^ n / s2) (x1 - x2 - n) (decide (s1 * 2 ^ n % s2 ≠ 0)) : Nat), fun w => by_nn _ ga gb _ _ _ _ _ _ _ _ _ _ _ _ _ _ _ _ _ w KA KB rfl (by omega) (by omega) (by omega) (by omega) KN KM KD ?_ KK, fun w => ?_, fun v1 v2 w hS1 hS2 => ?_⟩
          · generalize s1 * 2 ^ pl1 % (s2 * 2 ^ pl2) = z
            rw [Bool.eq_iff_iff]; simp
          · have h := write_w 0 (!(ga == gb)) ((x1 - pl1) - (x2 - pl2)) (if decide (s1 * 2 ^ pl1 % (s2 * 2 ^ pl2) ≠ 0) then s1 * 2 ^ pl1 / (s2 * 2 ^ pl2) + (1 - s1 * 2 ^ pl1 / (s2 * 2 ^ pl2) % 2) else s1 * 2 ^ pl1 / (s2 * 2 ^ pl2)) w (.inl rfl) (by split <;> omega) (by omega) (by omega)
            rw [wr0_w] at h
            rw [← hq]
            have e5 : decide (s1 * 2 ^ k % s2 ≠ 0) = decide (s1 * 2 ^ pl1 % (s2 * 2 ^ pl2) ≠ 0) := by rw [decide_eq_decide]; exact not_congr qr.symm
            rw [e5, ← ql, show x1 - x2 - (k : Int) = x1 - pl1 - (x2 - pl2) by omega]
            exact h
          · have hbA : bl (s1 * 2 ^ n) = bl s1 + n := bl_mul z1 n
            have hbq : bl (s1 * 2 ^ n / s2) ≤ bl (s1 * 2 ^ n) := bl_mono (Nat.div_le_self _ _)
            refine dvs_nn _ _ _ _ ga gb v1 v2 _ _ _ _ (n : Int) (s1 * 2 ^ n) w _ hS1 hS2 rfl (SA v1) (SB v2) z1 z2 hb1 hb2 (by omega) (by omega) (by omega) (by omega) (by decide) (by decide) (by omega) (by rw [Int.toNat_natCast]) (fun v w hs => round_w _ _ _ _ v w (by omega) (by omega) (by omega) hs)
end Go.Proofs.YthmppcfhbbjhlaaDoor
namespace Go.Proofs.YthmppcfhbbjhlaaDoor
open Go.RowKit Go.Sort

set_option maxHeartbeats 1000000 in
theorem plusB_n (m1 m2 : Nat) (g1 g2 ga gb : Bool) (hm1 : m1 < 2147483648) (hm2 : m2 < 2147483648) (hga : m1 ≤ 2139095040 → ga = g1) (hgb : m2 ≤ 2139095040 → gb = g2) :
    ∃ (k3 : Int) (g3 : Bool) (x3 l3 h3 R : Int),
      (∀ w, Calls Tryd.prog 53 #[N2 (kd_n m1) ga (ex_n m1) (mt_n m1), N2 (kd_n m2) gb (ex_n m2) (mt_n m2)] w fun e w' => e = .returned (NV k3 g3 x3 l3 h3) ∧ Below w.heap.size w w') ∧
      (∀ w, Calls Tryd.prog 39 #[FVn, NV k3 g3 x3 l3 h3] w fun e w' => e = .returned (.int .u64 R) ∧ Below w.heap.size w w') ∧
      (∀ v1 v2 w, SN w v1 (mt_n m1) → SN w v2 (mt_n m2) → Calls Tryd.prog 47 #[FSn, SV (kd_n m1) g1 v1 (ex_n m1), SV (kd_n m2) g2 v2 (ex_n m2)] w fun e w' => e = .returned (.int .u64 R) ∧ Below w.heap.size w w') := by
  have hx1 := ex_n_b m1 hm1
  have hx2 := ex_n_b m2 hm2
  have hs1 := mt_n_b m1
  have hs2 := mt_n_b m2
  have hb1 : bl (mt_n m1) ≤ 60 := bl60 (by omega)
  have hb2 : bl (mt_n m2) ≤ 60 := bl60 (by omega)
  have KZi : ∀ (k : Int) (g : Bool) (x : Int) (s : Nat) (w : World), s < 16777216 → Hid (Calls Tryd.prog 79 #[N2 k g x s] w fun e w' => e = .returned (.bool (decide (k = 0) && decide (s = 0))) ∧ Below w.heap.size w w') := fun k g x s w hs => nzero_key k g x _ _ (decide (s = 0)) w (fun w => isZero_any s w (by omega))
  have KZs : ∀ (k : Int) (g : Bool) (x : Int) (s : Nat) (v : Value) (w : World), bl s ≤ 60 → SN w v s → Hid (Calls Tryd.prog 66 #[SV k g v x] w fun e w' => e = .returned (.bool (decide (k = 0) && decide (s = 0))) ∧ Below w.heap.size w w') := fun k g x s v w hb hs => szero_key k g v x s w (by omega) hs
  have NN : (∀ w, Calls Tryd.prog 39 #[FVn, NV 2 false 0 0 0] w fun e w' => e = .returned (.int .u64 2143289344) ∧ Below w.heap.size w w') := fun w => write_n_2 false 0 0 0 w
  have NI : ∀ g w, Calls Tryd.prog 39 #[FVn, NV 1 g 0 0 0] w fun e w' => e = .returned (.int .u64 (sg_n g + 2139095040)) ∧ Below w.heap.size w w' := fun g w => write_n 1 g 0 0 w (.inr (.inl rfl)) (by decide) (by decide) (by decide)
  have NZ : ∀ g w, Calls Tryd.prog 39 #[FVn, NV 0 g 0 0 0] w fun e w' => e = .returned (.int .u64 (sg_n g)) ∧ Below w.heap.size w w' := fun g w => by
    have h := write_n 0 g 0 0 w (.inl rfl) (by decide) (by decide) (by decide)
    rw [show wr_n 0 g 0 0 = sg_n g by rw [wr_n, if_neg (by decide), if_neg (by decide), rnd_zz]; simp] at h
    exact h
  rcases (show 2139095040 < m1 ∨ m1 = 2139095040 ∨ m1 < 2139095040 by omega) with h1 | h1 | h1
  · rw [kd_n_n h1]
    exact ⟨2, false, 0, 0, 0, 2143289344, fun w => pl_2x _ ga gb _ _ _ _ _ _ w, NN, fun v1 v2 w hS1 hS2 => sp_2x _ _ _ _ g1 g2 v1 v2 _ _ _ _ w _ hS1 hS2 (fun w => nan_n w)⟩
  · rcases (show 2139095040 < m2 ∨ m2 = 2139095040 ∨ m2 < 2139095040 by omega) with h2 | h2 | h2
    · rw [kd_n_n h2]
      exact ⟨2, false, 0, 0, 0, 2143289344, fun w => pl_x2 _ ga gb _ _ _ _ _ _ w (by rw [h1]; decide), NN, fun v1 v2 w hS1 hS2 => sp_x2 _ _ _ _ g1 g2 v1 v2 _ _ _ _ w _ hS1 hS2 (by rw [h1]; decide) (fun w => nan_n w)⟩
    · obtain rfl := hga (by omega)
      obtain rfl := hgb (by omega)
      rw [h1, h2, kd_n_i]
      rw [h1] at hs1 hb1
      rw [h2] at hs2 hb2
      by_cases hg : ga = gb
      · exact ⟨1, ga, _, _, _, _, fun w => pl_11 ga gb _ _ _ _ _ _ w (by simpa using hg) (fun w => KZi 1 ga _ _ w hs1), fun w => write_n 1 ga (ex_n 2139095040) (mt_n 2139095040) w (.inr (.inl rfl)) (by decide) (by decide) (by decide), fun v1 v2 w hS1 hS2 => sp_11 _ _ _ ga gb v1 v2 _ _ _ _ w _ hS1 hS2 (by simpa using hg) (fun w => inf_n _ w)⟩
      · exact ⟨2, false, 0, 0, 0, 2143289344, fun w => pl_11x ga gb _ _ _ _ _ _ w (by simpa using hg), NN, fun v1 v2 w hS1 hS2 => sp_11x _ _ _ ga gb v1 v2 _ _ _ _ w _ hS1 hS2 (by simpa using hg) (fun w => nan_n w)⟩
    · obtain rfl := hga (by omega)
      obtain rfl := hgb (by omega)
      rw [h1, kd_n_i, kd_n_f h2]
      rw [h1] at hs1 hb1
      exact ⟨1, ga, _, _, _, _, fun w => pl_10 ga gb _ _ _ _ _ _ w (fun w => KZi 1 ga _ _ w hs1), fun w => write_n 1 ga (ex_n 2139095040) (mt_n 2139095040) w (.inr (.inl rfl)) (by decide) (by decide) (by decide), fun v1 v2 w hS1 hS2 => sp_10 _ _ _ ga gb v1 v2 _ _ _ _ w _ hS1 hS2 (fun w => inf_n _ w)⟩
  · rcases (show 2139095040 < m2 ∨ m2 = 2139095040 ∨ m2 < 2139095040 by omega) with h2 | h2 | h2
    · rw [kd_n_n h2]
      exact ⟨2, false, 0, 0, 0, 2143289344, fun w => pl_x2 _ ga gb _ _ _ _ _ _ w (by rw [kd_n_f h1]; decide), NN, fun v1 v2 w hS1 hS2 => sp_x2 _ _ _ _ g1 g2 v1 v2 _ _ _ _ w _ hS1 hS2 (by rw [kd_n_f h1]; decide) (fun w => nan_n w)⟩
    · obtain rfl := hga (by omega)
      obtain rfl := hgb (by omega)
      rw [h2, kd_n_i, kd_n_f h1]
      rw [h2] at hs2 hb2
      have KA := fun w => KZi 0 ga (ex_n m1) (mt_n m1) w hs1
      refine ⟨1, gb, _, _, _, _, fun w => ?_, fun w => write_n 1 gb (ex_n 2139095040) (mt_n 2139095040) w (.inr (.inl rfl)) (by decide) (by decide) (by decide), fun v1 v2 w hS1 hS2 => sp_01 _ _ _ ga gb v1 v2 _ _ _ _ w _ hS1 hS2 (fun w => inf_n _ w)⟩
      by_cases hz : mt_n m1 = 0
      · rw [show (decide ((0 : Int) = 0) && decide (mt_n m1 = 0)) = true by simp [hz]] at KA
        exact pl_z1 ga gb _ _ _ _ _ _ w KA (fun w => KZi 1 gb _ _ w hs2)
      · rw [show (decide ((0 : Int) = 0) && decide (mt_n m1 = 0)) = false by simp [hz]] at KA
        exact pl_n1 ga gb _ _ _ _ _ _ w KA (fun w => KZi 1 gb _ _ w hs2)
    · obtain rfl := hga (by omega)
      obtain rfl := hgb (by omega)
      have a1 := ex_n_L m1 h1
      have a2 := ex_n_L m2 h2
      have c1 : bl (mt_n m1) ≤ 24 := bl_le (k := 24) hs1
      have c2 : bl (mt_n m2) ≤ 24 := bl_le (k := 24) hs2
      rw [kd_n_f h1, kd_n_f h2]
      have KA := fun w => KZi 0 ga (ex_n m1) (mt_n m1) w hs1
      have KB := fun w => KZi 0 gb (ex_n m2) (mt_n m2) w hs2
      obtain ⟨m, hm⟩ : ∃ m, m = min (ex_n m1) (ex_n m2) := ⟨_, rfl⟩
      have r1 := rnd_min (p := 24) (e := 8) (L := -149) (s := mt_n m1) (show m ≤ ex_n m1 by omega)
      have r2 := rnd_min (p := 24) (e := 8) (L := -149) (s := mt_n m2) (show m ≤ ex_n m2 by omega)
      have bX : ∀ (s : Nat) (x : Int), bl s ≤ 60 → -1100 ≤ x → x ≤ 1100 → m ≤ x → -1100 ≤ m → bl (s * 2 ^ (x - m).toNat) ≤ 3000 := fun s x hs h1 h2 h3 h4 => by
        have := bl_mul2 s (2 ^ (x - m).toNat)
        have h2 : bl (2 ^ (x - m).toNat) ≤ (x - m).toNat + 1 := bl_le (by rw [Nat.pow_succ]; have := Nat.two_pow_pos (x - m).toNat; omega)
        omega
      have bX1 := bX (mt_n m1) (ex_n m1) hb1 (by omega) (by omega) (by omega) (by omega)
      have bX2 := bX (mt_n m2) (ex_n m2) hb2 (by omega) (by omega) (by omega) (by omega)
      clear bX
      -- the specification's answer, by what it rounds
      have SA : ga = gb → ∀ v1 v2 w, SN w v1 (mt_n m1) → SN w v2 (mt_n m2) → Calls Tryd.prog 47 #[FSn, SV 0 ga v1 (ex_n m1), SV 0 gb v2 (ex_n m2)] w fun e w' => e = .returned (.int .u64 (sg_n ga + (rnd 24 8 (-149) (mt_n m1 * 2 ^ (ex_n m1 - m).toNat + mt_n m2 * 2 ^ (ex_n m2 - m).toNat) m false : Nat))) ∧ Below w.heap.size w w' := fun hg v1 v2 w hS1 hS2 => by
        have hb := bl_add bX1 bX2
        exact sp_add _ _ _ ga gb v1 v2 _ _ _ _ m _ _ w _ hS1 hS2 hm rfl rfl hb1 hb2 (by omega) (by omega) (by omega) (by omega) (by simpa using hg) (fun v w hs => round_n _ false _ _ v w (by omega) (by omega) (by omega) hs)
      have SE : ga ≠ gb → mt_n m1 * 2 ^ (ex_n m1 - m).toNat = mt_n m2 * 2 ^ (ex_n m2 - m).toNat → ∀ v1 v2 w, SN w v1 (mt_n m1) → SN w v2 (mt_n m2) → Calls Tryd.prog 47 #[FSn, SV 0 ga v1 (ex_n m1), SV 0 gb v2 (ex_n m2)] w fun e w' => e = .returned (.int .u64 0) ∧ Below w.heap.size w w' := fun hg hE v1 v2 w hS1 hS2 =>
        sp_eq _ _ _ ga gb v1 v2 _ _ _ _ m _ _ w _ hS1 hS2 hm rfl rfl hb1 hb2 (by omega) (by omega) (by omega) (by omega) (by simpa using hg) hE rfl
      have SG : ga ≠ gb → mt_n m2 * 2 ^ (ex_n m2 - m).toNat < mt_n m1 * 2 ^ (ex_n m1 - m).toNat → ∀ v1 v2 w, SN w v1 (mt_n m1) → SN w v2 (mt_n m2) → Calls Tryd.prog 47 #[FSn, SV 0 ga v1 (ex_n m1), SV 0 gb v2 (ex_n m2)] w fun e w' => e = .returned (.int .u64 (sg_n ga + (rnd 24 8 (-149) (mt_n m1 * 2 ^ (ex_n m1 - m).toNat - mt_n m2 * 2 ^ (ex_n m2 - m).toNat) m false : Nat))) ∧ Below w.heap.size w w' := fun hg hE v1 v2 w hS1 hS2 =>
        sp_gt _ _ _ ga gb v1 v2 _ _ _ _ m _ _ w _ hS1 hS2 hm rfl rfl hb1 hb2 (by omega) (by omega) (by omega) (by omega) (by simpa using hg) hE (fun v w hs => round_n _ false _ _ v w (Nat.le_trans (bl_mono (Nat.sub_le _ _)) (by omega)) (by omega) (by omega) hs)
      have SL : ga ≠ gb → mt_n m1 * 2 ^ (ex_n m1 - m).toNat < mt_n m2 * 2 ^ (ex_n m2 - m).toNat → ∀ v1 v2 w, SN w v1 (mt_n m1) → SN w v2 (mt_n m2) → Calls Tryd.prog 47 #[FSn, SV 0 ga v1 (ex_n m1), SV 0 gb v2 (ex_n m2)] w fun e w' => e = .returned (.int .u64 (sg_n gb + (rnd 24 8 (-149) (mt_n m2 * 2 ^ (ex_n m2 - m).toNat - mt_n m1 * 2 ^ (ex_n m1 - m).toNat) m false : Nat))) ∧ Below w.heap.size w w' := fun hg hE v1 v2 w hS1 hS2 =>
        sp_lt _ _ _ ga gb v1 v2 _ _ _ _ m _ _ w _ hS1 hS2 hm rfl rfl hb1 hb2 (by omega) (by omega) (by omega) (by omega) (by simpa using hg) hE (fun v w hs => round_n _ false _ _ v w (Nat.le_trans (bl_mono (Nat.sub_le _ _)) (by omega)) (by omega) (by omega) hs)
      have WR : ∀ (g : Bool) (x : Int) (s : Nat), s < 340282366920938463463374607431768211456 → -5000 ≤ x → x ≤ 5000 → ∀ w, Calls Tryd.prog 39 #[FVn, N2 0 g x s] w fun e w' => e = .returned (.int .u64 (sg_n g + (rnd 24 8 (-149) s x false : Nat))) ∧ Below w.heap.size w w' := fun g x s h1 h2 h3 w => by
        have h := write_n 0 g x s w (.inl rfl) h1 h2 h3
        rw [wr_n, if_neg (by decide), if_neg (by decide)] at h
        exact h
      by_cases z1 : mt_n m1 = 0
      · rw [show (decide ((0 : Int) = 0) && decide (mt_n m1 = 0)) = true by simp [z1]] at KA
        by_cases z2 : mt_n m2 = 0
        · rw [show (decide ((0 : Int) = 0) && decide (mt_n m2 = 0)) = true by simp [z2]] at KB
          refine ⟨0, ga && gb, 0, 0, 0, sg_n (ga && gb), fun w => ?_, NZ _, fun v1 v2 w hS1 hS2 => ?_⟩
          · cases ga
            · exact pl_zzf gb _ _ _ _ _ _ w KA KB
            · exact pl_zz gb _ _ _ _ _ _ w KA KB
          · by_cases hg : ga = gb
            · have h := SA hg v1 v2 w hS1 hS2
              rw [z1, z2, Nat.zero_mul, Nat.zero_mul, rnd_zz] at h
              subst hg
              simpa using h
            · have h := SE hg (by rw [z1, z2, Nat.zero_mul, Nat.zero_mul]) v1 v2 w hS1 hS2
              rw [show (ga && gb) = false by cases ga <;> cases gb <;> simp_all]
              exact h
        · rw [show (decide ((0 : Int) = 0) && decide (mt_n m2 = 0)) = false by simp [z2]] at KB
          refine ⟨0, gb, _, _, _, _, fun w => pl_zn ga gb _ _ _ _ _ _ w KA KB, WR gb _ _ (by omega) (by omega) (by omega), fun v1 v2 w hS1 hS2 => ?_⟩
          rw [← r2]
          by_cases hg : ga = gb
          · have h := SA hg v1 v2 w hS1 hS2
            rw [z1, Nat.zero_mul, Nat.zero_add] at h
            subst hg
            exact h
          · have h := SL hg (by rw [z1, Nat.zero_mul]; exact Nat.mul_pos (by omega) (Nat.two_pow_pos _)) v1 v2 w hS1 hS2
            rw [z1, Nat.zero_mul, Nat.sub_zero] at h
            exact h
      · rw [show (decide ((0 : Int) = 0) && decide (mt_n m1 = 0)) = false by simp [z1]] at KA
        by_cases z2 : mt_n m2 = 0
        · rw [show (decide ((0 : Int) = 0) && decide (mt_n m2 = 0)) = true by simp [z2]] at KB
          refine ⟨0, ga, _, _, _, _, fun w => pl_nz ga gb _ _ _ _ _ _ w KA KB, WR ga _ _ (by omega) (by omega) (by omega), fun v1 v2 w hS1 hS2 => ?_⟩
          rw [← r1]
          by_cases hg : ga = gb
          · have h := SA hg v1 v2 w hS1 hS2
            rw [z2, Nat.zero_mul, Nat.add_zero] at h
            exact h
          · have h := SG hg (by rw [z2, Nat.zero_mul]; exact Nat.mul_pos (by omega) (Nat.two_pow_pos _)) v1 v2 w hS1 hS2
            rw [z2, Nat.zero_mul, Nat.sub_zero] at h
            exact h
        · rw [show (decide ((0 : Int) = 0) && decide (mt_n m2 = 0)) = false by simp [z2]] at KB
          obtain ⟨g3, x3, s3, KS, t1, t2, t3, hA, hS⟩ := isum_any (p := 24) (e := 8) (L := -149) ga gb (ex_n m1) (ex_n m2) (mt_n m1) (mt_n m2) (by decide) (by decide) z1 z2 c1 c2 a1 a2 (by omega) (by omega) (by omega) (by omega) m hm
          refine ⟨0, g3, x3, _, _, _, fun w => pl_nn ga gb _ _ _ _ _ _ _ _ _ _ _ w KA KB KS, WR g3 x3 s3 t1 t2 t3, fun v1 v2 w hS1 hS2 => ?_⟩
          by_cases hg : ga = gb
          · obtain ⟨e1, e2⟩ := hA hg
            rw [e1, e2]
            exact SA hg v1 v2 w hS1 hS2
          · rcases hS hg with ⟨e1, e2, e3⟩ | ⟨e1, e2, e3⟩ | ⟨e1, e2, e3⟩
            · rw [e2, e3, rnd_zz]
              exact SE hg e1 v1 v2 w hS1 hS2
            · rw [e2, e3]
              exact SG hg e1 v1 v2 w hS1 hS2
            · rw [e2, e3]
              exact SL hg e1 v1 v2 w hS1 hS2
end Go.Proofs.YthmppcfhbbjhlaaDoor
namespace Go.Proofs.YthmppcfhbbjhlaaDoor
open Go.RowKit Go.Sort

set_option maxHeartbeats 1000000 in
theorem plusB_w (m1 m2 : Nat) (g1 g2 ga gb : Bool) (hm1 : m1 < 9223372036854775808) (hm2 : m2 < 9223372036854775808) (hga : m1 ≤ 9218868437227405312 → ga = g1) (hgb : m2 ≤ 9218868437227405312 → gb = g2) :
    ∃ (k3 : Int) (g3 : Bool) (x3 l3 h3 R : Int),
      (∀ w, Calls Tryd.prog 53 #[N2 (kd_w m1) ga (ex_w m1) (mt_w m1), N2 (kd_w m2) gb (ex_w m2) (mt_w m2)] w fun e w' => e = .returned (NV k3 g3 x3 l3 h3) ∧ Below w.heap.size w w') ∧
      (∀ w, Calls Tryd.prog 39 #[FVw, NV k3 g3 x3 l3 h3] w fun e w' => e = .returned (.int .u64 R) ∧ Below w.heap.size w w') ∧
      (∀ v1 v2 w, SN w v1 (mt_w m1) → SN w v2 (mt_w m2) → Calls Tryd.prog 47 #[FSw, SV (kd_w m1) g1 v1 (ex_w m1), SV (kd_w m2) g2 v2 (ex_w m2)] w fun e w' => e = .returned (.int .u64 R) ∧ Below w.heap.size w w') := by
  have hx1 := ex_w_b m1 hm1
  have hx2 := ex_w_b m2 hm2
  have hs1 := mt_w_b m1
  have hs2 := mt_w_b m2
  have hb1 : bl (mt_w m1) ≤ 60 := bl60 (by omega)
  have hb2 : bl (mt_w m2) ≤ 60 := bl60 (by omega)
  have KZi : ∀ (k : Int) (g : Bool) (x : Int) (s : Nat) (w : World), s < 9007199254740992 → Hid (Calls Tryd.prog 79 #[N2 k g x s] w fun e w' => e = .returned (.bool (decide (k = 0) && decide (s = 0))) ∧ Below w.heap.size w w') := fun k g x s w hs => nzero_key k g x _ _ (decide (s = 0)) w (fun w => isZero_any s w (by omega))
  have KZs : ∀ (k : Int) (g : Bool) (x : Int) (s : Nat) (v : Value) (w : World), bl s ≤ 60 → SN w v s → Hid (Calls Tryd.prog 66 #[SV k g v x] w fun e w' => e = .returned (.bool (decide (k = 0) && decide (s = 0))) ∧ Below w.heap.size w w') := fun k g x s v w hb hs => szero_key k g v x s w (by omega) hs
  have NN : (∀ w, Calls Tryd.prog 39 #[FVw, NV 2 false 0 0 0] w fun e w' => e = .returned (.int .u64 9221120237041090560) ∧ Below w.heap.size w w') := fun w => write_w_2 false 0 0 0 w
  have NI : ∀ g w, Calls Tryd.prog 39 #[FVw, NV 1 g 0 0 0] w fun e w' => e = .returned (.int .u64 (sg_w g + 9218868437227405312)) ∧ Below w.heap.size w w' := fun g w => write_w 1 g 0 0 w (.inr (.inl rfl)) (by decide) (by decide) (by decide)
  have NZ : ∀ g w, Calls Tryd.prog 39 #[FVw, NV 0 g 0 0 0] w fun e w' => e = .returned (.int .u64 (sg_w g)) ∧ Below w.heap.size w w' := fun g w => by
    have h := write_w 0 g 0 0 w (.inl rfl) (by decide) (by decide) (by decide)
    rw [show wr_w 0 g 0 0 = sg_w g by rw [wr_w, if_neg (by decide), if_neg (by decide), rnd_zz]; simp] at h
    exact h
  rcases (show 9218868437227405312 < m1 ∨ m1 = 9218868437227405312 ∨ m1 < 9218868437227405312 by omega) with h1 | h1 | h1
  · rw [kd_w_n h1]
    exact ⟨2, false, 0, 0, 0, 9221120237041090560, fun w => pl_2x _ ga gb _ _ _ _ _ _ w, NN, fun v1 v2 w hS1 hS2 => sp_2x _ _ _ _ g1 g2 v1 v2 _ _ _ _ w _ hS1 hS2 (fun w => nan_w w)⟩
  · rcases (show 9218868437227405312 < m2 ∨ m2 = 9218868437227405312 ∨ m2 < 9218868437227405312 by omega) with h2 | h2 | h2
    · rw [kd_w_n h2]
      exact ⟨2, false, 0, 0, 0, 9221120237041090560, fun w => pl_x2 _ ga gb _ _ _ _ _ _ w (by rw [h1]; decide), NN, fun v1 v2 w hS1 hS2 => sp_x2 _ _ _ _ g1 g2 v1 v2 _ _ _ _ w _ hS1 hS2 (by rw [h1]; decide) (fun w => nan_w w)⟩
    · obtain rfl := hga (by omega)
      obtain rfl := hgb (by omega)
      rw [h1, h2, kd_w_i]
      rw [h1] at hs1 hb1
      rw [h2] at hs2 hb2
      by_cases hg : ga = gb
      · exact ⟨1, ga, _, _, _, _, fun w => pl_11 ga gb _ _ _ _ _ _ w (by simpa using hg) (fun w => KZi 1 ga _ _ w hs1), fun w => write_w 1 ga (ex_w 9218868437227405312) (mt_w 9218868437227405312) w (.inr (.inl rfl)) (by decide) (by decide) (by decide), fun v1 v2 w hS1 hS2 => sp_11 _ _ _ ga gb v1 v2 _ _ _ _ w _ hS1 hS2 (by simpa using hg) (fun w => inf_w _ w)⟩
      · exact ⟨2, false, 0, 0, 0, 9221120237041090560, fun w => pl_11x ga gb _ _ _ _ _ _ w (by simpa using hg), NN, fun v1 v2 w hS1 hS2 => sp_11x _ _ _ ga gb v1 v2 _ _ _ _ w _ hS1 hS2 (by simpa using hg) (fun w => nan_w w)⟩
    · obtain rfl := hga (by omega)
      obtain rfl := hgb (by omega)
      rw [h1, kd_w_i, kd_w_f h2]
      rw [h1] at hs1 hb1
      exact ⟨1, ga, _, _, _, _, fun w => pl_10 ga gb _ _ _ _ _ _ w (fun w => KZi 1 ga _ _ w hs1), fun w => write_w 1 ga (ex_w 9218868437227405312) (mt_w 9218868437227405312) w (.inr (.inl rfl)) (by decide) (by decide) (by decide), fun v1 v2 w hS1 hS2 => sp_10 _ _ _ ga gb v1 v2 _ _ _ _ w _ hS1 hS2 (fun w => inf_w _ w)⟩
  · rcases (show 9218868437227405312 < m2 ∨ m2 = 9218868437227405312 ∨ m2 < 9218868437227405312 by omega) with h2 | h2 | h2
    · rw [kd_w_n h2]
      exact ⟨2, false, 0, 0, 0, 9221120237041090560, fun w => pl_x2 _ ga gb _ _ _ _ _ _ w (by rw [kd_w_f h1]; decide), NN, fun v1 v2 w hS1 hS2 => sp_x2 _ _ _ _ g1 g2 v1 v2 _ _ _ _ w _ hS1 hS2 (by rw [kd_w_f h1]; decide) (fun w => nan_w w)⟩
    · obtain rfl := hga (by omega)
      obtain rfl := hgb (by omega)
      rw [h2, kd_w_i, kd_w_f h1]
      rw [h2] at hs2 hb2
      have KA := fun w => KZi 0 ga (ex_w m1) (mt_w m1) w hs1
      refine ⟨1, gb, _, _, _, _, fun w => ?_, fun w => write_w 1 gb (ex_w 9218868437227405312) (mt_w 9218868437227405312) w (.inr (.inl rfl)) (by decide) (by decide) (by decide), fun v1 v2 w hS1 hS2 => sp_01 _ _ _ ga gb v1 v2 _ _ _ _ w _ hS1 hS2 (fun w => inf_w _ w)⟩
      by_cases hz : mt_w m1 = 0
      · rw [show (decide ((0 : Int) = 0) && decide (mt_w m1 = 0)) = true by simp [hz]] at KA
        exact pl_z1 ga gb _ _ _ _ _ _ w KA (fun w => KZi 1 gb _ _ w hs2)
      · rw [show (decide ((0 : Int) = 0) && decide (mt_w m1 = 0)) = false by simp [hz]] at KA
        exact pl_n1 ga gb _ _ _ _ _ _ w KA (fun w => KZi 1 gb _ _ w hs2)
    · obtain rfl := hga (by omega)
      obtain rfl := hgb (by omega)
      have a1 := ex_w_L m1 h1
      have a2 := ex_w_L m2 h2
      have c1 : bl (mt_w m1) ≤ 53 := bl_le (k := 53) hs1
      have c2 : bl (mt_w m2) ≤ 53 := bl_le (k := 53) hs2
      rw [kd_w_f h1, kd_w_f h2]
      have KA := fun w => KZi 0 ga (ex_w m1) (mt_w m1) w hs1
      have KB := fun w => KZi 0 gb (ex_w m2) (mt_w m2) w hs2
      obtain ⟨m, hm⟩ : ∃ m, m = min (ex_w m1) (ex_w m2) := ⟨_, rfl⟩
      have r1 := rnd_min (p := 53) (e := 11) (L := -1074) (s := mt_w m1) (show m ≤ ex_w m1 by omega)
      have r2 := rnd_min (p := 53) (e := 11) (L := -1074) (s := mt_w m2) (show m ≤ ex_w m2 by omega)
      have bX : ∀ (s : Nat) (x : Int), bl s ≤ 60 → -1100 ≤ x → x ≤ 1100 → m ≤ x → -1100 ≤ m → bl (s * 2 ^ (x - m).toNat) ≤ 3000 := fun s x hs h1 h2 h3 h4 => by
        have := bl_mul2 s (2 ^ (x - m).toNat)
        have h2 : bl (2 ^ (x - m).toNat) ≤ (x - m).toNat + 1 := bl_le (by rw [Nat.pow_succ]; have := Nat.two_pow_pos (x - m).toNat; omega)
        omega
      have bX1 := bX (mt_w m1) (ex_w m1) hb1 (by omega) (by omega) (by omega) (by omega)
      have bX2 := bX (mt_w m2) (ex_w m2) hb2 (by omega) (by omega) (by omega) (by omega)
      clear bX
      -- the specification's answer, by what it rounds
      have SA : ga = gb → ∀ v1 v2 w, SN w v1 (mt_w m1) → SN w v2 (mt_w m2) → Calls Tryd.prog 47 #[FSw, SV 0 ga v1 (ex_w m1), SV 0 gb v2 (ex_w m2)] w fun e w' => e = .returned (.int .u64 (sg_w ga + (rnd 53 11 (-1074) (mt_w m1 * 2 ^ (ex_w m1 - m).toNat + mt_w m2 * 2 ^ (ex_w m2 - m).toNat) m false : Nat))) ∧ Below w.heap.size w w' := fun hg v1 v2 w hS1 hS2 => by
        have hb := bl_add bX1 bX2
        exact sp_add _ _ _ ga gb v1 v2 _ _ _ _ m _ _ w _ hS1 hS2 hm rfl rfl hb1 hb2 (by omega) (by omega) (by omega) (by omega) (by simpa using hg) (fun v w hs => round_w _ false _ _ v w (by omega) (by omega) (by omega) hs)
      have SE : ga ≠ gb → mt_w m1 * 2 ^ (ex_w m1 - m).toNat = mt_w m2 * 2 ^ (ex_w m2 - m).toNat → ∀ v1 v2 w, SN w v1 (mt_w m1) → SN w v2 (mt_w m2) → Calls Tryd.prog 47 #[FSw, SV 0 ga v1 (ex_w m1), SV 0 gb v2 (ex_w m2)] w fun e w' => e = .returned (.int .u64 0) ∧ Below w.heap.size w w' := fun hg hE v1 v2 w hS1 hS2 =>
        sp_eq _ _ _ ga gb v1 v2 _ _ _ _ m _ _ w _ hS1 hS2 hm rfl rfl hb1 hb2 (by omega) (by omega) (by omega) (by omega) (by simpa using hg) hE rfl
      have SG : ga ≠ gb → mt_w m2 * 2 ^ (ex_w m2 - m).toNat < mt_w m1 * 2 ^ (ex_w m1 - m).toNat → ∀ v1 v2 w, SN w v1 (mt_w m1) → SN w v2 (mt_w m2) → Calls Tryd.prog 47 #[FSw, SV 0 ga v1 (ex_w m1), SV 0 gb v2 (ex_w m2)] w fun e w' => e = .returned (.int .u64 (sg_w ga + (rnd 53 11 (-1074) (mt_w m1 * 2 ^ (ex_w m1 - m).toNat - mt_w m2 * 2 ^ (ex_w m2 - m).toNat) m false : Nat))) ∧ Below w.heap.size w w' := fun hg hE v1 v2 w hS1 hS2 =>
        sp_gt _ _ _ ga gb v1 v2 _ _ _ _ m _ _ w _ hS1 hS2 hm rfl rfl hb1 hb2 (by omega) (by omega) (by omega) (by omega) (by simpa using hg) hE (fun v w hs => round_w _ false _ _ v w (Nat.le_trans (bl_mono (Nat.sub_le _ _)) (by omega)) (by omega) (by omega) hs)
      have SL : ga ≠ gb → mt_w m1 * 2 ^ (ex_w m1 - m).toNat < mt_w m2 * 2 ^ (ex_w m2 - m).toNat → ∀ v1 v2 w, SN w v1 (mt_w m1) → SN w v2 (mt_w m2) → Calls Tryd.prog 47 #[FSw, SV 0 ga v1 (ex_w m1), SV 0 gb v2 (ex_w m2)] w fun e w' => e = .returned (.int .u64 (sg_w gb + (rnd 53 11 (-1074) (mt_w m2 * 2 ^ (ex_w m2 - m).toNat - mt_w m1 * 2 ^ (ex_w m1 - m).toNat) m false : Nat))) ∧ Below w.heap.size w w' := fun hg hE v1 v2 w hS1 hS2 =>
        sp_lt _ _ _ ga gb v1 v2 _ _ _ _ m _ _ w _ hS1 hS2 hm rfl rfl hb1 hb2 (by omega) (by omega) (by omega) (by omega) (by simpa using hg) hE (fun v w hs => round_w _ false _ _ v w (Nat.le_trans (bl_mono (Nat.sub_le _ _)) (by omega)) (by omega) (by omega) hs)
      have WR : ∀ (g : Bool) (x : Int) (s : Nat), s < 340282366920938463463374607431768211456 → -5000 ≤ x → x ≤ 5000 → ∀ w, Calls Tryd.prog 39 #[FVw, N2 0 g x s] w fun e w' => e = .returned (.int .u64 (sg_w g + (rnd 53 11 (-1074) s x false : Nat))) ∧ Below w.heap.size w w' := fun g x s h1 h2 h3 w => by
        have h := write_w 0 g x s w (.inl rfl) h1 h2 h3
        rw [wr_w, if_neg (by decide), if_neg (by decide)] at h
        exact h
      by_cases z1 : mt_w m1 = 0
      · rw [show (decide ((0 : Int) = 0) && decide (mt_w m1 = 0)) = true by simp [z1]] at KA
        by_cases z2 : mt_w m2 = 0
        · rw [show (decide ((0 : Int) = 0) && decide (mt_w m2 = 0)) = true by simp [z2]] at KB
          refine ⟨0, ga && gb, 0, 0, 0, sg_w (ga && gb), fun w => ?_, NZ _, fun v1 v2 w hS1 hS2 => ?_⟩
          · cases ga
            · exact pl_zzf gb _ _ _ _ _ _ w KA KB
            · exact pl_zz gb _ _ _ _ _ _ w KA KB
          · by_cases hg : ga = gb
            · have h := SA hg v1 v2 w hS1 hS2
              rw [z1, z2, Nat.zero_mul, Nat.zero_mul, rnd_zz] at h
              subst hg
              simpa using h
            · have h := SE hg (by rw [z1, z2, Nat.zero_mul, Nat.zero_mul]) v1 v2 w hS1 hS2
              rw [show (ga && gb) = false by cases ga <;> cases gb <;> simp_all]
              exact h
        · rw [show (decide ((0 : Int) = 0) && decide (mt_w m2 = 0)) = false by simp [z2]] at KB
          refine ⟨0, gb, _, _, _, _, fun w => pl_zn ga gb _ _ _ _ _ _ w KA KB, WR gb _ _ (by omega) (by omega) (by omega), fun v1 v2 w hS1 hS2 => ?_⟩
          rw [← r2]
          by_cases hg : ga = gb
          · have h := SA hg v1 v2 w hS1 hS2
            rw [z1, Nat.zero_mul, Nat.zero_add] at h
            subst hg
            exact h
          · have h := SL hg (by rw [z1, Nat.zero_mul]; exact Nat.mul_pos (by omega) (Nat.two_pow_pos _)) v1 v2 w hS1 hS2
            rw [z1, Nat.zero_mul, Nat.sub_zero] at h
            exact h
      · rw [show (decide ((0 : Int) = 0) && decide (mt_w m1 = 0)) = false by simp [z1]] at KA
        by_cases z2 : mt_w m2 = 0
        · rw [show (decide ((0 : Int) = 0) && decide (mt_w m2 = 0)) = true by simp [z2]] at KB
          refine ⟨0, ga, _, _, _, _, fun w => pl_nz ga gb _ _ _ _ _ _ w KA KB, WR ga _ _ (by omega) (by omega) (by omega), fun v1 v2 w hS1 hS2 => ?_⟩
          rw [← r1]
          by_cases hg : ga = gb
          · have h := SA hg v1 v2 w hS1 hS2
            rw [z2, Nat.zero_mul, Nat.add_zero] at h
            exact h
          · have h := SG hg (by rw [z2, Nat.zero_mul]; exact Nat.mul_pos (by omega) (Nat.two_pow_pos _)) v1 v2 w hS1 hS2
            rw [z2, Nat.zero_mul, Nat.sub_zero] at h
            exact h
        · rw [show (decide ((0 : Int) = 0) && decide (mt_w m2 = 0)) = false by simp [z2]] at KB
          obtain ⟨g3, x3, s3, KS, t1, t2, t3, hA, hS⟩ := isum_any (p := 53) (e := 11) (L := -1074) ga gb (ex_w m1) (ex_w m2) (mt_w m1) (mt_w m2) (by decide) (by decide) z1 z2 c1 c2 a1 a2 (by omega) (by omega) (by omega) (by omega) m hm
          refine ⟨0, g3, x3, _, _, _, fun w => pl_nn ga gb _ _ _ _ _ _ _ _ _ _ _ w KA KB KS, WR g3 x3 s3 t1 t2 t3, fun v1 v2 w hS1 hS2 => ?_⟩
          by_cases hg : ga = gb
          · obtain ⟨e1, e2⟩ := hA hg
            rw [e1, e2]
            exact SA hg v1 v2 w hS1 hS2
          · rcases hS hg with ⟨e1, e2, e3⟩ | ⟨e1, e2, e3⟩ | ⟨e1, e2, e3⟩
            · rw [e2, e3, rnd_zz]
              exact SE hg e1 v1 v2 w hS1 hS2
            · rw [e2, e3]
              exact SG hg e1 v1 v2 w hS1 hS2
            · rw [e2, e3]
              exact SL hg e1 v1 v2 w hS1 hS2
end Go.Proofs.YthmppcfhbbjhlaaDoor
namespace Go.Proofs.YthmppcfhbbjhlaaDoor
open Go.RowKit Go.Sort

set_option maxHeartbeats 1000000 in
theorem timesB_n (m1 m2 : Nat) (g1 g2 ga gb : Bool) (hm1 : m1 < 2147483648) (hm2 : m2 < 2147483648) (hga : m1 ≤ 2139095040 → ga = g1) (hgb : m2 ≤ 2139095040 → gb = g2) :
    ∃ (k3 : Int) (g3 : Bool) (x3 l3 h3 R : Int),
      (∀ w, Calls Tryd.prog 55 #[N2 (kd_n m1) ga (ex_n m1) (mt_n m1), N2 (kd_n m2) gb (ex_n m2) (mt_n m2)] w fun e w' => e = .returned (NV k3 g3 x3 l3 h3) ∧ Below w.heap.size w w') ∧
      (∀ w, Calls Tryd.prog 39 #[FVn, NV k3 g3 x3 l3 h3] w fun e w' => e = .returned (.int .u64 R) ∧ Below w.heap.size w w') ∧
      (∀ v1 v2 w, SN w v1 (mt_n m1) → SN w v2 (mt_n m2) → Calls Tryd.prog 48 #[FSn, SV (kd_n m1) g1 v1 (ex_n m1), SV (kd_n m2) g2 v2 (ex_n m2)] w fun e w' => e = .returned (.int .u64 R) ∧ Below w.heap.size w w') := by
  have hx1 := ex_n_b m1 hm1
  have hx2 := ex_n_b m2 hm2
  have hs1 := mt_n_b m1
  have hs2 := mt_n_b m2
  have hb1 : bl (mt_n m1) ≤ 60 := bl60 (by omega)
  have hb2 : bl (mt_n m2) ≤ 60 := bl60 (by omega)
  have KZi : ∀ (k : Int) (g : Bool) (x : Int) (s : Nat) (w : World), s < 16777216 → Hid (Calls Tryd.prog 79 #[N2 k g x s] w fun e w' => e = .returned (.bool (decide (k = 0) && decide (s = 0))) ∧ Below w.heap.size w w') := fun k g x s w hs => nzero_key k g x _ _ (decide (s = 0)) w (fun w => isZero_any s w (by omega))
  have KZs : ∀ (k : Int) (g : Bool) (x : Int) (s : Nat) (v : Value) (w : World), bl s ≤ 60 → SN w v s → Hid (Calls Tryd.prog 66 #[SV k g v x] w fun e w' => e = .returned (.bool (decide (k = 0) && decide (s = 0))) ∧ Below w.heap.size w w') := fun k g x s v w hb hs => szero_key k g v x s w (by omega) hs
  have NN : (∀ w, Calls Tryd.prog 39 #[FVn, NV 2 false 0 0 0] w fun e w' => e = .returned (.int .u64 2143289344) ∧ Below w.heap.size w w') := fun w => write_n_2 false 0 0 0 w
  have NI : ∀ g w, Calls Tryd.prog 39 #[FVn, NV 1 g 0 0 0] w fun e w' => e = .returned (.int .u64 (sg_n g + 2139095040)) ∧ Below w.heap.size w w' := fun g w => write_n 1 g 0 0 w (.inr (.inl rfl)) (by decide) (by decide) (by decide)
  have NZ : ∀ g w, Calls Tryd.prog 39 #[FVn, NV 0 g 0 0 0] w fun e w' => e = .returned (.int .u64 (sg_n g)) ∧ Below w.heap.size w w' := fun g w => by
    have h := write_n 0 g 0 0 w (.inl rfl) (by decide) (by decide) (by decide)
    rw [show wr_n 0 g 0 0 = sg_n g by rw [wr_n, if_neg (by decide), if_neg (by decide), rnd_zz]; simp] at h
    exact h
  rcases (show 2139095040 < m1 ∨ m1 = 2139095040 ∨ m1 < 2139095040 by omega) with h1 | h1 | h1
  · rw [kd_n_n h1]
    exact ⟨2, false, 0, 0, 0, 2143289344, fun w => tm_2x _ ga gb _ _ _ _ _ _ w, NN, fun v1 v2 w hS1 hS2 => tms_2x _ _ _ _ g1 g2 v1 v2 _ _ _ _ w _ hS1 hS2 (fun w => nan_n w)⟩
  · rcases (show 2139095040 < m2 ∨ m2 = 2139095040 ∨ m2 < 2139095040 by omega) with h2 | h2 | h2
    · rw [kd_n_n h2]
      exact ⟨2, false, 0, 0, 0, 2143289344, fun w => tm_x2 _ ga gb _ _ _ _ _ _ w (by rw [h1]; decide), NN, fun v1 v2 w hS1 hS2 => tms_x2 _ _ _ _ g1 g2 v1 v2 _ _ _ _ w _ hS1 hS2 (by rw [h1]; decide) (fun w => nan_n w)⟩
    · obtain rfl := hga (by omega)
      obtain rfl := hgb (by omega)
      rw [h1, h2, kd_n_i]
      rw [h1] at hs1 hb1
      rw [h2] at hs2 hb2
      exact ⟨1, !(ga == gb), 0, 0, 0, _, fun w => tm_11 _ ga gb _ _ _ _ _ _ w (fun w => KZi 1 ga _ _ w hs1) (fun w => KZi 1 gb _ _ w hs2) rfl, NI _, fun v1 v2 w hS1 hS2 => tms_11 _ _ _ _ ga gb v1 v2 _ _ _ _ w _ hS1 hS2 rfl (fun w hs => KZs 1 ga _ _ v1 w hb1 hs) (fun w hs => KZs 1 gb _ _ v2 w hb2 hs) (fun w => inf_n _ w)⟩
    · obtain rfl := hga (by omega)
      obtain rfl := hgb (by omega)
      rw [h1, kd_n_i, kd_n_f h2]
      rw [h1] at hs1 hb1
      have e1 := mt_n_0 h2
      by_cases hz : m2 = 0
      · have hz' := e1.2 hz
        have KA := fun w => KZi 0 gb (ex_n m2) (mt_n m2) w hs2
        have KB := fun (v : Value) w hs => KZs 0 gb (ex_n m2) (mt_n m2) v w hb2 hs
        rw [show (decide ((0 : Int) = 0) && decide (mt_n m2 = 0)) = true by simp [hz']] at KA KB
        exact ⟨2, false, 0, 0, 0, 2143289344, fun w => tm_1z ga gb _ _ _ _ _ _ w KA, NN, fun v1 v2 w hS1 hS2 => tms_1z _ _ _ ga gb v1 v2 _ _ _ _ w _ hS1 hS2 (KB v2) (fun w => nan_n w)⟩
      · have hz' : mt_n m2 ≠ 0 := fun h => hz (e1.1 h)
        have KA := fun w => KZi 0 gb (ex_n m2) (mt_n m2) w hs2
        have KB := fun (v : Value) w hs => KZs 0 gb (ex_n m2) (mt_n m2) v w hb2 hs
        rw [show (decide ((0 : Int) = 0) && decide (mt_n m2 = 0)) = false by simp [hz']] at KA KB
        exact ⟨1, !(ga == gb), 0, 0, 0, _, fun w => tm_1n _ ga gb _ _ _ _ _ _ w (fun w => KZi 1 ga _ _ w hs1) KA rfl, NI _, fun v1 v2 w hS1 hS2 => tms_1n _ _ _ _ ga gb v1 v2 _ _ _ _ w _ hS1 hS2 rfl (KB v2) (fun w => inf_n _ w)⟩
  · rcases (show 2139095040 < m2 ∨ m2 = 2139095040 ∨ m2 < 2139095040 by omega) with h2 | h2 | h2
    · rw [kd_n_n h2]
      exact ⟨2, false, 0, 0, 0, 2143289344, fun w => tm_x2 _ ga gb _ _ _ _ _ _ w (by rw [kd_n_f h1]; decide), NN, fun v1 v2 w hS1 hS2 => tms_x2 _ _ _ _ g1 g2 v1 v2 _ _ _ _ w _ hS1 hS2 (by rw [kd_n_f h1]; decide) (fun w => nan_n w)⟩
    · obtain rfl := hga (by omega)
      obtain rfl := hgb (by omega)
      rw [h2, kd_n_i, kd_n_f h1]
      have e1 := mt_n_0 h1
      have KA := fun w => KZi 0 ga (ex_n m1) (mt_n m1) w hs1
      have KB := fun (v : Value) w hs => KZs 0 ga (ex_n m1) (mt_n m1) v w hb1 hs
      by_cases hz : m1 = 0
      · have hz' := e1.2 hz
        rw [show (decide ((0 : Int) = 0) && decide (mt_n m1 = 0)) = true by simp [hz']] at KA KB
        exact ⟨2, false, 0, 0, 0, 2143289344, fun w => tm_z1 ga gb _ _ _ _ _ _ w KA, NN, fun v1 v2 w hS1 hS2 => tms_z1 _ _ _ ga gb v1 v2 _ _ _ _ w _ hS1 hS2 (KB v1) (fun w => nan_n w)⟩
      · have hz' : mt_n m1 ≠ 0 := fun h => hz (e1.1 h)
        rw [show (decide ((0 : Int) = 0) && decide (mt_n m1 = 0)) = false by simp [hz']] at KA KB
        exact ⟨1, !(ga == gb), 0, 0, 0, _, fun w => tm_n1 _ ga gb _ _ _ _ _ _ w KA rfl, NI _, fun v1 v2 w hS1 hS2 => tms_n1 _ _ _ _ ga gb v1 v2 _ _ _ _ w _ hS1 hS2 rfl (KB v1) (fun w => inf_n _ w)⟩
    · obtain rfl := hga (by omega)
      obtain rfl := hgb (by omega)
      rw [kd_n_f h1, kd_n_f h2]
      have hp : mt_n m1 * mt_n m2 < 340282366920938463463374607431768211456 := by
        have := Nat.mul_le_mul (Nat.le_of_lt hs1) (Nat.le_of_lt hs2)
        omega
      have hbp := bl_mul2 (mt_n m1) (mt_n m2)
      refine ⟨0, !(ga == gb), ex_n m1 + ex_n m2, _, _, _, fun w => tm_00 _ ga gb _ _ _ _ _ _ _ _ _ w (fun w => KZi 0 ga _ _ w hs1) rfl (by omega) (by omega) (by omega) (by omega) (fun w => mul64_any _ _ (Nat.mod_lt _ (by decide)) (Nat.mod_lt _ (by decide)) w), fun w => ?_, fun v1 v2 w hS1 hS2 => tms_00 _ _ _ _ ga gb v1 v2 _ _ _ _ w _ hS1 hS2 rfl hb1 hb2 (by omega) (by omega) (by omega) (by omega) (fun v w hs => round_n _ false _ _ v w (by omega) (by omega) (by omega) hs)⟩
      have h := write_n 0 (!(ga == gb)) (ex_n m1 + ex_n m2) (mt_n m1 * mt_n m2) w (.inl rfl) hp (by omega) (by omega)
      rw [wr_n, if_neg (by decide), if_neg (by decide)] at h
      rw [Nat.mod_eq_of_lt (show mt_n m1 < 18446744073709551616 by omega), Nat.mod_eq_of_lt (show mt_n m2 < 18446744073709551616 by omega)]
      exact h
end Go.Proofs.YthmppcfhbbjhlaaDoor
namespace Go.Proofs.YthmppcfhbbjhlaaDoor
open Go.RowKit Go.Sort

set_option maxHeartbeats 1000000 in
theorem timesB_w (m1 m2 : Nat) (g1 g2 ga gb : Bool) (hm1 : m1 < 9223372036854775808) (hm2 : m2 < 9223372036854775808) (hga : m1 ≤ 9218868437227405312 → ga = g1) (hgb : m2 ≤ 9218868437227405312 → gb = g2) :
    ∃ (k3 : Int) (g3 : Bool) (x3 l3 h3 R : Int),
      (∀ w, Calls Tryd.prog 55 #[N2 (kd_w m1) ga (ex_w m1) (mt_w m1), N2 (kd_w m2) gb (ex_w m2) (mt_w m2)] w fun e w' => e = .returned (NV k3 g3 x3 l3 h3) ∧ Below w.heap.size w w') ∧
      (∀ w, Calls Tryd.prog 39 #[FVw, NV k3 g3 x3 l3 h3] w fun e w' => e = .returned (.int .u64 R) ∧ Below w.heap.size w w') ∧
      (∀ v1 v2 w, SN w v1 (mt_w m1) → SN w v2 (mt_w m2) → Calls Tryd.prog 48 #[FSw, SV (kd_w m1) g1 v1 (ex_w m1), SV (kd_w m2) g2 v2 (ex_w m2)] w fun e w' => e = .returned (.int .u64 R) ∧ Below w.heap.size w w') := by
  have hx1 := ex_w_b m1 hm1
  have hx2 := ex_w_b m2 hm2
  have hs1 := mt_w_b m1
  have hs2 := mt_w_b m2
  have hb1 : bl (mt_w m1) ≤ 60 := bl60 (by omega)
  have hb2 : bl (mt_w m2) ≤ 60 := bl60 (by omega)
  have KZi : ∀ (k : Int) (g : Bool) (x : Int) (s : Nat) (w : World), s < 9007199254740992 → Hid (Calls Tryd.prog 79 #[N2 k g x s] w fun e w' => e = .returned (.bool (decide (k = 0) && decide (s = 0))) ∧ Below w.heap.size w w') := fun k g x s w hs => nzero_key k g x _ _ (decide (s = 0)) w (fun w => isZero_any s w (by omega))
  have KZs : ∀ (k : Int) (g : Bool) (x : Int) (s : Nat) (v : Value) (w : World), bl s ≤ 60 → SN w v s → Hid (Calls Tryd.prog 66 #[SV k g v x] w fun e w' => e = .returned (.bool (decide (k = 0) && decide (s = 0))) ∧ Below w.heap.size w w') := fun k g x s v w hb hs => szero_key k g v x s w (by omega) hs
  have NN : (∀ w, Calls Tryd.prog 39 #[FVw, NV 2 false 0 0 0] w fun e w' => e = .returned (.int .u64 9221120237041090560) ∧ Below w.heap.size w w') := fun w => write_w_2 false 0 0 0 w
  have NI : ∀ g w, Calls Tryd.prog 39 #[FVw, NV 1 g 0 0 0] w fun e w' => e = .returned (.int .u64 (sg_w g + 9218868437227405312)) ∧ Below w.heap.size w w' := fun g w => write_w 1 g 0 0 w (.inr (.inl rfl)) (by decide) (by decide) (by decide)
  have NZ : ∀ g w, Calls Tryd.prog 39 #[FVw, NV 0 g 0 0 0] w fun e w' => e = .returned (.int .u64 (sg_w g)) ∧ Below w.heap.size w w' := fun g w => by
    have h := write_w 0 g 0 0 w (.inl rfl) (by decide) (by decide) (by decide)
    rw [show wr_w 0 g 0 0 = sg_w g by rw [wr_w, if_neg (by decide), if_neg (by decide), rnd_zz]; simp] at h
    exact h
  rcases (show 9218868437227405312 < m1 ∨ m1 = 9218868437227405312 ∨ m1 < 9218868437227405312 by omega) with h1 | h1 | h1
  · rw [kd_w_n h1]
    exact ⟨2, false, 0, 0, 0, 9221120237041090560, fun w => tm_2x _ ga gb _ _ _ _ _ _ w, NN, fun v1 v2 w hS1 hS2 => tms_2x _ _ _ _ g1 g2 v1 v2 _ _ _ _ w _ hS1 hS2 (fun w => nan_w w)⟩
  · rcases (show 9218868437227405312 < m2 ∨ m2 = 9218868437227405312 ∨ m2 < 9218868437227405312 by omega) with h2 | h2 | h2
    · rw [kd_w_n h2]
      exact ⟨2, false, 0, 0, 0, 9221120237041090560, fun w => tm_x2 _ ga gb _ _ _ _ _ _ w (by rw [h1]; decide), NN, fun v1 v2 w hS1 hS2 => tms_x2 _ _ _ _ g1 g2 v1 v2 _ _ _ _ w _ hS1 hS2 (by rw [h1]; decide) (fun w => nan_w w)⟩
    · obtain rfl := hga (by omega)
      obtain rfl := hgb (by omega)
      rw [h1, h2, kd_w_i]
      rw [h1] at hs1 hb1
      rw [h2] at hs2 hb2
      exact ⟨1, !(ga == gb), 0, 0, 0, _, fun w => tm_11 _ ga gb _ _ _ _ _ _ w (fun w => KZi 1 ga _ _ w hs1) (fun w => KZi 1 gb _ _ w hs2) rfl, NI _, fun v1 v2 w hS1 hS2 => tms_11 _ _ _ _ ga gb v1 v2 _ _ _ _ w _ hS1 hS2 rfl (fun w hs => KZs 1 ga _ _ v1 w hb1 hs) (fun w hs => KZs 1 gb _ _ v2 w hb2 hs) (fun w => inf_w _ w)⟩
    · obtain rfl := hga (by omega)
      obtain rfl := hgb (by omega)
      rw [h1, kd_w_i, kd_w_f h2]
      rw [h1] at hs1 hb1
      have e1 := mt_w_0 h2
      by_cases hz : m2 = 0
      · have hz' := e1.2 hz
        have KA := fun w => KZi 0 gb (ex_w m2) (mt_w m2) w hs2
        have KB := fun (v : Value) w hs => KZs 0 gb (ex_w m2) (mt_w m2) v w hb2 hs
        rw [show (decide ((0 : Int) = 0) && decide (mt_w m2 = 0)) = true by simp [hz']] at KA KB
        exact ⟨2, false, 0, 0, 0, 9221120237041090560, fun w => tm_1z ga gb _ _ _ _ _ _ w KA, NN, fun v1 v2 w hS1 hS2 => tms_1z _ _ _ ga gb v1 v2 _ _ _ _ w _ hS1 hS2 (KB v2) (fun w => nan_w w)⟩
      · have hz' : mt_w m2 ≠ 0 := fun h => hz (e1.1 h)
        have KA := fun w => KZi 0 gb (ex_w m2) (mt_w m2) w hs2
        have KB := fun (v : Value) w hs => KZs 0 gb (ex_w m2) (mt_w m2) v w hb2 hs
        rw [show (decide ((0 : Int) = 0) && decide (mt_w m2 = 0)) = false by simp [hz']] at KA KB
        exact ⟨1, !(ga == gb), 0, 0, 0, _, fun w => tm_1n _ ga gb _ _ _ _ _ _ w (fun w => KZi 1 ga _ _ w hs1) KA rfl, NI _, fun v1 v2 w hS1 hS2 => tms_1n _ _ _ _ ga gb v1 v2 _ _ _ _ w _ hS1 hS2 rfl (KB v2) (fun w => inf_w _ w)⟩
  · rcases (show 9218868437227405312 < m2 ∨ m2 = 9218868437227405312 ∨ m2 < 9218868437227405312 by omega) with h2 | h2 | h2
    · rw [kd_w_n h2]
      exact ⟨2, false, 0, 0, 0, 9221120237041090560, fun w => tm_x2 _ ga gb _ _ _ _ _ _ w (by rw [kd_w_f h1]; decide), NN, fun v1 v2 w hS1 hS2 => tms_x2 _ _ _ _ g1 g2 v1 v2 _ _ _ _ w _ hS1 hS2 (by rw [kd_w_f h1]; decide) (fun w => nan_w w)⟩
    · obtain rfl := hga (by omega)
      obtain rfl := hgb (by omega)
      rw [h2, kd_w_i, kd_w_f h1]
      have e1 := mt_w_0 h1
      have KA := fun w => KZi 0 ga (ex_w m1) (mt_w m1) w hs1
      have KB := fun (v : Value) w hs => KZs 0 ga (ex_w m1) (mt_w m1) v w hb1 hs
      by_cases hz : m1 = 0
      · have hz' := e1.2 hz
        rw [show (decide ((0 : Int) = 0) && decide (mt_w m1 = 0)) = true by simp [hz']] at KA KB
        exact ⟨2, false, 0, 0, 0, 9221120237041090560, fun w => tm_z1 ga gb _ _ _ _ _ _ w KA, NN, fun v1 v2 w hS1 hS2 => tms_z1 _ _ _ ga gb v1 v2 _ _ _ _ w _ hS1 hS2 (KB v1) (fun w => nan_w w)⟩
      · have hz' : mt_w m1 ≠ 0 := fun h => hz (e1.1 h)
        rw [show (decide ((0 : Int) = 0) && decide (mt_w m1 = 0)) = false by simp [hz']] at KA KB
        exact ⟨1, !(ga == gb), 0, 0, 0, _, fun w => tm_n1 _ ga gb _ _ _ _ _ _ w KA rfl, NI _, fun v1 v2 w hS1 hS2 => tms_n1 _ _ _ _ ga gb v1 v2 _ _ _ _ w _ hS1 hS2 rfl (KB v1) (fun w => inf_w _ w)⟩
    · obtain rfl := hga (by omega)
      obtain rfl := hgb (by omega)
      rw [kd_w_f h1, kd_w_f h2]
      have hp : mt_w m1 * mt_w m2 < 340282366920938463463374607431768211456 := by
        have := Nat.mul_le_mul (Nat.le_of_lt hs1) (Nat.le_of_lt hs2)
        omega
      have hbp := bl_mul2 (mt_w m1) (mt_w m2)
      refine ⟨0, !(ga == gb), ex_w m1 + ex_w m2, _, _, _, fun w => tm_00 _ ga gb _ _ _ _ _ _ _ _ _ w (fun w => KZi 0 ga _ _ w hs1) rfl (by omega) (by omega) (by omega) (by omega) (fun w => mul64_any _ _ (Nat.mod_lt _ (by decide)) (Nat.mod_lt _ (by decide)) w), fun w => ?_, fun v1 v2 w hS1 hS2 => tms_00 _ _ _ _ ga gb v1 v2 _ _ _ _ w _ hS1 hS2 rfl hb1 hb2 (by omega) (by omega) (by omega) (by omega) (fun v w hs => round_w _ false _ _ v w (by omega) (by omega) (by omega) hs)⟩
      have h := write_w 0 (!(ga == gb)) (ex_w m1 + ex_w m2) (mt_w m1 * mt_w m2) w (.inl rfl) hp (by omega) (by omega)
      rw [wr_w, if_neg (by decide), if_neg (by decide)] at h
      rw [Nat.mod_eq_of_lt (show mt_w m1 < 18446744073709551616 by omega), Nat.mod_eq_of_lt (show mt_w m2 < 18446744073709551616 by omega)]
      exact h
end Go.Proofs.YthmppcfhbbjhlaaDoor
