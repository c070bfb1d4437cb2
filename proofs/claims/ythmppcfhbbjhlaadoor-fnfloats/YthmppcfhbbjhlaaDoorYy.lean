import Derived.Test.YthmppcfhbbjhlaaDoorYp
import Derived.Test.YthmppcfhbbjhlaaDoorYl
import Derived.Test.YthmppcfhbbjhlaaDoorXc
import Derived.Test.YthmppcfhbbjhlaaDoorXh
import Derived.Test.YthmppcfhbbjhlaaDoorXg
import Derived.Test.YthmppcfhbbjhlaaDoorDv2
import Derived.Test.YthmppcfhbbjhlaaDoorXt
import Derived.Test.YthmppcfhbbjhlaaDoorIw
set_option linter.all false
namespace Go.Proofs.YthmppcfhbbjhlaaDoor
open Go.RowKit Go.Sort

def byV_n (m1 : Nat) (g1 : Bool) (m2 : Nat) (g2 : Bool) : Int :=
  if 2139095040 < m1 ∨ 2139095040 < m2 ∨ (m1 = 2139095040 ∧ m2 = 2139095040) ∨ (m1 = 0 ∧ m2 = 0) then 2143289344 else
  if m1 = 2139095040 ∨ m2 = 0 then sg_n (!(g1 == g2)) + 2139095040 else
  if m1 = 0 ∨ m2 = 2139095040 then sg_n (!(g1 == g2)) else
  sg_n (!(g1 == g2)) + (rnd 24 8 (-149) (mt_n m1 * 2 ^ (24 + 2 + bl (mt_n m2)) / mt_n m2) (ex_n m1 - ex_n m2 - ((24 + 2 + bl (mt_n m2) : Nat) : Int)) (decide (mt_n m1 * 2 ^ (24 + 2 + bl (mt_n m2)) % mt_n m2 ≠ 0)) : Nat)
set_option maxHeartbeats 1000000 in
theorem byE_n (m1 m2 : Nat) (g1 g2 ga gb : Bool) (hm1 : m1 < 2147483648) (hm2 : m2 < 2147483648) (hga : m1 ≤ 2139095040 → ga = g1) (hgb : m2 ≤ 2139095040 → gb = g2) :
    ∃ (k3 : Int) (g3 : Bool) (x3 l3 h3 R : Int),
      (∀ w, Calls Tryd.prog 56 #[N2 (kd_n m1) ga (ex_n m1) (mt_n m1), N2 (kd_n m2) gb (ex_n m2) (mt_n m2)] w fun e w' => e = .returned (NV k3 g3 x3 l3 h3) ∧ Below w.heap.size w w') ∧
      (∀ w, Calls Tryd.prog 39 #[FVn, NV k3 g3 x3 l3 h3] w fun e w' => e = .returned (.int .u64 R) ∧ Below w.heap.size w w') ∧
      (∀ v1 v2 w, SN w v1 (mt_n m1) → SN w v2 (mt_n m2) → Calls Tryd.prog 49 #[FSn, SV (kd_n m1) g1 v1 (ex_n m1), SV (kd_n m2) g2 v2 (ex_n m2)] w fun e w' => e = .returned (.int .u64 R) ∧ Below w.heap.size w w') ∧ R = byV_n m1 g1 m2 g2 := by
  have hx1 := ex_n_b m1 hm1
  have hx2 := ex_n_b m2 hm2
  have hs1 := mt_n_b m1
  have hs2 := mt_n_b m2
  have hb1 : bl (mt_n m1) ≤ 60 := bl60 (by omega)
  have hb2 : bl (mt_n m2) ≤ 60 := bl60 (by omega)
  have KZi : ∀ (k : Int) (g : Bool) (x : Int) (s : Nat) (w : World), s < 16777216 → Hid (Calls Tryd.prog 79 #[N2 k g x s] w fun e w' => e = .returned (.bool (decide (k = 0) && decide (s = 0))) ∧ Below w.heap.size w w') := fun k g x s w hs => nzero_key k g x _ _ (decide (s = 0)) w (fun w => isZero_any s w (by omega))
  have KZs : ∀ (k : Int) (g : Bool) (x : Int) (s : Nat) (v : Value) (w : World), bl s ≤ 60 → SN w v s → Hid (Calls Tryd.prog 66 #[SV k g v x] w fun e w' => e = .returned (.bool (decide (k = 0) && decide (s = 0))) ∧ Below w.heap.size w w') := fun k g x s v w hb hs => szero_key k g v x s w (by omega) hs
  have NN : (∀ w, Calls Tryd.prog 39 #[FVn, NV 2 false 0 0 0] w fun e w' => e = .returned (.int .u64 2143289344) ∧ Below w.heap.size w w') := fun w => write_n_2 false 0 0 0 w
  have NI : ∀ g w, Calls Tryd.prog 39 #[FVn, NV 1 g 0 0 0] w fun e w' => e = .returned (.int .u64 (sg_n g + 2139095040)) ∧ Below w.heap.size w w' := fun g w => write_n 1 g 0 0 w (.inr (.inl rfl)) (by decide) (by decide) (by decide)
  have NZ : ∀ g w, Calls Tryd.prog 39 #[FVn, NV 0 g 0 0 0] w fun e w' => e = .returned (.int .u64 (sg_n g)) ∧ Below w.heap.size w w' := fun g w => by
    have h := write_n 0 g 0 0 w (.inl rfl) (by decide) (by decide) (by decide)
    rw [show wr_n 0 g 0 0 = sg_n g by rw [wr_n, if_neg (by decide), if_neg (by decide), rnd_zz]; simp] at h
    exact h
  rcases (show 2139095040 < m1 ∨ m1 = 2139095040 ∨ m1 < 2139095040 by omega) with h1 | h1 | h1
  · rw [kd_n_n h1]
    exact ⟨2, false, 0, 0, 0, 2143289344, fun w => by_2x _ ga gb _ _ _ _ _ _ w, NN, fun v1 v2 w hS1 hS2 => dvs_2x _ _ _ _ g1 g2 v1 v2 _ _ _ _ w _ hS1 hS2 (fun w => nan_n w), by unfold byV_n; rw [if_pos (by omega)]⟩
  · rcases (show 2139095040 < m2 ∨ m2 = 2139095040 ∨ m2 < 2139095040 by omega) with h2 | h2 | h2
    · rw [kd_n_n h2]
      exact ⟨2, false, 0, 0, 0, 2143289344, fun w => by_x2 _ ga gb _ _ _ _ _ _ w (by rw [h1]; decide), NN, fun v1 v2 w hS1 hS2 => dvs_x2 _ _ _ _ g1 g2 v1 v2 _ _ _ _ w _ hS1 hS2 (by rw [h1]; decide) (fun w => nan_n w), by unfold byV_n; rw [if_pos (by omega)]⟩
    · rw [h1, h2, kd_n_i]
      exact ⟨2, false, 0, 0, 0, 2143289344, fun w => by_11 ga gb _ _ _ _ _ _ w, NN, fun v1 v2 w hS1 hS2 => dvs_11 _ _ _ g1 g2 v1 v2 _ _ _ _ w _ hS1 hS2 (fun w => nan_n w), by unfold byV_n; rw [if_pos (by omega)]⟩
    · obtain rfl := hga (by omega)
      obtain rfl := hgb (by omega)
      rw [h1, kd_n_i, kd_n_f h2]
      rw [h1] at hs1 hb1
      exact ⟨1, !(ga == gb), 0, 0, 0, _, fun w => by_10 _ ga gb _ _ _ _ _ _ w (fun w => KZi 1 ga _ _ w hs1) rfl, NI _, fun v1 v2 w hS1 hS2 => dvs_10 _ _ _ _ ga gb v1 v2 _ _ _ _ w _ hS1 hS2 rfl (fun w hs => KZs 1 ga _ _ v1 w hb1 hs) (fun w => inf_n _ w), by unfold byV_n; rw [if_neg (by omega), if_pos (by omega)]⟩
  · rcases (show 2139095040 < m2 ∨ m2 = 2139095040 ∨ m2 < 2139095040 by omega) with h2 | h2 | h2
    · rw [kd_n_n h2]
      exact ⟨2, false, 0, 0, 0, 2143289344, fun w => by_x2 _ ga gb _ _ _ _ _ _ w (by rw [kd_n_f h1]; decide), NN, fun v1 v2 w hS1 hS2 => dvs_x2 _ _ _ _ g1 g2 v1 v2 _ _ _ _ w _ hS1 hS2 (by rw [kd_n_f h1]; decide) (fun w => nan_n w), by unfold byV_n; rw [if_pos (by omega)]⟩
    · obtain rfl := hga (by omega)
      obtain rfl := hgb (by omega)
      rw [h2, kd_n_i, kd_n_f h1]
      rw [h2] at hs2 hb2
      have KA := fun w => KZi 0 ga (ex_n m1) (mt_n m1) w hs1
      have KB := fun (v : Value) w hs => KZs 0 ga (ex_n m1) (mt_n m1) v w hb1 hs
      by_cases hz : mt_n m1 = 0
      · have y1 := (mt_n_0 h1).1 hz
        rw [show (decide ((0 : Int) = 0) && decide (mt_n m1 = 0)) = true by simp [hz]] at KA KB
        exact ⟨0, !(ga == gb), 0, 0, 0, _, fun w => by_z1 _ ga gb _ _ _ _ _ _ w KA (fun w => KZi 1 gb _ _ w hs2) rfl, NZ _, fun v1 v2 w hS1 hS2 => dvs_z1 _ _ _ _ ga gb v1 v2 _ _ _ _ w _ hS1 hS2 rfl (KB v1) (fun w hs => KZs 1 gb _ _ v2 w hb2 hs) (fun w => sign_n _ w), by unfold byV_n; rw [if_neg (by omega), if_neg (by omega), if_pos (by omega)]⟩
      · have y1 : m1 ≠ 0 := fun h => hz ((mt_n_0 h1).2 h)
        rw [show (decide ((0 : Int) = 0) && decide (mt_n m1 = 0)) = false by simp [hz]] at KA KB
        exact ⟨0, !(ga == gb), 0, 0, 0, _, fun w => by_n1 _ ga gb _ _ _ _ _ _ w KA (fun w => KZi 1 gb _ _ w hs2) rfl, NZ _, fun v1 v2 w hS1 hS2 => dvs_n1 _ _ _ _ ga gb v1 v2 _ _ _ _ w _ hS1 hS2 rfl (KB v1) (fun w hs => KZs 1 gb _ _ v2 w hb2 hs) (fun w => sign_n _ w), by unfold byV_n; rw [if_neg (by omega), if_neg (by omega), if_pos (by omega)]⟩
    · obtain rfl := hga (by omega)
      obtain rfl := hgb (by omega)
      rw [kd_n_f h1, kd_n_f h2]
      have KA := fun w => KZi 0 ga (ex_n m1) (mt_n m1) w hs1
      have KB := fun w => KZi 0 gb (ex_n m2) (mt_n m2) w hs2
      have SA := fun (v : Value) w hs => KZs 0 ga (ex_n m1) (mt_n m1) v w hb1 hs
      have SB := fun (v : Value) w hs => KZs 0 gb (ex_n m2) (mt_n m2) v w hb2 hs
      by_cases z1 : mt_n m1 = 0
      · have y1 := (mt_n_0 h1).1 z1
        rw [show (decide ((0 : Int) = 0) && decide (mt_n m1 = 0)) = true by simp [z1]] at KA SA
        by_cases z2 : mt_n m2 = 0
        · have y2 := (mt_n_0 h2).1 z2
          rw [show (decide ((0 : Int) = 0) && decide (mt_n m2 = 0)) = true by simp [z2]] at KB SB
          exact ⟨2, false, 0, 0, 0, 2143289344, fun w => by_zz ga gb _ _ _ _ _ _ w KA KB, NN, fun v1 v2 w hS1 hS2 => dvs_zz _ _ _ ga gb v1 v2 _ _ _ _ w _ hS1 hS2 (SA v1) (SB v2) (fun w => nan_n w), by unfold byV_n; rw [if_pos (by omega)]⟩
        · have y2 : m2 ≠ 0 := fun h => z2 ((mt_n_0 h2).2 h)
          rw [show (decide ((0 : Int) = 0) && decide (mt_n m2 = 0)) = false by simp [z2]] at KB SB
          exact ⟨0, !(ga == gb), 0, 0, 0, _, fun w => by_zn _ ga gb _ _ _ _ _ _ w KA KB rfl, NZ _, fun v1 v2 w hS1 hS2 => dvs_zn _ _ _ _ ga gb v1 v2 _ _ _ _ w _ hS1 hS2 rfl (SA v1) (SB v2) (fun w => sign_n _ w), by unfold byV_n; rw [if_neg (by omega), if_neg (by omega), if_pos (by omega)]⟩
      · have y1 : m1 ≠ 0 := fun h => z1 ((mt_n_0 h1).2 h)
        rw [show (decide ((0 : Int) = 0) && decide (mt_n m1 = 0)) = false by simp [z1]] at KA SA
        by_cases z2 : mt_n m2 = 0
        · have y2 := (mt_n_0 h2).1 z2
          rw [show (decide ((0 : Int) = 0) && decide (mt_n m2 = 0)) = true by simp [z2]] at KB SB
          exact ⟨1, !(ga == gb), 0, 0, 0, _, fun w => by_nz _ ga gb _ _ _ _ _ _ w KA KB rfl, NI _, fun v1 v2 w hS1 hS2 => dvs_nz _ _ _ _ ga gb v1 v2 _ _ _ _ w _ hS1 hS2 rfl (SA v1) (SB v2) (fun w => inf_n _ w), by unfold byV_n; rw [if_neg (by omega), if_pos (by omega)]⟩
        · have y2 : m2 ≠ 0 := fun h => z2 ((mt_n_0 h2).2 h)
          rw [show (decide ((0 : Int) = 0) && decide (mt_n m2 = 0)) = false by simp [z2]] at KB SB
          have c1 : bl (mt_n m1) ≤ 24 := bl_le (k := 24) hs1
          have c2 : bl (mt_n m2) ≤ 24 := bl_le (k := 24) hs2
          have q1 := bl_pos z1
          have q2 := bl_pos z2
          have FV0 : byV_n m1 ga m2 gb = sg_n (!(ga == gb)) + (rnd 24 8 (-149) (mt_n m1 * 2 ^ (24 + 2 + bl (mt_n m2)) / mt_n m2) (ex_n m1 - ex_n m2 - ((24 + 2 + bl (mt_n m2) : Nat) : Int)) (decide (mt_n m1 * 2 ^ (24 + 2 + bl (mt_n m2)) % mt_n m2 ≠ 0)) : Nat) := by
            unfold byV_n
            rw [if_neg (by omega), if_neg (by omega), if_neg (by omega)]
          rw [FV0]
          clear FV0
          generalize ex_n m1 = x1 at *
          generalize ex_n m2 = x2 at *
          generalize mt_n m1 = s1 at *
          generalize mt_n m2 = s2 at *
          obtain ⟨-, n1, n2⟩ := lift_parts z1 (by omega)
          have KN := fun w => lift_any 0 ga x1 127 s1 w (by omega) z1 (by omega) (by omega) (by omega) (by omega)
          have KM := fun w => lift_any 0 gb x2 64 s2 w (by omega) z2 (by omega) (by omega) (by omega) (by omega)
          obtain ⟨pl1, hp1⟩ : ∃ k, k = 127 - bl s1 := ⟨_, rfl⟩
          obtain ⟨pl2, hp2⟩ : ∃ k, k = 64 - bl s2 := ⟨_, rfl⟩
          rw [show (127 - (bl s1 : Int)).toNat = pl1 by omega, show (127 - (bl s1 : Int)) = (pl1 : Int) by omega] at KN
          rw [show (64 - (bl s2 : Int)).toNat = pl2 by omega, show (64 - (bl s2 : Int)) = (pl2 : Int) by omega] at KM
          rw [← hp1] at n1 n2
          have hM : 2 ^ 63 ≤ s2 * 2 ^ pl2 ∧ s2 * 2 ^ pl2 < 2 ^ 64 := by
            have e1 := bl_mul z2 pl2
            have e2 : s2 * 2 ^ pl2 ≠ 0 := by have := Nat.mul_pos (show 0 < s2 by omega) (Nat.two_pow_pos pl2); omega
            have e3 := bl_ge e2
            have e4 := bl_lt (s2 * 2 ^ pl2)
            rw [e1, show bl s2 + pl2 = 64 by omega] at e3 e4
            exact ⟨e3, e4⟩
          rw [show (2 : Nat) ^ 127 = 170141183460469231731687303715884105728 by decide] at n2
          rw [show (2 : Nat) ^ 126 = 85070591730234615865843651857942052864 by decide] at n1
          rw [show (2 : Nat) ^ 63 = 9223372036854775808 by decide, show (2 : Nat) ^ 64 = 18446744073709551616 by decide] at hM
          obtain ⟨k, hk⟩ : ∃ k, pl1 = k + pl2 := ⟨pl1 - pl2, by omega⟩
          obtain ⟨ql, qr⟩ := quo_low (s1 := s1) (s2 := s2) hk
          have KD := fun w => div64_any (s1 * 2 ^ pl1 / 18446744073709551616) (s1 * 2 ^ pl1 % 18446744073709551616) (s2 * 2 ^ pl2) w (by rw [Nat.div_lt_iff_lt_mul (by decide)]; omega) (by rw [Nat.div_pos_iff]; omega) (Nat.mod_lt _ (by decide)) hM.1 hM.2
          rw [show s1 * 2 ^ pl1 / 18446744073709551616 * 18446744073709551616 + s1 * 2 ^ pl1 % 18446744073709551616 = s1 * 2 ^ pl1 by have := Nat.mod_add_div (s1 * 2 ^ pl1) 18446744073709551616; omega] at KD
          have hQ : s1 * 2 ^ pl1 / (s2 * 2 ^ pl2) < 18446744073709551616 := by
            rw [Nat.div_lt_iff_lt_mul (by omega)]
            have := Nat.mul_le_mul_left 18446744073709551616 hM.1
            omega
          have hQ1 : 2 ^ 62 ≤ s1 * 2 ^ pl1 / (s2 * 2 ^ pl2) := by
            rw [Nat.le_div_iff_mul_le (by omega), show (2 : Nat) ^ 62 = 4611686018427387904 by decide]
            have := Nat.mul_le_mul_left 4611686018427387904 (Nat.le_of_lt hM.2)
            omega
          have KK := fun w => mark_any (decide (s1 * 2 ^ pl1 % (s2 * 2 ^ pl2) ≠ 0)) (s1 * 2 ^ pl1 / (s2 * 2 ^ pl2)) w
          have eW : W2 (s1 * 2 ^ pl1 / (s2 * 2 ^ pl2)) = WV ((s1 * 2 ^ pl1 / (s2 * 2 ^ pl2) : Nat) : Int) 0 := by
            rw [W2, Nat.mod_eq_of_lt hQ, Nat.div_eq_of_lt hQ]; rfl
          rw [eW] at KK
          have eM : N2 0 gb (x2 - (pl2 : Int)) (s2 * 2 ^ pl2) = NV 0 gb (x2 - (pl2 : Int)) ((s2 * 2 ^ pl2 : Nat) : Int) 0 := by
            rw [N2, Nat.mod_eq_of_lt hM.2, Nat.div_eq_of_lt hM.2]; rfl
          rw [eM] at KM
          obtain ⟨n, hn⟩ : ∃ n : Nat, n = 24 + 2 + bl s2 := ⟨_, rfl⟩
          have bn : 24 + 2 ≤ bl (s1 * 2 ^ n / s2) := by
            have e1 : 2 ^ (24 + 2) ≤ s1 * 2 ^ n / s2 := by
              rw [Nat.le_div_iff_mul_le (by omega)]
              have e2 := Nat.mul_le_mul_left (2 ^ (24 + 2)) (Nat.le_of_lt (bl_lt s2))
              rw [← Nat.pow_add, ← hn] at e2
              have e3 := Nat.mul_le_mul_right (2 ^ n) (show 1 ≤ s1 by omega)
              omega
            exact Nat.le_of_lt (lt_bl e1)
          have bk : 24 + 2 ≤ bl (s1 * 2 ^ k / s2) := by
            rw [← ql]
            have := lt_bl hQ1
            omega
          have hq := quo_eq (p := 24) (e := 8) (L := -149) (a := s1) (b := s2) (n := n) (k := k) (ex := x1 - x2) (by omega) bn bk
          refine ⟨0, !(ga == gb), (x1 - pl1) - (x2 - pl2), _, _, sg_n (!(ga == gb)) + (rnd 24 8 (-149) (s1 * 2 ^ n / s2) (x1 - x2 - n) (decide (s1 * 2 ^ n % s2 ≠ 0)) : Nat), fun w => by_nn _ ga gb _ _ _ _ _ _ _ _ _ _ _ _ _ _ _ _ _ w KA KB rfl (by omega) (by omega) (by omega) (by omega) KN KM KD ?_ KK, fun w => ?_, fun v1 v2 w hS1 hS2 => ?_, by rw [hn]⟩
          · generalize s1 * 2 ^ pl1 % (s2 * 2 ^ pl2) = z
            rw [Bool.eq_iff_iff]; simp
          · have h := write_n 0 (!(ga == gb)) ((x1 - pl1) - (x2 - pl2)) (if decide (s1 * 2 ^ pl1 % (s2 * 2 ^ pl2) ≠ 0) then s1 * 2 ^ pl1 / (s2 * 2 ^ pl2) + (1 - s1 * 2 ^ pl1 / (s2 * 2 ^ pl2) % 2) else s1 * 2 ^ pl1 / (s2 * 2 ^ pl2)) w (.inl rfl) (by split <;> omega) (by omega) (by omega)
            rw [wr0_n] at h
            rw [← hq]
            have e5 : decide (s1 * 2 ^ k % s2 ≠ 0) = decide (s1 * 2 ^ pl1 % (s2 * 2 ^ pl2) ≠ 0) := by rw [decide_eq_decide]; exact not_congr qr.symm
            rw [e5, ← ql, show x1 - x2 - (k : Int) = x1 - pl1 - (x2 - pl2) by omega]
            exact h
          · have hbA : bl (s1 * 2 ^ n) = bl s1 + n := bl_mul z1 n
            have hbq : bl (s1 * 2 ^ n / s2) ≤ bl (s1 * 2 ^ n) := bl_mono (Nat.div_le_self _ _)
            refine dvs_nn _ _ _ _ ga gb v1 v2 _ _ _ _ (n : Int) (s1 * 2 ^ n) w _ hS1 hS2 rfl (SA v1) (SB v2) z1 z2 hb1 hb2 (by omega) (by omega) (by omega) (by omega) (by decide) (by decide) (by omega) (by rw [Int.toNat_natCast]) (fun v w hs => round_n _ _ _ _ v w (by omega) (by omega) (by omega) hs)
theorem plusV_comm_n (m1 m2 : Nat) (g1 g2 : Bool) (h1 : m1 < 2147483648) (h2 : m2 < 2147483648) : plusV_n m1 g1 m2 g2 = plusV_n m2 g2 m1 g1 := by
  unfold plusV_n
  by_cases c : 2139095040 < m1 ∨ 2139095040 < m2
  · rw [if_pos c, if_pos (show 2139095040 < m2 ∨ 2139095040 < m1 by omega)]
  rw [if_neg c, if_neg (show ¬ (2139095040 < m2 ∨ 2139095040 < m1) by omega)]
  by_cases i1 : m1 = 2139095040
  · rw [if_pos i1]
    by_cases i2 : m2 = 2139095040
    · rw [if_pos i2]
      by_cases hg : g1 = g2
      · rw [if_neg (show ¬ (m2 = 2139095040 ∧ g1 ≠ g2) from fun h => h.2 hg), if_neg (show ¬ (m1 = 2139095040 ∧ g2 ≠ g1) from fun h => h.2 hg.symm), hg]
      · rw [if_pos ⟨i2, hg⟩, if_pos ⟨i1, fun h => hg h.symm⟩]
    · rw [if_neg (fun h => i2 h.1), if_neg i2, if_pos i1]
  · rw [if_neg i1]
    by_cases i2 : m2 = 2139095040
    · rw [if_pos i2, if_pos i2, if_neg (fun h => i1 h.1)]
    · rw [if_neg i2, if_neg i2, if_neg i1, Int.min_comm (ex_n m2) (ex_n m1)]
      by_cases hg : g1 = g2
      · rw [if_pos hg, if_pos hg.symm, hg, Nat.add_comm]
      · rw [if_neg hg, if_neg (show ¬ g2 = g1 from fun h => hg h.symm)]
        generalize mt_n m1 * 2 ^ (ex_n m1 - min (ex_n m1) (ex_n m2)).toNat = X
        generalize mt_n m2 * 2 ^ (ex_n m2 - min (ex_n m1) (ex_n m2)).toNat = Y
        by_cases e : X = Y
        · rw [if_pos e, if_pos e.symm]
        · rw [if_neg e, if_neg (show ¬ Y = X from fun h => e h.symm)]
          by_cases l : Y < X
          · rw [if_pos l, if_neg (show ¬ X < Y by omega)]
          · rw [if_neg l, if_pos (show X < Y by omega)]
theorem timesV_comm_n (m1 m2 : Nat) (g1 g2 : Bool) : timesV_n m1 g1 m2 g2 = timesV_n m2 g2 m1 g1 := by
  unfold timesV_n
  have hg : (g1 == g2) = (g2 == g1) := by cases g1 <;> cases g2 <;> rfl
  rw [hg, Nat.mul_comm (mt_n m1) (mt_n m2), Int.add_comm (ex_n m1) (ex_n m2)]
  by_cases c : 2139095040 < m1 ∨ 2139095040 < m2 ∨ (m1 = 2139095040 ∧ m2 = 0) ∨ (m1 = 0 ∧ m2 = 2139095040)
  · rw [if_pos c, if_pos (show 2139095040 < m2 ∨ 2139095040 < m1 ∨ (m2 = 2139095040 ∧ m1 = 0) ∨ (m2 = 0 ∧ m1 = 2139095040) by omega)]
  · rw [if_neg c, if_neg (show ¬ (2139095040 < m2 ∨ 2139095040 < m1 ∨ (m2 = 2139095040 ∧ m1 = 0) ∨ (m2 = 0 ∧ m1 = 2139095040)) by omega)]
    by_cases d : m1 = 2139095040 ∨ m2 = 2139095040
    · rw [if_pos d, if_pos (show m2 = 2139095040 ∨ m1 = 2139095040 by omega)]
    · rw [if_neg d, if_neg (show ¬ (m2 = 2139095040 ∨ m1 = 2139095040) by omega)]
theorem plusV_anti_n (m1 m2 : Nat) (g1 g2 : Bool) : (plusV_n m1 g1 m2 (!g2) = 2143289344 ∧ plusV_n m2 g2 m1 (!g1) = 2143289344) ∨ plusV_n m1 g1 m2 (!g2) = 0 ∨ ∃ (g : Bool) (r : Nat), r ≤ 2139095040 ∧ plusV_n m1 g1 m2 (!g2) = sg_n g + (r : Nat) ∧ plusV_n m2 g2 m1 (!g1) = sg_n (!g) + (r : Nat) := by
  unfold plusV_n
  have flip : (g1 = !g2) ↔ (g2 = !g1) := by cases g1 <;> cases g2 <;> simp
  by_cases c : 2139095040 < m1 ∨ 2139095040 < m2
  · left; rw [if_pos c, if_pos (by omega)]; exact ⟨rfl, rfl⟩
  rw [if_neg c, if_neg (show ¬ (2139095040 < m2 ∨ 2139095040 < m1) by omega)]
  by_cases i1 : m1 = 2139095040
  · rw [if_pos i1]
    by_cases i2 : m2 = 2139095040
    · rw [if_pos i2]
      by_cases hg : g1 = !g2
      · right; right
        rw [if_neg (show ¬ (m2 = 2139095040 ∧ g1 ≠ !g2) from fun h => h.2 hg), if_neg (show ¬ (m1 = 2139095040 ∧ g2 ≠ !g1) from fun h => h.2 (flip.1 hg))]
        exact ⟨g1, 2139095040, Nat.le_refl _, rfl, by rw [flip.1 hg]; rfl⟩
      · left
        rw [if_pos ⟨i2, hg⟩, if_pos ⟨i1, fun h => hg (flip.2 h)⟩]; exact ⟨rfl, rfl⟩
    · right; right
      rw [if_neg (fun h => i2 h.1), if_neg i2, if_pos i1]
      exact ⟨g1, 2139095040, Nat.le_refl _, rfl, rfl⟩
  · rw [if_neg i1]
    by_cases i2 : m2 = 2139095040
    · right; right
      rw [if_pos i2, if_pos i2, if_neg (fun h => i1 h.1)]
      exact ⟨!g2, 2139095040, Nat.le_refl _, rfl, by rw [Bool.not_not]; rfl⟩
    · rw [if_neg i2, if_neg i2, if_neg i1, Int.min_comm (ex_n m2) (ex_n m1)]
      generalize mt_n m1 * 2 ^ (ex_n m1 - min (ex_n m1) (ex_n m2)).toNat = X
      generalize mt_n m2 * 2 ^ (ex_n m2 - min (ex_n m1) (ex_n m2)).toNat = Y
      by_cases hg : g1 = !g2
      · right; right
        rw [if_pos hg, if_pos (flip.1 hg)]
        exact ⟨g1, _, rnd_n_le _ _ _, rfl, by rw [flip.1 hg, Nat.add_comm]⟩
      · rw [if_neg hg, if_neg (show ¬ g2 = !g1 from fun h => hg (flip.2 h))]
        by_cases e : X = Y
        · right; left; rw [if_pos e]
        · right; right
          rw [if_neg e, if_neg (show ¬ Y = X from fun h => e h.symm)]
          by_cases l : Y < X
          · rw [if_pos l, if_neg (show ¬ X < Y by omega)]
            exact ⟨g1, _, rnd_n_le _ _ _, rfl, rfl⟩
          · rw [if_neg l, if_pos (show X < Y by omega)]
            exact ⟨!g2, _, rnd_n_le _ _ _, rfl, by rw [Bool.not_not]⟩
theorem timesV_one_n (m : Nat) (g : Bool) (h : m ≤ 2139095040) : timesV_n m g 1065353216 false = sg_n g + (m : Nat) := by
  unfold timesV_n
  have hg : (!(g == false)) = g := by cases g <;> rfl
  rw [hg, if_neg (by omega)]
  by_cases i : m = 2139095040
  · rw [if_pos (by omega), i]; rfl
  · rw [if_neg (by omega)]
    have e1 : mt_n 1065353216 = 2 ^ (24 - 1) := by decide
    have e2 : ex_n 1065353216 = -(((24 - 1 : Nat)) : Int) := by decide
    rw [e1, e2]
    by_cases h0 : m = 0
    · rw [(mt_n_0 (show m < 2139095040 by omega)).2 h0, Nat.zero_mul, rnd_zz, h0]
    · have hz : mt_n m ≠ 0 := fun hh => h0 ((mt_n_0 (show m < 2139095040 by omega)).1 hh)
      have hs := rnd_shift (p := 24) (e := 8) (L := -149) (s := mt_n m) (j := 24 - 1) (E := ex_n m) hz
      rw [Int.sub_eq_add_neg] at hs
      rw [hs, rnd_self_n m h0 (by omega)]
theorem byV_one_n (m : Nat) (g : Bool) (h : m ≤ 2139095040) : byV_n m g 1065353216 false = sg_n g + (m : Nat) := by
  unfold byV_n
  have hg : (!(g == false)) = g := by cases g <;> rfl
  rw [hg, if_neg (by omega)]
  by_cases i : m = 2139095040
  · rw [if_pos (by omega), i]; rfl
  · rw [if_neg (by omega)]
    by_cases h0 : m = 0
    · rw [if_pos (by omega), h0]; simp
    · rw [if_neg (by omega)]
      have e1 : mt_n 1065353216 = 2 ^ (24 - 1) := by decide
      have e2 : ex_n 1065353216 = -(((24 - 1 : Nat)) : Int) := by decide
      have e3 : bl (mt_n 1065353216) = 24 := by rw [e1]; exact bl_eq (k := 24 - 1) (Nat.le_refl _) (Nat.pow_lt_pow_right (by decide) (by decide))
      rw [e3, e1, e2]
      have hz : mt_n m ≠ 0 := fun hh => h0 ((mt_n_0 (show m < 2139095040 by omega)).1 hh)
      have e4 : mt_n m * 2 ^ (24 + 2 + 24) = mt_n m * 2 ^ (24 + 3) * 2 ^ (24 - 1) := by rw [Nat.mul_assoc, ← Nat.pow_add]
      rw [e4, Nat.mul_div_cancel _ (Nat.two_pow_pos _), Nat.mul_mod_left]
      have hs := rnd_shift (p := 24) (e := 8) (L := -149) (s := mt_n m) (j := 24 + 3) (E := ex_n m) hz
      rw [show ex_n m - -(((24 - 1 : Nat)) : Int) - ((24 + 2 + 24 : Nat) : Int) = ex_n m - ((24 + 3 : Nat) : Int) by omega]
      rw [show decide (0 ≠ 0) = false by decide, hs, rnd_self_n m h0 (by omega)]
end Go.Proofs.YthmppcfhbbjhlaaDoor
namespace Go.Proofs.YthmppcfhbbjhlaaDoor
open Go.RowKit Go.Sort

def byV_w (m1 : Nat) (g1 : Bool) (m2 : Nat) (g2 : Bool) : Int :=
  if 9218868437227405312 < m1 ∨ 9218868437227405312 < m2 ∨ (m1 = 9218868437227405312 ∧ m2 = 9218868437227405312) ∨ (m1 = 0 ∧ m2 = 0) then 9221120237041090560 else
  if m1 = 9218868437227405312 ∨ m2 = 0 then sg_w (!(g1 == g2)) + 9218868437227405312 else
  if m1 = 0 ∨ m2 = 9218868437227405312 then sg_w (!(g1 == g2)) else
  sg_w (!(g1 == g2)) + (rnd 53 11 (-1074) (mt_w m1 * 2 ^ (53 + 2 + bl (mt_w m2)) / mt_w m2) (ex_w m1 - ex_w m2 - ((53 + 2 + bl (mt_w m2) : Nat) : Int)) (decide (mt_w m1 * 2 ^ (53 + 2 + bl (mt_w m2)) % mt_w m2 ≠ 0)) : Nat)
set_option maxHeartbeats 1000000 in
theorem byE_w (m1 m2 : Nat) (g1 g2 ga gb : Bool) (hm1 : m1 < 9223372036854775808) (hm2 : m2 < 9223372036854775808) (hga : m1 ≤ 9218868437227405312 → ga = g1) (hgb : m2 ≤ 9218868437227405312 → gb = g2) :
    ∃ (k3 : Int) (g3 : Bool) (x3 l3 h3 R : Int),
      (∀ w, Calls Tryd.prog 56 #[N2 (kd_w m1) ga (ex_w m1) (mt_w m1), N2 (kd_w m2) gb (ex_w m2) (mt_w m2)] w fun e w' => e = .returned (NV k3 g3 x3 l3 h3) ∧ Below w.heap.size w w') ∧
      (∀ w, Calls Tryd.prog 39 #[FVw, NV k3 g3 x3 l3 h3] w fun e w' => e = .returned (.int .u64 R) ∧ Below w.heap.size w w') ∧
      (∀ v1 v2 w, SN w v1 (mt_w m1) → SN w v2 (mt_w m2) → Calls Tryd.prog 49 #[FSw, SV (kd_w m1) g1 v1 (ex_w m1), SV (kd_w m2) g2 v2 (ex_w m2)] w fun e w' => e = .returned (.int .u64 R) ∧ Below w.heap.size w w') ∧ R = byV_w m1 g1 m2 g2 := by
  have hx1 := ex_w_b m1 hm1
  have hx2 := ex_w_b m2 hm2
  have hs1 := mt_w_b m1
  have hs2 := mt_w_b m2
  have hb1 : bl (mt_w m1) ≤ 60 := bl60 (by omega)
  have hb2 : bl (mt_w m2) ≤ 60 := bl60 (by omega)
  have KZi : ∀ (k : Int) (g : Bool) (x : Int) (s : Nat) (w : World), s < 9007199254740992 → Hid (Calls Tryd.prog 79 #[N2 k g x s] w fun e w' => e = .returned (.bool (decide (k = 0) && decide (s = 0))) ∧ Below w.heap.size w w') := fun k g x s w hs => nzero_key k g x _ _ (decide (s = 0)) w (fun w => isZero_any s w (by omega))
  have KZs : ∀ (k : Int) (g : Bool) (x : Int) (s : Nat) (v : Value) (w : World), bl s ≤ 60 → SN w v s → Hid (Calls Tryd.prog 66 #[SV k g v x] w fun e w' => e = .returned (.bool (decide (k = 0) && decide (s = 0))) ∧ Below w.heap.size w w') := fun k g x s v w hb hs => szero_key k g v x s w (by omega) hs
  have NN : (∀ w, Calls Tryd.prog 39 #[FVw, NV 2 false 0 0 0] w fun e w' => e = .returned (.int .u64 9221120237041090560) ∧ Below w.heap.size w w') := fun w => write_w_2 false 0 0 0 w
  have NI : ∀ g w, Calls Tryd.prog 39 #[FVw, NV 1 g 0 0 0] w fun e w' => e = .returned (.int .u64 (sg_w g + 9218868437227405312)) ∧ Below w.heap.size w w' := fun g w => write_w 1 g 0 0 w (.inr (.inl rfl)) (by decide) (by decide) (by decide)
  have NZ : ∀ g w, Calls Tryd.prog 39 #[FVw, NV 0 g 0 0 0] w fun e w' => e = .returned (.int .u64 (sg_w g)) ∧ Below w.heap.size w w' := fun g w => by
    have h := write_w 0 g 0 0 w (.inl rfl) (by decide) (by decide) (by decide)
    rw [show wr_w 0 g 0 0 = sg_w g by rw [wr_w, if_neg (by decide), if_neg (by decide), rnd_zz]; simp] at h
    exact h
  rcases (show 9218868437227405312 < m1 ∨ m1 = 9218868437227405312 ∨ m1 < 9218868437227405312 by omega) with h1 | h1 | h1
  · rw [kd_w_n h1]
    exact ⟨2, false, 0, 0, 0, 9221120237041090560, fun w => by_2x _ ga gb _ _ _ _ _ _ w, NN, fun v1 v2 w hS1 hS2 => dvs_2x _ _ _ _ g1 g2 v1 v2 _ _ _ _ w _ hS1 hS2 (fun w => nan_w w), by unfold byV_w; rw [if_pos (by omega)]⟩
  · rcases (show 9218868437227405312 < m2 ∨ m2 = 9218868437227405312 ∨ m2 < 9218868437227405312 by omega) with h2 | h2 | h2
    · rw [kd_w_n h2]
      exact ⟨2, false, 0, 0, 0, 9221120237041090560, fun w => by_x2 _ ga gb _ _ _ _ _ _ w (by rw [h1]; decide), NN, fun v1 v2 w hS1 hS2 => dvs_x2 _ _ _ _ g1 g2 v1 v2 _ _ _ _ w _ hS1 hS2 (by rw [h1]; decide) (fun w => nan_w w), by unfold byV_w; rw [if_pos (by omega)]⟩
    · rw [h1, h2, kd_w_i]
      exact ⟨2, false, 0, 0, 0, 9221120237041090560, fun w => by_11 ga gb _ _ _ _ _ _ w, NN, fun v1 v2 w hS1 hS2 => dvs_11 _ _ _ g1 g2 v1 v2 _ _ _ _ w _ hS1 hS2 (fun w => nan_w w), by unfold byV_w; rw [if_pos (by omega)]⟩
    · obtain rfl := hga (by omega)
      obtain rfl := hgb (by omega)
      rw [h1, kd_w_i, kd_w_f h2]
      rw [h1] at hs1 hb1
      exact ⟨1, !(ga == gb), 0, 0, 0, _, fun w => by_10 _ ga gb _ _ _ _ _ _ w (fun w => KZi 1 ga _ _ w hs1) rfl, NI _, fun v1 v2 w hS1 hS2 => dvs_10 _ _ _ _ ga gb v1 v2 _ _ _ _ w _ hS1 hS2 rfl (fun w hs => KZs 1 ga _ _ v1 w hb1 hs) (fun w => inf_w _ w), by unfold byV_w; rw [if_neg (by omega), if_pos (by omega)]⟩
  · rcases (show 9218868437227405312 < m2 ∨ m2 = 9218868437227405312 ∨ m2 < 9218868437227405312 by omega) with h2 | h2 | h2
    · rw [kd_w_n h2]
      exact ⟨2, false, 0, 0, 0, 9221120237041090560, fun w => by_x2 _ ga gb _ _ _ _ _ _ w (by rw [kd_w_f h1]; decide), NN, fun v1 v2 w hS1 hS2 => dvs_x2 _ _ _ _ g1 g2 v1 v2 _ _ _ _ w _ hS1 hS2 (by rw [kd_w_f h1]; decide) (fun w => nan_w w), by unfold byV_w; rw [if_pos (by omega)]⟩
    · obtain rfl := hga (by omega)
      obtain rfl := hgb (by omega)
      rw [h2, kd_w_i, kd_w_f h1]
      rw [h2] at hs2 hb2
      have KA := fun w => KZi 0 ga (ex_w m1) (mt_w m1) w hs1
      have KB := fun (v : Value) w hs => KZs 0 ga (ex_w m1) (mt_w m1) v w hb1 hs
      by_cases hz : mt_w m1 = 0
      · have y1 := (mt_w_0 h1).1 hz
        rw [show (decide ((0 : Int) = 0) && decide (mt_w m1 = 0)) = true by simp [hz]] at KA KB
        exact ⟨0, !(ga == gb), 0, 0, 0, _, fun w => by_z1 _ ga gb _ _ _ _ _ _ w KA (fun w => KZi 1 gb _ _ w hs2) rfl, NZ _, fun v1 v2 w hS1 hS2 => dvs_z1 _ _ _ _ ga gb v1 v2 _ _ _ _ w _ hS1 hS2 rfl (KB v1) (fun w hs => KZs 1 gb _ _ v2 w hb2 hs) (fun w => sign_w _ w), by unfold byV_w; rw [if_neg (by omega), if_neg (by omega), if_pos (by omega)]⟩
      · have y1 : m1 ≠ 0 := fun h => hz ((mt_w_0 h1).2 h)
        rw [show (decide ((0 : Int) = 0) && decide (mt_w m1 = 0)) = false by simp [hz]] at KA KB
        exact ⟨0, !(ga == gb), 0, 0, 0, _, fun w => by_n1 _ ga gb _ _ _ _ _ _ w KA (fun w => KZi 1 gb _ _ w hs2) rfl, NZ _, fun v1 v2 w hS1 hS2 => dvs_n1 _ _ _ _ ga gb v1 v2 _ _ _ _ w _ hS1 hS2 rfl (KB v1) (fun w hs => KZs 1 gb _ _ v2 w hb2 hs) (fun w => sign_w _ w), by unfold byV_w; rw [if_neg (by omega), if_neg (by omega), if_pos (by omega)]⟩
    · obtain rfl := hga (by omega)
      obtain rfl := hgb (by omega)
      rw [kd_w_f h1, kd_w_f h2]
      have KA := fun w => KZi 0 ga (ex_w m1) (mt_w m1) w hs1
      have KB := fun w => KZi 0 gb (ex_w m2) (mt_w m2) w hs2
      have SA := fun (v : Value) w hs => KZs 0 ga (ex_w m1) (mt_w m1) v w hb1 hs
      have SB := fun (v : Value) w hs => KZs 0 gb (ex_w m2) (mt_w m2) v w hb2 hs
      by_cases z1 : mt_w m1 = 0
      · have y1 := (mt_w_0 h1).1 z1
        rw [show (decide ((0 : Int) = 0) && decide (mt_w m1 = 0)) = true by simp [z1]] at KA SA
        by_cases z2 : mt_w m2 = 0
        · have y2 := (mt_w_0 h2).1 z2
          rw [show (decide ((0 : Int) = 0) && decide (mt_w m2 = 0)) = true by simp [z2]] at KB SB
          exact ⟨2, false, 0, 0, 0, 9221120237041090560, fun w => by_zz ga gb _ _ _ _ _ _ w KA KB, NN, fun v1 v2 w hS1 hS2 => dvs_zz _ _ _ ga gb v1 v2 _ _ _ _ w _ hS1 hS2 (SA v1) (SB v2) (fun w => nan_w w), by unfold byV_w; rw [if_pos (by omega)]⟩
        · have y2 : m2 ≠ 0 := fun h => z2 ((mt_w_0 h2).2 h)
          rw [show (decide ((0 : Int) = 0) && decide (mt_w m2 = 0)) = false by simp [z2]] at KB SB
          exact ⟨0, !(ga == gb), 0, 0, 0, _, fun w => by_zn _ ga gb _ _ _ _ _ _ w KA KB rfl, NZ _, fun v1 v2 w hS1 hS2 => dvs_zn _ _ _ _ ga gb v1 v2 _ _ _ _ w _ hS1 hS2 rfl (SA v1) (SB v2) (fun w => sign_w _ w), by unfold byV_w; rw [if_neg (by omega), if_neg (by omega), if_pos (by omega)]⟩
      · have y1 : m1 ≠ 0 := fun h => z1 ((mt_w_0 h1).2 h)
        rw [show (decide ((0 : Int) = 0) && decide (mt_w m1 = 0)) = false by simp [z1]] at KA SA
        by_cases z2 : mt_w m2 = 0
        · have y2 := (mt_w_0 h2).1 z2
          rw [show (decide ((0 : Int) = 0) && decide (mt_w m2 = 0)) = true by simp [z2]] at KB SB
          exact ⟨1, !(ga == gb), 0, 0, 0, _, fun w => by_nz _ ga gb _ _ _ _ _ _ w KA KB rfl, NI _, fun v1 v2 w hS1 hS2 => dvs_nz _ _ _ _ ga gb v1 v2 _ _ _ _ w _ hS1 hS2 rfl (SA v1) (SB v2) (fun w => inf_w _ w), by unfold byV_w; rw [if_neg (by omega), if_pos (by omega)]⟩
        · have y2 : m2 ≠ 0 := fun h => z2 ((mt_w_0 h2).2 h)
          rw [show (decide ((0 : Int) = 0) && decide (mt_w m2 = 0)) = false by simp [z2]] at KB SB
          have c1 : bl (mt_w m1) ≤ 53 := bl_le (k := 53) hs1
          have c2 : bl (mt_w m2) ≤ 53 := bl_le (k := 53) hs2
          have q1 := bl_pos z1
          have q2 := bl_pos z2
          have FV0 : byV_w m1 ga m2 gb = sg_w (!(ga == gb)) + (rnd 53 11 (-1074) (mt_w m1 * 2 ^ (53 + 2 + bl (mt_w m2)) / mt_w m2) (ex_w m1 - ex_w m2 - ((53 + 2 + bl (mt_w m2) : Nat) : Int)) (decide (mt_w m1 * 2 ^ (53 + 2 + bl (mt_w m2)) % mt_w m2 ≠ 0)) : Nat) := by
            unfold byV_w
            rw [if_neg (by omega), if_neg (by omega), if_neg (by omega)]
          rw [FV0]
          clear FV0
          generalize ex_w m1 = x1 at *
          generalize ex_w m2 = x2 at *
          generalize mt_w m1 = s1 at *
          generalize mt_w m2 = s2 at *
          obtain ⟨-, n1, n2⟩ := lift_parts z1 (by omega)
          have KN := fun w => lift_any 0 ga x1 127 s1 w (by omega) z1 (by omega) (by omega) (by omega) (by omega)
          have KM := fun w => lift_any 0 gb x2 64 s2 w (by omega) z2 (by omega) (by omega) (by omega) (by omega)
          obtain ⟨pl1, hp1⟩ : ∃ k, k = 127 - bl s1 := ⟨_, rfl⟩
          obtain ⟨pl2, hp2⟩ : ∃ k, k = 64 - bl s2 := ⟨_, rfl⟩
          rw [show (127 - (bl s1 : Int)).toNat = pl1 by omega, show (127 - (bl s1 : Int)) = (pl1 : Int) by omega] at KN
          rw [show (64 - (bl s2 : Int)).toNat = pl2 by omega, show (64 - (bl s2 : Int)) = (pl2 : Int) by omega] at KM
          rw [← hp1] at n1 n2
          have hM : 2 ^ 63 ≤ s2 * 2 ^ pl2 ∧ s2 * 2 ^ pl2 < 2 ^ 64 := by
            have e1 := bl_mul z2 pl2
            have e2 : s2 * 2 ^ pl2 ≠ 0 := by have := Nat.mul_pos (show 0 < s2 by omega) (Nat.two_pow_pos pl2); omega
            have e3 := bl_ge e2
            have e4 := bl_lt (s2 * 2 ^ pl2)
            rw [e1, show bl s2 + pl2 = 64 by omega] at e3 e4
            exact ⟨e3, e4⟩
          rw [show (2 : Nat) ^ 127 = 170141183460469231731687303715884105728 by decide] at n2
          rw [show (2 : Nat) ^ 126 = 85070591730234615865843651857942052864 by decide] at n1
          rw [show (2 : Nat) ^ 63 = 9223372036854775808 by decide, show (2 : Nat) ^ 64 = 18446744073709551616 by decide] at hM
          obtain ⟨k, hk⟩ : ∃ k, pl1 = k + pl2 := ⟨pl1 - pl2, by omega⟩
          obtain ⟨ql, qr⟩ := quo_low (s1 := s1) (s2 := s2) hk
          have KD := fun w => div64_any (s1 * 2 ^ pl1 / 18446744073709551616) (s1 * 2 ^ pl1 % 18446744073709551616) (s2 * 2 ^ pl2) w (by rw [Nat.div_lt_iff_lt_mul (by decide)]; omega) (by rw [Nat.div_pos_iff]; omega) (Nat.mod_lt _ (by decide)) hM.1 hM.2
          rw [show s1 * 2 ^ pl1 / 18446744073709551616 * 18446744073709551616 + s1 * 2 ^ pl1 % 18446744073709551616 = s1 * 2 ^ pl1 by have := Nat.mod_add_div (s1 * 2 ^ pl1) 18446744073709551616; omega] at KD
          have hQ : s1 * 2 ^ pl1 / (s2 * 2 ^ pl2) < 18446744073709551616 := by
            rw [Nat.div_lt_iff_lt_mul (by omega)]
            have := Nat.mul_le_mul_left 18446744073709551616 hM.1
            omega
          have hQ1 : 2 ^ 62 ≤ s1 * 2 ^ pl1 / (s2 * 2 ^ pl2) := by
            rw [Nat.le_div_iff_mul_le (by omega), show (2 : Nat) ^ 62 = 4611686018427387904 by decide]
            have := Nat.mul_le_mul_left 4611686018427387904 (Nat.le_of_lt hM.2)
            omega
          have KK := fun w => mark_any (decide (s1 * 2 ^ pl1 % (s2 * 2 ^ pl2) ≠ 0)) (s1 * 2 ^ pl1 / (s2 * 2 ^ pl2)) w
          have eW : W2 (s1 * 2 ^ pl1 / (s2 * 2 ^ pl2)) = WV ((s1 * 2 ^ pl1 / (s2 * 2 ^ pl2) : Nat) : Int) 0 := by
            rw [W2, Nat.mod_eq_of_lt hQ, Nat.div_eq_of_lt hQ]; rfl
          rw [eW] at KK
          have eM : N2 0 gb (x2 - (pl2 : Int)) (s2 * 2 ^ pl2) = NV 0 gb (x2 - (pl2 : Int)) ((s2 * 2 ^ pl2 : Nat) : Int) 0 := by
            rw [N2, Nat.mod_eq_of_lt hM.2, Nat.div_eq_of_lt hM.2]; rfl
          rw [eM] at KM
          obtain ⟨n, hn⟩ : ∃ n : Nat, n = 53 + 2 + bl s2 := ⟨_, rfl⟩
          have bn : 53 + 2 ≤ bl (s1 * 2 ^ n / s2) := by
            have e1 : 2 ^ (53 + 2) ≤ s1 * 2 ^ n / s2 := by
              rw [Nat.le_div_iff_mul_le (by omega)]
              have e2 := Nat.mul_le_mul_left (2 ^ (53 + 2)) (Nat.le_of_lt (bl_lt s2))
              rw [← Nat.pow_add, ← hn] at e2
              have e3 := Nat.mul_le_mul_right (2 ^ n) (show 1 ≤ s1 by omega)
              omega
            exact Nat.le_of_lt (lt_bl e1)
          have bk : 53 + 2 ≤ bl (s1 * 2 ^ k / s2) := by
            rw [← ql]
            have := lt_bl hQ1
            omega
          have hq := quo_eq (p := 53) (e := 11) (L := -1074) (a := s1) (b := s2) (n := n) (k := k) (ex := x1 - x2) (by omega) bn bk
          refine ⟨0, !(ga == gb), (x1 - pl1) - (x2 - pl2), _, _, sg_w (!(ga == gb)) + (rnd 53 11 (-1074) (s1 * 2 ^ n / s2) (x1 - x2 - n) (decide (s1 * 2 ^ n % s2 ≠ 0)) : Nat), fun w => by_nn _ ga gb _ _ _ _ _ _ _ _ _ _ _ _ _ _ _ _ _ w KA KB rfl (by omega) (by omega) (by omega) (by omega) KN KM KD ?_ KK, fun w => ?_, fun v1 v2 w hS1 hS2 => ?_, by rw [hn]⟩
          · generalize s1 * 2 ^ pl1 % (s2 * 2 ^ pl2) = z
            rw [Bool.eq_iff_iff]; simp
          · have h := write_w 0 (!(ga == gb)) ((x1 - pl1) - (x2 - pl2)) (if decide (s1 * 2 ^ pl1 % (s2 * 2 ^ pl2) ≠ 0) then s1 * 2 ^ pl1 / (s2 * 2 ^ pl2) + (1 - s1 * 2 ^ pl1 / (s2 * 2 ^ pl2) % 2) else s1 * 2 ^ pl1 / (s2 * 2 ^ pl2)) w (.inl rfl) (by split <;> omega) (by omega) (by omega)
            rw [wr0_w] at h
            rw [← hq]
            have e5 : decide (s1 * 2 ^ k % s2 ≠ 0) = decide (s1 * 2 ^ pl1 % (s2 * 2 ^ pl2) ≠ 0) := by rw [decide_eq_decide]; exact not_congr qr.symm
            rw [e5, ← ql, show x1 - x2 - (k : Int) = x1 - pl1 - (x2 - pl2) by omega]
            exact h
          · have hbA : bl (s1 * 2 ^ n) = bl s1 + n := bl_mul z1 n
            have hbq : bl (s1 * 2 ^ n / s2) ≤ bl (s1 * 2 ^ n) := bl_mono (Nat.div_le_self _ _)
            refine dvs_nn _ _ _ _ ga gb v1 v2 _ _ _ _ (n : Int) (s1 * 2 ^ n) w _ hS1 hS2 rfl (SA v1) (SB v2) z1 z2 hb1 hb2 (by omega) (by omega) (by omega) (by omega) (by decide) (by decide) (by omega) (by rw [Int.toNat_natCast]) (fun v w hs => round_w _ _ _ _ v w (by omega) (by omega) (by omega) hs)
theorem plusV_comm_w (m1 m2 : Nat) (g1 g2 : Bool) (h1 : m1 < 9223372036854775808) (h2 : m2 < 9223372036854775808) : plusV_w m1 g1 m2 g2 = plusV_w m2 g2 m1 g1 := by
  unfold plusV_w
  by_cases c : 9218868437227405312 < m1 ∨ 9218868437227405312 < m2
  · rw [if_pos c, if_pos (show 9218868437227405312 < m2 ∨ 9218868437227405312 < m1 by omega)]
  rw [if_neg c, if_neg (show ¬ (9218868437227405312 < m2 ∨ 9218868437227405312 < m1) by omega)]
  by_cases i1 : m1 = 9218868437227405312
  · rw [if_pos i1]
    by_cases i2 : m2 = 9218868437227405312
    · rw [if_pos i2]
      by_cases hg : g1 = g2
      · rw [if_neg (show ¬ (m2 = 9218868437227405312 ∧ g1 ≠ g2) from fun h => h.2 hg), if_neg (show ¬ (m1 = 9218868437227405312 ∧ g2 ≠ g1) from fun h => h.2 hg.symm), hg]
      · rw [if_pos ⟨i2, hg⟩, if_pos ⟨i1, fun h => hg h.symm⟩]
    · rw [if_neg (fun h => i2 h.1), if_neg i2, if_pos i1]
  · rw [if_neg i1]
    by_cases i2 : m2 = 9218868437227405312
    · rw [if_pos i2, if_pos i2, if_neg (fun h => i1 h.1)]
    · rw [if_neg i2, if_neg i2, if_neg i1, Int.min_comm (ex_w m2) (ex_w m1)]
      by_cases hg : g1 = g2
      · rw [if_pos hg, if_pos hg.symm, hg, Nat.add_comm]
      · rw [if_neg hg, if_neg (show ¬ g2 = g1 from fun h => hg h.symm)]
        generalize mt_w m1 * 2 ^ (ex_w m1 - min (ex_w m1) (ex_w m2)).toNat = X
        generalize mt_w m2 * 2 ^ (ex_w m2 - min (ex_w m1) (ex_w m2)).toNat = Y
        by_cases e : X = Y
        · rw [if_pos e, if_pos e.symm]
        · rw [if_neg e, if_neg (show ¬ Y = X from fun h => e h.symm)]
          by_cases l : Y < X
          · rw [if_pos l, if_neg (show ¬ X < Y by omega)]
          · rw [if_neg l, if_pos (show X < Y by omega)]
theorem timesV_comm_w (m1 m2 : Nat) (g1 g2 : Bool) : timesV_w m1 g1 m2 g2 = timesV_w m2 g2 m1 g1 := by
  unfold timesV_w
  have hg : (g1 == g2) = (g2 == g1) := by cases g1 <;> cases g2 <;> rfl
  rw [hg, Nat.mul_comm (mt_w m1) (mt_w m2), Int.add_comm (ex_w m1) (ex_w m2)]
  by_cases c : 9218868437227405312 < m1 ∨ 9218868437227405312 < m2 ∨ (m1 = 9218868437227405312 ∧ m2 = 0) ∨ (m1 = 0 ∧ m2 = 9218868437227405312)
  · rw [if_pos c, if_pos (show 9218868437227405312 < m2 ∨ 9218868437227405312 < m1 ∨ (m2 = 9218868437227405312 ∧ m1 = 0) ∨ (m2 = 0 ∧ m1 = 9218868437227405312) by omega)]
  · rw [if_neg c, if_neg (show ¬ (9218868437227405312 < m2 ∨ 9218868437227405312 < m1 ∨ (m2 = 9218868437227405312 ∧ m1 = 0) ∨ (m2 = 0 ∧ m1 = 9218868437227405312)) by omega)]
    by_cases d : m1 = 9218868437227405312 ∨ m2 = 9218868437227405312
    · rw [if_pos d, if_pos (show m2 = 9218868437227405312 ∨ m1 = 9218868437227405312 by omega)]
    · rw [if_neg d, if_neg (show ¬ (m2 = 9218868437227405312 ∨ m1 = 9218868437227405312) by omega)]
theorem plusV_anti_w (m1 m2 : Nat) (g1 g2 : Bool) : (plusV_w m1 g1 m2 (!g2) = 9221120237041090560 ∧ plusV_w m2 g2 m1 (!g1) = 9221120237041090560) ∨ plusV_w m1 g1 m2 (!g2) = 0 ∨ ∃ (g : Bool) (r : Nat), r ≤ 9218868437227405312 ∧ plusV_w m1 g1 m2 (!g2) = sg_w g + (r : Nat) ∧ plusV_w m2 g2 m1 (!g1) = sg_w (!g) + (r : Nat) := by
  unfold plusV_w
  have flip : (g1 = !g2) ↔ (g2 = !g1) := by cases g1 <;> cases g2 <;> simp
  by_cases c : 9218868437227405312 < m1 ∨ 9218868437227405312 < m2
  · left; rw [if_pos c, if_pos (by omega)]; exact ⟨rfl, rfl⟩
  rw [if_neg c, if_neg (show ¬ (9218868437227405312 < m2 ∨ 9218868437227405312 < m1) by omega)]
  by_cases i1 : m1 = 9218868437227405312
  · rw [if_pos i1]
    by_cases i2 : m2 = 9218868437227405312
    · rw [if_pos i2]
      by_cases hg : g1 = !g2
      · right; right
        rw [if_neg (show ¬ (m2 = 9218868437227405312 ∧ g1 ≠ !g2) from fun h => h.2 hg), if_neg (show ¬ (m1 = 9218868437227405312 ∧ g2 ≠ !g1) from fun h => h.2 (flip.1 hg))]
        exact ⟨g1, 9218868437227405312, Nat.le_refl _, rfl, by rw [flip.1 hg]; rfl⟩
      · left
        rw [if_pos ⟨i2, hg⟩, if_pos ⟨i1, fun h => hg (flip.2 h)⟩]; exact ⟨rfl, rfl⟩
    · right; right
      rw [if_neg (fun h => i2 h.1), if_neg i2, if_pos i1]
      exact ⟨g1, 9218868437227405312, Nat.le_refl _, rfl, rfl⟩
  · rw [if_neg i1]
    by_cases i2 : m2 = 9218868437227405312
    · right; right
      rw [if_pos i2, if_pos i2, if_neg (fun h => i1 h.1)]
      exact ⟨!g2, 9218868437227405312, Nat.le_refl _, rfl, by rw [Bool.not_not]; rfl⟩
    · rw [if_neg i2, if_neg i2, if_neg i1, Int.min_comm (ex_w m2) (ex_w m1)]
      generalize mt_w m1 * 2 ^ (ex_w m1 - min (ex_w m1) (ex_w m2)).toNat = X
      generalize mt_w m2 * 2 ^ (ex_w m2 - min (ex_w m1) (ex_w m2)).toNat = Y
      by_cases hg : g1 = !g2
      · right; right
        rw [if_pos hg, if_pos (flip.1 hg)]
        exact ⟨g1, _, rnd_w_le _ _ _, rfl, by rw [flip.1 hg, Nat.add_comm]⟩
      · rw [if_neg hg, if_neg (show ¬ g2 = !g1 from fun h => hg (flip.2 h))]
        by_cases e : X = Y
        · right; left; rw [if_pos e]
        · right; right
          rw [if_neg e, if_neg (show ¬ Y = X from fun h => e h.symm)]
          by_cases l : Y < X
          · rw [if_pos l, if_neg (show ¬ X < Y by omega)]
            exact ⟨g1, _, rnd_w_le _ _ _, rfl, rfl⟩
          · rw [if_neg l, if_pos (show X < Y by omega)]
            exact ⟨!g2, _, rnd_w_le _ _ _, rfl, by rw [Bool.not_not]⟩
theorem timesV_one_w (m : Nat) (g : Bool) (h : m ≤ 9218868437227405312) : timesV_w m g 4607182418800017408 false = sg_w g + (m : Nat) := by
  unfold timesV_w
  have hg : (!(g == false)) = g := by cases g <;> rfl
  rw [hg, if_neg (by omega)]
  by_cases i : m = 9218868437227405312
  · rw [if_pos (by omega), i]; rfl
  · rw [if_neg (by omega)]
    have e1 : mt_w 4607182418800017408 = 2 ^ (53 - 1) := by decide
    have e2 : ex_w 4607182418800017408 = -(((53 - 1 : Nat)) : Int) := by decide
    rw [e1, e2]
    by_cases h0 : m = 0
    · rw [(mt_w_0 (show m < 9218868437227405312 by omega)).2 h0, Nat.zero_mul, rnd_zz, h0]
    · have hz : mt_w m ≠ 0 := fun hh => h0 ((mt_w_0 (show m < 9218868437227405312 by omega)).1 hh)
      have hs := rnd_shift (p := 53) (e := 11) (L := -1074) (s := mt_w m) (j := 53 - 1) (E := ex_w m) hz
      rw [Int.sub_eq_add_neg] at hs
      rw [hs, rnd_self_w m h0 (by omega)]
theorem byV_one_w (m : Nat) (g : Bool) (h : m ≤ 9218868437227405312) : byV_w m g 4607182418800017408 false = sg_w g + (m : Nat) := by
  unfold byV_w
  have hg : (!(g == false)) = g := by cases g <;> rfl
  rw [hg, if_neg (by omega)]
  by_cases i : m = 9218868437227405312
  · rw [if_pos (by omega), i]; rfl
  · rw [if_neg (by omega)]
    by_cases h0 : m = 0
    · rw [if_pos (by omega), h0]; simp
    · rw [if_neg (by omega)]
      have e1 : mt_w 4607182418800017408 = 2 ^ (53 - 1) := by decide
      have e2 : ex_w 4607182418800017408 = -(((53 - 1 : Nat)) : Int) := by decide
      have e3 : bl (mt_w 4607182418800017408) = 53 := by rw [e1]; exact bl_eq (k := 53 - 1) (Nat.le_refl _) (Nat.pow_lt_pow_right (by decide) (by decide))
      rw [e3, e1, e2]
      have hz : mt_w m ≠ 0 := fun hh => h0 ((mt_w_0 (show m < 9218868437227405312 by omega)).1 hh)
      have e4 : mt_w m * 2 ^ (53 + 2 + 53) = mt_w m * 2 ^ (53 + 3) * 2 ^ (53 - 1) := by rw [Nat.mul_assoc, ← Nat.pow_add]
      rw [e4, Nat.mul_div_cancel _ (Nat.two_pow_pos _), Nat.mul_mod_left]
      have hs := rnd_shift (p := 53) (e := 11) (L := -1074) (s := mt_w m) (j := 53 + 3) (E := ex_w m) hz
      rw [show ex_w m - -(((53 - 1 : Nat)) : Int) - ((53 + 2 + 53 : Nat) : Int) = ex_w m - ((53 + 3 : Nat) : Int) by omega]
      rw [show decide (0 ≠ 0) = false by decide, hs, rnd_self_w m h0 (by omega)]
end Go.Proofs.YthmppcfhbbjhlaaDoor
