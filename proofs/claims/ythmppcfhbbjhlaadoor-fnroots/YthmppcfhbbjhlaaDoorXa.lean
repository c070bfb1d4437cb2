import Derived.Test.YthmppcfhbbjhlaaDoorXm
import Derived.Test.YthmppcfhbbjhlaaDoorMz
import Derived.Test.YthmppcfhbbjhlaaDoorXs
set_option linter.all false
namespace Go.Proofs.YthmppcfhbbjhlaaDoor
open Go.RowKit Go.Sort

def oI (g : Bool) (m : Nat) : Int := if g then -(m : Int) else (m : Int)
theorem rnd_zz (p e : Nat) (L x : Int) : rnd p e L 0 x false = 0 := by unfold rnd; rw [if_pos rfl]
theorem scale_lt {P L : Int} {s1 s2 V1 V2 : Nat} {x1 x2 k : Int} (h1 : L ≤ k) (hk : k = min x1 x2) (e1 : s1 * 2 ^ (x1 - L).toNat = V1) (e2 : s2 * 2 ^ (x2 - L).toNat = V2) :
    (s1 * 2 ^ (x1 - k).toNat < s2 * 2 ^ (x2 - k).toNat ↔ V1 < V2) := by
  have a1 : s1 * 2 ^ (x1 - k).toNat * 2 ^ (k - L).toNat = V1 := by rw [Nat.mul_assoc, ← Nat.pow_add, ← e1]; congr 2; omega
  have a2 : s2 * 2 ^ (x2 - k).toNat * 2 ^ (k - L).toNat = V2 := by rw [Nat.mul_assoc, ← Nat.pow_add, ← e2]; congr 2; omega
  rw [← a1, ← a2]
  exact (Nat.mul_lt_mul_right (Nat.two_pow_pos _)).symm
theorem ex_n_L (m : Nat) (hm : m < 2139095040) : -149 ≤ ex_n m := by
  unfold ex_n
  rw [if_neg (by omega)]
  split <;> omega
theorem vw_n (m : Nat) (hm : m < 2139095040) : mt_n m * 2 ^ (ex_n m - (-149)).toNat = vw 8388608 m := by
  unfold mt_n ex_n vw
  have hi : ¬ 2139095040 ≤ m := by omega
  simp only [if_neg hi]
  by_cases h : m < 8388608
  · simp only [if_pos h]
    rw [show (((-149 : Int)) - (-149)).toNat = 0 by decide]; simp
  · simp only [if_neg h]
    congr 2
    omega
theorem rnd_self_n (m : Nat) (h0 : m ≠ 0) (hm : m < 2139095040) : rnd 24 8 (-149) (mt_n m) (ex_n m) false = m := by
  have hs0 : mt_n m ≠ 0 := by unfold mt_n; rw [if_neg (by omega)]; split <;> omega
  have hs := mt_n_b m
  have hb : bl (mt_n m) ≤ 24 := bl_le (k := 24) hs
  have hcut : cutOf 24 (-149) (mt_n m) (ex_n m) = 0 := by
    unfold cutOf ex_n
    rw [if_neg (by omega)]
    by_cases h : m < 8388608
    · rw [if_pos h]; omega
    · rw [if_neg h]
      have : 24 ≤ bl (mt_n m) := by
        apply lt_bl (k := 23)
        unfold mt_n; rw [if_neg (by omega), if_neg h]; omega
      omega
  have hq : rq (mt_n m) 0 false = mt_n m := by unfold rq; rw [if_pos (by omega)]; simp
  unfold rnd infM
  rw [if_neg hs0, hcut, hq, show ex_n m + 0 - (-149) = ex_n m - (-149) by omega]
  simp only [show (2 : Nat) ^ (24 - 1) = 8388608 from rfl, show (2 : Nat) ^ 8 = 256 from rfl]
  have hE : ((ex_n m - (-149)).toNat = 0 ∧ m < 8388608) ∨ (8388608 ≤ m ∧ (ex_n m - (-149)).toNat = m / 8388608 - 1) := by
    unfold ex_n
    rw [if_neg (by omega)]
    by_cases h : m < 8388608
    · rw [if_pos h]; left; exact ⟨by omega, h⟩
    · rw [if_neg h]; right; exact ⟨by omega, by omega⟩
  have hM : (m < 8388608 → mt_n m = m) ∧ (8388608 ≤ m → mt_n m = m % 8388608 + 8388608) := by
    unfold mt_n
    rw [if_neg (by omega)]
    exact ⟨fun h => by rw [if_pos h], fun h => by rw [if_neg (by omega)]⟩
  rcases hE with ⟨e, h⟩ | ⟨h, e⟩
  · rw [e, hM.1 h, if_neg (by omega)]; omega
  · rw [e, hM.2 h, if_neg (by omega)]; omega
theorem kd_n_f {m : Nat} (h : m < 2139095040) : kd_n m = 0 := by unfold kd_n; rw [if_neg (by omega), if_neg (by omega)]
theorem kd_n_i : kd_n 2139095040 = 1 := by decide
theorem kd_n_n {m : Nat} (h : 2139095040 < m) : kd_n m = 2 := by unfold kd_n; rw [if_pos h]
theorem mt_n_0 {m : Nat} (h : m < 2139095040) : mt_n m = 0 ↔ m = 0 := by
  unfold mt_n
  rw [if_neg (by omega)]
  split <;> omega
theorem self_n (m : Nat) (g : Bool) (h : m ≤ 2139095040) : wr_n (kd_n m) g (mt_n m) (ex_n m) = sg_n g + (m : Nat) := by
  rcases Nat.lt_or_eq_of_le h with h1 | h1
  · rw [kd_n_f h1, wr_n, if_neg (by decide), if_neg (by decide)]
    by_cases h0 : m = 0
    · subst h0
      rw [(mt_n_0 h1).2 rfl, rnd_zz]
    · rw [rnd_self_n m h0 h1]
  · subst h1
    rw [kd_n_i, wr_n, if_neg (by decide), if_pos rfl]; rfl
theorem sless_n (m1 m2 : Nat) (g1 g2 : Bool) (v1 v2 : Value) (w : World) (h1 : m1 ≤ 2139095040) (h2 : m2 ≤ 2139095040) (hS1 : SN w v1 (mt_n m1)) (hS2 : SN w v2 (mt_n m2)) :
    Calls Tryd.prog 90 #[SV (kd_n m1) g1 v1 (ex_n m1), SV (kd_n m2) g2 v2 (ex_n m2)] w fun e w' => e = .returned (.bool (decide (oI g1 m1 < oI g2 m2))) ∧ Below w.heap.size w w' := by
  have hx1 := ex_n_b m1 (by omega)
  have hx2 := ex_n_b m2 (by omega)
  have hb1 : bl (mt_n m1) ≤ 60 := bl60 (by have := mt_n_b m1; omega)
  have hb2 : bl (mt_n m2) ≤ 60 := bl60 (by have := mt_n_b m2; omega)
  have KZ : ∀ (m : Nat) (g : Bool) (v : Value) (w : World), bl (mt_n m) ≤ 60 → SN w v (mt_n m) → Hid (Calls Tryd.prog 66 #[SV (kd_n m) g v (ex_n m)] w fun e w' => e = .returned (.bool (decide (kd_n m = 0) && decide (mt_n m = 0))) ∧ Below w.heap.size w w') := fun m g v w hb hs => szero_key _ g v _ _ w (by omega) hs
  have Z : ∀ m : Nat, m ≤ 2139095040 → (decide (kd_n m = 0) && decide (mt_n m = 0)) = decide (m = 0) := fun m hm => by
    rcases Nat.lt_or_eq_of_le hm with h | h
    · rw [kd_n_f h, Bool.eq_iff_iff]; simp [mt_n_0 h]
    · subst h; decide
  have KZ1 := fun w hs => KZ m1 g1 v1 w hb1 hs
  have KZ2 := fun w hs => KZ m2 g2 v2 w hb2 hs
  rw [Z m1 h1] at KZ1
  rw [Z m2 h2] at KZ2
  clear KZ Z
  by_cases hz1 : m1 = 0
  · rw [decide_eq_true hz1] at KZ1
    by_cases hz2 : m2 = 0
    · rw [decide_eq_true hz2] at KZ2
      have e : decide (oI g1 m1 < oI g2 m2) = false := by subst hz1; subst hz2; cases g1 <;> cases g2 <;> decide
      rw [e]
      rw [kd_n_f (show m1 < 2139095040 by omega)] at KZ1 ⊢
      rw [kd_n_f (show m2 < 2139095040 by omega)] at KZ2 ⊢
      exact ls_zz g1 g2 v1 v2 _ _ _ _ w hS1 hS2 KZ1 KZ2
    · rw [decide_eq_false hz2] at KZ2
      by_cases hg : g1 = g2
      · subst hg
        rcases Nat.lt_or_eq_of_le h2 with hf | hf
        · have e : decide (oI g1 m1 < oI g1 m2) = ((decide (m1 < m2) && !g1) || (decide (m2 < m1) && g1)) := by unfold oI; cases g1 <;> rw [Bool.eq_iff_iff] <;> simp <;> omega
          rw [e]
          rw [kd_n_f (show m1 < 2139095040 by omega)] at KZ1 ⊢
          rw [kd_n_f hf] at KZ2 ⊢
          refine ls_fz g1 g1 v1 v2 _ _ _ _ _ _ _ w _ hS1 hS2 (by simp) KZ1 KZ2 rfl rfl rfl hb1 hb2 hx1.1 (by omega) hx2.1 (by omega) ?_
          have hm1 : m1 < 2139095040 := by omega
          have a1 := ex_n_L m1 hm1
          have a2 := ex_n_L m2 hf
          have s1 := scale_lt (P := 0) (L := -149) (k := min (ex_n m1) (ex_n m2)) (by omega) rfl (vw_n m1 hm1) (vw_n m2 hf)
          have s2 := scale_lt (P := 0) (L := -149) (k := min (ex_n m1) (ex_n m2)) (x1 := ex_n m2) (x2 := ex_n m1) (by omega) (by omega) (vw_n m2 hf) (vw_n m1 hm1)
          rw [vw_iff (by decide)] at s1 s2
          rw [decide_eq_decide.2 s1, decide_eq_decide.2 s2]
        · subst hf
          have e : decide (oI g1 m1 < oI g1 2139095040) = !g1 := by unfold oI; subst hz1; cases g1 <;> decide
          rw [e]
          rw [kd_n_f (show m1 < 2139095040 by omega)] at KZ1 ⊢
          rw [kd_n_i] at KZ2 ⊢
          exact ls_01z g1 g1 v1 v2 _ _ _ _ w hS1 hS2 (by simp) KZ1 KZ2
      · have e : decide (oI g1 m1 < oI g2 m2) = g1 := by unfold oI; cases g1 <;> cases g2 <;> simp_all <;> omega
        rw [e]
        exact ls_gz _ _ g1 g2 v1 v2 _ _ _ _ w hS1 hS2 (by simpa using hg) KZ1 KZ2
  · rw [decide_eq_false hz1] at KZ1
    by_cases hg : g1 = g2
    · subst hg
      rcases Nat.lt_or_eq_of_le h1 with hf1 | hf1
      · rcases Nat.lt_or_eq_of_le h2 with hf | hf
        · have e : decide (oI g1 m1 < oI g1 m2) = ((decide (m1 < m2) && !g1) || (decide (m2 < m1) && g1)) := by unfold oI; cases g1 <;> rw [Bool.eq_iff_iff] <;> simp <;> omega
          rw [e]
          rw [kd_n_f hf1] at KZ1 ⊢
          rw [kd_n_f hf] at KZ2 ⊢
          refine ls_fn g1 g1 v1 v2 _ _ _ _ _ _ _ w _ hS1 hS2 (by simp) KZ1 rfl rfl rfl hb1 hb2 hx1.1 (by omega) hx2.1 (by omega) ?_
          have a1 := ex_n_L m1 hf1
          have a2 := ex_n_L m2 hf
          have s1 := scale_lt (P := 0) (L := -149) (k := min (ex_n m1) (ex_n m2)) (by omega) rfl (vw_n m1 hf1) (vw_n m2 hf)
          have s2 := scale_lt (P := 0) (L := -149) (k := min (ex_n m1) (ex_n m2)) (x1 := ex_n m2) (x2 := ex_n m1) (by omega) (by omega) (vw_n m2 hf) (vw_n m1 hf1)
          rw [vw_iff (by decide)] at s1 s2
          rw [decide_eq_decide.2 s1, decide_eq_decide.2 s2]
        · subst hf
          have e : decide (oI g1 m1 < oI g1 2139095040) = !g1 := by unfold oI; cases g1 <;> simp <;> omega
          rw [e]
          rw [kd_n_f hf1] at KZ1 ⊢
          rw [kd_n_i] at KZ2 ⊢
          exact ls_01n g1 g1 v1 v2 _ _ _ _ w hS1 hS2 (by simp) KZ1
      · subst hf1
        rw [kd_n_i] at KZ1 ⊢
        rcases Nat.lt_or_eq_of_le h2 with hf | hf
        · have e : decide (oI g1 2139095040 < oI g1 m2) = g1 := by unfold oI; cases g1 <;> simp <;> omega
          rw [e, kd_n_f hf]
          exact ls_10 g1 g1 v1 v2 _ _ _ _ w hS1 hS2 (by simp) KZ1
        · subst hf
          have e : decide (oI g1 2139095040 < oI g1 2139095040) = false := by simp
          rw [e, kd_n_i]
          exact ls_11 g1 g1 v1 v2 _ _ _ _ w hS1 hS2 (by simp) KZ1
    · have e : decide (oI g1 m1 < oI g2 m2) = g1 := by unfold oI; cases g1 <;> cases g2 <;> simp_all <;> omega
      rw [e]
      exact ls_gn _ _ g1 g2 v1 v2 _ _ _ _ w hS1 hS2 (by simpa using hg) KZ1
end Go.Proofs.YthmppcfhbbjhlaaDoor
namespace Go.Proofs.YthmppcfhbbjhlaaDoor
open Go.RowKit Go.Sort

theorem ex_w_L (m : Nat) (hm : m < 9218868437227405312) : -1074 ≤ ex_w m := by
  unfold ex_w
  rw [if_neg (by omega)]
  split <;> omega
theorem vw_w (m : Nat) (hm : m < 9218868437227405312) : mt_w m * 2 ^ (ex_w m - (-1074)).toNat = vw 4503599627370496 m := by
  unfold mt_w ex_w vw
  have hi : ¬ 9218868437227405312 ≤ m := by omega
  simp only [if_neg hi]
  by_cases h : m < 4503599627370496
  · simp only [if_pos h]
    rw [show (((-1074 : Int)) - (-1074)).toNat = 0 by decide]; simp
  · simp only [if_neg h]
    congr 2
    omega
theorem rnd_self_w (m : Nat) (h0 : m ≠ 0) (hm : m < 9218868437227405312) : rnd 53 11 (-1074) (mt_w m) (ex_w m) false = m := by
  have hs0 : mt_w m ≠ 0 := by unfold mt_w; rw [if_neg (by omega)]; split <;> omega
  have hs := mt_w_b m
  have hb : bl (mt_w m) ≤ 53 := bl_le (k := 53) hs
  have hcut : cutOf 53 (-1074) (mt_w m) (ex_w m) = 0 := by
    unfold cutOf ex_w
    rw [if_neg (by omega)]
    by_cases h : m < 4503599627370496
    · rw [if_pos h]; omega
    · rw [if_neg h]
      have : 53 ≤ bl (mt_w m) := by
        apply lt_bl (k := 52)
        unfold mt_w; rw [if_neg (by omega), if_neg h]; omega
      omega
  have hq : rq (mt_w m) 0 false = mt_w m := by unfold rq; rw [if_pos (by omega)]; simp
  unfold rnd infM
  rw [if_neg hs0, hcut, hq, show ex_w m + 0 - (-1074) = ex_w m - (-1074) by omega]
  simp only [show (2 : Nat) ^ (53 - 1) = 4503599627370496 from rfl, show (2 : Nat) ^ 11 = 2048 from rfl]
  have hE : ((ex_w m - (-1074)).toNat = 0 ∧ m < 4503599627370496) ∨ (4503599627370496 ≤ m ∧ (ex_w m - (-1074)).toNat = m / 4503599627370496 - 1) := by
    unfold ex_w
    rw [if_neg (by omega)]
    by_cases h : m < 4503599627370496
    · rw [if_pos h]; left; exact ⟨by omega, h⟩
    · rw [if_neg h]; right; exact ⟨by omega, by omega⟩
  have hM : (m < 4503599627370496 → mt_w m = m) ∧ (4503599627370496 ≤ m → mt_w m = m % 4503599627370496 + 4503599627370496) := by
    unfold mt_w
    rw [if_neg (by omega)]
    exact ⟨fun h => by rw [if_pos h], fun h => by rw [if_neg (by omega)]⟩
  rcases hE with ⟨e, h⟩ | ⟨h, e⟩
  · rw [e, hM.1 h, if_neg (by omega)]; omega
  · rw [e, hM.2 h, if_neg (by omega)]; omega
theorem kd_w_f {m : Nat} (h : m < 9218868437227405312) : kd_w m = 0 := by unfold kd_w; rw [if_neg (by omega), if_neg (by omega)]
theorem kd_w_i : kd_w 9218868437227405312 = 1 := by decide
theorem kd_w_n {m : Nat} (h : 9218868437227405312 < m) : kd_w m = 2 := by unfold kd_w; rw [if_pos h]
theorem mt_w_0 {m : Nat} (h : m < 9218868437227405312) : mt_w m = 0 ↔ m = 0 := by
  unfold mt_w
  rw [if_neg (by omega)]
  split <;> omega
theorem self_w (m : Nat) (g : Bool) (h : m ≤ 9218868437227405312) : wr_w (kd_w m) g (mt_w m) (ex_w m) = sg_w g + (m : Nat) := by
  rcases Nat.lt_or_eq_of_le h with h1 | h1
  · rw [kd_w_f h1, wr_w, if_neg (by decide), if_neg (by decide)]
    by_cases h0 : m = 0
    · subst h0
      rw [(mt_w_0 h1).2 rfl, rnd_zz]
    · rw [rnd_self_w m h0 h1]
  · subst h1
    rw [kd_w_i, wr_w, if_neg (by decide), if_pos rfl]; rfl
theorem sless_w (m1 m2 : Nat) (g1 g2 : Bool) (v1 v2 : Value) (w : World) (h1 : m1 ≤ 9218868437227405312) (h2 : m2 ≤ 9218868437227405312) (hS1 : SN w v1 (mt_w m1)) (hS2 : SN w v2 (mt_w m2)) :
    Calls Tryd.prog 90 #[SV (kd_w m1) g1 v1 (ex_w m1), SV (kd_w m2) g2 v2 (ex_w m2)] w fun e w' => e = .returned (.bool (decide (oI g1 m1 < oI g2 m2))) ∧ Below w.heap.size w w' := by
  have hx1 := ex_w_b m1 (by omega)
  have hx2 := ex_w_b m2 (by omega)
  have hb1 : bl (mt_w m1) ≤ 60 := bl60 (by have := mt_w_b m1; omega)
  have hb2 : bl (mt_w m2) ≤ 60 := bl60 (by have := mt_w_b m2; omega)
  have KZ : ∀ (m : Nat) (g : Bool) (v : Value) (w : World), bl (mt_w m) ≤ 60 → SN w v (mt_w m) → Hid (Calls Tryd.prog 66 #[SV (kd_w m) g v (ex_w m)] w fun e w' => e = .returned (.bool (decide (kd_w m = 0) && decide (mt_w m = 0))) ∧ Below w.heap.size w w') := fun m g v w hb hs => szero_key _ g v _ _ w (by omega) hs
  have Z : ∀ m : Nat, m ≤ 9218868437227405312 → (decide (kd_w m = 0) && decide (mt_w m = 0)) = decide (m = 0) := fun m hm => by
    rcases Nat.lt_or_eq_of_le hm with h | h
    · rw [kd_w_f h, Bool.eq_iff_iff]; simp [mt_w_0 h]
    · subst h; decide
  have KZ1 := fun w hs => KZ m1 g1 v1 w hb1 hs
  have KZ2 := fun w hs => KZ m2 g2 v2 w hb2 hs
  rw [Z m1 h1] at KZ1
  rw [Z m2 h2] at KZ2
  clear KZ Z
  by_cases hz1 : m1 = 0
  · rw [decide_eq_true hz1] at KZ1
    by_cases hz2 : m2 = 0
    · rw [decide_eq_true hz2] at KZ2
      have e : decide (oI g1 m1 < oI g2 m2) = false := by subst hz1; subst hz2; cases g1 <;> cases g2 <;> decide
      rw [e]
      rw [kd_w_f (show m1 < 9218868437227405312 by omega)] at KZ1 ⊢
      rw [kd_w_f (show m2 < 9218868437227405312 by omega)] at KZ2 ⊢
      exact ls_zz g1 g2 v1 v2 _ _ _ _ w hS1 hS2 KZ1 KZ2
    · rw [decide_eq_false hz2] at KZ2
      by_cases hg : g1 = g2
      · subst hg
        rcases Nat.lt_or_eq_of_le h2 with hf | hf
        · have e : decide (oI g1 m1 < oI g1 m2) = ((decide (m1 < m2) && !g1) || (decide (m2 < m1) && g1)) := by unfold oI; cases g1 <;> rw [Bool.eq_iff_iff] <;> simp <;> omega
          rw [e]
          rw [kd_w_f (show m1 < 9218868437227405312 by omega)] at KZ1 ⊢
          rw [kd_w_f hf] at KZ2 ⊢
          refine ls_fz g1 g1 v1 v2 _ _ _ _ _ _ _ w _ hS1 hS2 (by simp) KZ1 KZ2 rfl rfl rfl hb1 hb2 hx1.1 (by omega) hx2.1 (by omega) ?_
          have hm1 : m1 < 9218868437227405312 := by omega
          have a1 := ex_w_L m1 hm1
          have a2 := ex_w_L m2 hf
          have s1 := scale_lt (P := 0) (L := -1074) (k := min (ex_w m1) (ex_w m2)) (by omega) rfl (vw_w m1 hm1) (vw_w m2 hf)
          have s2 := scale_lt (P := 0) (L := -1074) (k := min (ex_w m1) (ex_w m2)) (x1 := ex_w m2) (x2 := ex_w m1) (by omega) (by omega) (vw_w m2 hf) (vw_w m1 hm1)
          rw [vw_iff (by decide)] at s1 s2
          rw [decide_eq_decide.2 s1, decide_eq_decide.2 s2]
        · subst hf
          have e : decide (oI g1 m1 < oI g1 9218868437227405312) = !g1 := by unfold oI; subst hz1; cases g1 <;> decide
          rw [e]
          rw [kd_w_f (show m1 < 9218868437227405312 by omega)] at KZ1 ⊢
          rw [kd_w_i] at KZ2 ⊢
          exact ls_01z g1 g1 v1 v2 _ _ _ _ w hS1 hS2 (by simp) KZ1 KZ2
      · have e : decide (oI g1 m1 < oI g2 m2) = g1 := by unfold oI; cases g1 <;> cases g2 <;> simp_all <;> omega
        rw [e]
        exact ls_gz _ _ g1 g2 v1 v2 _ _ _ _ w hS1 hS2 (by simpa using hg) KZ1 KZ2
  · rw [decide_eq_false hz1] at KZ1
    by_cases hg : g1 = g2
    · subst hg
      rcases Nat.lt_or_eq_of_le h1 with hf1 | hf1
      · rcases Nat.lt_or_eq_of_le h2 with hf | hf
        · have e : decide (oI g1 m1 < oI g1 m2) = ((decide (m1 < m2) && !g1) || (decide (m2 < m1) && g1)) := by unfold oI; cases g1 <;> rw [Bool.eq_iff_iff] <;> simp <;> omega
          rw [e]
          rw [kd_w_f hf1] at KZ1 ⊢
          rw [kd_w_f hf] at KZ2 ⊢
          refine ls_fn g1 g1 v1 v2 _ _ _ _ _ _ _ w _ hS1 hS2 (by simp) KZ1 rfl rfl rfl hb1 hb2 hx1.1 (by omega) hx2.1 (by omega) ?_
          have a1 := ex_w_L m1 hf1
          have a2 := ex_w_L m2 hf
          have s1 := scale_lt (P := 0) (L := -1074) (k := min (ex_w m1) (ex_w m2)) (by omega) rfl (vw_w m1 hf1) (vw_w m2 hf)
          have s2 := scale_lt (P := 0) (L := -1074) (k := min (ex_w m1) (ex_w m2)) (x1 := ex_w m2) (x2 := ex_w m1) (by omega) (by omega) (vw_w m2 hf) (vw_w m1 hf1)
          rw [vw_iff (by decide)] at s1 s2
          rw [decide_eq_decide.2 s1, decide_eq_decide.2 s2]
        · subst hf
          have e : decide (oI g1 m1 < oI g1 9218868437227405312) = !g1 := by unfold oI; cases g1 <;> simp <;> omega
          rw [e]
          rw [kd_w_f hf1] at KZ1 ⊢
          rw [kd_w_i] at KZ2 ⊢
          exact ls_01n g1 g1 v1 v2 _ _ _ _ w hS1 hS2 (by simp) KZ1
      · subst hf1
        rw [kd_w_i] at KZ1 ⊢
        rcases Nat.lt_or_eq_of_le h2 with hf | hf
        · have e : decide (oI g1 9218868437227405312 < oI g1 m2) = g1 := by unfold oI; cases g1 <;> simp <;> omega
          rw [e, kd_w_f hf]
          exact ls_10 g1 g1 v1 v2 _ _ _ _ w hS1 hS2 (by simp) KZ1
        · subst hf
          have e : decide (oI g1 9218868437227405312 < oI g1 9218868437227405312) = false := by simp
          rw [e, kd_w_i]
          exact ls_11 g1 g1 v1 v2 _ _ _ _ w hS1 hS2 (by simp) KZ1
    · have e : decide (oI g1 m1 < oI g2 m2) = g1 := by unfold oI; cases g1 <;> cases g2 <;> simp_all <;> omega
      rw [e]
      exact ls_gn _ _ g1 g2 v1 v2 _ _ _ _ w hS1 hS2 (by simpa using hg) KZ1
end Go.Proofs.YthmppcfhbbjhlaaDoor
