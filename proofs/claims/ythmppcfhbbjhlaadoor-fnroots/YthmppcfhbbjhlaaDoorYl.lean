import Derived.Test.YthmppcfhbbjhlaaDoorYp
import Derived.Test.YthmppcfhbbjhlaaDoorYi
import Derived.Test.YthmppcfhbbjhlaaDoorYf
import Derived.Test.YthmppcfhbbjhlaaDoorIvp
import Derived.Test.YthmppcfhbbjhlaaDoorRm
import Derived.Test.YthmppcfhbbjhlaaDoorXm
import Derived.Test.YthmppcfhbbjhlaaDoorXc
import Derived.Test.YthmppcfhbbjhlaaDoorXh
import Derived.Test.YthmppcfhbbjhlaaDoorXg
import Derived.Test.YthmppcfhbbjhlaaDoorDv2
import Derived.Test.YthmppcfhbbjhlaaDoorXt
import Derived.Test.YthmppcfhbbjhlaaDoorIw
set_option linter.all false
namespace Go.Proofs.YthmppcfhbbjhlaaDoor
open Go.RowKit Go.Sort

def B2 (op : Int) (a b : Nat) : Prop := ∃ (K : Bool) (t v : Int),
  (∀ w, Tab0 w → 0 < w.heap.size → Calls Tryd.prog 15 #[.int .i64 op, .int .u64 (a : Int), .int .u64 (b : Int)] w fun e w' => e = .returned (RV K t v) ∧ Below w.heap.size w w') ∧
  (∀ w, Calls Tryd.prog 14 #[.int .i64 op, .int .u64 (a : Int), .int .u64 (b : Int)] w fun e w' => e = .returned (RV K t v) ∧ Below w.heap.size w w')
theorem flag_any (b : Bool) (w : World) : Calls Tryd.prog 51 #[.bool b] w fun e w' => e = .returned (.int .u64 (if b then 1 else 0)) ∧ Below w.heap.size w w' := by
  cases b
  · exact flag_f w
  · exact flag_t w
theorem inan_n (A m : Nat) (w : World) (hA : A < 4294967296) (hm : m = A % 2147483648) : Calls Tryd.prog 92 #[FVn, .int .u64 (A : Int)] w fun e w' => e = .returned (.bool (decide (2139095040 < m))) ∧ Below w.heap.size w w' := by
  refine isnan_key _ _ _ _ (A : Int) 2147483648 2139095040 (m : Int) (decide (2139095040 < m)) w (fun w => signBit_n w) (fun w => infinity_n w) ?_ ?_
  · rw [mag_n_m A hA, hm]
  · rw [decide_eq_decide]; omega
theorem iorder_n (A m : Nat) (g : Bool) (w : World) (hA : A < 4294967296) (hm : m = A % 2147483648) (hg : g = decide (2147483648 ≤ A)) : Calls Tryd.prog 93 #[FVn, .int .u64 (A : Int)] w fun e w' => e = .returned (.int .i64 (oI g m)) ∧ Below w.heap.size w w' := by
  have h := sgn_n_m A hA
  rw [← hg] at h
  cases g
  · have h2 : ¬ 2147483648 ≤ A := of_decide_eq_false hg.symm
    have h3 : m = A := by omega
    subst h3
    exact order_pos _ _ _ _ _ 2147483648 w (fun w => signBit_n w) h (by omega) (by omega)
  · exact order_neg _ _ _ _ _ 2147483648 (m : Int) w (fun w => signBit_n w) (by rw [mag_n_m A hA, hm]) h (by omega) (by omega)
theorem inan_w (A m : Nat) (w : World) (hA : A < 18446744073709551616) (hm : m = A % 9223372036854775808) : Calls Tryd.prog 92 #[FVw, .int .u64 (A : Int)] w fun e w' => e = .returned (.bool (decide (9218868437227405312 < m))) ∧ Below w.heap.size w w' := by
  refine isnan_key _ _ _ _ (A : Int) 9223372036854775808 9218868437227405312 (m : Int) (decide (9218868437227405312 < m)) w (fun w => signBit_w w) (fun w => infinity_w w) ?_ ?_
  · rw [mag_w_m A hA, hm]
  · rw [decide_eq_decide]; omega
theorem iorder_w (A m : Nat) (g : Bool) (w : World) (hA : A < 18446744073709551616) (hm : m = A % 9223372036854775808) (hg : g = decide (9223372036854775808 ≤ A)) : Calls Tryd.prog 93 #[FVw, .int .u64 (A : Int)] w fun e w' => e = .returned (.int .i64 (oI g m)) ∧ Below w.heap.size w w' := by
  have h := sgn_w_m A hA
  rw [← hg] at h
  cases g
  · have h2 : ¬ 9223372036854775808 ≤ A := of_decide_eq_false hg.symm
    have h3 : m = A := by omega
    subst h3
    exact order_pos _ _ _ _ _ 9223372036854775808 w (fun w => signBit_w w) h (by omega) (by omega)
  · exact order_neg _ _ _ _ _ 9223372036854775808 (m : Int) w (fun w => signBit_w w) (by rw [mag_w_m A hA, hm]) h (by omega) (by omega)
end Go.Proofs.YthmppcfhbbjhlaaDoor
namespace Go.Proofs.YthmppcfhbbjhlaaDoor
open Go.RowKit

theorem rqN_mono {s t c : Nat} (h : s ≤ t) : rqN s c false ≤ rqN t c false := by
  unfold rqN
  have hd := Nat.div_le_div_right (c := 2 ^ (c - 1)) h
  have e1 := Nat.mod_add_div s (2 ^ (c - 1))
  have e2 := Nat.mod_add_div t (2 ^ (c - 1))
  rcases Nat.lt_or_eq_of_le hd with h1 | h1
  · split <;> split <;> omega
  · rw [h1] at e1 ⊢
    have : s % 2 ^ (c - 1) ≤ t % 2 ^ (c - 1) := by omega
    split
    · rename_i h2
      rw [if_pos]
      · omega
      · refine ⟨h2.1, ?_⟩
        rcases h2.2 with h3 | h3 | h3
        · left; omega
        · right; left; exact h3
        · right; right; exact h3
    · split <;> omega
theorem rq_mono {s t : Nat} {c : Int} (h : s ≤ t) : rq s c false ≤ rq t c false := by
  unfold rq
  split
  · exact Nat.mul_le_mul_right _ h
  · exact rqN_mono h
/-- The rounding keeps the order. -/
theorem rnd_mono {p e : Nat} {L : Int} {s t : Nat} {x : Int} (hp : 1 ≤ p) (h : s ≤ t) : rnd p e L s x false ≤ rnd p e L t x false := by
  by_cases h0 : s = 0
  · unfold rnd; rw [if_pos h0]; omega
  have h1 : t ≠ 0 := by omega
  have hb := bl_mono h
  have hq := rq_le (p := p) (least := L) (sig := s) (ex := x) (more := false)
  have hc : cutOf p L s x ≤ cutOf p L t x := by unfold cutOf; omega
  have hl := cut_least p L s x
  have hl2 := cut_least p L t x
  have hp2 := pow_p hp
  unfold rnd
  rw [if_neg h0, if_neg h1]
  rcases Int.lt_or_eq_of_le hc with hlt | heq
  · have hge := rq_ge (p := p) (least := L) (sig := t) (ex := x) (more := false) h1 hp (by omega)
    have hk : (x + cutOf p L s x - L).toNat + 1 ≤ (x + cutOf p L t x - L).toNat := by omega
    generalize (x + cutOf p L s x - L).toNat = k at *
    generalize (x + cutOf p L t x - L).toNat = k' at *
    generalize rq s (cutOf p L s x) false = q at *
    generalize rq t (cutOf p L t x) false = q' at *
    have hm := Nat.mul_le_mul_right (2 ^ (p - 1)) hk
    rw [Nat.add_mul] at hm
    generalize 2 ^ (p - 1) = P at *
    by_cases a1 : 2 ^ e - 1 ≤ k
    · rw [if_pos a1, if_pos (by omega)]; exact Nat.le_refl _
    · rw [if_neg a1]
      by_cases a2 : 2 ^ e - 1 ≤ k'
      · rw [if_pos a2]; exact Nat.min_le_left _ _
      · rw [if_neg a2]; omega
  · have hm := rq_mono (c := cutOf p L s x) h
    rw [← heq]
    split
    · exact Nat.le_refl _
    · omega
/-- .. at two exponents. -/
theorem rnd_le {p e : Nat} {L : Int} {s t : Nat} {x y : Int} (hp : 1 ≤ p) {k : Int} (hx : k ≤ x) (hy : k ≤ y) (h : s * 2 ^ (x - k).toNat ≤ t * 2 ^ (y - k).toNat) : rnd p e L s x false ≤ rnd p e L t y false := by
  have a : ∀ (s : Nat) (x : Int), k ≤ x → rnd p e L (s * 2 ^ (x - k).toNat) k false = rnd p e L s x false := fun s x hx => by
    by_cases h0 : s = 0
    · subst h0; rw [Nat.zero_mul]; unfold rnd; rw [if_pos rfl, if_pos rfl]
    · have h := rnd_shift (p := p) (e := e) (L := L) (s := s) (j := (x - k).toNat) (E := x) h0
      rw [show x - (((x - k).toNat : Nat) : Int) = k by omega] at h
      exact h
  rw [← a s x hx, ← a t y hy]
  exact rnd_mono hp h
end Go.Proofs.YthmppcfhbbjhlaaDoor
namespace Go.Proofs.YthmppcfhbbjhlaaDoor
open Go.RowKit Go.Sort

def plusV_n (m1 : Nat) (g1 : Bool) (m2 : Nat) (g2 : Bool) : Int :=
  if 2139095040 < m1 ∨ 2139095040 < m2 then 2143289344 else
  if m1 = 2139095040 then (if m2 = 2139095040 ∧ g1 ≠ g2 then 2143289344 else sg_n g1 + 2139095040) else
  if m2 = 2139095040 then sg_n g2 + 2139095040 else
  if g1 = g2 then sg_n g1 + (rnd 24 8 (-149) (mt_n m1 * 2 ^ (ex_n m1 - min (ex_n m1) (ex_n m2)).toNat + mt_n m2 * 2 ^ (ex_n m2 - min (ex_n m1) (ex_n m2)).toNat) (min (ex_n m1) (ex_n m2)) false : Nat) else
  if mt_n m1 * 2 ^ (ex_n m1 - min (ex_n m1) (ex_n m2)).toNat = mt_n m2 * 2 ^ (ex_n m2 - min (ex_n m1) (ex_n m2)).toNat then 0 else
  if mt_n m2 * 2 ^ (ex_n m2 - min (ex_n m1) (ex_n m2)).toNat < mt_n m1 * 2 ^ (ex_n m1 - min (ex_n m1) (ex_n m2)).toNat then sg_n g1 + (rnd 24 8 (-149) (mt_n m1 * 2 ^ (ex_n m1 - min (ex_n m1) (ex_n m2)).toNat - mt_n m2 * 2 ^ (ex_n m2 - min (ex_n m1) (ex_n m2)).toNat) (min (ex_n m1) (ex_n m2)) false : Nat) else
  sg_n g2 + (rnd 24 8 (-149) (mt_n m2 * 2 ^ (ex_n m2 - min (ex_n m1) (ex_n m2)).toNat - mt_n m1 * 2 ^ (ex_n m1 - min (ex_n m1) (ex_n m2)).toNat) (min (ex_n m1) (ex_n m2)) false : Nat)
def timesV_n (m1 : Nat) (g1 : Bool) (m2 : Nat) (g2 : Bool) : Int :=
  if 2139095040 < m1 ∨ 2139095040 < m2 ∨ (m1 = 2139095040 ∧ m2 = 0) ∨ (m1 = 0 ∧ m2 = 2139095040) then 2143289344 else
  if m1 = 2139095040 ∨ m2 = 2139095040 then sg_n (!(g1 == g2)) + 2139095040 else
  sg_n (!(g1 == g2)) + (rnd 24 8 (-149) (mt_n m1 * mt_n m2) (ex_n m1 + ex_n m2) false : Nat)
set_option maxHeartbeats 1000000 in
theorem plusE_n (m1 m2 : Nat) (g1 g2 ga gb : Bool) (hm1 : m1 < 2147483648) (hm2 : m2 < 2147483648) (hga : m1 ≤ 2139095040 → ga = g1) (hgb : m2 ≤ 2139095040 → gb = g2) :
    ∃ (k3 : Int) (g3 : Bool) (x3 l3 h3 R : Int),
      (∀ w, Calls Tryd.prog 53 #[N2 (kd_n m1) ga (ex_n m1) (mt_n m1), N2 (kd_n m2) gb (ex_n m2) (mt_n m2)] w fun e w' => e = .returned (NV k3 g3 x3 l3 h3) ∧ Below w.heap.size w w') ∧
      (∀ w, Calls Tryd.prog 39 #[FVn, NV k3 g3 x3 l3 h3] w fun e w' => e = .returned (.int .u64 R) ∧ Below w.heap.size w w') ∧
      (∀ v1 v2 w, SN w v1 (mt_n m1) → SN w v2 (mt_n m2) → Calls Tryd.prog 47 #[FSn, SV (kd_n m1) g1 v1 (ex_n m1), SV (kd_n m2) g2 v2 (ex_n m2)] w fun e w' => e = .returned (.int .u64 R) ∧ Below w.heap.size w w') ∧ R = plusV_n m1 g1 m2 g2 := by
  have hx1 := ex_n_b m1 hm1
  have hx2 := ex_n_b m2 hm2
  have hs1 := mt_n_b m1
  have hs2 := mt_n_b m2
  have hb1 : bl (mt_n m1) ≤ 60 := bl60 (by omega)
  have hb2 : bl (mt_n m2) ≤ 60 := bl60 (by omega)
  have KZi : ∀ (k : Int) (g : Bool) (x : Int) (s : Nat) (w : World), s < 16777216 → Hid (Calls Tryd.prog 79 #[N2 k g x s] w fun e w' => e = .returned (.bool (decide (k = 0) && decide (s = 0))) ∧ Below w.heap.size w w') := fun k g x s w hs => nzero_key k g x _ _ (decide (s = 0)) w (fun w => isZero_any s w (by omega))
  have KZs : ∀ (k : Int) (g : Bool) (x : Int) (s : Nat) (v : Value) (w : World), bl s ≤ 60 → SN w v s → Hid (Calls Tryd.prog 66 #[SV k g v x] w fun e w' => e = .returned (.bool (decide (k = 0) && decide (s = 0))) ∧ Below w.heap.size w w') := fun k g x s v w hb hs => szero_key k g v x s w (by omega) hs
  have NN : (∀ w, Calls Tryd.prog 39 #[FVn, NV 2 false 0 0 0] w fun e w' => e = .returned (.int .u64 2143289344) ∧ Below w.heap.size w w') := fun w => write_n_2 false 0 0 0 w
  have NI : ∀ g w, Calls Tryd.prog 39 #[FVn, NV 1 g 0 0 0] w fun e w' => e = .returned (.int .u64 (sg_n g + 2139095040)) ∧ Below w.heap.size w w' := fun g w => write_n 1 g 0 0 w (.inr (.inl rfl)) (by decide) (by decide) (by decide)
  have NZ : ∀ g w, Calls Tryd.prog 39 #[FVn, NV 0 g 0 0 0] w fun e w' => e = .returned (.int .u64 (sg_n g)) ∧ Below w.heap.size w w' := fun g w => by
    have h := write_n 0 g 0 0 w (.inl rfl) (by decide) (by decide) (by decide)
    rw [show wr_n 0 g 0 0 = sg_n g by rw [wr_n, if_neg (by decide), if_neg (by decide), rnd_zz]; simp] at h
    exact h
  rcases (show 2139095040 < m1 ∨ m1 = 2139095040 ∨ m1 < 2139095040 by omega) with h1 | h1 | h1
  · rw [kd_n_n h1]
    exact ⟨2, false, 0, 0, 0, 2143289344, fun w => pl_2x _ ga gb _ _ _ _ _ _ w, NN, fun v1 v2 w hS1 hS2 => sp_2x _ _ _ _ g1 g2 v1 v2 _ _ _ _ w _ hS1 hS2 (fun w => nan_n w), by unfold plusV_n; rw [if_pos (by omega)]⟩
  · rcases (show 2139095040 < m2 ∨ m2 = 2139095040 ∨ m2 < 2139095040 by omega) with h2 | h2 | h2
    · rw [kd_n_n h2]
      exact ⟨2, false, 0, 0, 0, 2143289344, fun w => pl_x2 _ ga gb _ _ _ _ _ _ w (by rw [h1]; decide), NN, fun v1 v2 w hS1 hS2 => sp_x2 _ _ _ _ g1 g2 v1 v2 _ _ _ _ w _ hS1 hS2 (by rw [h1]; decide) (fun w => nan_n w), by unfold plusV_n; rw [if_pos (by omega)]⟩
    · obtain rfl := hga (by omega)
      obtain rfl := hgb (by omega)
      rw [h1, h2, kd_n_i]
      rw [h1] at hs1 hb1
      rw [h2] at hs2 hb2
      by_cases hg : ga = gb
      · exact ⟨1, ga, _, _, _, _, fun w => pl_11 ga gb _ _ _ _ _ _ w (by simpa using hg) (fun w => KZi 1 ga _ _ w hs1), fun w => write_n 1 ga (ex_n 2139095040) (mt_n 2139095040) w (.inr (.inl rfl)) (by decide) (by decide) (by decide), fun v1 v2 w hS1 hS2 => sp_11 _ _ _ ga gb v1 v2 _ _ _ _ w _ hS1 hS2 (by simpa using hg) (fun w => inf_n _ w), by unfold plusV_n; rw [if_neg (by omega), if_pos rfl, if_neg (fun h => h.2 hg)]; rfl⟩
      · exact ⟨2, false, 0, 0, 0, 2143289344, fun w => pl_11x ga gb _ _ _ _ _ _ w (by simpa using hg), NN, fun v1 v2 w hS1 hS2 => sp_11x _ _ _ ga gb v1 v2 _ _ _ _ w _ hS1 hS2 (by simpa using hg) (fun w => nan_n w), by unfold plusV_n; rw [if_neg (by omega), if_pos rfl, if_pos ⟨rfl, hg⟩]⟩
    · obtain rfl := hga (by omega)
      obtain rfl := hgb (by omega)
      rw [h1, kd_n_i, kd_n_f h2]
      rw [h1] at hs1 hb1
      exact ⟨1, ga, _, _, _, _, fun w => pl_10 ga gb _ _ _ _ _ _ w (fun w => KZi 1 ga _ _ w hs1), fun w => write_n 1 ga (ex_n 2139095040) (mt_n 2139095040) w (.inr (.inl rfl)) (by decide) (by decide) (by decide), fun v1 v2 w hS1 hS2 => sp_10 _ _ _ ga gb v1 v2 _ _ _ _ w _ hS1 hS2 (fun w => inf_n _ w), by unfold plusV_n; rw [if_neg (by omega), if_pos rfl, if_neg (fun h => by omega)]; rfl⟩
  · rcases (show 2139095040 < m2 ∨ m2 = 2139095040 ∨ m2 < 2139095040 by omega) with h2 | h2 | h2
    · rw [kd_n_n h2]
      exact ⟨2, false, 0, 0, 0, 2143289344, fun w => pl_x2 _ ga gb _ _ _ _ _ _ w (by rw [kd_n_f h1]; decide), NN, fun v1 v2 w hS1 hS2 => sp_x2 _ _ _ _ g1 g2 v1 v2 _ _ _ _ w _ hS1 hS2 (by rw [kd_n_f h1]; decide) (fun w => nan_n w), by unfold plusV_n; rw [if_pos (by omega)]⟩
    · obtain rfl := hga (by omega)
      obtain rfl := hgb (by omega)
      rw [h2, kd_n_i, kd_n_f h1]
      rw [h2] at hs2 hb2
      have KA := fun w => KZi 0 ga (ex_n m1) (mt_n m1) w hs1
      refine ⟨1, gb, _, _, _, _, fun w => ?_, fun w => write_n 1 gb (ex_n 2139095040) (mt_n 2139095040) w (.inr (.inl rfl)) (by decide) (by decide) (by decide), fun v1 v2 w hS1 hS2 => sp_01 _ _ _ ga gb v1 v2 _ _ _ _ w _ hS1 hS2 (fun w => inf_n _ w), by unfold plusV_n; rw [if_neg (by omega), if_neg (by omega), if_pos rfl]; rfl⟩
      by_cases hz : mt_n m1 = 0
      · rw [show (decide ((0 : Int) = 0) && decide (mt_n m1 = 0)) = true by simp [hz]] at KA
        exact pl_z1 ga gb _ _ _ _ _ _ w KA (fun w => KZi 1 gb _ _ w hs2)
      · rw [show (decide ((0 : Int) = 0) && decide (mt_n m1 = 0)) = false by simp [hz]] at KA
        exact pl_n1 ga gb _ _ _ _ _ _ w KA (fun w => KZi 1 gb _ _ w hs2)
    · obtain rfl := hga (by omega)
      obtain rfl := hgb (by omega)
      have a1 := ex_n_L m1 h1
      have a2 := ex_n_L m2 h2
      have c1 : bl (mt_n m1) ≤ 24 := bl_le (k := 24) hs1
      have c2 : bl (mt_n m2) ≤ 24 := bl_le (k := 24) hs2
      rw [kd_n_f h1, kd_n_f h2]
      have KA := fun w => KZi 0 ga (ex_n m1) (mt_n m1) w hs1
      have KB := fun w => KZi 0 gb (ex_n m2) (mt_n m2) w hs2
      obtain ⟨m, hm⟩ : ∃ m, m = min (ex_n m1) (ex_n m2) := ⟨_, rfl⟩
      have r1 := rnd_min (p := 24) (e := 8) (L := -149) (s := mt_n m1) (show m ≤ ex_n m1 by omega)
      have r2 := rnd_min (p := 24) (e := 8) (L := -149) (s := mt_n m2) (show m ≤ ex_n m2 by omega)
      have bX : ∀ (s : Nat) (x : Int), bl s ≤ 60 → -1100 ≤ x → x ≤ 1100 → m ≤ x → -1100 ≤ m → bl (s * 2 ^ (x - m).toNat) ≤ 3000 := fun s x hs h1 h2 h3 h4 => by
        have := bl_mul2 s (2 ^ (x - m).toNat)
        have h2 : bl (2 ^ (x - m).toNat) ≤ (x - m).toNat + 1 := bl_le (by rw [Nat.pow_succ]; have := Nat.two_pow_pos (x - m).toNat; omega)
        omega
      have bX1 := bX (mt_n m1) (ex_n m1) hb1 (by omega) (by omega) (by omega) (by omega)
      have bX2 := bX (mt_n m2) (ex_n m2) hb2 (by omega) (by omega) (by omega) (by omega)
      clear bX
      -- the specification's answer, by what it rounds
      have SA : ga = gb → ∀ v1 v2 w, SN w v1 (mt_n m1) → SN w v2 (mt_n m2) → Calls Tryd.prog 47 #[FSn, SV 0 ga v1 (ex_n m1), SV 0 gb v2 (ex_n m2)] w fun e w' => e = .returned (.int .u64 (sg_n ga + (rnd 24 8 (-149) (mt_n m1 * 2 ^ (ex_n m1 - m).toNat + mt_n m2 * 2 ^ (ex_n m2 - m).toNat) m false : Nat))) ∧ Below w.heap.size w w' := fun hg v1 v2 w hS1 hS2 => by
        have hb := bl_add bX1 bX2
        exact sp_add _ _ _ ga gb v1 v2 _ _ _ _ m _ _ w _ hS1 hS2 hm rfl rfl hb1 hb2 (by omega) (by omega) (by omega) (by omega) (by simpa using hg) (fun v w hs => round_n _ false _ _ v w (by omega) (by omega) (by omega) hs)
      have SE : ga ≠ gb → mt_n m1 * 2 ^ (ex_n m1 - m).toNat = mt_n m2 * 2 ^ (ex_n m2 - m).toNat → ∀ v1 v2 w, SN w v1 (mt_n m1) → SN w v2 (mt_n m2) → Calls Tryd.prog 47 #[FSn, SV 0 ga v1 (ex_n m1), SV 0 gb v2 (ex_n m2)] w fun e w' => e = .returned (.int .u64 0) ∧ Below w.heap.size w w' := fun hg hE v1 v2 w hS1 hS2 =>
        sp_eq _ _ _ ga gb v1 v2 _ _ _ _ m _ _ w _ hS1 hS2 hm rfl rfl hb1 hb2 (by omega) (by omega) (by omega) (by omega) (by simpa using hg) hE rfl
      have SG : ga ≠ gb → mt_n m2 * 2 ^ (ex_n m2 - m).toNat < mt_n m1 * 2 ^ (ex_n m1 - m).toNat → ∀ v1 v2 w, SN w v1 (mt_n m1) → SN w v2 (mt_n m2) → Calls Tryd.prog 47 #[FSn, SV 0 ga v1 (ex_n m1), SV 0 gb v2 (ex_n m2)] w fun e w' => e = .returned (.int .u64 (sg_n ga + (rnd 24 8 (-149) (mt_n m1 * 2 ^ (ex_n m1 - m).toNat - mt_n m2 * 2 ^ (ex_n m2 - m).toNat) m false : Nat))) ∧ Below w.heap.size w w' := fun hg hE v1 v2 w hS1 hS2 =>
        sp_gt _ _ _ ga gb v1 v2 _ _ _ _ m _ _ w _ hS1 hS2 hm rfl rfl hb1 hb2 (by omega) (by omega) (by omega) (by omega) (by simpa using hg) hE (fun v w hs => round_n _ false _ _ v w (Nat.le_trans (bl_mono (Nat.sub_le _ _)) (by omega)) (by omega) (by omega) hs)
      have SL : ga ≠ gb → mt_n m1 * 2 ^ (ex_n m1 - m).toNat < mt_n m2 * 2 ^ (ex_n m2 - m).toNat → ∀ v1 v2 w, SN w v1 (mt_n m1) → SN w v2 (mt_n m2) → Calls Tryd.prog 47 #[FSn, SV 0 ga v1 (ex_n m1), SV 0 gb v2 (ex_n m2)] w fun e w' => e = .returned (.int .u64 (sg_n gb + (rnd 24 8 (-149) (mt_n m2 * 2 ^ (ex_n m2 - m).toNat - mt_n m1 * 2 ^ (ex_n m1 - m).toNat) m false : Nat))) ∧ Below w.heap.size w w' := fun hg hE v1 v2 w hS1 hS2 =>
        sp_lt _ _ _ ga gb v1 v2 _ _ _ _ m _ _ w _ hS1 hS2 hm rfl rfl hb1 hb2 (by omega) (by omega) (by omega) (by omega) (by simpa using hg) hE (fun v w hs => round_n _ false _ _ v w (Nat.le_trans (bl_mono (Nat.sub_le _ _)) (by omega)) (by omega) (by omega) hs)
      have WR : ∀ (g : Bool) (x : Int) (s : Nat), s < 340282366920938463463374607431768211456 → -5000 ≤ x → x ≤ 5000 → ∀ w, Calls Tryd.prog 39 #[FVn, N2 0 g x s] w fun e w' => e = .returned (.int .u64 (sg_n g + (rnd 24 8 (-149) s x false : Nat))) ∧ Below w.heap.size w w' := fun g x s h1 h2 h3 w => by
        have h := write_n 0 g x s w (.inl rfl) h1 h2 h3
        rw [wr_n, if_neg (by decide), if_neg (by decide)] at h
        exact h
      have FV0 : plusV_n m1 ga m2 gb = (if ga = gb then sg_n ga + (rnd 24 8 (-149) (mt_n m1 * 2 ^ (ex_n m1 - m).toNat + mt_n m2 * 2 ^ (ex_n m2 - m).toNat) m false : Nat) else if mt_n m1 * 2 ^ (ex_n m1 - m).toNat = mt_n m2 * 2 ^ (ex_n m2 - m).toNat then 0 else if mt_n m2 * 2 ^ (ex_n m2 - m).toNat < mt_n m1 * 2 ^ (ex_n m1 - m).toNat then sg_n ga + (rnd 24 8 (-149) (mt_n m1 * 2 ^ (ex_n m1 - m).toNat - mt_n m2 * 2 ^ (ex_n m2 - m).toNat) m false : Nat) else sg_n gb + (rnd 24 8 (-149) (mt_n m2 * 2 ^ (ex_n m2 - m).toNat - mt_n m1 * 2 ^ (ex_n m1 - m).toNat) m false : Nat)) := by
        unfold plusV_n
        rw [if_neg (by omega), if_neg (by omega), if_neg (by omega), ← hm]
      by_cases z1 : mt_n m1 = 0
      · rw [show (decide ((0 : Int) = 0) && decide (mt_n m1 = 0)) = true by simp [z1]] at KA
        by_cases z2 : mt_n m2 = 0
        · rw [show (decide ((0 : Int) = 0) && decide (mt_n m2 = 0)) = true by simp [z2]] at KB
          refine ⟨0, ga && gb, 0, 0, 0, sg_n (ga && gb), fun w => ?_, NZ _, fun v1 v2 w hS1 hS2 => ?_, ?_⟩
          · cases ga
            · exact pl_zzf gb _ _ _ _ _ _ w KA KB
            · exact pl_zz gb _ _ _ _ _ _ w KA KB
          · by_cases hg : ga = gb
            · have h := SA hg v1 v2 w hS1 hS2
              rw [z1, z2, Nat.zero_mul, Nat.zero_mul, rnd_zz] at h
              subst hg
              simpa using h
            · have h := SE hg (by rw [z1, z2, Nat.zero_mul, Nat.zero_mul]) v1 v2 w hS1 hS2
              rw [show (ga && gb) = false by cases ga <;> cases gb <;> simp_all]
              exact h
          · rw [FV0, z1, z2, Nat.zero_mul, Nat.zero_mul, Nat.add_zero, rnd_zz]
            cases ga <;> cases gb <;> simp [sg_n]
        · rw [show (decide ((0 : Int) = 0) && decide (mt_n m2 = 0)) = false by simp [z2]] at KB
          refine ⟨0, gb, _, _, _, _, fun w => pl_zn ga gb _ _ _ _ _ _ w KA KB, WR gb _ _ (by omega) (by omega) (by omega), fun v1 v2 w hS1 hS2 => ?_, ?_⟩
          rotate_left
          · have hpos : 0 < mt_n m2 * 2 ^ (ex_n m2 - m).toNat := Nat.mul_pos (by omega) (Nat.two_pow_pos _)
            rw [FV0, ← r2, z1, Nat.zero_mul, Nat.zero_add]
            by_cases hg : ga = gb
            · rw [if_pos hg, hg]
            · rw [if_neg hg, if_neg (by omega), if_neg (by omega), Nat.sub_zero]
          rw [← r2]
          by_cases hg : ga = gb
          · have h := SA hg v1 v2 w hS1 hS2
            rw [z1, Nat.zero_mul, Nat.zero_add] at h
            subst hg
            exact h
          · have h := SL hg (by rw [z1, Nat.zero_mul]; exact Nat.mul_pos (by omega) (Nat.two_pow_pos _)) v1 v2 w hS1 hS2
            rw [z1, Nat.zero_mul, Nat.sub_zero] at h
            exact h
      · rw [show (decide ((0 : Int) = 0) && decide (mt_n m1 = 0)) = false by simp [z1]] at KA
        by_cases z2 : mt_n m2 = 0
        · rw [show (decide ((0 : Int) = 0) && decide (mt_n m2 = 0)) = true by simp [z2]] at KB
          refine ⟨0, ga, _, _, _, _, fun w => pl_nz ga gb _ _ _ _ _ _ w KA KB, WR ga _ _ (by omega) (by omega) (by omega), fun v1 v2 w hS1 hS2 => ?_, ?_⟩
          rotate_left
          · have hpos : 0 < mt_n m1 * 2 ^ (ex_n m1 - m).toNat := Nat.mul_pos (by omega) (Nat.two_pow_pos _)
            rw [FV0, ← r1, z2, Nat.zero_mul, Nat.add_zero]
            by_cases hg : ga = gb
            · rw [if_pos hg]
            · rw [if_neg hg, if_neg (by omega), if_pos hpos, Nat.sub_zero]
          rw [← r1]
          by_cases hg : ga = gb
          · have h := SA hg v1 v2 w hS1 hS2
            rw [z2, Nat.zero_mul, Nat.add_zero] at h
            exact h
          · have h := SG hg (by rw [z2, Nat.zero_mul]; exact Nat.mul_pos (by omega) (Nat.two_pow_pos _)) v1 v2 w hS1 hS2
            rw [z2, Nat.zero_mul, Nat.sub_zero] at h
            exact h
        · rw [show (decide ((0 : Int) = 0) && decide (mt_n m2 = 0)) = false by simp [z2]] at KB
          obtain ⟨g3, x3, s3, KS, t1, t2, t3, hA, hS⟩ := isum_any (p := 24) (e := 8) (L := -149) ga gb (ex_n m1) (ex_n m2) (mt_n m1) (mt_n m2) (by decide) (by decide) z1 z2 c1 c2 a1 a2 (by omega) (by omega) (by omega) (by omega) m hm
          refine ⟨0, g3, x3, _, _, _, fun w => pl_nn ga gb _ _ _ _ _ _ _ _ _ _ _ w KA KB KS, WR g3 x3 s3 t1 t2 t3, fun v1 v2 w hS1 hS2 => ?_, ?_⟩
          rotate_left
          · rw [FV0]
            by_cases hg : ga = gb
            · obtain ⟨e1, e2⟩ := hA hg
              rw [if_pos hg, e1, e2]
            · rcases hS hg with ⟨e1, e2, e3⟩ | ⟨e1, e2, e3⟩ | ⟨e1, e2, e3⟩
              · rw [if_neg hg, if_pos e1, e2, e3, rnd_zz]; rfl
              · rw [if_neg hg, if_neg (by omega), if_pos e1, e2, e3]
              · rw [if_neg hg, if_neg (by omega), if_neg (by omega), e2, e3]
          by_cases hg : ga = gb
          · obtain ⟨e1, e2⟩ := hA hg
            rw [e1, e2]
            exact SA hg v1 v2 w hS1 hS2
          · rcases hS hg with ⟨e1, e2, e3⟩ | ⟨e1, e2, e3⟩ | ⟨e1, e2, e3⟩
            · rw [e2, e3, rnd_zz]
              exact SE hg e1 v1 v2 w hS1 hS2
            · rw [e2, e3]
              exact SG hg e1 v1 v2 w hS1 hS2
            · rw [e2, e3]
              exact SL hg e1 v1 v2 w hS1 hS2
set_option maxHeartbeats 1000000 in
theorem timesE_n (m1 m2 : Nat) (g1 g2 ga gb : Bool) (hm1 : m1 < 2147483648) (hm2 : m2 < 2147483648) (hga : m1 ≤ 2139095040 → ga = g1) (hgb : m2 ≤ 2139095040 → gb = g2) :
    ∃ (k3 : Int) (g3 : Bool) (x3 l3 h3 R : Int),
      (∀ w, Calls Tryd.prog 55 #[N2 (kd_n m1) ga (ex_n m1) (mt_n m1), N2 (kd_n m2) gb (ex_n m2) (mt_n m2)] w fun e w' => e = .returned (NV k3 g3 x3 l3 h3) ∧ Below w.heap.size w w') ∧
      (∀ w, Calls Tryd.prog 39 #[FVn, NV k3 g3 x3 l3 h3] w fun e w' => e = .returned (.int .u64 R) ∧ Below w.heap.size w w') ∧
      (∀ v1 v2 w, SN w v1 (mt_n m1) → SN w v2 (mt_n m2) → Calls Tryd.prog 48 #[FSn, SV (kd_n m1) g1 v1 (ex_n m1), SV (kd_n m2) g2 v2 (ex_n m2)] w fun e w' => e = .returned (.int .u64 R) ∧ Below w.heap.size w w') ∧ R = timesV_n m1 g1 m2 g2 := by
  have hx1 := ex_n_b m1 hm1
  have hx2 := ex_n_b m2 hm2
  have hs1 := mt_n_b m1
  have hs2 := mt_n_b m2
  have hb1 : bl (mt_n m1) ≤ 60 := bl60 (by omega)
  have hb2 : bl (mt_n m2) ≤ 60 := bl60 (by omega)
  have KZi : ∀ (k : Int) (g : Bool) (x : Int) (s : Nat) (w : World), s < 16777216 → Hid (Calls Tryd.prog 79 #[N2 k g x s] w fun e w' => e = .returned (.bool (decide (k = 0) && decide (s = 0))) ∧ Below w.heap.size w w') := fun k g x s w hs => nzero_key k g x _ _ (decide (s = 0)) w (fun w => isZero_any s w (by omega))
  have KZs : ∀ (k : Int) (g : Bool) (x : Int) (s : Nat) (v : Value) (w : World), bl s ≤ 60 → SN w v s → Hid (Calls Tryd.prog 66 #[SV k g v x] w fun e w' => e = .returned (.bool (decide (k = 0) && decide (s = 0))) ∧ Below w.heap.size w w') := fun k g x s v w hb hs => szero_key k g v x s w (by omega) hs
  have NN : (∀ w, Calls Tryd.prog 39 #[FVn, NV 2 false 0 0 0] w fun e w' => e = .returned (.int .u64 2143289344) ∧ Below w.heap.size w w') := fun w => write_n_2 false 0 0 0 w
  have NI : ∀ g w, Calls Tryd.prog 39 #[FVn, NV 1 g 0 0 0] w fun e w' => e = .returned (.int .u64 (sg_n g + 2139095040)) ∧ Below w.heap.size w w' := fun g w => write_n 1 g 0 0 w (.inr (.inl rfl)) (by decide) (by decide) (by decide)
  have NZ : ∀ g w, Calls Tryd.prog 39 #[FVn, NV 0 g 0 0 0] w fun e w' => e = .returned (.int .u64 (sg_n g)) ∧ Below w.heap.size w w' := fun g w => by
    have h := write_n 0 g 0 0 w (.inl rfl) (by decide) (by decide) (by decide)
    rw [show wr_n 0 g 0 0 = sg_n g by rw [wr_n, if_neg (by decide), if_neg (by decide), rnd_zz]; simp] at h
    exact h
  rcases (show 2139095040 < m1 ∨ m1 = 2139095040 ∨ m1 < 2139095040 by omega) with h1 | h1 | h1
  · rw [kd_n_n h1]
    exact ⟨2, false, 0, 0, 0, 2143289344, fun w => tm_2x _ ga gb _ _ _ _ _ _ w, NN, fun v1 v2 w hS1 hS2 => tms_2x _ _ _ _ g1 g2 v1 v2 _ _ _ _ w _ hS1 hS2 (fun w => nan_n w), by unfold timesV_n; rw [if_pos (by omega)]⟩
  · rcases (show 2139095040 < m2 ∨ m2 = 2139095040 ∨ m2 < 2139095040 by omega) with h2 | h2 | h2
    · rw [kd_n_n h2]
      exact ⟨2, false, 0, 0, 0, 2143289344, fun w => tm_x2 _ ga gb _ _ _ _ _ _ w (by rw [h1]; decide), NN, fun v1 v2 w hS1 hS2 => tms_x2 _ _ _ _ g1 g2 v1 v2 _ _ _ _ w _ hS1 hS2 (by rw [h1]; decide) (fun w => nan_n w), by unfold timesV_n; rw [if_pos (by omega)]⟩
    · obtain rfl := hga (by omega)
      obtain rfl := hgb (by omega)
      rw [h1, h2, kd_n_i]
      rw [h1] at hs1 hb1
      rw [h2] at hs2 hb2
      exact ⟨1, !(ga == gb), 0, 0, 0, _, fun w => tm_11 _ ga gb _ _ _ _ _ _ w (fun w => KZi 1 ga _ _ w hs1) (fun w => KZi 1 gb _ _ w hs2) rfl, NI _, fun v1 v2 w hS1 hS2 => tms_11 _ _ _ _ ga gb v1 v2 _ _ _ _ w _ hS1 hS2 rfl (fun w hs => KZs 1 ga _ _ v1 w hb1 hs) (fun w hs => KZs 1 gb _ _ v2 w hb2 hs) (fun w => inf_n _ w), by unfold timesV_n; rw [if_neg (by omega), if_pos (by omega)]⟩
    · obtain rfl := hga (by omega)
      obtain rfl := hgb (by omega)
      rw [h1, kd_n_i, kd_n_f h2]
      rw [h1] at hs1 hb1
      have e1 := mt_n_0 h2
      by_cases hz : m2 = 0
      · have hz' := e1.2 hz
        have KA := fun w => KZi 0 gb (ex_n m2) (mt_n m2) w hs2
        have KB := fun (v : Value) w hs => KZs 0 gb (ex_n m2) (mt_n m2) v w hb2 hs
        rw [show (decide ((0 : Int) = 0) && decide (mt_n m2 = 0)) = true by simp [hz']] at KA KB
        exact ⟨2, false, 0, 0, 0, 2143289344, fun w => tm_1z ga gb _ _ _ _ _ _ w KA, NN, fun v1 v2 w hS1 hS2 => tms_1z _ _ _ ga gb v1 v2 _ _ _ _ w _ hS1 hS2 (KB v2) (fun w => nan_n w), by unfold timesV_n; rw [if_pos (by omega)]⟩
      · have hz' : mt_n m2 ≠ 0 := fun h => hz (e1.1 h)
        have KA := fun w => KZi 0 gb (ex_n m2) (mt_n m2) w hs2
        have KB := fun (v : Value) w hs => KZs 0 gb (ex_n m2) (mt_n m2) v w hb2 hs
        rw [show (decide ((0 : Int) = 0) && decide (mt_n m2 = 0)) = false by simp [hz']] at KA KB
        exact ⟨1, !(ga == gb), 0, 0, 0, _, fun w => tm_1n _ ga gb _ _ _ _ _ _ w (fun w => KZi 1 ga _ _ w hs1) KA rfl, NI _, fun v1 v2 w hS1 hS2 => tms_1n _ _ _ _ ga gb v1 v2 _ _ _ _ w _ hS1 hS2 rfl (KB v2) (fun w => inf_n _ w), by unfold timesV_n; rw [if_neg (by omega), if_pos (by omega)]⟩
  · rcases (show 2139095040 < m2 ∨ m2 = 2139095040 ∨ m2 < 2139095040 by omega) with h2 | h2 | h2
    · rw [kd_n_n h2]
      exact ⟨2, false, 0, 0, 0, 2143289344, fun w => tm_x2 _ ga gb _ _ _ _ _ _ w (by rw [kd_n_f h1]; decide), NN, fun v1 v2 w hS1 hS2 => tms_x2 _ _ _ _ g1 g2 v1 v2 _ _ _ _ w _ hS1 hS2 (by rw [kd_n_f h1]; decide) (fun w => nan_n w), by unfold timesV_n; rw [if_pos (by omega)]⟩
    · obtain rfl := hga (by omega)
      obtain rfl := hgb (by omega)
      rw [h2, kd_n_i, kd_n_f h1]
      have e1 := mt_n_0 h1
      have KA := fun w => KZi 0 ga (ex_n m1) (mt_n m1) w hs1
      have KB := fun (v : Value) w hs => KZs 0 ga (ex_n m1) (mt_n m1) v w hb1 hs
      by_cases hz : m1 = 0
      · have hz' := e1.2 hz
        rw [show (decide ((0 : Int) = 0) && decide (mt_n m1 = 0)) = true by simp [hz']] at KA KB
        exact ⟨2, false, 0, 0, 0, 2143289344, fun w => tm_z1 ga gb _ _ _ _ _ _ w KA, NN, fun v1 v2 w hS1 hS2 => tms_z1 _ _ _ ga gb v1 v2 _ _ _ _ w _ hS1 hS2 (KB v1) (fun w => nan_n w), by unfold timesV_n; rw [if_pos (by omega)]⟩
      · have hz' : mt_n m1 ≠ 0 := fun h => hz (e1.1 h)
        rw [show (decide ((0 : Int) = 0) && decide (mt_n m1 = 0)) = false by simp [hz']] at KA KB
        exact ⟨1, !(ga == gb), 0, 0, 0, _, fun w => tm_n1 _ ga gb _ _ _ _ _ _ w KA rfl, NI _, fun v1 v2 w hS1 hS2 => tms_n1 _ _ _ _ ga gb v1 v2 _ _ _ _ w _ hS1 hS2 rfl (KB v1) (fun w => inf_n _ w), by unfold timesV_n; rw [if_neg (by omega), if_pos (by omega)]⟩
    · obtain rfl := hga (by omega)
      obtain rfl := hgb (by omega)
      rw [kd_n_f h1, kd_n_f h2]
      have hp : mt_n m1 * mt_n m2 < 340282366920938463463374607431768211456 := by
        have := Nat.mul_le_mul (Nat.le_of_lt hs1) (Nat.le_of_lt hs2)
        omega
      have hbp := bl_mul2 (mt_n m1) (mt_n m2)
      refine ⟨0, !(ga == gb), ex_n m1 + ex_n m2, _, _, _, fun w => tm_00 _ ga gb _ _ _ _ _ _ _ _ _ w (fun w => KZi 0 ga _ _ w hs1) rfl (by omega) (by omega) (by omega) (by omega) (fun w => mul64_any _ _ (Nat.mod_lt _ (by decide)) (Nat.mod_lt _ (by decide)) w), fun w => ?_, fun v1 v2 w hS1 hS2 => tms_00 _ _ _ _ ga gb v1 v2 _ _ _ _ w _ hS1 hS2 rfl hb1 hb2 (by omega) (by omega) (by omega) (by omega) (fun v w hs => round_n _ false _ _ v w (by omega) (by omega) (by omega) hs), by unfold timesV_n; rw [if_neg (by omega), if_neg (by omega)]⟩
      have h := write_n 0 (!(ga == gb)) (ex_n m1 + ex_n m2) (mt_n m1 * mt_n m2) w (.inl rfl) hp (by omega) (by omega)
      rw [wr_n, if_neg (by decide), if_neg (by decide)] at h
      rw [Nat.mod_eq_of_lt (show mt_n m1 < 18446744073709551616 by omega), Nat.mod_eq_of_lt (show mt_n m2 < 18446744073709551616 by omega)]
      exact h
end Go.Proofs.YthmppcfhbbjhlaaDoor
namespace Go.Proofs.YthmppcfhbbjhlaaDoor
open Go.RowKit Go.Sort

def plusV_w (m1 : Nat) (g1 : Bool) (m2 : Nat) (g2 : Bool) : Int :=
  if 9218868437227405312 < m1 ∨ 9218868437227405312 < m2 then 9221120237041090560 else
  if m1 = 9218868437227405312 then (if m2 = 9218868437227405312 ∧ g1 ≠ g2 then 9221120237041090560 else sg_w g1 + 9218868437227405312) else
  if m2 = 9218868437227405312 then sg_w g2 + 9218868437227405312 else
  if g1 = g2 then sg_w g1 + (rnd 53 11 (-1074) (mt_w m1 * 2 ^ (ex_w m1 - min (ex_w m1) (ex_w m2)).toNat + mt_w m2 * 2 ^ (ex_w m2 - min (ex_w m1) (ex_w m2)).toNat) (min (ex_w m1) (ex_w m2)) false : Nat) else
  if mt_w m1 * 2 ^ (ex_w m1 - min (ex_w m1) (ex_w m2)).toNat = mt_w m2 * 2 ^ (ex_w m2 - min (ex_w m1) (ex_w m2)).toNat then 0 else
  if mt_w m2 * 2 ^ (ex_w m2 - min (ex_w m1) (ex_w m2)).toNat < mt_w m1 * 2 ^ (ex_w m1 - min (ex_w m1) (ex_w m2)).toNat then sg_w g1 + (rnd 53 11 (-1074) (mt_w m1 * 2 ^ (ex_w m1 - min (ex_w m1) (ex_w m2)).toNat - mt_w m2 * 2 ^ (ex_w m2 - min (ex_w m1) (ex_w m2)).toNat) (min (ex_w m1) (ex_w m2)) false : Nat) else
  sg_w g2 + (rnd 53 11 (-1074) (mt_w m2 * 2 ^ (ex_w m2 - min (ex_w m1) (ex_w m2)).toNat - mt_w m1 * 2 ^ (ex_w m1 - min (ex_w m1) (ex_w m2)).toNat) (min (ex_w m1) (ex_w m2)) false : Nat)
def timesV_w (m1 : Nat) (g1 : Bool) (m2 : Nat) (g2 : Bool) : Int :=
  if 9218868437227405312 < m1 ∨ 9218868437227405312 < m2 ∨ (m1 = 9218868437227405312 ∧ m2 = 0) ∨ (m1 = 0 ∧ m2 = 9218868437227405312) then 9221120237041090560 else
  if m1 = 9218868437227405312 ∨ m2 = 9218868437227405312 then sg_w (!(g1 == g2)) + 9218868437227405312 else
  sg_w (!(g1 == g2)) + (rnd 53 11 (-1074) (mt_w m1 * mt_w m2) (ex_w m1 + ex_w m2) false : Nat)
set_option maxHeartbeats 1000000 in
theorem plusE_w (m1 m2 : Nat) (g1 g2 ga gb : Bool) (hm1 : m1 < 9223372036854775808) (hm2 : m2 < 9223372036854775808) (hga : m1 ≤ 9218868437227405312 → ga = g1) (hgb : m2 ≤ 9218868437227405312 → gb = g2) :
    ∃ (k3 : Int) (g3 : Bool) (x3 l3 h3 R : Int),
      (∀ w, Calls Tryd.prog 53 #[N2 (kd_w m1) ga (ex_w m1) (mt_w m1), N2 (kd_w m2) gb (ex_w m2) (mt_w m2)] w fun e w' => e = .returned (NV k3 g3 x3 l3 h3) ∧ Below w.heap.size w w') ∧
      (∀ w, Calls Tryd.prog 39 #[FVw, NV k3 g3 x3 l3 h3] w fun e w' => e = .returned (.int .u64 R) ∧ Below w.heap.size w w') ∧
      (∀ v1 v2 w, SN w v1 (mt_w m1) → SN w v2 (mt_w m2) → Calls Tryd.prog 47 #[FSw, SV (kd_w m1) g1 v1 (ex_w m1), SV (kd_w m2) g2 v2 (ex_w m2)] w fun e w' => e = .returned (.int .u64 R) ∧ Below w.heap.size w w') ∧ R = plusV_w m1 g1 m2 g2 := by
  have hx1 := ex_w_b m1 hm1
  have hx2 := ex_w_b m2 hm2
  have hs1 := mt_w_b m1
  have hs2 := mt_w_b m2
  have hb1 : bl (mt_w m1) ≤ 60 := bl60 (by omega)
  have hb2 : bl (mt_w m2) ≤ 60 := bl60 (by omega)
  have KZi : ∀ (k : Int) (g : Bool) (x : Int) (s : Nat) (w : World), s < 9007199254740992 → Hid (Calls Tryd.prog 79 #[N2 k g x s] w fun e w' => e = .returned (.bool (decide (k = 0) && decide (s = 0))) ∧ Below w.heap.size w w') := fun k g x s w hs => nzero_key k g x _ _ (decide (s = 0)) w (fun w => isZero_any s w (by omega))
  have KZs : ∀ (k : Int) (g : Bool) (x : Int) (s : Nat) (v : Value) (w : World), bl s ≤ 60 → SN w v s → Hid (Calls Tryd.prog 66 #[SV k g v x] w fun e w' => e = .returned (.bool (decide (k = 0) && decide (s = 0))) ∧ Below w.heap.size w w') := fun k g x s v w hb hs => szero_key k g v x s w (by omega) hs
  have NN : (∀ w, Calls Tryd.prog 39 #[FVw, NV 2 false 0 0 0] w fun e w' => e = .returned (.int .u64 9221120237041090560) ∧ Below w.heap.size w w') := fun w => write_w_2 false 0 0 0 w
  have NI : ∀ g w, Calls Tryd.prog 39 #[FVw, NV 1 g 0 0 0] w fun e w' => e = .returned (.int .u64 (sg_w g + 9218868437227405312)) ∧ Below w.heap.size w w' := fun g w => write_w 1 g 0 0 w (.inr (.inl rfl)) (by decide) (by decide) (by decide)
  have NZ : ∀ g w, Calls Tryd.prog 39 #[FVw, NV 0 g 0 0 0] w fun e w' => e = .returned (.int .u64 (sg_w g)) ∧ Below w.heap.size w w' := fun g w => by
    have h := write_w 0 g 0 0 w (.inl rfl) (by decide) (by decide) (by decide)
    rw [show wr_w 0 g 0 0 = sg_w g by rw [wr_w, if_neg (by decide), if_neg (by decide), rnd_zz]; simp] at h
    exact h
  rcases (show 9218868437227405312 < m1 ∨ m1 = 9218868437227405312 ∨ m1 < 9218868437227405312 by omega) with h1 | h1 | h1
  · rw [kd_w_n h1]
    exact ⟨2, false, 0, 0, 0, 9221120237041090560, fun w => pl_2x _ ga gb _ _ _ _ _ _ w, NN, fun v1 v2 w hS1 hS2 => sp_2x _ _ _ _ g1 g2 v1 v2 _ _ _ _ w _ hS1 hS2 (fun w => nan_w w), by unfold plusV_w; rw [if_pos (by omega)]⟩
  · rcases (show 9218868437227405312 < m2 ∨ m2 = 9218868437227405312 ∨ m2 < 9218868437227405312 by omega) with h2 | h2 | h2
    · rw [kd_w_n h2]
      exact ⟨2, false, 0, 0, 0, 9221120237041090560, fun w => pl_x2 _ ga gb _ _ _ _ _ _ w (by rw [h1]; decide), NN, fun v1 v2 w hS1 hS2 => sp_x2 _ _ _ _ g1 g2 v1 v2 _ _ _ _ w _ hS1 hS2 (by rw [h1]; decide) (fun w => nan_w w), by unfold plusV_w; rw [if_pos (by omega)]⟩
    · obtain rfl := hga (by omega)
      obtain rfl := hgb (by omega)
      rw [h1, h2, kd_w_i]
      rw [h1] at hs1 hb1
      rw [h2] at hs2 hb2
      by_cases hg : ga = gb
      · exact ⟨1, ga, _, _, _, _, fun w => pl_11 ga gb _ _ _ _ _ _ w (by simpa using hg) (fun w => KZi 1 ga _ _ w hs1), fun w => write_w 1 ga (ex_w 9218868437227405312) (mt_w 9218868437227405312) w (.inr (.inl rfl)) (by decide) (by decide) (by decide), fun v1 v2 w hS1 hS2 => sp_11 _ _ _ ga gb v1 v2 _ _ _ _ w _ hS1 hS2 (by simpa using hg) (fun w => inf_w _ w), by unfold plusV_w; rw [if_neg (by omega), if_pos rfl, if_neg (fun h => h.2 hg)]; rfl⟩
      · exact ⟨2, false, 0, 0, 0, 9221120237041090560, fun w => pl_11x ga gb _ _ _ _ _ _ w (by simpa using hg), NN, fun v1 v2 w hS1 hS2 => sp_11x _ _ _ ga gb v1 v2 _ _ _ _ w _ hS1 hS2 (by simpa using hg) (fun w => nan_w w), by unfold plusV_w; rw [if_neg (by omega), if_pos rfl, if_pos ⟨rfl, hg⟩]⟩
    · obtain rfl := hga (by omega)
      obtain rfl := hgb (by omega)
      rw [h1, kd_w_i, kd_w_f h2]
      rw [h1] at hs1 hb1
      exact ⟨1, ga, _, _, _, _, fun w => pl_10 ga gb _ _ _ _ _ _ w (fun w => KZi 1 ga _ _ w hs1), fun w => write_w 1 ga (ex_w 9218868437227405312) (mt_w 9218868437227405312) w (.inr (.inl rfl)) (by decide) (by decide) (by decide), fun v1 v2 w hS1 hS2 => sp_10 _ _ _ ga gb v1 v2 _ _ _ _ w _ hS1 hS2 (fun w => inf_w _ w), by unfold plusV_w; rw [if_neg (by omega), if_pos rfl, if_neg (fun h => by omega)]; rfl⟩
  · rcases (show 9218868437227405312 < m2 ∨ m2 = 9218868437227405312 ∨ m2 < 9218868437227405312 by omega) with h2 | h2 | h2
    · rw [kd_w_n h2]
      exact ⟨2, false, 0, 0, 0, 9221120237041090560, fun w => pl_x2 _ ga gb _ _ _ _ _ _ w (by rw [kd_w_f h1]; decide), NN, fun v1 v2 w hS1 hS2 => sp_x2 _ _ _ _ g1 g2 v1 v2 _ _ _ _ w _ hS1 hS2 (by rw [kd_w_f h1]; decide) (fun w => nan_w w), by unfold plusV_w; rw [if_pos (by omega)]⟩
    · obtain rfl := hga (by omega)
      obtain rfl := hgb (by omega)
      rw [h2, kd_w_i, kd_w_f h1]
      rw [h2] at hs2 hb2
      have KA := fun w => KZi 0 ga (ex_w m1) (mt_w m1) w hs1
      refine ⟨1, gb, _, _, _, _, fun w => ?_, fun w => write_w 1 gb (ex_w 9218868437227405312) (mt_w 9218868437227405312) w (.inr (.inl rfl)) (by decide) (by decide) (by decide), fun v1 v2 w hS1 hS2 => sp_01 _ _ _ ga gb v1 v2 _ _ _ _ w _ hS1 hS2 (fun w => inf_w _ w), by unfold plusV_w; rw [if_neg (by omega), if_neg (by omega), if_pos rfl]; rfl⟩
      by_cases hz : mt_w m1 = 0
      · rw [show (decide ((0 : Int) = 0) && decide (mt_w m1 = 0)) = true by simp [hz]] at KA
        exact pl_z1 ga gb _ _ _ _ _ _ w KA (fun w => KZi 1 gb _ _ w hs2)
      · rw [show (decide ((0 : Int) = 0) && decide (mt_w m1 = 0)) = false by simp [hz]] at KA
        exact pl_n1 ga gb _ _ _ _ _ _ w KA (fun w => KZi 1 gb _ _ w hs2)
    · obtain rfl := hga (by omega)
      obtain rfl := hgb (by omega)
      have a1 := ex_w_L m1 h1
      have a2 := ex_w_L m2 h2
      have c1 : bl (mt_w m1) ≤ 53 := bl_le (k := 53) hs1
      have c2 : bl (mt_w m2) ≤ 53 := bl_le (k := 53) hs2
      rw [kd_w_f h1, kd_w_f h2]
      have KA := fun w => KZi 0 ga (ex_w m1) (mt_w m1) w hs1
      have KB := fun w => KZi 0 gb (ex_w m2) (mt_w m2) w hs2
      obtain ⟨m, hm⟩ : ∃ m, m = min (ex_w m1) (ex_w m2) := ⟨_, rfl⟩
      have r1 := rnd_min (p := 53) (e := 11) (L := -1074) (s := mt_w m1) (show m ≤ ex_w m1 by omega)
      have r2 := rnd_min (p := 53) (e := 11) (L := -1074) (s := mt_w m2) (show m ≤ ex_w m2 by omega)
      have bX : ∀ (s : Nat) (x : Int), bl s ≤ 60 → -1100 ≤ x → x ≤ 1100 → m ≤ x → -1100 ≤ m → bl (s * 2 ^ (x - m).toNat) ≤ 3000 := fun s x hs h1 h2 h3 h4 => by
        have := bl_mul2 s (2 ^ (x - m).toNat)
        have h2 : bl (2 ^ (x - m).toNat) ≤ (x - m).toNat + 1 := bl_le (by rw [Nat.pow_succ]; have := Nat.two_pow_pos (x - m).toNat; omega)
        omega
      have bX1 := bX (mt_w m1) (ex_w m1) hb1 (by omega) (by omega) (by omega) (by omega)
      have bX2 := bX (mt_w m2) (ex_w m2) hb2 (by omega) (by omega) (by omega) (by omega)
      clear bX
      -- the specification's answer, by what it rounds
      have SA : ga = gb → ∀ v1 v2 w, SN w v1 (mt_w m1) → SN w v2 (mt_w m2) → Calls Tryd.prog 47 #[FSw, SV 0 ga v1 (ex_w m1), SV 0 gb v2 (ex_w m2)] w fun e w' => e = .returned (.int .u64 (sg_w ga + (rnd 53 11 (-1074) (mt_w m1 * 2 ^ (ex_w m1 - m).toNat + mt_w m2 * 2 ^ (ex_w m2 - m).toNat) m false : Nat))) ∧ Below w.heap.size w w' := fun hg v1 v2 w hS1 hS2 => by
        have hb := bl_add bX1 bX2
        exact sp_add _ _ _ ga gb v1 v2 _ _ _ _ m _ _ w _ hS1 hS2 hm rfl rfl hb1 hb2 (by omega) (by omega) (by omega) (by omega) (by simpa using hg) (fun v w hs => round_w _ false _ _ v w (by omega) (by omega) (by omega) hs)
      have SE : ga ≠ gb → mt_w m1 * 2 ^ (ex_w m1 - m).toNat = mt_w m2 * 2 ^ (ex_w m2 - m).toNat → ∀ v1 v2 w, SN w v1 (mt_w m1) → SN w v2 (mt_w m2) → Calls Tryd.prog 47 #[FSw, SV 0 ga v1 (ex_w m1), SV 0 gb v2 (ex_w m2)] w fun e w' => e = .returned (.int .u64 0) ∧ Below w.heap.size w w' := fun hg hE v1 v2 w hS1 hS2 =>
        sp_eq _ _ _ ga gb v1 v2 _ _ _ _ m _ _ w _ hS1 hS2 hm rfl rfl hb1 hb2 (by omega) (by omega) (by omega) (by omega) (by simpa using hg) hE rfl
      have SG : ga ≠ gb → mt_w m2 * 2 ^ (ex_w m2 - m).toNat < mt_w m1 * 2 ^ (ex_w m1 - m).toNat → ∀ v1 v2 w, SN w v1 (mt_w m1) → SN w v2 (mt_w m2) → Calls Tryd.prog 47 #[FSw, SV 0 ga v1 (ex_w m1), SV 0 gb v2 (ex_w m2)] w fun e w' => e = .returned (.int .u64 (sg_w ga + (rnd 53 11 (-1074) (mt_w m1 * 2 ^ (ex_w m1 - m).toNat - mt_w m2 * 2 ^ (ex_w m2 - m).toNat) m false : Nat))) ∧ Below w.heap.size w w' := fun hg hE v1 v2 w hS1 hS2 =>
        sp_gt _ _ _ ga gb v1 v2 _ _ _ _ m _ _ w _ hS1 hS2 hm rfl rfl hb1 hb2 (by omega) (by omega) (by omega) (by omega) (by simpa using hg) hE (fun v w hs => round_w _ false _ _ v w (Nat.le_trans (bl_mono (Nat.sub_le _ _)) (by omega)) (by omega) (by omega) hs)
      have SL : ga ≠ gb → mt_w m1 * 2 ^ (ex_w m1 - m).toNat < mt_w m2 * 2 ^ (ex_w m2 - m).toNat → ∀ v1 v2 w, SN w v1 (mt_w m1) → SN w v2 (mt_w m2) → Calls Tryd.prog 47 #[FSw, SV 0 ga v1 (ex_w m1), SV 0 gb v2 (ex_w m2)] w fun e w' => e = .returned (.int .u64 (sg_w gb + (rnd 53 11 (-1074) (mt_w m2 * 2 ^ (ex_w m2 - m).toNat - mt_w m1 * 2 ^ (ex_w m1 - m).toNat) m false : Nat))) ∧ Below w.heap.size w w' := fun hg hE v1 v2 w hS1 hS2 =>
        sp_lt _ _ _ ga gb v1 v2 _ _ _ _ m _ _ w _ hS1 hS2 hm rfl rfl hb1 hb2 (by omega) (by omega) (by omega) (by omega) (by simpa using hg) hE (fun v w hs => round_w _ false _ _ v w (Nat.le_trans (bl_mono (Nat.sub_le _ _)) (by omega)) (by omega) (by omega) hs)
      have WR : ∀ (g : Bool) (x : Int) (s : Nat), s < 340282366920938463463374607431768211456 → -5000 ≤ x → x ≤ 5000 → ∀ w, Calls Tryd.prog 39 #[FVw, N2 0 g x s] w fun e w' => e = .returned (.int .u64 (sg_w g + (rnd 53 11 (-1074) s x false : Nat))) ∧ Below w.heap.size w w' := fun g x s h1 h2 h3 w => by
        have h := write_w 0 g x s w (.inl rfl) h1 h2 h3
        rw [wr_w, if_neg (by decide), if_neg (by decide)] at h
        exact h
      have FV0 : plusV_w m1 ga m2 gb = (if ga = gb then sg_w ga + (rnd 53 11 (-1074) (mt_w m1 * 2 ^ (ex_w m1 - m).toNat + mt_w m2 * 2 ^ (ex_w m2 - m).toNat) m false : Nat) else if mt_w m1 * 2 ^ (ex_w m1 - m).toNat = mt_w m2 * 2 ^ (ex_w m2 - m).toNat then 0 else if mt_w m2 * 2 ^ (ex_w m2 - m).toNat < mt_w m1 * 2 ^ (ex_w m1 - m).toNat then sg_w ga + (rnd 53 11 (-1074) (mt_w m1 * 2 ^ (ex_w m1 - m).toNat - mt_w m2 * 2 ^ (ex_w m2 - m).toNat) m false : Nat) else sg_w gb + (rnd 53 11 (-1074) (mt_w m2 * 2 ^ (ex_w m2 - m).toNat - mt_w m1 * 2 ^ (ex_w m1 - m).toNat) m false : Nat)) := by
        unfold plusV_w
        rw [if_neg (by omega), if_neg (by omega), if_neg (by omega), ← hm]
      by_cases z1 : mt_w m1 = 0
      · rw [show (decide ((0 : Int) = 0) && decide (mt_w m1 = 0)) = true by simp [z1]] at KA
        by_cases z2 : mt_w m2 = 0
        · rw [show (decide ((0 : Int) = 0) && decide (mt_w m2 = 0)) = true by simp [z2]] at KB
          refine ⟨0, ga && gb, 0, 0, 0, sg_w (ga && gb), fun w => ?_, NZ _, fun v1 v2 w hS1 hS2 => ?_, ?_⟩
          · cases ga
            · exact pl_zzf gb _ _ _ _ _ _ w KA KB
            · exact pl_zz gb _ _ _ _ _ _ w KA KB
          · by_cases hg : ga = gb
            · have h := SA hg v1 v2 w hS1 hS2
              rw [z1, z2, Nat.zero_mul, Nat.zero_mul, rnd_zz] at h
              subst hg
              simpa using h
            · have h := SE hg (by rw [z1, z2, Nat.zero_mul, Nat.zero_mul]) v1 v2 w hS1 hS2
              rw [show (ga && gb) = false by cases ga <;> cases gb <;> simp_all]
              exact h
          · rw [FV0, z1, z2, Nat.zero_mul, Nat.zero_mul, Nat.add_zero, rnd_zz]
            cases ga <;> cases gb <;> simp [sg_w]
        · rw [show (decide ((0 : Int) = 0) && decide (mt_w m2 = 0)) = false by simp [z2]] at KB
          refine ⟨0, gb, _, _, _, _, fun w => pl_zn ga gb _ _ _ _ _ _ w KA KB, WR gb _ _ (by omega) (by omega) (by omega), fun v1 v2 w hS1 hS2 => ?_, ?_⟩
          rotate_left
          · have hpos : 0 < mt_w m2 * 2 ^ (ex_w m2 - m).toNat := Nat.mul_pos (by omega) (Nat.two_pow_pos _)
            rw [FV0, ← r2, z1, Nat.zero_mul, Nat.zero_add]
            by_cases hg : ga = gb
            · rw [if_pos hg, hg]
            · rw [if_neg hg, if_neg (by omega), if_neg (by omega), Nat.sub_zero]
          rw [← r2]
          by_cases hg : ga = gb
          · have h := SA hg v1 v2 w hS1 hS2
            rw [z1, Nat.zero_mul, Nat.zero_add] at h
            subst hg
            exact h
          · have h := SL hg (by rw [z1, Nat.zero_mul]; exact Nat.mul_pos (by omega) (Nat.two_pow_pos _)) v1 v2 w hS1 hS2
            rw [z1, Nat.zero_mul, Nat.sub_zero] at h
            exact h
      · rw [show (decide ((0 : Int) = 0) && decide (mt_w m1 = 0)) = false by simp [z1]] at KA
        by_cases z2 : mt_w m2 = 0
        · rw [show (decide ((0 : Int) = 0) && decide (mt_w m2 = 0)) = true by simp [z2]] at KB
          refine ⟨0, ga, _, _, _, _, fun w => pl_nz ga gb _ _ _ _ _ _ w KA KB, WR ga _ _ (by omega) (by omega) (by omega), fun v1 v2 w hS1 hS2 => ?_, ?_⟩
          rotate_left
          · have hpos : 0 < mt_w m1 * 2 ^ (ex_w m1 - m).toNat := Nat.mul_pos (by omega) (Nat.two_pow_pos _)
            rw [FV0, ← r1, z2, Nat.zero_mul, Nat.add_zero]
            by_cases hg : ga = gb
            · rw [if_pos hg]
            · rw [if_neg hg, if_neg (by omega), if_pos hpos, Nat.sub_zero]
          rw [← r1]
          by_cases hg : ga = gb
          · have h := SA hg v1 v2 w hS1 hS2
            rw [z2, Nat.zero_mul, Nat.add_zero] at h
            exact h
          · have h := SG hg (by rw [z2, Nat.zero_mul]; exact Nat.mul_pos (by omega) (Nat.two_pow_pos _)) v1 v2 w hS1 hS2
            rw [z2, Nat.zero_mul, Nat.sub_zero] at h
            exact h
        · rw [show (decide ((0 : Int) = 0) && decide (mt_w m2 = 0)) = false by simp [z2]] at KB
          obtain ⟨g3, x3, s3, KS, t1, t2, t3, hA, hS⟩ := isum_any (p := 53) (e := 11) (L := -1074) ga gb (ex_w m1) (ex_w m2) (mt_w m1) (mt_w m2) (by decide) (by decide) z1 z2 c1 c2 a1 a2 (by omega) (by omega) (by omega) (by omega) m hm
          refine ⟨0, g3, x3, _, _, _, fun w => pl_nn ga gb _ _ _ _ _ _ _ _ _ _ _ w KA KB KS, WR g3 x3 s3 t1 t2 t3, fun v1 v2 w hS1 hS2 => ?_, ?_⟩
          rotate_left
          · rw [FV0]
            by_cases hg : ga = gb
            · obtain ⟨e1, e2⟩ := hA hg
              rw [if_pos hg, e1, e2]
            · rcases hS hg with ⟨e1, e2, e3⟩ | ⟨e1, e2, e3⟩ | ⟨e1, e2, e3⟩
              · rw [if_neg hg, if_pos e1, e2, e3, rnd_zz]; rfl
              · rw [if_neg hg, if_neg (by omega), if_pos e1, e2, e3]
              · rw [if_neg hg, if_neg (by omega), if_neg (by omega), e2, e3]
          by_cases hg : ga = gb
          · obtain ⟨e1, e2⟩ := hA hg
            rw [e1, e2]
            exact SA hg v1 v2 w hS1 hS2
          · rcases hS hg with ⟨e1, e2, e3⟩ | ⟨e1, e2, e3⟩ | ⟨e1, e2, e3⟩
            · rw [e2, e3, rnd_zz]
              exact SE hg e1 v1 v2 w hS1 hS2
            · rw [e2, e3]
              exact SG hg e1 v1 v2 w hS1 hS2
            · rw [e2, e3]
              exact SL hg e1 v1 v2 w hS1 hS2
set_option maxHeartbeats 1000000 in
theorem timesE_w (m1 m2 : Nat) (g1 g2 ga gb : Bool) (hm1 : m1 < 9223372036854775808) (hm2 : m2 < 9223372036854775808) (hga : m1 ≤ 9218868437227405312 → ga = g1) (hgb : m2 ≤ 9218868437227405312 → gb = g2) :
    ∃ (k3 : Int) (g3 : Bool) (x3 l3 h3 R : Int),
      (∀ w, Calls Tryd.prog 55 #[N2 (kd_w m1) ga (ex_w m1) (mt_w m1), N2 (kd_w m2) gb (ex_w m2) (mt_w m2)] w fun e w' => e = .returned (NV k3 g3 x3 l3 h3) ∧ Below w.heap.size w w') ∧
      (∀ w, Calls Tryd.prog 39 #[FVw, NV k3 g3 x3 l3 h3] w fun e w' => e = .returned (.int .u64 R) ∧ Below w.heap.size w w') ∧
      (∀ v1 v2 w, SN w v1 (mt_w m1) → SN w v2 (mt_w m2) → Calls Tryd.prog 48 #[FSw, SV (kd_w m1) g1 v1 (ex_w m1), SV (kd_w m2) g2 v2 (ex_w m2)] w fun e w' => e = .returned (.int .u64 R) ∧ Below w.heap.size w w') ∧ R = timesV_w m1 g1 m2 g2 := by
  have hx1 := ex_w_b m1 hm1
  have hx2 := ex_w_b m2 hm2
  have hs1 := mt_w_b m1
  have hs2 := mt_w_b m2
  have hb1 : bl (mt_w m1) ≤ 60 := bl60 (by omega)
  have hb2 : bl (mt_w m2) ≤ 60 := bl60 (by omega)
  have KZi : ∀ (k : Int) (g : Bool) (x : Int) (s : Nat) (w : World), s < 9007199254740992 → Hid (Calls Tryd.prog 79 #[N2 k g x s] w fun e w' => e = .returned (.bool (decide (k = 0) && decide (s = 0))) ∧ Below w.heap.size w w') := fun k g x s w hs => nzero_key k g x _ _ (decide (s = 0)) w (fun w => isZero_any s w (by omega))
  have KZs : ∀ (k : Int) (g : Bool) (x : Int) (s : Nat) (v : Value) (w : World), bl s ≤ 60 → SN w v s → Hid (Calls Tryd.prog 66 #[SV k g v x] w fun e w' => e = .returned (.bool (decide (k = 0) && decide (s = 0))) ∧ Below w.heap.size w w') := fun k g x s v w hb hs => szero_key k g v x s w (by omega) hs
  have NN : (∀ w, Calls Tryd.prog 39 #[FVw, NV 2 false 0 0 0] w fun e w' => e = .returned (.int .u64 9221120237041090560) ∧ Below w.heap.size w w') := fun w => write_w_2 false 0 0 0 w
  have NI : ∀ g w, Calls Tryd.prog 39 #[FVw, NV 1 g 0 0 0] w fun e w' => e = .returned (.int .u64 (sg_w g + 9218868437227405312)) ∧ Below w.heap.size w w' := fun g w => write_w 1 g 0 0 w (.inr (.inl rfl)) (by decide) (by decide) (by decide)
  have NZ : ∀ g w, Calls Tryd.prog 39 #[FVw, NV 0 g 0 0 0] w fun e w' => e = .returned (.int .u64 (sg_w g)) ∧ Below w.heap.size w w' := fun g w => by
    have h := write_w 0 g 0 0 w (.inl rfl) (by decide) (by decide) (by decide)
    rw [show wr_w 0 g 0 0 = sg_w g by rw [wr_w, if_neg (by decide), if_neg (by decide), rnd_zz]; simp] at h
    exact h
  rcases (show 9218868437227405312 < m1 ∨ m1 = 9218868437227405312 ∨ m1 < 9218868437227405312 by omega) with h1 | h1 | h1
  · rw [kd_w_n h1]
    exact ⟨2, false, 0, 0, 0, 9221120237041090560, fun w => tm_2x _ ga gb _ _ _ _ _ _ w, NN, fun v1 v2 w hS1 hS2 => tms_2x _ _ _ _ g1 g2 v1 v2 _ _ _ _ w _ hS1 hS2 (fun w => nan_w w), by unfold timesV_w; rw [if_pos (by omega)]⟩
  · rcases (show 9218868437227405312 < m2 ∨ m2 = 9218868437227405312 ∨ m2 < 9218868437227405312 by omega) with h2 | h2 | h2
    · rw [kd_w_n h2]
      exact ⟨2, false, 0, 0, 0, 9221120237041090560, fun w => tm_x2 _ ga gb _ _ _ _ _ _ w (by rw [h1]; decide), NN, fun v1 v2 w hS1 hS2 => tms_x2 _ _ _ _ g1 g2 v1 v2 _ _ _ _ w _ hS1 hS2 (by rw [h1]; decide) (fun w => nan_w w), by unfold timesV_w; rw [if_pos (by omega)]⟩
    · obtain rfl := hga (by omega)
      obtain rfl := hgb (by omega)
      rw [h1, h2, kd_w_i]
      rw [h1] at hs1 hb1
      rw [h2] at hs2 hb2
      exact ⟨1, !(ga == gb), 0, 0, 0, _, fun w => tm_11 _ ga gb _ _ _ _ _ _ w (fun w => KZi 1 ga _ _ w hs1) (fun w => KZi 1 gb _ _ w hs2) rfl, NI _, fun v1 v2 w hS1 hS2 => tms_11 _ _ _ _ ga gb v1 v2 _ _ _ _ w _ hS1 hS2 rfl (fun w hs => KZs 1 ga _ _ v1 w hb1 hs) (fun w hs => KZs 1 gb _ _ v2 w hb2 hs) (fun w => inf_w _ w), by unfold timesV_w; rw [if_neg (by omega), if_pos (by omega)]⟩
    · obtain rfl := hga (by omega)
      obtain rfl := hgb (by omega)
      rw [h1, kd_w_i, kd_w_f h2]
      rw [h1] at hs1 hb1
      have e1 := mt_w_0 h2
      by_cases hz : m2 = 0
      · have hz' := e1.2 hz
        have KA := fun w => KZi 0 gb (ex_w m2) (mt_w m2) w hs2
        have KB := fun (v : Value) w hs => KZs 0 gb (ex_w m2) (mt_w m2) v w hb2 hs
        rw [show (decide ((0 : Int) = 0) && decide (mt_w m2 = 0)) = true by simp [hz']] at KA KB
        exact ⟨2, false, 0, 0, 0, 9221120237041090560, fun w => tm_1z ga gb _ _ _ _ _ _ w KA, NN, fun v1 v2 w hS1 hS2 => tms_1z _ _ _ ga gb v1 v2 _ _ _ _ w _ hS1 hS2 (KB v2) (fun w => nan_w w), by unfold timesV_w; rw [if_pos (by omega)]⟩
      · have hz' : mt_w m2 ≠ 0 := fun h => hz (e1.1 h)
        have KA := fun w => KZi 0 gb (ex_w m2) (mt_w m2) w hs2
        have KB := fun (v : Value) w hs => KZs 0 gb (ex_w m2) (mt_w m2) v w hb2 hs
        rw [show (decide ((0 : Int) = 0) && decide (mt_w m2 = 0)) = false by simp [hz']] at KA KB
        exact ⟨1, !(ga == gb), 0, 0, 0, _, fun w => tm_1n _ ga gb _ _ _ _ _ _ w (fun w => KZi 1 ga _ _ w hs1) KA rfl, NI _, fun v1 v2 w hS1 hS2 => tms_1n _ _ _ _ ga gb v1 v2 _ _ _ _ w _ hS1 hS2 rfl (KB v2) (fun w => inf_w _ w), by unfold timesV_w; rw [if_neg (by omega), if_pos (by omega)]⟩
  · rcases (show 9218868437227405312 < m2 ∨ m2 = 9218868437227405312 ∨ m2 < 9218868437227405312 by omega) with h2 | h2 | h2
    · rw [kd_w_n h2]
      exact ⟨2, false, 0, 0, 0, 9221120237041090560, fun w => tm_x2 _ ga gb _ _ _ _ _ _ w (by rw [kd_w_f h1]; decide), NN, fun v1 v2 w hS1 hS2 => tms_x2 _ _ _ _ g1 g2 v1 v2 _ _ _ _ w _ hS1 hS2 (by rw [kd_w_f h1]; decide) (fun w => nan_w w), by unfold timesV_w; rw [if_pos (by omega)]⟩
    · obtain rfl := hga (by omega)
      obtain rfl := hgb (by omega)
      rw [h2, kd_w_i, kd_w_f h1]
      have e1 := mt_w_0 h1
      have KA := fun w => KZi 0 ga (ex_w m1) (mt_w m1) w hs1
      have KB := fun (v : Value) w hs => KZs 0 ga (ex_w m1) (mt_w m1) v w hb1 hs
      by_cases hz : m1 = 0
      · have hz' := e1.2 hz
        rw [show (decide ((0 : Int) = 0) && decide (mt_w m1 = 0)) = true by simp [hz']] at KA KB
        exact ⟨2, false, 0, 0, 0, 9221120237041090560, fun w => tm_z1 ga gb _ _ _ _ _ _ w KA, NN, fun v1 v2 w hS1 hS2 => tms_z1 _ _ _ ga gb v1 v2 _ _ _ _ w _ hS1 hS2 (KB v1) (fun w => nan_w w), by unfold timesV_w; rw [if_pos (by omega)]⟩
      · have hz' : mt_w m1 ≠ 0 := fun h => hz (e1.1 h)
        rw [show (decide ((0 : Int) = 0) && decide (mt_w m1 = 0)) = false by simp [hz']] at KA KB
        exact ⟨1, !(ga == gb), 0, 0, 0, _, fun w => tm_n1 _ ga gb _ _ _ _ _ _ w KA rfl, NI _, fun v1 v2 w hS1 hS2 => tms_n1 _ _ _ _ ga gb v1 v2 _ _ _ _ w _ hS1 hS2 rfl (KB v1) (fun w => inf_w _ w), by unfold timesV_w; rw [if_neg (by omega), if_pos (by omega)]⟩
    · obtain rfl := hga (by omega)
      obtain rfl := hgb (by omega)
      rw [kd_w_f h1, kd_w_f h2]
      have hp : mt_w m1 * mt_w m2 < 340282366920938463463374607431768211456 := by
        have := Nat.mul_le_mul (Nat.le_of_lt hs1) (Nat.le_of_lt hs2)
        omega
      have hbp := bl_mul2 (mt_w m1) (mt_w m2)
      refine ⟨0, !(ga == gb), ex_w m1 + ex_w m2, _, _, _, fun w => tm_00 _ ga gb _ _ _ _ _ _ _ _ _ w (fun w => KZi 0 ga _ _ w hs1) rfl (by omega) (by omega) (by omega) (by omega) (fun w => mul64_any _ _ (Nat.mod_lt _ (by decide)) (Nat.mod_lt _ (by decide)) w), fun w => ?_, fun v1 v2 w hS1 hS2 => tms_00 _ _ _ _ ga gb v1 v2 _ _ _ _ w _ hS1 hS2 rfl hb1 hb2 (by omega) (by omega) (by omega) (by omega) (fun v w hs => round_w _ false _ _ v w (by omega) (by omega) (by omega) hs), by unfold timesV_w; rw [if_neg (by omega), if_neg (by omega)]⟩
      have h := write_w 0 (!(ga == gb)) (ex_w m1 + ex_w m2) (mt_w m1 * mt_w m2) w (.inl rfl) hp (by omega) (by omega)
      rw [wr_w, if_neg (by decide), if_neg (by decide)] at h
      rw [Nat.mod_eq_of_lt (show mt_w m1 < 18446744073709551616 by omega), Nat.mod_eq_of_lt (show mt_w m2 < 18446744073709551616 by omega)]
      exact h
end Go.Proofs.YthmppcfhbbjhlaaDoor
