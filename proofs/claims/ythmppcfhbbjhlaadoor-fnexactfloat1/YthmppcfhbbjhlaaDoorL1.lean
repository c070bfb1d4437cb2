import Derived.Test.YthmppcfhbbjhlaaDoorIfn
import Derived.Test.YthmppcfhbbjhlaaDoorIfw
import Derived.Test.YthmppcfhbbjhlaaDoorSan1
import Derived.Test.YthmppcfhbbjhlaaDoorSan2
import Derived.Test.YthmppcfhbbjhlaaDoorSan3
import Derived.Test.YthmppcfhbbjhlaaDoorSaw1
import Derived.Test.YthmppcfhbbjhlaaDoorSaw2
import Derived.Test.YthmppcfhbbjhlaaDoorSaw3
import Derived.Test.YthmppcfhbbjhlaaDoorRo
import Derived.Test.YthmppcfhbbjhlaaDoorRtS
import Derived.Test.YthmppcfhbbjhlaaDoorIR0
import Derived.Test.YthmppcfhbbjhlaaDoorIR1
import Derived.Test.YthmppcfhbbjhlaaDoorSRa
import Derived.Test.YthmppcfhbbjhlaaDoorMz
set_option linter.all false
namespace Go.Proofs.YthmppcfhbbjhlaaDoor
open Go.RowKit Go.Sort

def B1 (op : Int) (a : Nat) : Prop := ∃ (K : Bool) (t v : Int),
  (∀ w, Tab0 w → 0 < w.heap.size → Calls Tryd.prog 10 #[.int .i64 op, .int .u64 (a : Int)] w fun e w' => e = .returned (RV K t v) ∧ Below w.heap.size w w') ∧
  (∀ w, Calls Tryd.prog 9 #[.int .i64 op, .int .u64 (a : Int)] w fun e w' => e = .returned (RV K t v) ∧ Below w.heap.size w w')
theorem isR_ex (N : Nat) : ∃ r, IsR N r := by
  induction N with
  | zero => exact ⟨0, by decide, by decide⟩
  | succ N ih =>
    obtain ⟨r, h1, h2⟩ := ih
    by_cases h : (r + 1) * (r + 1) ≤ N + 1
    · refine ⟨r + 1, h, ?_⟩
      have e : (r + 1 + 1) * (r + 1 + 1) = (r + 1) * (r + 1) + 2 * (r + 1) + 1 := by
        rw [Nat.add_mul, Nat.mul_add]; omega
      rw [e]; omega
    · exact ⟨r, by omega, by omega⟩
theorem wh_lt (mode : Int) (g : Bool) (s : Nat) (x : Int) (hx : ¬ 0 ≤ x) : wh mode g s x ≤ s + 1 := by
  unfold wh
  rw [if_neg hx]
  have := Nat.div_le_self s (2 ^ (-x).toNat)
  split <;> omega
theorem slow_n (a : Nat) (ha : a < 18446744073709551616) (w : World) : Calls Tryd.prog 23 #[.int .u64 (a : Int), .int .i64 32] w fun e w' => e = .returned (.int .u64 ((a % 4294967296 : Nat) : Int)) ∧ w = w' := by
  have h := low32 (a : Int) w (by omega) (by omega)
  have e : (a : Int) % 4294967296 = ((a % 4294967296 : Nat) : Int) := by omega
  rw [e] at h; exact h
theorem b1_139 (a : Nat) (ha : a < 18446744073709551616) : B1 139 a := by
  obtain ⟨m, hm⟩ : ∃ m, m = a % 4294967296 % 2147483648 := ⟨_, rfl⟩
  obtain ⟨g, hg⟩ : ∃ g, g = decide (2147483648 ≤ a % 4294967296) := ⟨_, rfl⟩
  have hml : m < 2147483648 := by omega
  have hAl : a % 4294967296 < 4294967296 := Nat.mod_lt _ (by decide)
  have RI := fun w => iread_n a w ha m g hm hg
  have RS := fun w => sread_n (a % 4294967296) w (by omega) m g (by rw [Nat.mod_mod]; exact hm) (by rw [Nat.mod_mod]; exact hg)
  have KLo := fun w => slow_n a ha w
  have KF : ∀ w, Tab0 w → 0 < w.heap.size → Hid (Calls Tryd.prog 32 #[.int .i64 139] w fun e w' => e = .returned (.tuple #[.int .i64 139, FVn]) ∧ Below w.heap.size w w') := fun w hT hz => fold_nb 139 w (by decide) (by decide) hT hz
  have KS : ∀ w, Hid (Calls Tryd.prog 22 #[.int .i64 139, .int .i64 139, .int .i64 153, .int .i64 7] w fun e w' => e = .returned (.tuple #[FSn, .int .i64 0]) ∧ Below w.heap.size w w') := fun w => which_n 139 w (by decide) (by decide) (by decide) (by decide)
  refine ⟨true, 0, ((a % 4294967296 % 2147483648 : Nat) : Int), fun w hT hz => ?_, fun w => ?_⟩
  · have KL := fun w => low_n (a : Int) w
    rw [low_n_m a ha] at KL
    have h := if1_n_139 139 a _ _ _ _ _ w hT hz KF RI _ KL
    rw [mag_n_m (a % 4294967296) hAl] at h
    exact h
  · have h := sf1_n_0 139 a _ _ _ _ _ w KS KLo RS (by omega)
    rw [show ((a % 4294967296 : Nat) : Int) % 2147483648 = ((a % 4294967296 % 2147483648 : Nat) : Int) by omega] at h
    exact h
theorem b1_140 (a : Nat) (ha : a < 18446744073709551616) : B1 140 a := by
  obtain ⟨m, hm⟩ : ∃ m, m = a % 4294967296 % 2147483648 := ⟨_, rfl⟩
  obtain ⟨g, hg⟩ : ∃ g, g = decide (2147483648 ≤ a % 4294967296) := ⟨_, rfl⟩
  have hml : m < 2147483648 := by omega
  have hAl : a % 4294967296 < 4294967296 := Nat.mod_lt _ (by decide)
  have RI := fun w => iread_n a w ha m g hm hg
  have RS := fun w => sread_n (a % 4294967296) w (by omega) m g (by rw [Nat.mod_mod]; exact hm) (by rw [Nat.mod_mod]; exact hg)
  have KLo := fun w => slow_n a ha w
  have KF : ∀ w, Tab0 w → 0 < w.heap.size → Hid (Calls Tryd.prog 32 #[.int .i64 140] w fun e w' => e = .returned (.tuple #[.int .i64 140, FVn]) ∧ Below w.heap.size w w') := fun w hT hz => fold_nb 140 w (by decide) (by decide) hT hz
  have KS : ∀ w, Hid (Calls Tryd.prog 22 #[.int .i64 140, .int .i64 139, .int .i64 153, .int .i64 7] w fun e w' => e = .returned (.tuple #[FSn, .int .i64 1]) ∧ Below w.heap.size w w') := fun w => which_n 140 w (by decide) (by decide) (by decide) (by decide)
  refine ⟨true, 0, bits .xor .u64 ((a % 4294967296 : Nat) : Int) 2147483648, fun w hT hz => ?_, fun w => sf1_n_1 140 a _ _ _ _ _ w KS KLo RS (by omega)⟩
  have KL := fun w => low_n (a : Int) w
  rw [low_n_m a ha] at KL
  exact if1_n_140 140 a _ _ _ _ _ w hT hz KF RI _ KL
theorem b1_141 (a : Nat) (ha : a < 18446744073709551616) : B1 141 a := by
  obtain ⟨m, hm⟩ : ∃ m, m = a % 4294967296 % 2147483648 := ⟨_, rfl⟩
  obtain ⟨g, hg⟩ : ∃ g, g = decide (2147483648 ≤ a % 4294967296) := ⟨_, rfl⟩
  have hml : m < 2147483648 := by omega
  have hAl : a % 4294967296 < 4294967296 := Nat.mod_lt _ (by decide)
  have RI := fun w => iread_n a w ha m g hm hg
  have RS := fun w => sread_n (a % 4294967296) w (by omega) m g (by rw [Nat.mod_mod]; exact hm) (by rw [Nat.mod_mod]; exact hg)
  have KLo := fun w => slow_n a ha w
  have KF : ∀ w, Tab0 w → 0 < w.heap.size → Hid (Calls Tryd.prog 32 #[.int .i64 141] w fun e w' => e = .returned (.tuple #[.int .i64 141, FVn]) ∧ Below w.heap.size w w') := fun w hT hz => fold_nb 141 w (by decide) (by decide) hT hz
  have KS : ∀ w, Hid (Calls Tryd.prog 22 #[.int .i64 141, .int .i64 139, .int .i64 153, .int .i64 7] w fun e w' => e = .returned (.tuple #[FSn, .int .i64 2]) ∧ Below w.heap.size w w') := fun w => which_n 141 w (by decide) (by decide) (by decide) (by decide)
  have hx := ex_n_b m hml
  have hs := mt_n_b m
  have hz0 := mt_n_z m
  have hkk := kd_n_k m
  have hs60 : bl (mt_n m) ≤ 60 := bl60 (by omega)
  by_cases hk : kd_n m = 0
  · have hnot : ¬ 2139095040 < m := by intro h; unfold kd_n at hk; rw [if_pos h] at hk; omega
    rw [hk, if_neg hnot] at RI
    rw [hk] at RS
    generalize ex_n m = x at *
    generalize mt_n m = s at *
    have KX := fun w => iwhole_any g x 1 s w (by omega) (by omega) (by omega) (by omega) (by omega)
    by_cases hxp : 0 ≤ x
    · simp only [if_pos hxp] at KX
      refine ⟨true, 0, wr_n 0 g s x, fun w hT hz => if1_n_141 141 a _ _ _ _ _ w hT hz KF RI _ _ _ _ _ _ KX (fun w => write_n 0 g x s w (.inl rfl) (by omega) (by omega) (by omega)), fun w => ?_⟩
      have e : wr_n 0 g s x = sg_n g + (rnd 24 8 (-149) (s * 2 ^ x.toNat) 0 false : Nat) := by
        have e2 : rnd 24 8 (-149) (s * 2 ^ x.toNat) 0 false = rnd 24 8 (-149) s x false := by
          by_cases h0 : s = 0
          · subst h0; unfold rnd; simp
          · have h := rnd_shift (p := 24) (e := 8) (L := -149) (s := s) (j := x.toNat) (E := x) h0
            rw [show x - ((x.toNat : Nat) : Int) = 0 by omega] at h
            exact h
        rw [e2]; rfl
      rw [e]
      have hbt := bl_mul_le s x.toNat
      exact sf1_n_2f 141 a _ _ _ _ w KS KLo RS _ _ (fun v w hS => whole_pos 0 g v s x 0 w (by omega) hxp (by omega) hS) (fun v w hS => round_n g false _ 0 v w (by omega) (by omega) (by omega) hS)
    · simp only [if_neg hxp] at KX
      have hwl := wh_lt 1 g s x hxp
      refine ⟨true, 0, wr_n 0 g (wh 1 g s x) 0, fun w hT hz => if1_n_141 141 a _ _ _ _ _ w hT hz KF RI _ _ _ _ _ _ KX (fun w => write_n 0 g 0 _ w (.inl rfl) (by omega) (by omega) (by omega)), fun w => ?_⟩
      have hbt : bl (wh 1 g s x) ≤ 4000 := Nat.le_trans (bl60 (by omega)) (by decide)
      exact sf1_n_2f 141 a _ _ _ _ w KS KLo RS _ _ (fun v w hS => whole_neg_0 0 g v s x w (by omega) (by omega) (by omega) hS) (fun v w hS => round_n g false _ 0 v w hbt (by omega) (by omega) hS)
  · have hg2 : wr_n (kd_n m) (if 2139095040 < m then false else g) (mt_n m) (ex_n m) = wr_n (kd_n m) g (mt_n m) (ex_n m) := by
      by_cases h : 2139095040 < m
      · have e : kd_n m = 2 := by unfold kd_n; rw [if_pos h]
        rw [e]; rfl
      · rw [if_neg h]
    refine ⟨true, 0, wr_n (kd_n m) g (mt_n m) (ex_n m), fun w hT hz => ?_, fun w => ?_⟩
    · refine if1_n_141 141 a _ _ _ _ _ w hT hz KF RI _ _ _ _ _ _ (fun w => iwhole_k _ _ _ _ _ 1 w hk) (fun w => ?_)
      have h := write_n (kd_n m) (if 2139095040 < m then false else g) (ex_n m) (mt_n m) w hkk (by omega) (by omega) (by omega)
      rw [hg2] at h
      exact h
    · exact sf1_n_2k 141 a _ _ _ _ _ w KS KLo RS (by rw [bne_iff_ne]; exact hk) _ (fun v w hS => swrite_n _ g _ _ v w hkk (by omega) (by omega) (by omega) hS)
theorem b1_142 (a : Nat) (ha : a < 18446744073709551616) : B1 142 a := by
  obtain ⟨m, hm⟩ : ∃ m, m = a % 4294967296 % 2147483648 := ⟨_, rfl⟩
  obtain ⟨g, hg⟩ : ∃ g, g = decide (2147483648 ≤ a % 4294967296) := ⟨_, rfl⟩
  have hml : m < 2147483648 := by omega
  have hAl : a % 4294967296 < 4294967296 := Nat.mod_lt _ (by decide)
  have RI := fun w => iread_n a w ha m g hm hg
  have RS := fun w => sread_n (a % 4294967296) w (by omega) m g (by rw [Nat.mod_mod]; exact hm) (by rw [Nat.mod_mod]; exact hg)
  have KLo := fun w => slow_n a ha w
  have KF : ∀ w, Tab0 w → 0 < w.heap.size → Hid (Calls Tryd.prog 32 #[.int .i64 142] w fun e w' => e = .returned (.tuple #[.int .i64 142, FVn]) ∧ Below w.heap.size w w') := fun w hT hz => fold_nb 142 w (by decide) (by decide) hT hz
  have KS : ∀ w, Hid (Calls Tryd.prog 22 #[.int .i64 142, .int .i64 139, .int .i64 153, .int .i64 7] w fun e w' => e = .returned (.tuple #[FSn, .int .i64 3]) ∧ Below w.heap.size w w') := fun w => which_n 142 w (by decide) (by decide) (by decide) (by decide)
  have hx := ex_n_b m hml
  have hs := mt_n_b m
  have hz0 := mt_n_z m
  have hkk := kd_n_k m
  have hs60 : bl (mt_n m) ≤ 60 := bl60 (by omega)
  by_cases hk : kd_n m = 0
  · have hnot : ¬ 2139095040 < m := by intro h; unfold kd_n at hk; rw [if_pos h] at hk; omega
    rw [hk, if_neg hnot] at RI
    rw [hk] at RS
    generalize ex_n m = x at *
    generalize mt_n m = s at *
    have KX := fun w => iwhole_any g x 2 s w (by omega) (by omega) (by omega) (by omega) (by omega)
    by_cases hxp : 0 ≤ x
    · simp only [if_pos hxp] at KX
      refine ⟨true, 0, wr_n 0 g s x, fun w hT hz => if1_n_142 142 a _ _ _ _ _ w hT hz KF RI _ _ _ _ _ _ KX (fun w => write_n 0 g x s w (.inl rfl) (by omega) (by omega) (by omega)), fun w => ?_⟩
      have e : wr_n 0 g s x = sg_n g + (rnd 24 8 (-149) (s * 2 ^ x.toNat) 0 false : Nat) := by
        have e2 : rnd 24 8 (-149) (s * 2 ^ x.toNat) 0 false = rnd 24 8 (-149) s x false := by
          by_cases h0 : s = 0
          · subst h0; unfold rnd; simp
          · have h := rnd_shift (p := 24) (e := 8) (L := -149) (s := s) (j := x.toNat) (E := x) h0
            rw [show x - ((x.toNat : Nat) : Int) = 0 by omega] at h
            exact h
        rw [e2]; rfl
      rw [e]
      have hbt := bl_mul_le s x.toNat
      exact sf1_n_3f 142 a _ _ _ _ w KS KLo RS _ _ (fun v w hS => whole_pos 0 g v s x 1 w (by omega) hxp (by omega) hS) (fun v w hS => round_n g false _ 0 v w (by omega) (by omega) (by omega) hS)
    · simp only [if_neg hxp] at KX
      have hwl := wh_lt 2 g s x hxp
      refine ⟨true, 0, wr_n 0 g (wh 2 g s x) 0, fun w hT hz => if1_n_142 142 a _ _ _ _ _ w hT hz KF RI _ _ _ _ _ _ KX (fun w => write_n 0 g 0 _ w (.inl rfl) (by omega) (by omega) (by omega)), fun w => ?_⟩
      have hbt : bl (wh 2 g s x) ≤ 4000 := Nat.le_trans (bl60 (by omega)) (by decide)
      exact sf1_n_3f 142 a _ _ _ _ w KS KLo RS _ _ (fun v w hS => whole_neg_1 0 g v s x w (by omega) (by omega) (by omega) hS) (fun v w hS => round_n g false _ 0 v w hbt (by omega) (by omega) hS)
  · have hg2 : wr_n (kd_n m) (if 2139095040 < m then false else g) (mt_n m) (ex_n m) = wr_n (kd_n m) g (mt_n m) (ex_n m) := by
      by_cases h : 2139095040 < m
      · have e : kd_n m = 2 := by unfold kd_n; rw [if_pos h]
        rw [e]; rfl
      · rw [if_neg h]
    refine ⟨true, 0, wr_n (kd_n m) g (mt_n m) (ex_n m), fun w hT hz => ?_, fun w => ?_⟩
    · refine if1_n_142 142 a _ _ _ _ _ w hT hz KF RI _ _ _ _ _ _ (fun w => iwhole_k _ _ _ _ _ 2 w hk) (fun w => ?_)
      have h := write_n (kd_n m) (if 2139095040 < m then false else g) (ex_n m) (mt_n m) w hkk (by omega) (by omega) (by omega)
      rw [hg2] at h
      exact h
    · exact sf1_n_3k 142 a _ _ _ _ _ w KS KLo RS (by rw [bne_iff_ne]; exact hk) _ (fun v w hS => swrite_n _ g _ _ v w hkk (by omega) (by omega) (by omega) hS)
theorem b1_143 (a : Nat) (ha : a < 18446744073709551616) : B1 143 a := by
  obtain ⟨m, hm⟩ : ∃ m, m = a % 4294967296 % 2147483648 := ⟨_, rfl⟩
  obtain ⟨g, hg⟩ : ∃ g, g = decide (2147483648 ≤ a % 4294967296) := ⟨_, rfl⟩
  have hml : m < 2147483648 := by omega
  have hAl : a % 4294967296 < 4294967296 := Nat.mod_lt _ (by decide)
  have RI := fun w => iread_n a w ha m g hm hg
  have RS := fun w => sread_n (a % 4294967296) w (by omega) m g (by rw [Nat.mod_mod]; exact hm) (by rw [Nat.mod_mod]; exact hg)
  have KLo := fun w => slow_n a ha w
  have KF : ∀ w, Tab0 w → 0 < w.heap.size → Hid (Calls Tryd.prog 32 #[.int .i64 143] w fun e w' => e = .returned (.tuple #[.int .i64 143, FVn]) ∧ Below w.heap.size w w') := fun w hT hz => fold_nb 143 w (by decide) (by decide) hT hz
  have KS : ∀ w, Hid (Calls Tryd.prog 22 #[.int .i64 143, .int .i64 139, .int .i64 153, .int .i64 7] w fun e w' => e = .returned (.tuple #[FSn, .int .i64 4]) ∧ Below w.heap.size w w') := fun w => which_n 143 w (by decide) (by decide) (by decide) (by decide)
  have hx := ex_n_b m hml
  have hs := mt_n_b m
  have hz0 := mt_n_z m
  have hkk := kd_n_k m
  have hs60 : bl (mt_n m) ≤ 60 := bl60 (by omega)
  by_cases hk : kd_n m = 0
  · have hnot : ¬ 2139095040 < m := by intro h; unfold kd_n at hk; rw [if_pos h] at hk; omega
    rw [hk, if_neg hnot] at RI
    rw [hk] at RS
    generalize ex_n m = x at *
    generalize mt_n m = s at *
    have KX := fun w => iwhole_any g x 3 s w (by omega) (by omega) (by omega) (by omega) (by omega)
    by_cases hxp : 0 ≤ x
    · simp only [if_pos hxp] at KX
      refine ⟨true, 0, wr_n 0 g s x, fun w hT hz => if1_n_143 143 a _ _ _ _ _ w hT hz KF RI _ _ _ _ _ _ KX (fun w => write_n 0 g x s w (.inl rfl) (by omega) (by omega) (by omega)), fun w => ?_⟩
      have e : wr_n 0 g s x = sg_n g + (rnd 24 8 (-149) (s * 2 ^ x.toNat) 0 false : Nat) := by
        have e2 : rnd 24 8 (-149) (s * 2 ^ x.toNat) 0 false = rnd 24 8 (-149) s x false := by
          by_cases h0 : s = 0
          · subst h0; unfold rnd; simp
          · have h := rnd_shift (p := 24) (e := 8) (L := -149) (s := s) (j := x.toNat) (E := x) h0
            rw [show x - ((x.toNat : Nat) : Int) = 0 by omega] at h
            exact h
        rw [e2]; rfl
      rw [e]
      have hbt := bl_mul_le s x.toNat
      exact sf1_n_4f 143 a _ _ _ _ w KS KLo RS _ _ (fun v w hS => whole_pos 0 g v s x 2 w (by omega) hxp (by omega) hS) (fun v w hS => round_n g false _ 0 v w (by omega) (by omega) (by omega) hS)
    · simp only [if_neg hxp] at KX
      have hwl := wh_lt 3 g s x hxp
      refine ⟨true, 0, wr_n 0 g (wh 3 g s x) 0, fun w hT hz => if1_n_143 143 a _ _ _ _ _ w hT hz KF RI _ _ _ _ _ _ KX (fun w => write_n 0 g 0 _ w (.inl rfl) (by omega) (by omega) (by omega)), fun w => ?_⟩
      have hbt : bl (wh 3 g s x) ≤ 4000 := Nat.le_trans (bl60 (by omega)) (by decide)
      exact sf1_n_4f 143 a _ _ _ _ w KS KLo RS _ _ (fun v w hS => whole_neg_2 0 g v s x w (by omega) (by omega) (by omega) hS) (fun v w hS => round_n g false _ 0 v w hbt (by omega) (by omega) hS)
  · have hg2 : wr_n (kd_n m) (if 2139095040 < m then false else g) (mt_n m) (ex_n m) = wr_n (kd_n m) g (mt_n m) (ex_n m) := by
      by_cases h : 2139095040 < m
      · have e : kd_n m = 2 := by unfold kd_n; rw [if_pos h]
        rw [e]; rfl
      · rw [if_neg h]
    refine ⟨true, 0, wr_n (kd_n m) g (mt_n m) (ex_n m), fun w hT hz => ?_, fun w => ?_⟩
    · refine if1_n_143 143 a _ _ _ _ _ w hT hz KF RI _ _ _ _ _ _ (fun w => iwhole_k _ _ _ _ _ 3 w hk) (fun w => ?_)
      have h := write_n (kd_n m) (if 2139095040 < m then false else g) (ex_n m) (mt_n m) w hkk (by omega) (by omega) (by omega)
      rw [hg2] at h
      exact h
    · exact sf1_n_4k 143 a _ _ _ _ _ w KS KLo RS (by rw [bne_iff_ne]; exact hk) _ (fun v w hS => swrite_n _ g _ _ v w hkk (by omega) (by omega) (by omega) hS)
theorem b1_144 (a : Nat) (ha : a < 18446744073709551616) : B1 144 a := by
  obtain ⟨m, hm⟩ : ∃ m, m = a % 4294967296 % 2147483648 := ⟨_, rfl⟩
  obtain ⟨g, hg⟩ : ∃ g, g = decide (2147483648 ≤ a % 4294967296) := ⟨_, rfl⟩
  have hml : m < 2147483648 := by omega
  have hAl : a % 4294967296 < 4294967296 := Nat.mod_lt _ (by decide)
  have RI := fun w => iread_n a w ha m g hm hg
  have RS := fun w => sread_n (a % 4294967296) w (by omega) m g (by rw [Nat.mod_mod]; exact hm) (by rw [Nat.mod_mod]; exact hg)
  have KLo := fun w => slow_n a ha w
  have KF : ∀ w, Tab0 w → 0 < w.heap.size → Hid (Calls Tryd.prog 32 #[.int .i64 144] w fun e w' => e = .returned (.tuple #[.int .i64 144, FVn]) ∧ Below w.heap.size w w') := fun w hT hz => fold_nb 144 w (by decide) (by decide) hT hz
  have KS : ∀ w, Hid (Calls Tryd.prog 22 #[.int .i64 144, .int .i64 139, .int .i64 153, .int .i64 7] w fun e w' => e = .returned (.tuple #[FSn, .int .i64 5]) ∧ Below w.heap.size w w') := fun w => which_n 144 w (by decide) (by decide) (by decide) (by decide)
  have hx := ex_n_b m hml
  have hs := mt_n_b m
  have hz0 := mt_n_z m
  have hkk := kd_n_k m
  have hs60 : bl (mt_n m) ≤ 60 := bl60 (by omega)
  by_cases hk : kd_n m = 0
  · have hnot : ¬ 2139095040 < m := by intro h; unfold kd_n at hk; rw [if_pos h] at hk; omega
    rw [hk, if_neg hnot] at RI
    rw [hk] at RS
    generalize ex_n m = x at *
    generalize mt_n m = s at *
    have KX := fun w => iwhole_any g x 0 s w (by omega) (by omega) (by omega) (by omega) (by omega)
    by_cases hxp : 0 ≤ x
    · simp only [if_pos hxp] at KX
      refine ⟨true, 0, wr_n 0 g s x, fun w hT hz => if1_n_144 144 a _ _ _ _ _ w hT hz KF RI _ _ _ _ _ _ KX (fun w => write_n 0 g x s w (.inl rfl) (by omega) (by omega) (by omega)), fun w => ?_⟩
      have e : wr_n 0 g s x = sg_n g + (rnd 24 8 (-149) (s * 2 ^ x.toNat) 0 false : Nat) := by
        have e2 : rnd 24 8 (-149) (s * 2 ^ x.toNat) 0 false = rnd 24 8 (-149) s x false := by
          by_cases h0 : s = 0
          · subst h0; unfold rnd; simp
          · have h := rnd_shift (p := 24) (e := 8) (L := -149) (s := s) (j := x.toNat) (E := x) h0
            rw [show x - ((x.toNat : Nat) : Int) = 0 by omega] at h
            exact h
        rw [e2]; rfl
      rw [e]
      have hbt := bl_mul_le s x.toNat
      exact sf1_n_5f 144 a _ _ _ _ w KS KLo RS _ _ (fun v w hS => whole_pos 0 g v s x 3 w (by omega) hxp (by omega) hS) (fun v w hS => round_n g false _ 0 v w (by omega) (by omega) (by omega) hS)
    · simp only [if_neg hxp] at KX
      have hwl := wh_lt 0 g s x hxp
      refine ⟨true, 0, wr_n 0 g (wh 0 g s x) 0, fun w hT hz => if1_n_144 144 a _ _ _ _ _ w hT hz KF RI _ _ _ _ _ _ KX (fun w => write_n 0 g 0 _ w (.inl rfl) (by omega) (by omega) (by omega)), fun w => ?_⟩
      have hbt : bl (wh 0 g s x) ≤ 4000 := Nat.le_trans (bl60 (by omega)) (by decide)
      exact sf1_n_5f 144 a _ _ _ _ w KS KLo RS _ _ (fun v w hS => whole_neg_3 0 g v s x w (by omega) (by omega) (by omega) hS) (fun v w hS => round_n g false _ 0 v w hbt (by omega) (by omega) hS)
  · have hg2 : wr_n (kd_n m) (if 2139095040 < m then false else g) (mt_n m) (ex_n m) = wr_n (kd_n m) g (mt_n m) (ex_n m) := by
      by_cases h : 2139095040 < m
      · have e : kd_n m = 2 := by unfold kd_n; rw [if_pos h]
        rw [e]; rfl
      · rw [if_neg h]
    refine ⟨true, 0, wr_n (kd_n m) g (mt_n m) (ex_n m), fun w hT hz => ?_, fun w => ?_⟩
    · refine if1_n_144 144 a _ _ _ _ _ w hT hz KF RI _ _ _ _ _ _ (fun w => iwhole_k _ _ _ _ _ 0 w hk) (fun w => ?_)
      have h := write_n (kd_n m) (if 2139095040 < m then false else g) (ex_n m) (mt_n m) w hkk (by omega) (by omega) (by omega)
      rw [hg2] at h
      exact h
    · exact sf1_n_5k 144 a _ _ _ _ _ w KS KLo RS (by rw [bne_iff_ne]; exact hk) _ (fun v w hS => swrite_n _ g _ _ v w hkk (by omega) (by omega) (by omega) hS)
theorem b1_145 (a : Nat) (ha : a < 18446744073709551616) : B1 145 a := by
  obtain ⟨m, hm⟩ : ∃ m, m = a % 4294967296 % 2147483648 := ⟨_, rfl⟩
  obtain ⟨g, hg⟩ : ∃ g, g = decide (2147483648 ≤ a % 4294967296) := ⟨_, rfl⟩
  have hml : m < 2147483648 := by omega
  have hAl : a % 4294967296 < 4294967296 := Nat.mod_lt _ (by decide)
  have RI := fun w => iread_n a w ha m g hm hg
  have RS := fun w => sread_n (a % 4294967296) w (by omega) m g (by rw [Nat.mod_mod]; exact hm) (by rw [Nat.mod_mod]; exact hg)
  have KLo := fun w => slow_n a ha w
  have KF : ∀ w, Tab0 w → 0 < w.heap.size → Hid (Calls Tryd.prog 32 #[.int .i64 145] w fun e w' => e = .returned (.tuple #[.int .i64 145, FVn]) ∧ Below w.heap.size w w') := fun w hT hz => fold_nb 145 w (by decide) (by decide) hT hz
  have KS : ∀ w, Hid (Calls Tryd.prog 22 #[.int .i64 145, .int .i64 139, .int .i64 153, .int .i64 7] w fun e w' => e = .returned (.tuple #[FSn, .int .i64 6]) ∧ Below w.heap.size w w') := fun w => which_n 145 w (by decide) (by decide) (by decide) (by decide)
  have hx := ex_n_b m hml
  have hs := mt_n_b m
  have hz0 := mt_n_z m
  have hkk := kd_n_k m
  have hs60 : bl (mt_n m) ≤ 60 := bl60 (by omega)
  rcases hkk with hk | hk | hk
  · have hnot : ¬ 2139095040 < m := by intro h; unfold kd_n at hk; rw [if_pos h] at hk; omega
    rw [hk, if_neg hnot] at RI
    rw [hk] at RS
    have hz0 := hz0 hk
    generalize ex_n m = x at *
    generalize mt_n m = s at *
    have hs128 : s < 340282366920938463463374607431768211456 := by omega
    have KZ := fun w => nzero_key 0 g x ((s % 18446744073709551616 : Nat) : Int) ((s / 18446744073709551616 : Nat) : Int) (decide (s = 0)) w (fun w => isZero_any s w hs128)
    have KZs := fun (v : Value) (w : World) (hS : SN w v s) => szero_key 0 g v x s w (by omega) hS
    by_cases h0 : s = 0
    · rw [show (decide ((0 : Int) = 0) && decide (s = 0)) = true by simp [h0]] at KZ KZs
      refine ⟨true, 0, wr_n 0 g s x, fun w hT hz => if1_n_145 145 a _ _ _ _ _ w hT hz KF RI _ _ _ _ _ _ (fun w => iroot_z g x _ _ w KZ) (fun w => write_n 0 g x s w (.inl rfl) (by omega) (by omega) (by omega)), fun w => ?_⟩
      refine sf1_n_6 145 a _ _ _ _ _ w KS KLo RS _ (fun v w hS => ?_)
      have KW := fun w hS => swrite_n 0 g x s v w (.inl rfl) (by omega) (by omega) (by omega) hS
      cases g
      · exact sroot_n_zf v x s w hS (fun w hS => KZs v w hS) _ KW
      · exact sroot_n_zt v x s w hS (fun w hS => KZs v w hS) _ KW
    · rw [show (decide ((0 : Int) = 0) && decide (s = 0)) = false by simp [h0]] at KZ KZs
      cases g
      · have hb1 := bl_pos h0
        have hbs : bl s ≤ 24 := bl_le (by rw [show 2 ^ 24 = 16777216 by decide]; exact hs)
        obtain ⟨pl, h, R, hpl, hph, hR, KX⟩ : ∃ (pl : Nat) (h : Int) (R : Nat), (127 ≤ bl s + pl ∧ bl s + pl ≤ 128) ∧ x - pl = 2 * h ∧ IsR (s * 2 ^ pl) R ∧ (∀ w, Hid (Calls Tryd.prog 38 #[N2 0 false x s] w fun e w' => e = .returned (N2 0 false h (if decide (R * R ≠ s * 2 ^ pl) then R + (1 - R % 2) else R)) ∧ Below w.heap.size w w')) := by
          have KL := fun w => lift_any 0 false x 127 s w hs128 h0 (by omega) (by omega) (by omega) (by omega)
          obtain ⟨pl, hpl⟩ : ∃ pl : Nat, pl = 127 - bl s := ⟨_, rfl⟩
          have e1 : (127 - (bl s : Int)).toNat = pl := by omega
          have e2 : (127 - (bl s : Int)) = (pl : Int) := by omega
          rw [e1, e2] at KL
          have hlt : ∀ q : Nat, bl s + q ≤ 128 → s * 2 ^ q < 340282366920938463463374607431768211456 := fun q hq => by
            have h1 := bl_lt (s * 2 ^ q)
            rw [bl_mul h0] at h1
            have h2 := pow_le hq
            rw [← M128_pow] at h2
            omega
          by_cases hpar : (x - (pl : Int)) % 2 = 0
          · obtain ⟨R, hR⟩ := isR_ex (s * 2 ^ pl)
            obtain ⟨h, hh⟩ : ∃ h, x - (pl : Int) = 2 * h := ⟨(x - pl) / 2, by omega⟩
            refine ⟨pl, h, R, by omega, hh, hR, fun w => ?_⟩
            rw [hh] at KL
            refine (iroot_0 x _ _ _ _ h (s * 2 ^ pl) w (hlt pl (by omega)) rfl rfl (by omega) (by omega) KZ KL).mono ?_
            rintro e w' ⟨⟨R', hR', _, rfl⟩, hb⟩
            rw [isR_eq hR hR']
            exact ⟨rfl, hb⟩
          · obtain ⟨R, hR⟩ := isR_ex (s * 2 ^ (pl + 1))
            obtain ⟨h, hh⟩ : ∃ h, x - ((pl + 1 : Nat) : Int) = 2 * h := ⟨(x - (pl + 1 : Nat)) / 2, by omega⟩
            refine ⟨pl + 1, h, R, by omega, hh, hR, fun w => ?_⟩
            have hb2 := bl_mul h0 pl
            have h20 : s * 2 ^ pl ≠ 0 := by intro h; rw [h, bl_zero] at hb2; omega
            have KL2 := fun w => lift_any 0 false (x - pl) 128 (s * 2 ^ pl) w (hlt pl (by omega)) h20 (by omega) (by omega) (by omega) (by omega)
            have e3 : (128 - (bl (s * 2 ^ pl) : Int)) = 1 := by omega
            have e5 : s * 2 ^ pl * 2 ^ (1 : Int).toNat = s * 2 ^ (pl + 1) := by rw [show (1 : Int).toNat = 1 by decide, Nat.mul_assoc, ← Nat.pow_succ]
            rw [e3, e5, show x - (pl : Int) - 1 = 2 * h by omega] at KL2
            refine (iroot_1 x _ _ _ _ h (x - pl) _ _ (s * 2 ^ (pl + 1)) w (hlt (pl + 1) (by omega)) rfl rfl (by omega) (by omega) KZ KL (by rw [bne_iff_ne, Int.tmod_def]; omega) KL2).mono ?_
            rintro e w' ⟨⟨R', hR', _, rfl⟩, hb⟩
            rw [isR_eq hR hR']
            exact ⟨rfl, hb⟩
        have hRl : R < 18446744073709551616 * 2 := by
          by_cases hc : R < 18446744073709551616 * 2
          · exact hc
          · have h1 := Nat.mul_le_mul (show 18446744073709551616 * 2 ≤ R by omega) (show 18446744073709551616 * 2 ≤ R by omega)
            have h2 := hR.1
            have h3 := bl_lt (s * 2 ^ pl)
            rw [bl_mul h0] at h3
            have h4 := pow_le hpl.2
            rw [← M128_pow] at h4
            omega
        obtain ⟨n, r, hn, hnp, hr, KR⟩ : ∃ (n r : Nat), 52 ≤ n ∧ (x - n) % 2 = 0 ∧ IsR (s * 2 ^ n) r ∧ (∀ v w, SN w v s → Hid (Calls Tryd.prog 28 #[FSn, SV 0 false v x] w fun e w' => e = .returned (.int .u64 ((rnd 24 8 (-149) r ((x - n) / 2) (decide (r * r ≠ s * 2 ^ n)) : Nat) : Int)) ∧ Below w.heap.size w w')) := by
          by_cases hpar : (x - 52) % 2 = 0
          · obtain ⟨r, hr⟩ := isR_ex (s * 2 ^ 52)
            refine ⟨52, r, by omega, by omega, hr, fun v w hS => ?_⟩
            refine (sroot_n_0 v x ((x - 52) / 2) s w hs60 h0 hx.1 hx.2 hS (by omega)).mono ?_
            rintro e w' ⟨⟨r', hr', rfl⟩, hb⟩
            rw [isR_eq hr hr']
            exact ⟨rfl, hb⟩
          · obtain ⟨r, hr⟩ := isR_ex (s * 2 ^ 53)
            refine ⟨53, r, by omega, by omega, hr, fun v w hS => ?_⟩
            refine (sroot_n_1 v x ((x - 53) / 2) s w hs60 h0 hx.1 hx.2 hS (by omega)).mono ?_
            rintro e w' ⟨⟨r', hr', rfl⟩, hb⟩
            rw [isR_eq hr hr']
            exact ⟨rfl, hb⟩
        have hq := root_eq (p := 24) (e := 8) (L := -149) (ex := x) h0 hr hR hnp (by omega) (by omega) (by omega)
        rw [show (x - (pl : Int)) / 2 = h by omega] at hq
        refine ⟨true, 0, _, fun w hT hz => ?_, fun w => sf1_n_6 145 a _ _ _ _ _ w KS KLo RS _ KR⟩
        rw [← hq]
        refine if1_n_145 145 a _ _ _ _ _ w hT hz KF RI _ _ _ _ _ _ KX (fun w => ?_)
        have hw := write_n 0 false h (if decide (R * R ≠ s * 2 ^ pl) then R + (1 - R % 2) else R) w (.inl rfl) (by split <;> omega) (by omega) (by omega)
        have ew : wr_n 0 false (if decide (R * R ≠ s * 2 ^ pl) then R + (1 - R % 2) else R) h = ((rnd 24 8 (-149) (if decide (R * R ≠ s * 2 ^ pl) then R + (1 - R % 2) else R) h false : Nat) : Int) := by
          unfold wr_n; simp [sg_n]
        rw [ew] at hw
        exact hw
      · refine ⟨true, 0, 2143289344, fun w hT hz => if1_n_145 145 a _ _ _ _ _ w hT hz KF RI _ _ _ _ _ _ (fun w => iroot_g0 x _ _ w KZ) (fun w => write_n_2 false 0 0 0 w), fun w => ?_⟩
        exact sf1_n_6 145 a _ _ _ _ _ w KS KLo RS _ (fun v w hS => sroot_n_g0 v x s w hS (fun w hS => KZs v w hS))
  · have hnot : ¬ 2139095040 < m := by intro h; unfold kd_n at hk; rw [if_pos h] at hk; omega
    rw [hk, if_neg hnot] at RI
    rw [hk] at RS
    generalize ex_n m = x at *
    generalize mt_n m = s at *
    have hs128 : s < 340282366920938463463374607431768211456 := by omega
    have KZ := fun w => nzero_key 1 g x ((s % 18446744073709551616 : Nat) : Int) ((s / 18446744073709551616 : Nat) : Int) (decide (s = 0)) w (fun w => isZero_any s w hs128)
    have KZs := fun (v : Value) (w : World) (hS : SN w v s) => szero_key 1 g v x s w (by omega) hS
    rw [show (decide ((1 : Int) = 0) && decide (s = 0)) = false by simp] at KZ KZs
    cases g
    · refine ⟨true, 0, wr_n 1 false s x, fun w hT hz => if1_n_145 145 a _ _ _ _ _ w hT hz KF RI _ _ _ _ _ _ (fun w => iroot_i x _ _ w KZ) (fun w => write_n 1 false x s w (.inr (.inl rfl)) hs128 (by omega) (by omega)), fun w => ?_⟩
      exact sf1_n_6 145 a _ _ _ _ _ w KS KLo RS _ (fun v w hS => sroot_n_i v x s w hS _ (fun w hS => swrite_n 1 false x s v w (.inr (.inl rfl)) (by omega) (by omega) (by omega) hS))
    · refine ⟨true, 0, 2143289344, fun w hT hz => if1_n_145 145 a _ _ _ _ _ w hT hz KF RI _ _ _ _ _ _ (fun w => iroot_g1 x _ _ w KZ) (fun w => write_n_2 false 0 0 0 w), fun w => ?_⟩
      exact sf1_n_6 145 a _ _ _ _ _ w KS KLo RS _ (fun v w hS => sroot_n_g1 v x s w hS (fun w hS => KZs v w hS))
  · have hyes : 2139095040 < m := by
      unfold kd_n at hk
      split at hk
      · assumption
      · split at hk <;> omega
    rw [hk, if_pos hyes] at RI
    rw [hk] at RS
    generalize ex_n m = x at *
    generalize mt_n m = s at *
    have hs128 : s < 340282366920938463463374607431768211456 := by omega
    have KZ := fun w => nzero_key 2 false x ((s % 18446744073709551616 : Nat) : Int) ((s / 18446744073709551616 : Nat) : Int) (decide (s = 0)) w (fun w => isZero_any s w hs128)
    rw [show (decide ((2 : Int) = 0) && decide (s = 0)) = false by simp] at KZ
    refine ⟨true, 0, 2143289344, fun w hT hz => if1_n_145 145 a _ _ _ _ _ w hT hz KF RI _ _ _ _ _ _ (fun w => iroot_n false x _ _ w KZ) (fun w => write_n_2 false 0 0 0 w), fun w => ?_⟩
    exact sf1_n_6 145 a _ _ _ _ _ w KS KLo RS _ (fun v w _ => sroot_n_n g v x w)
theorem slow_w (a : Nat) (ha : a < 18446744073709551616) (w : World) : Calls Tryd.prog 23 #[.int .u64 (a : Int), .int .i64 64] w fun e w' => e = .returned (.int .u64 ((a % 18446744073709551616 : Nat) : Int)) ∧ w = w' := by
  have h := low64 (a : Int) w
  have e : (a : Int) = ((a % 18446744073709551616 : Nat) : Int) := by omega
  rw [← e]; exact h
theorem b1_153 (a : Nat) (ha : a < 18446744073709551616) : B1 153 a := by
  obtain ⟨m, hm⟩ : ∃ m, m = a % 18446744073709551616 % 9223372036854775808 := ⟨_, rfl⟩
  obtain ⟨g, hg⟩ : ∃ g, g = decide (9223372036854775808 ≤ a % 18446744073709551616) := ⟨_, rfl⟩
  have hml : m < 9223372036854775808 := by omega
  have hAl : a % 18446744073709551616 < 18446744073709551616 := Nat.mod_lt _ (by decide)
  have RI := fun w => iread_w a w ha m g hm hg
  have RS := fun w => sread_w (a % 18446744073709551616) w (by omega) m g (by rw [Nat.mod_mod]; exact hm) (by rw [Nat.mod_mod]; exact hg)
  have KLo := fun w => slow_w a ha w
  have KF : ∀ w, Tab0 w → 0 < w.heap.size → Hid (Calls Tryd.prog 32 #[.int .i64 153] w fun e w' => e = .returned (.tuple #[.int .i64 139, FVw]) ∧ Below w.heap.size w w') := fun w hT hz => fold_wide 153 w (by decide) (by decide) hT hz
  have KS : ∀ w, Hid (Calls Tryd.prog 22 #[.int .i64 153, .int .i64 139, .int .i64 153, .int .i64 7] w fun e w' => e = .returned (.tuple #[FSw, .int .i64 0]) ∧ Below w.heap.size w w') := fun w => which_w 153 w (by decide) (by decide) (by decide) (by decide)
  refine ⟨true, 0, ((a % 18446744073709551616 % 9223372036854775808 : Nat) : Int), fun w hT hz => ?_, fun w => ?_⟩
  · have KL := fun w => low_w (a : Int) w
    rw [low_w_m a ha] at KL
    have h := if1_w_139 153 a _ _ _ _ _ w hT hz KF RI _ KL
    rw [mag_w_m (a % 18446744073709551616) hAl] at h
    exact h
  · have h := sf1_w_0 153 a _ _ _ _ _ w KS KLo RS (by omega)
    rw [show ((a % 18446744073709551616 : Nat) : Int) % 9223372036854775808 = ((a % 18446744073709551616 % 9223372036854775808 : Nat) : Int) by omega] at h
    exact h
theorem b1_154 (a : Nat) (ha : a < 18446744073709551616) : B1 154 a := by
  obtain ⟨m, hm⟩ : ∃ m, m = a % 18446744073709551616 % 9223372036854775808 := ⟨_, rfl⟩
  obtain ⟨g, hg⟩ : ∃ g, g = decide (9223372036854775808 ≤ a % 18446744073709551616) := ⟨_, rfl⟩
  have hml : m < 9223372036854775808 := by omega
  have hAl : a % 18446744073709551616 < 18446744073709551616 := Nat.mod_lt _ (by decide)
  have RI := fun w => iread_w a w ha m g hm hg
  have RS := fun w => sread_w (a % 18446744073709551616) w (by omega) m g (by rw [Nat.mod_mod]; exact hm) (by rw [Nat.mod_mod]; exact hg)
  have KLo := fun w => slow_w a ha w
  have KF : ∀ w, Tab0 w → 0 < w.heap.size → Hid (Calls Tryd.prog 32 #[.int .i64 154] w fun e w' => e = .returned (.tuple #[.int .i64 140, FVw]) ∧ Below w.heap.size w w') := fun w hT hz => fold_wide 154 w (by decide) (by decide) hT hz
  have KS : ∀ w, Hid (Calls Tryd.prog 22 #[.int .i64 154, .int .i64 139, .int .i64 153, .int .i64 7] w fun e w' => e = .returned (.tuple #[FSw, .int .i64 1]) ∧ Below w.heap.size w w') := fun w => which_w 154 w (by decide) (by decide) (by decide) (by decide)
  refine ⟨true, 0, bits .xor .u64 ((a % 18446744073709551616 : Nat) : Int) 9223372036854775808, fun w hT hz => ?_, fun w => sf1_w_1 154 a _ _ _ _ _ w KS KLo RS (by omega)⟩
  have KL := fun w => low_w (a : Int) w
  rw [low_w_m a ha] at KL
  exact if1_w_140 154 a _ _ _ _ _ w hT hz KF RI _ KL
theorem b1_155 (a : Nat) (ha : a < 18446744073709551616) : B1 155 a := by
  obtain ⟨m, hm⟩ : ∃ m, m = a % 18446744073709551616 % 9223372036854775808 := ⟨_, rfl⟩
  obtain ⟨g, hg⟩ : ∃ g, g = decide (9223372036854775808 ≤ a % 18446744073709551616) := ⟨_, rfl⟩
  have hml : m < 9223372036854775808 := by omega
  have hAl : a % 18446744073709551616 < 18446744073709551616 := Nat.mod_lt _ (by decide)
  have RI := fun w => iread_w a w ha m g hm hg
  have RS := fun w => sread_w (a % 18446744073709551616) w (by omega) m g (by rw [Nat.mod_mod]; exact hm) (by rw [Nat.mod_mod]; exact hg)
  have KLo := fun w => slow_w a ha w
  have KF : ∀ w, Tab0 w → 0 < w.heap.size → Hid (Calls Tryd.prog 32 #[.int .i64 155] w fun e w' => e = .returned (.tuple #[.int .i64 141, FVw]) ∧ Below w.heap.size w w') := fun w hT hz => fold_wide 155 w (by decide) (by decide) hT hz
  have KS : ∀ w, Hid (Calls Tryd.prog 22 #[.int .i64 155, .int .i64 139, .int .i64 153, .int .i64 7] w fun e w' => e = .returned (.tuple #[FSw, .int .i64 2]) ∧ Below w.heap.size w w') := fun w => which_w 155 w (by decide) (by decide) (by decide) (by decide)
  have hx := ex_w_b m hml
  have hs := mt_w_b m
  have hz0 := mt_w_z m
  have hkk := kd_w_k m
  have hs60 : bl (mt_w m) ≤ 60 := bl60 (by omega)
  by_cases hk : kd_w m = 0
  · have hnot : ¬ 9218868437227405312 < m := by intro h; unfold kd_w at hk; rw [if_pos h] at hk; omega
    rw [hk, if_neg hnot] at RI
    rw [hk] at RS
    generalize ex_w m = x at *
    generalize mt_w m = s at *
    have KX := fun w => iwhole_any g x 1 s w (by omega) (by omega) (by omega) (by omega) (by omega)
    by_cases hxp : 0 ≤ x
    · simp only [if_pos hxp] at KX
      refine ⟨true, 0, wr_w 0 g s x, fun w hT hz => if1_w_141 155 a _ _ _ _ _ w hT hz KF RI _ _ _ _ _ _ KX (fun w => write_w 0 g x s w (.inl rfl) (by omega) (by omega) (by omega)), fun w => ?_⟩
      have e : wr_w 0 g s x = sg_w g + (rnd 53 11 (-1074) (s * 2 ^ x.toNat) 0 false : Nat) := by
        have e2 : rnd 53 11 (-1074) (s * 2 ^ x.toNat) 0 false = rnd 53 11 (-1074) s x false := by
          by_cases h0 : s = 0
          · subst h0; unfold rnd; simp
          · have h := rnd_shift (p := 53) (e := 11) (L := -1074) (s := s) (j := x.toNat) (E := x) h0
            rw [show x - ((x.toNat : Nat) : Int) = 0 by omega] at h
            exact h
        rw [e2]; rfl
      rw [e]
      have hbt := bl_mul_le s x.toNat
      exact sf1_w_2f 155 a _ _ _ _ w KS KLo RS _ _ (fun v w hS => whole_pos 0 g v s x 0 w (by omega) hxp (by omega) hS) (fun v w hS => round_w g false _ 0 v w (by omega) (by omega) (by omega) hS)
    · simp only [if_neg hxp] at KX
      have hwl := wh_lt 1 g s x hxp
      refine ⟨true, 0, wr_w 0 g (wh 1 g s x) 0, fun w hT hz => if1_w_141 155 a _ _ _ _ _ w hT hz KF RI _ _ _ _ _ _ KX (fun w => write_w 0 g 0 _ w (.inl rfl) (by omega) (by omega) (by omega)), fun w => ?_⟩
      have hbt : bl (wh 1 g s x) ≤ 4000 := Nat.le_trans (bl60 (by omega)) (by decide)
      exact sf1_w_2f 155 a _ _ _ _ w KS KLo RS _ _ (fun v w hS => whole_neg_0 0 g v s x w (by omega) (by omega) (by omega) hS) (fun v w hS => round_w g false _ 0 v w hbt (by omega) (by omega) hS)
  · have hg2 : wr_w (kd_w m) (if 9218868437227405312 < m then false else g) (mt_w m) (ex_w m) = wr_w (kd_w m) g (mt_w m) (ex_w m) := by
      by_cases h : 9218868437227405312 < m
      · have e : kd_w m = 2 := by unfold kd_w; rw [if_pos h]
        rw [e]; rfl
      · rw [if_neg h]
    refine ⟨true, 0, wr_w (kd_w m) g (mt_w m) (ex_w m), fun w hT hz => ?_, fun w => ?_⟩
    · refine if1_w_141 155 a _ _ _ _ _ w hT hz KF RI _ _ _ _ _ _ (fun w => iwhole_k _ _ _ _ _ 1 w hk) (fun w => ?_)
      have h := write_w (kd_w m) (if 9218868437227405312 < m then false else g) (ex_w m) (mt_w m) w hkk (by omega) (by omega) (by omega)
      rw [hg2] at h
      exact h
    · exact sf1_w_2k 155 a _ _ _ _ _ w KS KLo RS (by rw [bne_iff_ne]; exact hk) _ (fun v w hS => swrite_w _ g _ _ v w hkk (by omega) (by omega) (by omega) hS)
theorem b1_156 (a : Nat) (ha : a < 18446744073709551616) : B1 156 a := by
  obtain ⟨m, hm⟩ : ∃ m, m = a % 18446744073709551616 % 9223372036854775808 := ⟨_, rfl⟩
  obtain ⟨g, hg⟩ : ∃ g, g = decide (9223372036854775808 ≤ a % 18446744073709551616) := ⟨_, rfl⟩
  have hml : m < 9223372036854775808 := by omega
  have hAl : a % 18446744073709551616 < 18446744073709551616 := Nat.mod_lt _ (by decide)
  have RI := fun w => iread_w a w ha m g hm hg
  have RS := fun w => sread_w (a % 18446744073709551616) w (by omega) m g (by rw [Nat.mod_mod]; exact hm) (by rw [Nat.mod_mod]; exact hg)
  have KLo := fun w => slow_w a ha w
  have KF : ∀ w, Tab0 w → 0 < w.heap.size → Hid (Calls Tryd.prog 32 #[.int .i64 156] w fun e w' => e = .returned (.tuple #[.int .i64 142, FVw]) ∧ Below w.heap.size w w') := fun w hT hz => fold_wide 156 w (by decide) (by decide) hT hz
  have KS : ∀ w, Hid (Calls Tryd.prog 22 #[.int .i64 156, .int .i64 139, .int .i64 153, .int .i64 7] w fun e w' => e = .returned (.tuple #[FSw, .int .i64 3]) ∧ Below w.heap.size w w') := fun w => which_w 156 w (by decide) (by decide) (by decide) (by decide)
  have hx := ex_w_b m hml
  have hs := mt_w_b m
  have hz0 := mt_w_z m
  have hkk := kd_w_k m
  have hs60 : bl (mt_w m) ≤ 60 := bl60 (by omega)
  by_cases hk : kd_w m = 0
  · have hnot : ¬ 9218868437227405312 < m := by intro h; unfold kd_w at hk; rw [if_pos h] at hk; omega
    rw [hk, if_neg hnot] at RI
    rw [hk] at RS
    generalize ex_w m = x at *
    generalize mt_w m = s at *
    have KX := fun w => iwhole_any g x 2 s w (by omega) (by omega) (by omega) (by omega) (by omega)
    by_cases hxp : 0 ≤ x
    · simp only [if_pos hxp] at KX
      refine ⟨true, 0, wr_w 0 g s x, fun w hT hz => if1_w_142 156 a _ _ _ _ _ w hT hz KF RI _ _ _ _ _ _ KX (fun w => write_w 0 g x s w (.inl rfl) (by omega) (by omega) (by omega)), fun w => ?_⟩
      have e : wr_w 0 g s x = sg_w g + (rnd 53 11 (-1074) (s * 2 ^ x.toNat) 0 false : Nat) := by
        have e2 : rnd 53 11 (-1074) (s * 2 ^ x.toNat) 0 false = rnd 53 11 (-1074) s x false := by
          by_cases h0 : s = 0
          · subst h0; unfold rnd; simp
          · have h := rnd_shift (p := 53) (e := 11) (L := -1074) (s := s) (j := x.toNat) (E := x) h0
            rw [show x - ((x.toNat : Nat) : Int) = 0 by omega] at h
            exact h
        rw [e2]; rfl
      rw [e]
      have hbt := bl_mul_le s x.toNat
      exact sf1_w_3f 156 a _ _ _ _ w KS KLo RS _ _ (fun v w hS => whole_pos 0 g v s x 1 w (by omega) hxp (by omega) hS) (fun v w hS => round_w g false _ 0 v w (by omega) (by omega) (by omega) hS)
    · simp only [if_neg hxp] at KX
      have hwl := wh_lt 2 g s x hxp
      refine ⟨true, 0, wr_w 0 g (wh 2 g s x) 0, fun w hT hz => if1_w_142 156 a _ _ _ _ _ w hT hz KF RI _ _ _ _ _ _ KX (fun w => write_w 0 g 0 _ w (.inl rfl) (by omega) (by omega) (by omega)), fun w => ?_⟩
      have hbt : bl (wh 2 g s x) ≤ 4000 := Nat.le_trans (bl60 (by omega)) (by decide)
      exact sf1_w_3f 156 a _ _ _ _ w KS KLo RS _ _ (fun v w hS => whole_neg_1 0 g v s x w (by omega) (by omega) (by omega) hS) (fun v w hS => round_w g false _ 0 v w hbt (by omega) (by omega) hS)
  · have hg2 : wr_w (kd_w m) (if 9218868437227405312 < m then false else g) (mt_w m) (ex_w m) = wr_w (kd_w m) g (mt_w m) (ex_w m) := by
      by_cases h : 9218868437227405312 < m
      · have e : kd_w m = 2 := by unfold kd_w; rw [if_pos h]
        rw [e]; rfl
      · rw [if_neg h]
    refine ⟨true, 0, wr_w (kd_w m) g (mt_w m) (ex_w m), fun w hT hz => ?_, fun w => ?_⟩
    · refine if1_w_142 156 a _ _ _ _ _ w hT hz KF RI _ _ _ _ _ _ (fun w => iwhole_k _ _ _ _ _ 2 w hk) (fun w => ?_)
      have h := write_w (kd_w m) (if 9218868437227405312 < m then false else g) (ex_w m) (mt_w m) w hkk (by omega) (by omega) (by omega)
      rw [hg2] at h
      exact h
    · exact sf1_w_3k 156 a _ _ _ _ _ w KS KLo RS (by rw [bne_iff_ne]; exact hk) _ (fun v w hS => swrite_w _ g _ _ v w hkk (by omega) (by omega) (by omega) hS)
theorem b1_157 (a : Nat) (ha : a < 18446744073709551616) : B1 157 a := by
  obtain ⟨m, hm⟩ : ∃ m, m = a % 18446744073709551616 % 9223372036854775808 := ⟨_, rfl⟩
  obtain ⟨g, hg⟩ : ∃ g, g = decide (9223372036854775808 ≤ a % 18446744073709551616) := ⟨_, rfl⟩
  have hml : m < 9223372036854775808 := by omega
  have hAl : a % 18446744073709551616 < 18446744073709551616 := Nat.mod_lt _ (by decide)
  have RI := fun w => iread_w a w ha m g hm hg
  have RS := fun w => sread_w (a % 18446744073709551616) w (by omega) m g (by rw [Nat.mod_mod]; exact hm) (by rw [Nat.mod_mod]; exact hg)
  have KLo := fun w => slow_w a ha w
  have KF : ∀ w, Tab0 w → 0 < w.heap.size → Hid (Calls Tryd.prog 32 #[.int .i64 157] w fun e w' => e = .returned (.tuple #[.int .i64 143, FVw]) ∧ Below w.heap.size w w') := fun w hT hz => fold_wide 157 w (by decide) (by decide) hT hz
  have KS : ∀ w, Hid (Calls Tryd.prog 22 #[.int .i64 157, .int .i64 139, .int .i64 153, .int .i64 7] w fun e w' => e = .returned (.tuple #[FSw, .int .i64 4]) ∧ Below w.heap.size w w') := fun w => which_w 157 w (by decide) (by decide) (by decide) (by decide)
  have hx := ex_w_b m hml
  have hs := mt_w_b m
  have hz0 := mt_w_z m
  have hkk := kd_w_k m
  have hs60 : bl (mt_w m) ≤ 60 := bl60 (by omega)
  by_cases hk : kd_w m = 0
  · have hnot : ¬ 9218868437227405312 < m := by intro h; unfold kd_w at hk; rw [if_pos h] at hk; omega
    rw [hk, if_neg hnot] at RI
    rw [hk] at RS
    generalize ex_w m = x at *
    generalize mt_w m = s at *
    have KX := fun w => iwhole_any g x 3 s w (by omega) (by omega) (by omega) (by omega) (by omega)
    by_cases hxp : 0 ≤ x
    · simp only [if_pos hxp] at KX
      refine ⟨true, 0, wr_w 0 g s x, fun w hT hz => if1_w_143 157 a _ _ _ _ _ w hT hz KF RI _ _ _ _ _ _ KX (fun w => write_w 0 g x s w (.inl rfl) (by omega) (by omega) (by omega)), fun w => ?_⟩
      have e : wr_w 0 g s x = sg_w g + (rnd 53 11 (-1074) (s * 2 ^ x.toNat) 0 false : Nat) := by
        have e2 : rnd 53 11 (-1074) (s * 2 ^ x.toNat) 0 false = rnd 53 11 (-1074) s x false := by
          by_cases h0 : s = 0
          · subst h0; unfold rnd; simp
          · have h := rnd_shift (p := 53) (e := 11) (L := -1074) (s := s) (j := x.toNat) (E := x) h0
            rw [show x - ((x.toNat : Nat) : Int) = 0 by omega] at h
            exact h
        rw [e2]; rfl
      rw [e]
      have hbt := bl_mul_le s x.toNat
      exact sf1_w_4f 157 a _ _ _ _ w KS KLo RS _ _ (fun v w hS => whole_pos 0 g v s x 2 w (by omega) hxp (by omega) hS) (fun v w hS => round_w g false _ 0 v w (by omega) (by omega) (by omega) hS)
    · simp only [if_neg hxp] at KX
      have hwl := wh_lt 3 g s x hxp
      refine ⟨true, 0, wr_w 0 g (wh 3 g s x) 0, fun w hT hz => if1_w_143 157 a _ _ _ _ _ w hT hz KF RI _ _ _ _ _ _ KX (fun w => write_w 0 g 0 _ w (.inl rfl) (by omega) (by omega) (by omega)), fun w => ?_⟩
      have hbt : bl (wh 3 g s x) ≤ 4000 := Nat.le_trans (bl60 (by omega)) (by decide)
      exact sf1_w_4f 157 a _ _ _ _ w KS KLo RS _ _ (fun v w hS => whole_neg_2 0 g v s x w (by omega) (by omega) (by omega) hS) (fun v w hS => round_w g false _ 0 v w hbt (by omega) (by omega) hS)
  · have hg2 : wr_w (kd_w m) (if 9218868437227405312 < m then false else g) (mt_w m) (ex_w m) = wr_w (kd_w m) g (mt_w m) (ex_w m) := by
      by_cases h : 9218868437227405312 < m
      · have e : kd_w m = 2 := by unfold kd_w; rw [if_pos h]
        rw [e]; rfl
      · rw [if_neg h]
    refine ⟨true, 0, wr_w (kd_w m) g (mt_w m) (ex_w m), fun w hT hz => ?_, fun w => ?_⟩
    · refine if1_w_143 157 a _ _ _ _ _ w hT hz KF RI _ _ _ _ _ _ (fun w => iwhole_k _ _ _ _ _ 3 w hk) (fun w => ?_)
      have h := write_w (kd_w m) (if 9218868437227405312 < m then false else g) (ex_w m) (mt_w m) w hkk (by omega) (by omega) (by omega)
      rw [hg2] at h
      exact h
    · exact sf1_w_4k 157 a _ _ _ _ _ w KS KLo RS (by rw [bne_iff_ne]; exact hk) _ (fun v w hS => swrite_w _ g _ _ v w hkk (by omega) (by omega) (by omega) hS)
theorem b1_158 (a : Nat) (ha : a < 18446744073709551616) : B1 158 a := by
  obtain ⟨m, hm⟩ : ∃ m, m = a % 18446744073709551616 % 9223372036854775808 := ⟨_, rfl⟩
  obtain ⟨g, hg⟩ : ∃ g, g = decide (9223372036854775808 ≤ a % 18446744073709551616) := ⟨_, rfl⟩
  have hml : m < 9223372036854775808 := by omega
  have hAl : a % 18446744073709551616 < 18446744073709551616 := Nat.mod_lt _ (by decide)
  have RI := fun w => iread_w a w ha m g hm hg
  have RS := fun w => sread_w (a % 18446744073709551616) w (by omega) m g (by rw [Nat.mod_mod]; exact hm) (by rw [Nat.mod_mod]; exact hg)
  have KLo := fun w => slow_w a ha w
  have KF : ∀ w, Tab0 w → 0 < w.heap.size → Hid (Calls Tryd.prog 32 #[.int .i64 158] w fun e w' => e = .returned (.tuple #[.int .i64 144, FVw]) ∧ Below w.heap.size w w') := fun w hT hz => fold_wide 158 w (by decide) (by decide) hT hz
  have KS : ∀ w, Hid (Calls Tryd.prog 22 #[.int .i64 158, .int .i64 139, .int .i64 153, .int .i64 7] w fun e w' => e = .returned (.tuple #[FSw, .int .i64 5]) ∧ Below w.heap.size w w') := fun w => which_w 158 w (by decide) (by decide) (by decide) (by decide)
  have hx := ex_w_b m hml
  have hs := mt_w_b m
  have hz0 := mt_w_z m
  have hkk := kd_w_k m
  have hs60 : bl (mt_w m) ≤ 60 := bl60 (by omega)
  by_cases hk : kd_w m = 0
  · have hnot : ¬ 9218868437227405312 < m := by intro h; unfold kd_w at hk; rw [if_pos h] at hk; omega
    rw [hk, if_neg hnot] at RI
    rw [hk] at RS
    generalize ex_w m = x at *
    generalize mt_w m = s at *
    have KX := fun w => iwhole_any g x 0 s w (by omega) (by omega) (by omega) (by omega) (by omega)
    by_cases hxp : 0 ≤ x
    · simp only [if_pos hxp] at KX
      refine ⟨true, 0, wr_w 0 g s x, fun w hT hz => if1_w_144 158 a _ _ _ _ _ w hT hz KF RI _ _ _ _ _ _ KX (fun w => write_w 0 g x s w (.inl rfl) (by omega) (by omega) (by omega)), fun w => ?_⟩
      have e : wr_w 0 g s x = sg_w g + (rnd 53 11 (-1074) (s * 2 ^ x.toNat) 0 false : Nat) := by
        have e2 : rnd 53 11 (-1074) (s * 2 ^ x.toNat) 0 false = rnd 53 11 (-1074) s x false := by
          by_cases h0 : s = 0
          · subst h0; unfold rnd; simp
          · have h := rnd_shift (p := 53) (e := 11) (L := -1074) (s := s) (j := x.toNat) (E := x) h0
            rw [show x - ((x.toNat : Nat) : Int) = 0 by omega] at h
            exact h
        rw [e2]; rfl
      rw [e]
      have hbt := bl_mul_le s x.toNat
      exact sf1_w_5f 158 a _ _ _ _ w KS KLo RS _ _ (fun v w hS => whole_pos 0 g v s x 3 w (by omega) hxp (by omega) hS) (fun v w hS => round_w g false _ 0 v w (by omega) (by omega) (by omega) hS)
    · simp only [if_neg hxp] at KX
      have hwl := wh_lt 0 g s x hxp
      refine ⟨true, 0, wr_w 0 g (wh 0 g s x) 0, fun w hT hz => if1_w_144 158 a _ _ _ _ _ w hT hz KF RI _ _ _ _ _ _ KX (fun w => write_w 0 g 0 _ w (.inl rfl) (by omega) (by omega) (by omega)), fun w => ?_⟩
      have hbt : bl (wh 0 g s x) ≤ 4000 := Nat.le_trans (bl60 (by omega)) (by decide)
      exact sf1_w_5f 158 a _ _ _ _ w KS KLo RS _ _ (fun v w hS => whole_neg_3 0 g v s x w (by omega) (by omega) (by omega) hS) (fun v w hS => round_w g false _ 0 v w hbt (by omega) (by omega) hS)
  · have hg2 : wr_w (kd_w m) (if 9218868437227405312 < m then false else g) (mt_w m) (ex_w m) = wr_w (kd_w m) g (mt_w m) (ex_w m) := by
      by_cases h : 9218868437227405312 < m
      · have e : kd_w m = 2 := by unfold kd_w; rw [if_pos h]
        rw [e]; rfl
      · rw [if_neg h]
    refine ⟨true, 0, wr_w (kd_w m) g (mt_w m) (ex_w m), fun w hT hz => ?_, fun w => ?_⟩
    · refine if1_w_144 158 a _ _ _ _ _ w hT hz KF RI _ _ _ _ _ _ (fun w => iwhole_k _ _ _ _ _ 0 w hk) (fun w => ?_)
      have h := write_w (kd_w m) (if 9218868437227405312 < m then false else g) (ex_w m) (mt_w m) w hkk (by omega) (by omega) (by omega)
      rw [hg2] at h
      exact h
    · exact sf1_w_5k 158 a _ _ _ _ _ w KS KLo RS (by rw [bne_iff_ne]; exact hk) _ (fun v w hS => swrite_w _ g _ _ v w hkk (by omega) (by omega) (by omega) hS)
theorem b1_159 (a : Nat) (ha : a < 18446744073709551616) : B1 159 a := by
  obtain ⟨m, hm⟩ : ∃ m, m = a % 18446744073709551616 % 9223372036854775808 := ⟨_, rfl⟩
  obtain ⟨g, hg⟩ : ∃ g, g = decide (9223372036854775808 ≤ a % 18446744073709551616) := ⟨_, rfl⟩
  have hml : m < 9223372036854775808 := by omega
  have hAl : a % 18446744073709551616 < 18446744073709551616 := Nat.mod_lt _ (by decide)
  have RI := fun w => iread_w a w ha m g hm hg
  have RS := fun w => sread_w (a % 18446744073709551616) w (by omega) m g (by rw [Nat.mod_mod]; exact hm) (by rw [Nat.mod_mod]; exact hg)
  have KLo := fun w => slow_w a ha w
  have KF : ∀ w, Tab0 w → 0 < w.heap.size → Hid (Calls Tryd.prog 32 #[.int .i64 159] w fun e w' => e = .returned (.tuple #[.int .i64 145, FVw]) ∧ Below w.heap.size w w') := fun w hT hz => fold_wide 159 w (by decide) (by decide) hT hz
  have KS : ∀ w, Hid (Calls Tryd.prog 22 #[.int .i64 159, .int .i64 139, .int .i64 153, .int .i64 7] w fun e w' => e = .returned (.tuple #[FSw, .int .i64 6]) ∧ Below w.heap.size w w') := fun w => which_w 159 w (by decide) (by decide) (by decide) (by decide)
  have hx := ex_w_b m hml
  have hs := mt_w_b m
  have hz0 := mt_w_z m
  have hkk := kd_w_k m
  have hs60 : bl (mt_w m) ≤ 60 := bl60 (by omega)
  rcases hkk with hk | hk | hk
  · have hnot : ¬ 9218868437227405312 < m := by intro h; unfold kd_w at hk; rw [if_pos h] at hk; omega
    rw [hk, if_neg hnot] at RI
    rw [hk] at RS
    have hz0 := hz0 hk
    generalize ex_w m = x at *
    generalize mt_w m = s at *
    have hs128 : s < 340282366920938463463374607431768211456 := by omega
    have KZ := fun w => nzero_key 0 g x ((s % 18446744073709551616 : Nat) : Int) ((s / 18446744073709551616 : Nat) : Int) (decide (s = 0)) w (fun w => isZero_any s w hs128)
    have KZs := fun (v : Value) (w : World) (hS : SN w v s) => szero_key 0 g v x s w (by omega) hS
    by_cases h0 : s = 0
    · rw [show (decide ((0 : Int) = 0) && decide (s = 0)) = true by simp [h0]] at KZ KZs
      refine ⟨true, 0, wr_w 0 g s x, fun w hT hz => if1_w_145 159 a _ _ _ _ _ w hT hz KF RI _ _ _ _ _ _ (fun w => iroot_z g x _ _ w KZ) (fun w => write_w 0 g x s w (.inl rfl) (by omega) (by omega) (by omega)), fun w => ?_⟩
      refine sf1_w_6 159 a _ _ _ _ _ w KS KLo RS _ (fun v w hS => ?_)
      have KW := fun w hS => swrite_w 0 g x s v w (.inl rfl) (by omega) (by omega) (by omega) hS
      cases g
      · exact sroot_w_zf v x s w hS (fun w hS => KZs v w hS) _ KW
      · exact sroot_w_zt v x s w hS (fun w hS => KZs v w hS) _ KW
    · rw [show (decide ((0 : Int) = 0) && decide (s = 0)) = false by simp [h0]] at KZ KZs
      cases g
      · have hb1 := bl_pos h0
        have hbs : bl s ≤ 53 := bl_le (by rw [show 2 ^ 53 = 9007199254740992 by decide]; exact hs)
        obtain ⟨pl, h, R, hpl, hph, hR, KX⟩ : ∃ (pl : Nat) (h : Int) (R : Nat), (127 ≤ bl s + pl ∧ bl s + pl ≤ 128) ∧ x - pl = 2 * h ∧ IsR (s * 2 ^ pl) R ∧ (∀ w, Hid (Calls Tryd.prog 38 #[N2 0 false x s] w fun e w' => e = .returned (N2 0 false h (if decide (R * R ≠ s * 2 ^ pl) then R + (1 - R % 2) else R)) ∧ Below w.heap.size w w')) := by
          have KL := fun w => lift_any 0 false x 127 s w hs128 h0 (by omega) (by omega) (by omega) (by omega)
          obtain ⟨pl, hpl⟩ : ∃ pl : Nat, pl = 127 - bl s := ⟨_, rfl⟩
          have e1 : (127 - (bl s : Int)).toNat = pl := by omega
          have e2 : (127 - (bl s : Int)) = (pl : Int) := by omega
          rw [e1, e2] at KL
          have hlt : ∀ q : Nat, bl s + q ≤ 128 → s * 2 ^ q < 340282366920938463463374607431768211456 := fun q hq => by
            have h1 := bl_lt (s * 2 ^ q)
            rw [bl_mul h0] at h1
            have h2 := pow_le hq
            rw [← M128_pow] at h2
            omega
          by_cases hpar : (x - (pl : Int)) % 2 = 0
          · obtain ⟨R, hR⟩ := isR_ex (s * 2 ^ pl)
            obtain ⟨h, hh⟩ : ∃ h, x - (pl : Int) = 2 * h := ⟨(x - pl) / 2, by omega⟩
            refine ⟨pl, h, R, by omega, hh, hR, fun w => ?_⟩
            rw [hh] at KL
            refine (iroot_0 x _ _ _ _ h (s * 2 ^ pl) w (hlt pl (by omega)) rfl rfl (by omega) (by omega) KZ KL).mono ?_
            rintro e w' ⟨⟨R', hR', _, rfl⟩, hb⟩
            rw [isR_eq hR hR']
            exact ⟨rfl, hb⟩
          · obtain ⟨R, hR⟩ := isR_ex (s * 2 ^ (pl + 1))
            obtain ⟨h, hh⟩ : ∃ h, x - ((pl + 1 : Nat) : Int) = 2 * h := ⟨(x - (pl + 1 : Nat)) / 2, by omega⟩
            refine ⟨pl + 1, h, R, by omega, hh, hR, fun w => ?_⟩
            have hb2 := bl_mul h0 pl
            have h20 : s * 2 ^ pl ≠ 0 := by intro h; rw [h, bl_zero] at hb2; omega
            have KL2 := fun w => lift_any 0 false (x - pl) 128 (s * 2 ^ pl) w (hlt pl (by omega)) h20 (by omega) (by omega) (by omega) (by omega)
            have e3 : (128 - (bl (s * 2 ^ pl) : Int)) = 1 := by omega
            have e5 : s * 2 ^ pl * 2 ^ (1 : Int).toNat = s * 2 ^ (pl + 1) := by rw [show (1 : Int).toNat = 1 by decide, Nat.mul_assoc, ← Nat.pow_succ]
            rw [e3, e5, show x - (pl : Int) - 1 = 2 * h by omega] at KL2
            refine (iroot_1 x _ _ _ _ h (x - pl) _ _ (s * 2 ^ (pl + 1)) w (hlt (pl + 1) (by omega)) rfl rfl (by omega) (by omega) KZ KL (by rw [bne_iff_ne, Int.tmod_def]; omega) KL2).mono ?_
            rintro e w' ⟨⟨R', hR', _, rfl⟩, hb⟩
            rw [isR_eq hR hR']
            exact ⟨rfl, hb⟩
        have hRl : R < 18446744073709551616 * 2 := by
          by_cases hc : R < 18446744073709551616 * 2
          · exact hc
          · have h1 := Nat.mul_le_mul (show 18446744073709551616 * 2 ≤ R by omega) (show 18446744073709551616 * 2 ≤ R by omega)
            have h2 := hR.1
            have h3 := bl_lt (s * 2 ^ pl)
            rw [bl_mul h0] at h3
            have h4 := pow_le hpl.2
            rw [← M128_pow] at h4
            omega
        obtain ⟨n, r, hn, hnp, hr, KR⟩ : ∃ (n r : Nat), 110 ≤ n ∧ (x - n) % 2 = 0 ∧ IsR (s * 2 ^ n) r ∧ (∀ v w, SN w v s → Hid (Calls Tryd.prog 28 #[FSw, SV 0 false v x] w fun e w' => e = .returned (.int .u64 ((rnd 53 11 (-1074) r ((x - n) / 2) (decide (r * r ≠ s * 2 ^ n)) : Nat) : Int)) ∧ Below w.heap.size w w')) := by
          by_cases hpar : (x - 110) % 2 = 0
          · obtain ⟨r, hr⟩ := isR_ex (s * 2 ^ 110)
            refine ⟨110, r, by omega, by omega, hr, fun v w hS => ?_⟩
            refine (sroot_w_0 v x ((x - 110) / 2) s w hs60 h0 hx.1 hx.2 hS (by omega)).mono ?_
            rintro e w' ⟨⟨r', hr', rfl⟩, hb⟩
            rw [isR_eq hr hr']
            exact ⟨rfl, hb⟩
          · obtain ⟨r, hr⟩ := isR_ex (s * 2 ^ 111)
            refine ⟨111, r, by omega, by omega, hr, fun v w hS => ?_⟩
            refine (sroot_w_1 v x ((x - 111) / 2) s w hs60 h0 hx.1 hx.2 hS (by omega)).mono ?_
            rintro e w' ⟨⟨r', hr', rfl⟩, hb⟩
            rw [isR_eq hr hr']
            exact ⟨rfl, hb⟩
        have hq := root_eq (p := 53) (e := 11) (L := -1074) (ex := x) h0 hr hR hnp (by omega) (by omega) (by omega)
        rw [show (x - (pl : Int)) / 2 = h by omega] at hq
        refine ⟨true, 0, _, fun w hT hz => ?_, fun w => sf1_w_6 159 a _ _ _ _ _ w KS KLo RS _ KR⟩
        rw [← hq]
        refine if1_w_145 159 a _ _ _ _ _ w hT hz KF RI _ _ _ _ _ _ KX (fun w => ?_)
        have hw := write_w 0 false h (if decide (R * R ≠ s * 2 ^ pl) then R + (1 - R % 2) else R) w (.inl rfl) (by split <;> omega) (by omega) (by omega)
        have ew : wr_w 0 false (if decide (R * R ≠ s * 2 ^ pl) then R + (1 - R % 2) else R) h = ((rnd 53 11 (-1074) (if decide (R * R ≠ s * 2 ^ pl) then R + (1 - R % 2) else R) h false : Nat) : Int) := by
          unfold wr_w; simp [sg_w]
        rw [ew] at hw
        exact hw
      · refine ⟨true, 0, 9221120237041090560, fun w hT hz => if1_w_145 159 a _ _ _ _ _ w hT hz KF RI _ _ _ _ _ _ (fun w => iroot_g0 x _ _ w KZ) (fun w => write_w_2 false 0 0 0 w), fun w => ?_⟩
        exact sf1_w_6 159 a _ _ _ _ _ w KS KLo RS _ (fun v w hS => sroot_w_g0 v x s w hS (fun w hS => KZs v w hS))
  · have hnot : ¬ 9218868437227405312 < m := by intro h; unfold kd_w at hk; rw [if_pos h] at hk; omega
    rw [hk, if_neg hnot] at RI
    rw [hk] at RS
    generalize ex_w m = x at *
    generalize mt_w m = s at *
    have hs128 : s < 340282366920938463463374607431768211456 := by omega
    have KZ := fun w => nzero_key 1 g x ((s % 18446744073709551616 : Nat) : Int) ((s / 18446744073709551616 : Nat) : Int) (decide (s = 0)) w (fun w => isZero_any s w hs128)
    have KZs := fun (v : Value) (w : World) (hS : SN w v s) => szero_key 1 g v x s w (by omega) hS
    rw [show (decide ((1 : Int) = 0) && decide (s = 0)) = false by simp] at KZ KZs
    cases g
    · refine ⟨true, 0, wr_w 1 false s x, fun w hT hz => if1_w_145 159 a _ _ _ _ _ w hT hz KF RI _ _ _ _ _ _ (fun w => iroot_i x _ _ w KZ) (fun w => write_w 1 false x s w (.inr (.inl rfl)) hs128 (by omega) (by omega)), fun w => ?_⟩
      exact sf1_w_6 159 a _ _ _ _ _ w KS KLo RS _ (fun v w hS => sroot_w_i v x s w hS _ (fun w hS => swrite_w 1 false x s v w (.inr (.inl rfl)) (by omega) (by omega) (by omega) hS))
    · refine ⟨true, 0, 9221120237041090560, fun w hT hz => if1_w_145 159 a _ _ _ _ _ w hT hz KF RI _ _ _ _ _ _ (fun w => iroot_g1 x _ _ w KZ) (fun w => write_w_2 false 0 0 0 w), fun w => ?_⟩
      exact sf1_w_6 159 a _ _ _ _ _ w KS KLo RS _ (fun v w hS => sroot_w_g1 v x s w hS (fun w hS => KZs v w hS))
  · have hyes : 9218868437227405312 < m := by
      unfold kd_w at hk
      split at hk
      · assumption
      · split at hk <;> omega
    rw [hk, if_pos hyes] at RI
    rw [hk] at RS
    generalize ex_w m = x at *
    generalize mt_w m = s at *
    have hs128 : s < 340282366920938463463374607431768211456 := by omega
    have KZ := fun w => nzero_key 2 false x ((s % 18446744073709551616 : Nat) : Int) ((s / 18446744073709551616 : Nat) : Int) (decide (s = 0)) w (fun w => isZero_any s w hs128)
    rw [show (decide ((2 : Int) = 0) && decide (s = 0)) = false by simp] at KZ
    refine ⟨true, 0, 9221120237041090560, fun w hT hz => if1_w_145 159 a _ _ _ _ _ w hT hz KF RI _ _ _ _ _ _ (fun w => iroot_n false x _ _ w KZ) (fun w => write_w_2 false 0 0 0 w), fun w => ?_⟩
    exact sf1_w_6 159 a _ _ _ _ _ w KS KLo RS _ (fun v w _ => sroot_w_n g v x w)
theorem b1_any (op : Int) (a : Nat) (ha : a < 18446744073709551616) (hl : -9223372036854775808 ≤ op) (hr : op ≤ 9223372036854775807) : B1 op a := by
  by_cases h1 : 139 ≤ op ∧ op ≤ 145
  · rcases (show op = 139 ∨ op = 140 ∨ op = 141 ∨ op = 142 ∨ op = 143 ∨ op = 144 ∨ op = 145 by omega) with rfl | rfl | rfl | rfl | rfl | rfl | rfl
    · exact b1_139 a ha
    · exact b1_140 a ha
    · exact b1_141 a ha
    · exact b1_142 a ha
    · exact b1_143 a ha
    · exact b1_144 a ha
    · exact b1_145 a ha
  · by_cases h2 : 153 ≤ op ∧ op ≤ 159
    · rcases (show op = 153 ∨ op = 154 ∨ op = 155 ∨ op = 156 ∨ op = 157 ∨ op = 158 ∨ op = 159 by omega) with rfl | rfl | rfl | rfl | rfl | rfl | rfl
      · exact b1_153 a ha
      · exact b1_154 a ha
      · exact b1_155 a ha
      · exact b1_156 a ha
      · exact b1_157 a ha
      · exact b1_158 a ha
      · exact b1_159 a ha
    · have KS : ∀ w, Hid (Calls Tryd.prog 22 #[.int .i64 op, .int .i64 139, .int .i64 153, .int .i64 7] w fun e w' => e = .returned (.tuple #[FSn, .int .i64 (-1)]) ∧ Below w.heap.size w w') := fun w => by
        rcases (show op < 139 ∨ (146 ≤ op ∧ op < 153) ∨ 160 ≤ op by omega) with h | ⟨h, h'⟩ | h
        · exact which_a op w h hl hr
        · exact which_b op w h h' hl hr
        · exact which_c op w h hl hr
      refine ⟨false, 0, 0, fun w hT hz => ?_, fun w => sf1_x op a w KS⟩
      rcases (show op < 97 ∨ (97 ≤ op ∧ op ≤ 102) ∨ (102 < op ∧ op < 153) ∨ (160 ≤ op ∧ op ≤ 166) ∨ 166 < op by omega) with h | ⟨h, h'⟩ | ⟨h, h'⟩ | ⟨h, h'⟩ | h
      · exact if1_n_x op (by omega) op a _ _ _ _ _ w hT hz (fun w hT hz => fold_na op w h hT hz) (fun w => iread_n a w ha _ _ rfl rfl)
      · exact if1_w_x _ (by omega) op a _ _ _ _ _ w hT hz (fun w hT hz => fold_test op w h h' hT hz) (fun w => iread_w a w ha _ _ rfl rfl)
      · exact if1_n_x op (by omega) op a _ _ _ _ _ w hT hz (fun w hT hz => fold_nb op w h h' hT hz) (fun w => iread_n a w ha _ _ rfl rfl)
      · exact if1_w_x _ (by omega) op a _ _ _ _ _ w hT hz (fun w hT hz => fold_wide op w (by omega) h' hT hz) (fun w => iread_w a w ha _ _ rfl rfl)
      · exact if1_n_x op (by omega) op a _ _ _ _ _ w hT hz (fun w hT hz => fold_nc op w h hT hz) (fun w => iread_n a w ha _ _ rfl rfl)

set_option maxHeartbeats 1000000 in
theorem lawFloat1 (op : Int) (A : Nat) (w : World) (hl : -9223372036854775808 ≤ op) (hr : op ≤ 9223372036854775807) (hA : A < 18446744073709551616) (hT : Tab0 w) (hz : 0 < w.heap.size) :
    Calls Tryd.prog 3 #[.int .i64 op, .int .u64 A] w fun e w' => e = .returned (.bool true) ∧ Below w.heap.size w w' := by
  obtain ⟨K, t, v, hG⟩ := b1_any op A hA hl hr
  have HI := Hid.mk' hG.1
  have HS := Hid.mk' hG.2
  have HT := Hid.mk' hT
  clear hG hT
  go_enter Tryd.func3, Tryd.ntmps3
  go_wp2_with fail
  refine (HS.out _).mono ?_
  rintro e w1 ⟨rfl, hb1⟩
  have HB1 := Hid.mk' hb1
  have hz1 := hb1.size
  clear hb1
  go_wp2_with fail
  refine (HI.out _ ?hTab ?hSize).mono ?_
  case hTab => exact HT.out.below (HB1.out.trans ((Below.refl _ _).alloc hz1 _)) hz
  case hSize => simp
  rintro e w2 ⟨rfl, hb2⟩
  have hb1 := HB1.out
  have hz2 := hb2.size
  simp at hz2
  have c0 : ∀ o, (w2.alloc o).cell? ⟨w1.heap.size, 0, none⟩ = some (.bool K) := fun o => by rw [World.cell?_alloc_past _ _ _ (by show w1.heap.size < _; omega), hb2.cell (p := ⟨w1.heap.size, 0, none⟩) (by simp)]; exact cell_new rfl rfl
  have c1 : ∀ o, (w2.alloc o).cell? ⟨w1.heap.size, 1, none⟩ = some (.int .i64 t) := fun o => by rw [World.cell?_alloc_past _ _ _ (by show w1.heap.size < _; omega), hb2.cell (p := ⟨w1.heap.size, 1, none⟩) (by simp)]; exact cell_new rfl rfl
  have c2 : ∀ o, (w2.alloc o).cell? ⟨w1.heap.size, 2, none⟩ = some (.int .u64 v) := fun o => by rw [World.cell?_alloc_past _ _ _ (by show w1.heap.size < _; omega), hb2.cell (p := ⟨w1.heap.size, 2, none⟩) (by simp)]; exact cell_new rfl rfl
  have hne : ¬ w1.heap.size = w2.heap.size := by omega
  have HB : Hid (Below w.heap.size w w2) := hb1.trans (Below.trans ((Below.refl _ _).alloc (Nat.le_refl _) _) (hb2.mono (by simp))|>.mono hz1)
  clear hb1 hb2 HI HS HT HB1
  go_wp2_with fail
  refine (eqRes_any K t v _).mono ?_
  rintro e w3 ⟨rfl, hb3⟩
  have HB3 := Hid.mk' hb3
  clear hb3
  go_wp2
  go_ret
  exact ⟨rfl, (HB.out.trans (Below.trans ((Below.refl _ _).alloc (Nat.le_refl _) _) (HB3.out.mono (by simp))|>.mono (by omega)))⟩
end Go.Proofs.YthmppcfhbbjhlaaDoor
