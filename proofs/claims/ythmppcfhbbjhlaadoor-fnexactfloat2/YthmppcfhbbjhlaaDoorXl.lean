import Derived.Test.YthmppcfhbbjhlaaDoorXp
import Derived.Test.YthmppcfhbbjhlaaDoorXi
import Derived.Test.YthmppcfhbbjhlaaDoorXf
set_option linter.all false
namespace Go.Proofs.YthmppcfhbbjhlaaDoor
open Go.RowKit Go.Sort

def B2 (op : Int) (a b : Nat) : Prop := ∃ (K : Bool) (t v : Int),
  (∀ w, Tab0 w → 0 < w.heap.size → Calls Tryd.prog 15 #[.int .i64 op, .int .u64 (a : Int), .int .u64 (b : Int)] w fun e w' => e = .returned (RV K t v) ∧ Below w.heap.size w w') ∧
  (∀ w, Calls Tryd.prog 14 #[.int .i64 op, .int .u64 (a : Int), .int .u64 (b : Int)] w fun e w' => e = .returned (RV K t v) ∧ Below w.heap.size w w')
theorem flag_any (b : Bool) (w : World) : Calls Tryd.prog 51 #[.bool b] w fun e w' => e = .returned (.int .u64 (if b then 1 else 0)) ∧ Below w.heap.size w w' := by
  cases b
  · exact flag_f w
  · exact flag_t w
theorem inan_n (A m : Nat) (w : World) (hA : A < 4294967296) (hm : m = A % 2147483648) : Calls Tryd.prog 92 #[FVn, .int .u64 (A : Int)] w fun e w' => e = .returned (.bool (decide (2139095040 < m))) ∧ Below w.heap.size w w' := by
  refine isnan_key _ _ _ _ (A : Int) 2147483648 2139095040 (m : Int) (decide (2139095040 < m)) w (fun w => signBit_n w) (fun w => infinity_n w) ?_ ?_
  · rw [mag_n_m A hA, hm]
  · rw [decide_eq_decide]; omega
theorem iorder_n (A m : Nat) (g : Bool) (w : World) (hA : A < 4294967296) (hm : m = A % 2147483648) (hg : g = decide (2147483648 ≤ A)) : Calls Tryd.prog 93 #[FVn, .int .u64 (A : Int)] w fun e w' => e = .returned (.int .i64 (oI g m)) ∧ Below w.heap.size w w' := by
  have h := sgn_n_m A hA
  rw [← hg] at h
  cases g
  · have h2 : ¬ 2147483648 ≤ A := of_decide_eq_false hg.symm
    have h3 : m = A := by omega
    subst h3
    exact order_pos _ _ _ _ _ 2147483648 w (fun w => signBit_n w) h (by omega) (by omega)
  · exact order_neg _ _ _ _ _ 2147483648 (m : Int) w (fun w => signBit_n w) (by rw [mag_n_m A hA, hm]) h (by omega) (by omega)
theorem inan_w (A m : Nat) (w : World) (hA : A < 18446744073709551616) (hm : m = A % 9223372036854775808) : Calls Tryd.prog 92 #[FVw, .int .u64 (A : Int)] w fun e w' => e = .returned (.bool (decide (9218868437227405312 < m))) ∧ Below w.heap.size w w' := by
  refine isnan_key _ _ _ _ (A : Int) 9223372036854775808 9218868437227405312 (m : Int) (decide (9218868437227405312 < m)) w (fun w => signBit_w w) (fun w => infinity_w w) ?_ ?_
  · rw [mag_w_m A hA, hm]
  · rw [decide_eq_decide]; omega
theorem iorder_w (A m : Nat) (g : Bool) (w : World) (hA : A < 18446744073709551616) (hm : m = A % 9223372036854775808) (hg : g = decide (9223372036854775808 ≤ A)) : Calls Tryd.prog 93 #[FVw, .int .u64 (A : Int)] w fun e w' => e = .returned (.int .i64 (oI g m)) ∧ Below w.heap.size w w' := by
  have h := sgn_w_m A hA
  rw [← hg] at h
  cases g
  · have h2 : ¬ 9223372036854775808 ≤ A := of_decide_eq_false hg.symm
    have h3 : m = A := by omega
    subst h3
    exact order_pos _ _ _ _ _ 9223372036854775808 w (fun w => signBit_w w) h (by omega) (by omega)
  · exact order_neg _ _ _ _ _ 9223372036854775808 (m : Int) w (fun w => signBit_w w) (by rw [mag_w_m A hA, hm]) h (by omega) (by omega)
end Go.Proofs.YthmppcfhbbjhlaaDoor
namespace Go.Proofs.YthmppcfhbbjhlaaDoor
open Go.RowKit Go.Sort

theorem b2_91 (a b : Nat) (ha : a < 18446744073709551616) (hb : b < 18446744073709551616) : B2 91 a b := by
  obtain ⟨m1, e1⟩ : ∃ m, m = a % 4294967296 % 2147483648 := ⟨_, rfl⟩
  obtain ⟨m2, e2⟩ : ∃ m, m = b % 4294967296 % 2147483648 := ⟨_, rfl⟩
  obtain ⟨g1, f1⟩ : ∃ g, g = decide (2147483648 ≤ a % 4294967296) := ⟨_, rfl⟩
  obtain ⟨g2, f2⟩ : ∃ g, g = decide (2147483648 ≤ b % 4294967296) := ⟨_, rfl⟩
  have hA : a % 4294967296 < 4294967296 := Nat.mod_lt _ (by decide)
  have hB : b % 4294967296 < 4294967296 := Nat.mod_lt _ (by decide)
  have l1 : m1 < 2147483648 := by omega
  have l2 : m2 < 2147483648 := by omega
  have RSa := fun w => sread_n a w ha m1 g1 e1 f1
  have RSb := fun w => sread_n b w hb m2 g2 e2 f2
  have KLa := fun w => low_n (a : Int) w
  have KLb := fun w => low_n (b : Int) w
  rw [low_n_m a ha] at KLa
  rw [low_n_m b hb] at KLb
  have KF : ∀ w, Tab0 w → 0 < w.heap.size → Hid (Calls Tryd.prog 32 #[.int .i64 91] w fun e w' => e = .returned (.tuple #[.int .i64 91, FVn]) ∧ Below w.heap.size w w') := fun w hT hz => fold_na 91 w (by decide) hT hz
  have KW1 : ∀ w, Hid (Calls Tryd.prog 22 #[.int .i64 91, .int .i64 91, .int .i64 97, .int .i64 6] w fun e w' => e = .returned (.tuple #[FSn, .int .i64 0]) ∧ Below w.heap.size w w') := fun w => wht_n 91 w (by decide) (by decide) (by decide) (by decide)
  have KNa := fun w => inan_n (a % 4294967296) m1 w hA e1
  have KNb := fun w => inan_n (b % 4294967296) m2 w hB e2
  by_cases n1 : 2139095040 < m1
  · rw [decide_eq_true n1] at KNa
    rw [kd_n_n n1] at RSa
    exact ⟨true, 0, if ((91 : Int) == 92) then 1 else 0, fun w hT hz => if2_91 _ _ _ _ _ _ _ _ _ _ _ w hT hz KF KLa KLb (fun w => holds_na _ _ _ _ 91 _ _ w KNa) (fun w => flag_any _ w), fun w => sf2_t 0 (by decide) _ _ _ _ _ _ _ _ _ _ _ _ _ _ _ w KW1 RSa RSb (fun v1 v2 w h1 h2 => te_na 0 _ g1 g2 v1 v2 _ _ _ _ _ w h1 h2 (fun w => bool_any ((0 : Int) == 1) w))⟩
  · rw [decide_eq_false n1] at KNa
    have k1 : (kd_n m1 == 2) = false := by unfold kd_n; rw [if_neg n1]; split <;> decide
    by_cases n2 : 2139095040 < m2
    · rw [decide_eq_true n2] at KNb
      rw [kd_n_n n2] at RSb
      exact ⟨true, 0, if ((91 : Int) == 92) then 1 else 0, fun w hT hz => if2_91 _ _ _ _ _ _ _ _ _ _ _ w hT hz KF KLa KLb (fun w => holds_nb _ _ _ _ 91 _ _ w KNa KNb) (fun w => flag_any _ w), fun w => sf2_t 0 (by decide) _ _ _ _ _ _ _ _ _ _ _ _ _ _ _ w KW1 RSa RSb (fun v1 v2 w h1 h2 => te_nb 0 _ g1 g2 v1 v2 _ _ _ _ _ w h1 h2 k1 (fun w => bool_any ((0 : Int) == 1) w))⟩
    · rw [decide_eq_false n2] at KNb
      have k2 : (kd_n m2 == 2) = false := by unfold kd_n; rw [if_neg n2]; split <;> decide
      have KOa := fun w => iorder_n (a % 4294967296) m1 g1 w hA e1 f1
      have KOb := fun w => iorder_n (b % 4294967296) m2 g2 w hB e2 f2
      have L1 := fun v1 v2 w h1 h2 => sless_n m1 m2 g1 g2 v1 v2 w (by omega) (by omega) h1 h2
      have L2 := fun v1 v2 w h1 h2 => sless_n m2 m1 g2 g1 v2 v1 w (by omega) (by omega) h2 h1
      generalize oI g1 m1 = x at *
      generalize oI g2 m2 = y at *
      have eB : (!decide (x < y) && !decide (y < x)) = (x == y) := by first | rfl | (rw [Bool.eq_iff_iff]; simp; done) | (rw [Bool.eq_iff_iff]; simp; omega)
      refine ⟨true, 0, if (x == y) then 1 else 0, fun w hT hz => if2_91 _ _ _ _ _ _ _ _ _ _ _ w hT hz KF KLa KLb (fun w => holds_91 _ _ _ _ _ _ x y w KNa KNb KOa KOb) (fun w => flag_any _ w), fun w => sf2_t 0 (by decide) _ _ _ _ _ _ _ _ _ _ _ _ _ _ _ w KW1 RSa RSb (fun v1 v2 w h1 h2 => te_0 _ _ _ _ g1 g2 v1 v2 _ _ _ _ _ w h1 h2 k1 k2 (L1 v1 v2) (L2 v1 v2) (fun w => ?_))⟩
      rw [eB]
      exact bool_any _ w
theorem b2_92 (a b : Nat) (ha : a < 18446744073709551616) (hb : b < 18446744073709551616) : B2 92 a b := by
  obtain ⟨m1, e1⟩ : ∃ m, m = a % 4294967296 % 2147483648 := ⟨_, rfl⟩
  obtain ⟨m2, e2⟩ : ∃ m, m = b % 4294967296 % 2147483648 := ⟨_, rfl⟩
  obtain ⟨g1, f1⟩ : ∃ g, g = decide (2147483648 ≤ a % 4294967296) := ⟨_, rfl⟩
  obtain ⟨g2, f2⟩ : ∃ g, g = decide (2147483648 ≤ b % 4294967296) := ⟨_, rfl⟩
  have hA : a % 4294967296 < 4294967296 := Nat.mod_lt _ (by decide)
  have hB : b % 4294967296 < 4294967296 := Nat.mod_lt _ (by decide)
  have l1 : m1 < 2147483648 := by omega
  have l2 : m2 < 2147483648 := by omega
  have RSa := fun w => sread_n a w ha m1 g1 e1 f1
  have RSb := fun w => sread_n b w hb m2 g2 e2 f2
  have KLa := fun w => low_n (a : Int) w
  have KLb := fun w => low_n (b : Int) w
  rw [low_n_m a ha] at KLa
  rw [low_n_m b hb] at KLb
  have KF : ∀ w, Tab0 w → 0 < w.heap.size → Hid (Calls Tryd.prog 32 #[.int .i64 92] w fun e w' => e = .returned (.tuple #[.int .i64 92, FVn]) ∧ Below w.heap.size w w') := fun w hT hz => fold_na 92 w (by decide) hT hz
  have KW1 : ∀ w, Hid (Calls Tryd.prog 22 #[.int .i64 92, .int .i64 91, .int .i64 97, .int .i64 6] w fun e w' => e = .returned (.tuple #[FSn, .int .i64 1]) ∧ Below w.heap.size w w') := fun w => wht_n 92 w (by decide) (by decide) (by decide) (by decide)
  have KNa := fun w => inan_n (a % 4294967296) m1 w hA e1
  have KNb := fun w => inan_n (b % 4294967296) m2 w hB e2
  by_cases n1 : 2139095040 < m1
  · rw [decide_eq_true n1] at KNa
    rw [kd_n_n n1] at RSa
    exact ⟨true, 0, if ((92 : Int) == 92) then 1 else 0, fun w hT hz => if2_92 _ _ _ _ _ _ _ _ _ _ _ w hT hz KF KLa KLb (fun w => holds_na _ _ _ _ 92 _ _ w KNa) (fun w => flag_any _ w), fun w => sf2_t 1 (by decide) _ _ _ _ _ _ _ _ _ _ _ _ _ _ _ w KW1 RSa RSb (fun v1 v2 w h1 h2 => te_na 1 _ g1 g2 v1 v2 _ _ _ _ _ w h1 h2 (fun w => bool_any ((1 : Int) == 1) w))⟩
  · rw [decide_eq_false n1] at KNa
    have k1 : (kd_n m1 == 2) = false := by unfold kd_n; rw [if_neg n1]; split <;> decide
    by_cases n2 : 2139095040 < m2
    · rw [decide_eq_true n2] at KNb
      rw [kd_n_n n2] at RSb
      exact ⟨true, 0, if ((92 : Int) == 92) then 1 else 0, fun w hT hz => if2_92 _ _ _ _ _ _ _ _ _ _ _ w hT hz KF KLa KLb (fun w => holds_nb _ _ _ _ 92 _ _ w KNa KNb) (fun w => flag_any _ w), fun w => sf2_t 1 (by decide) _ _ _ _ _ _ _ _ _ _ _ _ _ _ _ w KW1 RSa RSb (fun v1 v2 w h1 h2 => te_nb 1 _ g1 g2 v1 v2 _ _ _ _ _ w h1 h2 k1 (fun w => bool_any ((1 : Int) == 1) w))⟩
    · rw [decide_eq_false n2] at KNb
      have k2 : (kd_n m2 == 2) = false := by unfold kd_n; rw [if_neg n2]; split <;> decide
      have KOa := fun w => iorder_n (a % 4294967296) m1 g1 w hA e1 f1
      have KOb := fun w => iorder_n (b % 4294967296) m2 g2 w hB e2 f2
      have L1 := fun v1 v2 w h1 h2 => sless_n m1 m2 g1 g2 v1 v2 w (by omega) (by omega) h1 h2
      have L2 := fun v1 v2 w h1 h2 => sless_n m2 m1 g2 g1 v2 v1 w (by omega) (by omega) h2 h1
      generalize oI g1 m1 = x at *
      generalize oI g2 m2 = y at *
      have eB : (decide (x < y) || decide (y < x)) = (!(x == y)) := by first | rfl | (rw [Bool.eq_iff_iff]; simp; done) | (rw [Bool.eq_iff_iff]; simp; omega)
      refine ⟨true, 0, if (!(x == y)) then 1 else 0, fun w hT hz => if2_92 _ _ _ _ _ _ _ _ _ _ _ w hT hz KF KLa KLb (fun w => holds_92 _ _ _ _ _ _ x y w KNa KNb KOa KOb) (fun w => flag_any _ w), fun w => sf2_t 1 (by decide) _ _ _ _ _ _ _ _ _ _ _ _ _ _ _ w KW1 RSa RSb (fun v1 v2 w h1 h2 => te_1 _ _ _ _ g1 g2 v1 v2 _ _ _ _ _ w h1 h2 k1 k2 (L1 v1 v2) (L2 v1 v2) (fun w => ?_))⟩
      rw [eB]
      exact bool_any _ w
theorem b2_93 (a b : Nat) (ha : a < 18446744073709551616) (hb : b < 18446744073709551616) : B2 93 a b := by
  obtain ⟨m1, e1⟩ : ∃ m, m = a % 4294967296 % 2147483648 := ⟨_, rfl⟩
  obtain ⟨m2, e2⟩ : ∃ m, m = b % 4294967296 % 2147483648 := ⟨_, rfl⟩
  obtain ⟨g1, f1⟩ : ∃ g, g = decide (2147483648 ≤ a % 4294967296) := ⟨_, rfl⟩
  obtain ⟨g2, f2⟩ : ∃ g, g = decide (2147483648 ≤ b % 4294967296) := ⟨_, rfl⟩
  have hA : a % 4294967296 < 4294967296 := Nat.mod_lt _ (by decide)
  have hB : b % 4294967296 < 4294967296 := Nat.mod_lt _ (by decide)
  have l1 : m1 < 2147483648 := by omega
  have l2 : m2 < 2147483648 := by omega
  have RSa := fun w => sread_n a w ha m1 g1 e1 f1
  have RSb := fun w => sread_n b w hb m2 g2 e2 f2
  have KLa := fun w => low_n (a : Int) w
  have KLb := fun w => low_n (b : Int) w
  rw [low_n_m a ha] at KLa
  rw [low_n_m b hb] at KLb
  have KF : ∀ w, Tab0 w → 0 < w.heap.size → Hid (Calls Tryd.prog 32 #[.int .i64 93] w fun e w' => e = .returned (.tuple #[.int .i64 93, FVn]) ∧ Below w.heap.size w w') := fun w hT hz => fold_na 93 w (by decide) hT hz
  have KW1 : ∀ w, Hid (Calls Tryd.prog 22 #[.int .i64 93, .int .i64 91, .int .i64 97, .int .i64 6] w fun e w' => e = .returned (.tuple #[FSn, .int .i64 2]) ∧ Below w.heap.size w w') := fun w => wht_n 93 w (by decide) (by decide) (by decide) (by decide)
  have KNa := fun w => inan_n (a % 4294967296) m1 w hA e1
  have KNb := fun w => inan_n (b % 4294967296) m2 w hB e2
  by_cases n1 : 2139095040 < m1
  · rw [decide_eq_true n1] at KNa
    rw [kd_n_n n1] at RSa
    exact ⟨true, 0, if ((93 : Int) == 92) then 1 else 0, fun w hT hz => if2_93 _ _ _ _ _ _ _ _ _ _ _ w hT hz KF KLa KLb (fun w => holds_na _ _ _ _ 93 _ _ w KNa) (fun w => flag_any _ w), fun w => sf2_t 2 (by decide) _ _ _ _ _ _ _ _ _ _ _ _ _ _ _ w KW1 RSa RSb (fun v1 v2 w h1 h2 => te_na 2 _ g1 g2 v1 v2 _ _ _ _ _ w h1 h2 (fun w => bool_any ((2 : Int) == 1) w))⟩
  · rw [decide_eq_false n1] at KNa
    have k1 : (kd_n m1 == 2) = false := by unfold kd_n; rw [if_neg n1]; split <;> decide
    by_cases n2 : 2139095040 < m2
    · rw [decide_eq_true n2] at KNb
      rw [kd_n_n n2] at RSb
      exact ⟨true, 0, if ((93 : Int) == 92) then 1 else 0, fun w hT hz => if2_93 _ _ _ _ _ _ _ _ _ _ _ w hT hz KF KLa KLb (fun w => holds_nb _ _ _ _ 93 _ _ w KNa KNb) (fun w => flag_any _ w), fun w => sf2_t 2 (by decide) _ _ _ _ _ _ _ _ _ _ _ _ _ _ _ w KW1 RSa RSb (fun v1 v2 w h1 h2 => te_nb 2 _ g1 g2 v1 v2 _ _ _ _ _ w h1 h2 k1 (fun w => bool_any ((2 : Int) == 1) w))⟩
    · rw [decide_eq_false n2] at KNb
      have k2 : (kd_n m2 == 2) = false := by unfold kd_n; rw [if_neg n2]; split <;> decide
      have KOa := fun w => iorder_n (a % 4294967296) m1 g1 w hA e1 f1
      have KOb := fun w => iorder_n (b % 4294967296) m2 g2 w hB e2 f2
      have L1 := fun v1 v2 w h1 h2 => sless_n m1 m2 g1 g2 v1 v2 w (by omega) (by omega) h1 h2
      have L2 := fun v1 v2 w h1 h2 => sless_n m2 m1 g2 g1 v2 v1 w (by omega) (by omega) h2 h1
      generalize oI g1 m1 = x at *
      generalize oI g2 m2 = y at *
      have eB : decide (x < y) = (decide (x < y)) := by first | rfl | (rw [Bool.eq_iff_iff]; simp; done) | (rw [Bool.eq_iff_iff]; simp; omega)
      refine ⟨true, 0, if (decide (x < y)) then 1 else 0, fun w hT hz => if2_93 _ _ _ _ _ _ _ _ _ _ _ w hT hz KF KLa KLb (fun w => holds_93 _ _ _ _ _ _ x y w KNa KNb KOa KOb) (fun w => flag_any _ w), fun w => sf2_t 2 (by decide) _ _ _ _ _ _ _ _ _ _ _ _ _ _ _ w KW1 RSa RSb (fun v1 v2 w h1 h2 => te_2 _ _ _ _ g1 g2 v1 v2 _ _ _ _ _ w h1 h2 k1 k2 (L1 v1 v2) (L2 v1 v2) (fun w => ?_))⟩
      rw [eB]
      exact bool_any _ w
theorem b2_94 (a b : Nat) (ha : a < 18446744073709551616) (hb : b < 18446744073709551616) : B2 94 a b := by
  obtain ⟨m1, e1⟩ : ∃ m, m = a % 4294967296 % 2147483648 := ⟨_, rfl⟩
  obtain ⟨m2, e2⟩ : ∃ m, m = b % 4294967296 % 2147483648 := ⟨_, rfl⟩
  obtain ⟨g1, f1⟩ : ∃ g, g = decide (2147483648 ≤ a % 4294967296) := ⟨_, rfl⟩
  obtain ⟨g2, f2⟩ : ∃ g, g = decide (2147483648 ≤ b % 4294967296) := ⟨_, rfl⟩
  have hA : a % 4294967296 < 4294967296 := Nat.mod_lt _ (by decide)
  have hB : b % 4294967296 < 4294967296 := Nat.mod_lt _ (by decide)
  have l1 : m1 < 2147483648 := by omega
  have l2 : m2 < 2147483648 := by omega
  have RSa := fun w => sread_n a w ha m1 g1 e1 f1
  have RSb := fun w => sread_n b w hb m2 g2 e2 f2
  have KLa := fun w => low_n (a : Int) w
  have KLb := fun w => low_n (b : Int) w
  rw [low_n_m a ha] at KLa
  rw [low_n_m b hb] at KLb
  have KF : ∀ w, Tab0 w → 0 < w.heap.size → Hid (Calls Tryd.prog 32 #[.int .i64 94] w fun e w' => e = .returned (.tuple #[.int .i64 94, FVn]) ∧ Below w.heap.size w w') := fun w hT hz => fold_na 94 w (by decide) hT hz
  have KW1 : ∀ w, Hid (Calls Tryd.prog 22 #[.int .i64 94, .int .i64 91, .int .i64 97, .int .i64 6] w fun e w' => e = .returned (.tuple #[FSn, .int .i64 3]) ∧ Below w.heap.size w w') := fun w => wht_n 94 w (by decide) (by decide) (by decide) (by decide)
  have KNa := fun w => inan_n (a % 4294967296) m1 w hA e1
  have KNb := fun w => inan_n (b % 4294967296) m2 w hB e2
  by_cases n1 : 2139095040 < m1
  · rw [decide_eq_true n1] at KNa
    rw [kd_n_n n1] at RSa
    exact ⟨true, 0, if ((94 : Int) == 92) then 1 else 0, fun w hT hz => if2_94 _ _ _ _ _ _ _ _ _ _ _ w hT hz KF KLa KLb (fun w => holds_na _ _ _ _ 94 _ _ w KNa) (fun w => flag_any _ w), fun w => sf2_t 3 (by decide) _ _ _ _ _ _ _ _ _ _ _ _ _ _ _ w KW1 RSa RSb (fun v1 v2 w h1 h2 => te_na 3 _ g1 g2 v1 v2 _ _ _ _ _ w h1 h2 (fun w => bool_any ((3 : Int) == 1) w))⟩
  · rw [decide_eq_false n1] at KNa
    have k1 : (kd_n m1 == 2) = false := by unfold kd_n; rw [if_neg n1]; split <;> decide
    by_cases n2 : 2139095040 < m2
    · rw [decide_eq_true n2] at KNb
      rw [kd_n_n n2] at RSb
      exact ⟨true, 0, if ((94 : Int) == 92) then 1 else 0, fun w hT hz => if2_94 _ _ _ _ _ _ _ _ _ _ _ w hT hz KF KLa KLb (fun w => holds_nb _ _ _ _ 94 _ _ w KNa KNb) (fun w => flag_any _ w), fun w => sf2_t 3 (by decide) _ _ _ _ _ _ _ _ _ _ _ _ _ _ _ w KW1 RSa RSb (fun v1 v2 w h1 h2 => te_nb 3 _ g1 g2 v1 v2 _ _ _ _ _ w h1 h2 k1 (fun w => bool_any ((3 : Int) == 1) w))⟩
    · rw [decide_eq_false n2] at KNb
      have k2 : (kd_n m2 == 2) = false := by unfold kd_n; rw [if_neg n2]; split <;> decide
      have KOa := fun w => iorder_n (a % 4294967296) m1 g1 w hA e1 f1
      have KOb := fun w => iorder_n (b % 4294967296) m2 g2 w hB e2 f2
      have L1 := fun v1 v2 w h1 h2 => sless_n m1 m2 g1 g2 v1 v2 w (by omega) (by omega) h1 h2
      have L2 := fun v1 v2 w h1 h2 => sless_n m2 m1 g2 g1 v2 v1 w (by omega) (by omega) h2 h1
      generalize oI g1 m1 = x at *
      generalize oI g2 m2 = y at *
      have eB : decide (y < x) = (decide (y < x)) := by first | rfl | (rw [Bool.eq_iff_iff]; simp; done) | (rw [Bool.eq_iff_iff]; simp; omega)
      refine ⟨true, 0, if (decide (y < x)) then 1 else 0, fun w hT hz => if2_94 _ _ _ _ _ _ _ _ _ _ _ w hT hz KF KLa KLb (fun w => holds_94 _ _ _ _ _ _ x y w KNa KNb KOa KOb) (fun w => flag_any _ w), fun w => sf2_t 3 (by decide) _ _ _ _ _ _ _ _ _ _ _ _ _ _ _ w KW1 RSa RSb (fun v1 v2 w h1 h2 => te_3 _ _ _ _ g1 g2 v1 v2 _ _ _ _ _ w h1 h2 k1 k2 (L1 v1 v2) (L2 v1 v2) (fun w => ?_))⟩
      rw [eB]
      exact bool_any _ w
theorem b2_95 (a b : Nat) (ha : a < 18446744073709551616) (hb : b < 18446744073709551616) : B2 95 a b := by
  obtain ⟨m1, e1⟩ : ∃ m, m = a % 4294967296 % 2147483648 := ⟨_, rfl⟩
  obtain ⟨m2, e2⟩ : ∃ m, m = b % 4294967296 % 2147483648 := ⟨_, rfl⟩
  obtain ⟨g1, f1⟩ : ∃ g, g = decide (2147483648 ≤ a % 4294967296) := ⟨_, rfl⟩
  obtain ⟨g2, f2⟩ : ∃ g, g = decide (2147483648 ≤ b % 4294967296) := ⟨_, rfl⟩
  have hA : a % 4294967296 < 4294967296 := Nat.mod_lt _ (by decide)
  have hB : b % 4294967296 < 4294967296 := Nat.mod_lt _ (by decide)
  have l1 : m1 < 2147483648 := by omega
  have l2 : m2 < 2147483648 := by omega
  have RSa := fun w => sread_n a w ha m1 g1 e1 f1
  have RSb := fun w => sread_n b w hb m2 g2 e2 f2
  have KLa := fun w => low_n (a : Int) w
  have KLb := fun w => low_n (b : Int) w
  rw [low_n_m a ha] at KLa
  rw [low_n_m b hb] at KLb
  have KF : ∀ w, Tab0 w → 0 < w.heap.size → Hid (Calls Tryd.prog 32 #[.int .i64 95] w fun e w' => e = .returned (.tuple #[.int .i64 95, FVn]) ∧ Below w.heap.size w w') := fun w hT hz => fold_na 95 w (by decide) hT hz
  have KW1 : ∀ w, Hid (Calls Tryd.prog 22 #[.int .i64 95, .int .i64 91, .int .i64 97, .int .i64 6] w fun e w' => e = .returned (.tuple #[FSn, .int .i64 4]) ∧ Below w.heap.size w w') := fun w => wht_n 95 w (by decide) (by decide) (by decide) (by decide)
  have KNa := fun w => inan_n (a % 4294967296) m1 w hA e1
  have KNb := fun w => inan_n (b % 4294967296) m2 w hB e2
  by_cases n1 : 2139095040 < m1
  · rw [decide_eq_true n1] at KNa
    rw [kd_n_n n1] at RSa
    exact ⟨true, 0, if ((95 : Int) == 92) then 1 else 0, fun w hT hz => if2_95 _ _ _ _ _ _ _ _ _ _ _ w hT hz KF KLa KLb (fun w => holds_na _ _ _ _ 95 _ _ w KNa) (fun w => flag_any _ w), fun w => sf2_t 4 (by decide) _ _ _ _ _ _ _ _ _ _ _ _ _ _ _ w KW1 RSa RSb (fun v1 v2 w h1 h2 => te_na 4 _ g1 g2 v1 v2 _ _ _ _ _ w h1 h2 (fun w => bool_any ((4 : Int) == 1) w))⟩
  · rw [decide_eq_false n1] at KNa
    have k1 : (kd_n m1 == 2) = false := by unfold kd_n; rw [if_neg n1]; split <;> decide
    by_cases n2 : 2139095040 < m2
    · rw [decide_eq_true n2] at KNb
      rw [kd_n_n n2] at RSb
      exact ⟨true, 0, if ((95 : Int) == 92) then 1 else 0, fun w hT hz => if2_95 _ _ _ _ _ _ _ _ _ _ _ w hT hz KF KLa KLb (fun w => holds_nb _ _ _ _ 95 _ _ w KNa KNb) (fun w => flag_any _ w), fun w => sf2_t 4 (by decide) _ _ _ _ _ _ _ _ _ _ _ _ _ _ _ w KW1 RSa RSb (fun v1 v2 w h1 h2 => te_nb 4 _ g1 g2 v1 v2 _ _ _ _ _ w h1 h2 k1 (fun w => bool_any ((4 : Int) == 1) w))⟩
    · rw [decide_eq_false n2] at KNb
      have k2 : (kd_n m2 == 2) = false := by unfold kd_n; rw [if_neg n2]; split <;> decide
      have KOa := fun w => iorder_n (a % 4294967296) m1 g1 w hA e1 f1
      have KOb := fun w => iorder_n (b % 4294967296) m2 g2 w hB e2 f2
      have L1 := fun v1 v2 w h1 h2 => sless_n m1 m2 g1 g2 v1 v2 w (by omega) (by omega) h1 h2
      have L2 := fun v1 v2 w h1 h2 => sless_n m2 m1 g2 g1 v2 v1 w (by omega) (by omega) h2 h1
      generalize oI g1 m1 = x at *
      generalize oI g2 m2 = y at *
      have eB : (!decide (y < x)) = (decide (x ≤ y)) := by first | rfl | (rw [Bool.eq_iff_iff]; simp; done) | (rw [Bool.eq_iff_iff]; simp; omega)
      refine ⟨true, 0, if (decide (x ≤ y)) then 1 else 0, fun w hT hz => if2_95 _ _ _ _ _ _ _ _ _ _ _ w hT hz KF KLa KLb (fun w => holds_95 _ _ _ _ _ _ x y w KNa KNb KOa KOb) (fun w => flag_any _ w), fun w => sf2_t 4 (by decide) _ _ _ _ _ _ _ _ _ _ _ _ _ _ _ w KW1 RSa RSb (fun v1 v2 w h1 h2 => te_4 _ _ _ _ g1 g2 v1 v2 _ _ _ _ _ w h1 h2 k1 k2 (L1 v1 v2) (L2 v1 v2) (fun w => ?_))⟩
      rw [eB]
      exact bool_any _ w
theorem b2_96 (a b : Nat) (ha : a < 18446744073709551616) (hb : b < 18446744073709551616) : B2 96 a b := by
  obtain ⟨m1, e1⟩ : ∃ m, m = a % 4294967296 % 2147483648 := ⟨_, rfl⟩
  obtain ⟨m2, e2⟩ : ∃ m, m = b % 4294967296 % 2147483648 := ⟨_, rfl⟩
  obtain ⟨g1, f1⟩ : ∃ g, g = decide (2147483648 ≤ a % 4294967296) := ⟨_, rfl⟩
  obtain ⟨g2, f2⟩ : ∃ g, g = decide (2147483648 ≤ b % 4294967296) := ⟨_, rfl⟩
  have hA : a % 4294967296 < 4294967296 := Nat.mod_lt _ (by decide)
  have hB : b % 4294967296 < 4294967296 := Nat.mod_lt _ (by decide)
  have l1 : m1 < 2147483648 := by omega
  have l2 : m2 < 2147483648 := by omega
  have RSa := fun w => sread_n a w ha m1 g1 e1 f1
  have RSb := fun w => sread_n b w hb m2 g2 e2 f2
  have KLa := fun w => low_n (a : Int) w
  have KLb := fun w => low_n (b : Int) w
  rw [low_n_m a ha] at KLa
  rw [low_n_m b hb] at KLb
  have KF : ∀ w, Tab0 w → 0 < w.heap.size → Hid (Calls Tryd.prog 32 #[.int .i64 96] w fun e w' => e = .returned (.tuple #[.int .i64 96, FVn]) ∧ Below w.heap.size w w') := fun w hT hz => fold_na 96 w (by decide) hT hz
  have KW1 : ∀ w, Hid (Calls Tryd.prog 22 #[.int .i64 96, .int .i64 91, .int .i64 97, .int .i64 6] w fun e w' => e = .returned (.tuple #[FSn, .int .i64 5]) ∧ Below w.heap.size w w') := fun w => wht_n 96 w (by decide) (by decide) (by decide) (by decide)
  have KNa := fun w => inan_n (a % 4294967296) m1 w hA e1
  have KNb := fun w => inan_n (b % 4294967296) m2 w hB e2
  by_cases n1 : 2139095040 < m1
  · rw [decide_eq_true n1] at KNa
    rw [kd_n_n n1] at RSa
    exact ⟨true, 0, if ((96 : Int) == 92) then 1 else 0, fun w hT hz => if2_96 _ _ _ _ _ _ _ _ _ _ _ w hT hz KF KLa KLb (fun w => holds_na _ _ _ _ 96 _ _ w KNa) (fun w => flag_any _ w), fun w => sf2_t 5 (by decide) _ _ _ _ _ _ _ _ _ _ _ _ _ _ _ w KW1 RSa RSb (fun v1 v2 w h1 h2 => te_na 5 _ g1 g2 v1 v2 _ _ _ _ _ w h1 h2 (fun w => bool_any ((5 : Int) == 1) w))⟩
  · rw [decide_eq_false n1] at KNa
    have k1 : (kd_n m1 == 2) = false := by unfold kd_n; rw [if_neg n1]; split <;> decide
    by_cases n2 : 2139095040 < m2
    · rw [decide_eq_true n2] at KNb
      rw [kd_n_n n2] at RSb
      exact ⟨true, 0, if ((96 : Int) == 92) then 1 else 0, fun w hT hz => if2_96 _ _ _ _ _ _ _ _ _ _ _ w hT hz KF KLa KLb (fun w => holds_nb _ _ _ _ 96 _ _ w KNa KNb) (fun w => flag_any _ w), fun w => sf2_t 5 (by decide) _ _ _ _ _ _ _ _ _ _ _ _ _ _ _ w KW1 RSa RSb (fun v1 v2 w h1 h2 => te_nb 5 _ g1 g2 v1 v2 _ _ _ _ _ w h1 h2 k1 (fun w => bool_any ((5 : Int) == 1) w))⟩
    · rw [decide_eq_false n2] at KNb
      have k2 : (kd_n m2 == 2) = false := by unfold kd_n; rw [if_neg n2]; split <;> decide
      have KOa := fun w => iorder_n (a % 4294967296) m1 g1 w hA e1 f1
      have KOb := fun w => iorder_n (b % 4294967296) m2 g2 w hB e2 f2
      have L1 := fun v1 v2 w h1 h2 => sless_n m1 m2 g1 g2 v1 v2 w (by omega) (by omega) h1 h2
      have L2 := fun v1 v2 w h1 h2 => sless_n m2 m1 g2 g1 v2 v1 w (by omega) (by omega) h2 h1
      generalize oI g1 m1 = x at *
      generalize oI g2 m2 = y at *
      have eB : (!decide (x < y)) = (decide (y ≤ x)) := by first | rfl | (rw [Bool.eq_iff_iff]; simp; done) | (rw [Bool.eq_iff_iff]; simp; omega)
      refine ⟨true, 0, if (decide (y ≤ x)) then 1 else 0, fun w hT hz => if2_96 _ _ _ _ _ _ _ _ _ _ _ w hT hz KF KLa KLb (fun w => holds_96 _ _ _ _ _ _ x y w KNa KNb KOa KOb) (fun w => flag_any _ w), fun w => sf2_t 5 (by decide) _ _ _ _ _ _ _ _ _ _ _ _ _ _ _ w KW1 RSa RSb (fun v1 v2 w h1 h2 => te_5 _ _ _ _ g1 g2 v1 v2 _ _ _ _ _ w h1 h2 k1 k2 (L1 v1 v2) (L2 v1 v2) (fun w => ?_))⟩
      rw [eB]
      exact bool_any _ w
theorem b2_97 (a b : Nat) (ha : a < 18446744073709551616) (hb : b < 18446744073709551616) : B2 97 a b := by
  obtain ⟨m1, e1⟩ : ∃ m, m = a % 18446744073709551616 % 9223372036854775808 := ⟨_, rfl⟩
  obtain ⟨m2, e2⟩ : ∃ m, m = b % 18446744073709551616 % 9223372036854775808 := ⟨_, rfl⟩
  obtain ⟨g1, f1⟩ : ∃ g, g = decide (9223372036854775808 ≤ a % 18446744073709551616) := ⟨_, rfl⟩
  obtain ⟨g2, f2⟩ : ∃ g, g = decide (9223372036854775808 ≤ b % 18446744073709551616) := ⟨_, rfl⟩
  have hA : a % 18446744073709551616 < 18446744073709551616 := Nat.mod_lt _ (by decide)
  have hB : b % 18446744073709551616 < 18446744073709551616 := Nat.mod_lt _ (by decide)
  have l1 : m1 < 9223372036854775808 := by omega
  have l2 : m2 < 9223372036854775808 := by omega
  have RSa := fun w => sread_w a w ha m1 g1 e1 f1
  have RSb := fun w => sread_w b w hb m2 g2 e2 f2
  have KLa := fun w => low_w (a : Int) w
  have KLb := fun w => low_w (b : Int) w
  rw [low_w_m a ha] at KLa
  rw [low_w_m b hb] at KLb
  have KF : ∀ w, Tab0 w → 0 < w.heap.size → Hid (Calls Tryd.prog 32 #[.int .i64 97] w fun e w' => e = .returned (.tuple #[.int .i64 91, FVw]) ∧ Below w.heap.size w w') := fun w hT hz => fold_test 97 w (by decide) (by decide) hT hz
  have KW1 : ∀ w, Hid (Calls Tryd.prog 22 #[.int .i64 97, .int .i64 91, .int .i64 97, .int .i64 6] w fun e w' => e = .returned (.tuple #[FSw, .int .i64 0]) ∧ Below w.heap.size w w') := fun w => wht_w 97 w (by decide) (by decide) (by decide) (by decide)
  have KNa := fun w => inan_w (a % 18446744073709551616) m1 w hA e1
  have KNb := fun w => inan_w (b % 18446744073709551616) m2 w hB e2
  by_cases n1 : 9218868437227405312 < m1
  · rw [decide_eq_true n1] at KNa
    rw [kd_w_n n1] at RSa
    exact ⟨true, 0, if ((91 : Int) == 92) then 1 else 0, fun w hT hz => if2_91 _ _ _ _ _ _ _ _ _ _ _ w hT hz KF KLa KLb (fun w => holds_na _ _ _ _ 91 _ _ w KNa) (fun w => flag_any _ w), fun w => sf2_t 0 (by decide) _ _ _ _ _ _ _ _ _ _ _ _ _ _ _ w KW1 RSa RSb (fun v1 v2 w h1 h2 => te_na 0 _ g1 g2 v1 v2 _ _ _ _ _ w h1 h2 (fun w => bool_any ((0 : Int) == 1) w))⟩
  · rw [decide_eq_false n1] at KNa
    have k1 : (kd_w m1 == 2) = false := by unfold kd_w; rw [if_neg n1]; split <;> decide
    by_cases n2 : 9218868437227405312 < m2
    · rw [decide_eq_true n2] at KNb
      rw [kd_w_n n2] at RSb
      exact ⟨true, 0, if ((91 : Int) == 92) then 1 else 0, fun w hT hz => if2_91 _ _ _ _ _ _ _ _ _ _ _ w hT hz KF KLa KLb (fun w => holds_nb _ _ _ _ 91 _ _ w KNa KNb) (fun w => flag_any _ w), fun w => sf2_t 0 (by decide) _ _ _ _ _ _ _ _ _ _ _ _ _ _ _ w KW1 RSa RSb (fun v1 v2 w h1 h2 => te_nb 0 _ g1 g2 v1 v2 _ _ _ _ _ w h1 h2 k1 (fun w => bool_any ((0 : Int) == 1) w))⟩
    · rw [decide_eq_false n2] at KNb
      have k2 : (kd_w m2 == 2) = false := by unfold kd_w; rw [if_neg n2]; split <;> decide
      have KOa := fun w => iorder_w (a % 18446744073709551616) m1 g1 w hA e1 f1
      have KOb := fun w => iorder_w (b % 18446744073709551616) m2 g2 w hB e2 f2
      have L1 := fun v1 v2 w h1 h2 => sless_w m1 m2 g1 g2 v1 v2 w (by omega) (by omega) h1 h2
      have L2 := fun v1 v2 w h1 h2 => sless_w m2 m1 g2 g1 v2 v1 w (by omega) (by omega) h2 h1
      generalize oI g1 m1 = x at *
      generalize oI g2 m2 = y at *
      have eB : (!decide (x < y) && !decide (y < x)) = (x == y) := by first | rfl | (rw [Bool.eq_iff_iff]; simp; done) | (rw [Bool.eq_iff_iff]; simp; omega)
      refine ⟨true, 0, if (x == y) then 1 else 0, fun w hT hz => if2_91 _ _ _ _ _ _ _ _ _ _ _ w hT hz KF KLa KLb (fun w => holds_91 _ _ _ _ _ _ x y w KNa KNb KOa KOb) (fun w => flag_any _ w), fun w => sf2_t 0 (by decide) _ _ _ _ _ _ _ _ _ _ _ _ _ _ _ w KW1 RSa RSb (fun v1 v2 w h1 h2 => te_0 _ _ _ _ g1 g2 v1 v2 _ _ _ _ _ w h1 h2 k1 k2 (L1 v1 v2) (L2 v1 v2) (fun w => ?_))⟩
      rw [eB]
      exact bool_any _ w
theorem b2_98 (a b : Nat) (ha : a < 18446744073709551616) (hb : b < 18446744073709551616) : B2 98 a b := by
  obtain ⟨m1, e1⟩ : ∃ m, m = a % 18446744073709551616 % 9223372036854775808 := ⟨_, rfl⟩
  obtain ⟨m2, e2⟩ : ∃ m, m = b % 18446744073709551616 % 9223372036854775808 := ⟨_, rfl⟩
  obtain ⟨g1, f1⟩ : ∃ g, g = decide (9223372036854775808 ≤ a % 18446744073709551616) := ⟨_, rfl⟩
  obtain ⟨g2, f2⟩ : ∃ g, g = decide (9223372036854775808 ≤ b % 18446744073709551616) := ⟨_, rfl⟩
  have hA : a % 18446744073709551616 < 18446744073709551616 := Nat.mod_lt _ (by decide)
  have hB : b % 18446744073709551616 < 18446744073709551616 := Nat.mod_lt _ (by decide)
  have l1 : m1 < 9223372036854775808 := by omega
  have l2 : m2 < 9223372036854775808 := by omega
  have RSa := fun w => sread_w a w ha m1 g1 e1 f1
  have RSb := fun w => sread_w b w hb m2 g2 e2 f2
  have KLa := fun w => low_w (a : Int) w
  have KLb := fun w => low_w (b : Int) w
  rw [low_w_m a ha] at KLa
  rw [low_w_m b hb] at KLb
  have KF : ∀ w, Tab0 w → 0 < w.heap.size → Hid (Calls Tryd.prog 32 #[.int .i64 98] w fun e w' => e = .returned (.tuple #[.int .i64 92, FVw]) ∧ Below w.heap.size w w') := fun w hT hz => fold_test 98 w (by decide) (by decide) hT hz
  have KW1 : ∀ w, Hid (Calls Tryd.prog 22 #[.int .i64 98, .int .i64 91, .int .i64 97, .int .i64 6] w fun e w' => e = .returned (.tuple #[FSw, .int .i64 1]) ∧ Below w.heap.size w w') := fun w => wht_w 98 w (by decide) (by decide) (by decide) (by decide)
  have KNa := fun w => inan_w (a % 18446744073709551616) m1 w hA e1
  have KNb := fun w => inan_w (b % 18446744073709551616) m2 w hB e2
  by_cases n1 : 9218868437227405312 < m1
  · rw [decide_eq_true n1] at KNa
    rw [kd_w_n n1] at RSa
    exact ⟨true, 0, if ((92 : Int) == 92) then 1 else 0, fun w hT hz => if2_92 _ _ _ _ _ _ _ _ _ _ _ w hT hz KF KLa KLb (fun w => holds_na _ _ _ _ 92 _ _ w KNa) (fun w => flag_any _ w), fun w => sf2_t 1 (by decide) _ _ _ _ _ _ _ _ _ _ _ _ _ _ _ w KW1 RSa RSb (fun v1 v2 w h1 h2 => te_na 1 _ g1 g2 v1 v2 _ _ _ _ _ w h1 h2 (fun w => bool_any ((1 : Int) == 1) w))⟩
  · rw [decide_eq_false n1] at KNa
    have k1 : (kd_w m1 == 2) = false := by unfold kd_w; rw [if_neg n1]; split <;> decide
    by_cases n2 : 9218868437227405312 < m2
    · rw [decide_eq_true n2] at KNb
      rw [kd_w_n n2] at RSb
      exact ⟨true, 0, if ((92 : Int) == 92) then 1 else 0, fun w hT hz => if2_92 _ _ _ _ _ _ _ _ _ _ _ w hT hz KF KLa KLb (fun w => holds_nb _ _ _ _ 92 _ _ w KNa KNb) (fun w => flag_any _ w), fun w => sf2_t 1 (by decide) _ _ _ _ _ _ _ _ _ _ _ _ _ _ _ w KW1 RSa RSb (fun v1 v2 w h1 h2 => te_nb 1 _ g1 g2 v1 v2 _ _ _ _ _ w h1 h2 k1 (fun w => bool_any ((1 : Int) == 1) w))⟩
    · rw [decide_eq_false n2] at KNb
      have k2 : (kd_w m2 == 2) = false := by unfold kd_w; rw [if_neg n2]; split <;> decide
      have KOa := fun w => iorder_w (a % 18446744073709551616) m1 g1 w hA e1 f1
      have KOb := fun w => iorder_w (b % 18446744073709551616) m2 g2 w hB e2 f2
      have L1 := fun v1 v2 w h1 h2 => sless_w m1 m2 g1 g2 v1 v2 w (by omega) (by omega) h1 h2
      have L2 := fun v1 v2 w h1 h2 => sless_w m2 m1 g2 g1 v2 v1 w (by omega) (by omega) h2 h1
      generalize oI g1 m1 = x at *
      generalize oI g2 m2 = y at *
      have eB : (decide (x < y) || decide (y < x)) = (!(x == y)) := by first | rfl | (rw [Bool.eq_iff_iff]; simp; done) | (rw [Bool.eq_iff_iff]; simp; omega)
      refine ⟨true, 0, if (!(x == y)) then 1 else 0, fun w hT hz => if2_92 _ _ _ _ _ _ _ _ _ _ _ w hT hz KF KLa KLb (fun w => holds_92 _ _ _ _ _ _ x y w KNa KNb KOa KOb) (fun w => flag_any _ w), fun w => sf2_t 1 (by decide) _ _ _ _ _ _ _ _ _ _ _ _ _ _ _ w KW1 RSa RSb (fun v1 v2 w h1 h2 => te_1 _ _ _ _ g1 g2 v1 v2 _ _ _ _ _ w h1 h2 k1 k2 (L1 v1 v2) (L2 v1 v2) (fun w => ?_))⟩
      rw [eB]
      exact bool_any _ w
theorem b2_99 (a b : Nat) (ha : a < 18446744073709551616) (hb : b < 18446744073709551616) : B2 99 a b := by
  obtain ⟨m1, e1⟩ : ∃ m, m = a % 18446744073709551616 % 9223372036854775808 := ⟨_, rfl⟩
  obtain ⟨m2, e2⟩ : ∃ m, m = b % 18446744073709551616 % 9223372036854775808 := ⟨_, rfl⟩
  obtain ⟨g1, f1⟩ : ∃ g, g = decide (9223372036854775808 ≤ a % 18446744073709551616) := ⟨_, rfl⟩
  obtain ⟨g2, f2⟩ : ∃ g, g = decide (9223372036854775808 ≤ b % 18446744073709551616) := ⟨_, rfl⟩
  have hA : a % 18446744073709551616 < 18446744073709551616 := Nat.mod_lt _ (by decide)
  have hB : b % 18446744073709551616 < 18446744073709551616 := Nat.mod_lt _ (by decide)
  have l1 : m1 < 9223372036854775808 := by omega
  have l2 : m2 < 9223372036854775808 := by omega
  have RSa := fun w => sread_w a w ha m1 g1 e1 f1
  have RSb := fun w => sread_w b w hb m2 g2 e2 f2
  have KLa := fun w => low_w (a : Int) w
  have KLb := fun w => low_w (b : Int) w
  rw [low_w_m a ha] at KLa
  rw [low_w_m b hb] at KLb
  have KF : ∀ w, Tab0 w → 0 < w.heap.size → Hid (Calls Tryd.prog 32 #[.int .i64 99] w fun e w' => e = .returned (.tuple #[.int .i64 93, FVw]) ∧ Below w.heap.size w w') := fun w hT hz => fold_test 99 w (by decide) (by decide) hT hz
  have KW1 : ∀ w, Hid (Calls Tryd.prog 22 #[.int .i64 99, .int .i64 91, .int .i64 97, .int .i64 6] w fun e w' => e = .returned (.tuple #[FSw, .int .i64 2]) ∧ Below w.heap.size w w') := fun w => wht_w 99 w (by decide) (by decide) (by decide) (by decide)
  have KNa := fun w => inan_w (a % 18446744073709551616) m1 w hA e1
  have KNb := fun w => inan_w (b % 18446744073709551616) m2 w hB e2
  by_cases n1 : 9218868437227405312 < m1
  · rw [decide_eq_true n1] at KNa
    rw [kd_w_n n1] at RSa
    exact ⟨true, 0, if ((93 : Int) == 92) then 1 else 0, fun w hT hz => if2_93 _ _ _ _ _ _ _ _ _ _ _ w hT hz KF KLa KLb (fun w => holds_na _ _ _ _ 93 _ _ w KNa) (fun w => flag_any _ w), fun w => sf2_t 2 (by decide) _ _ _ _ _ _ _ _ _ _ _ _ _ _ _ w KW1 RSa RSb (fun v1 v2 w h1 h2 => te_na 2 _ g1 g2 v1 v2 _ _ _ _ _ w h1 h2 (fun w => bool_any ((2 : Int) == 1) w))⟩
  · rw [decide_eq_false n1] at KNa
    have k1 : (kd_w m1 == 2) = false := by unfold kd_w; rw [if_neg n1]; split <;> decide
    by_cases n2 : 9218868437227405312 < m2
    · rw [decide_eq_true n2] at KNb
      rw [kd_w_n n2] at RSb
      exact ⟨true, 0, if ((93 : Int) == 92) then 1 else 0, fun w hT hz => if2_93 _ _ _ _ _ _ _ _ _ _ _ w hT hz KF KLa KLb (fun w => holds_nb _ _ _ _ 93 _ _ w KNa KNb) (fun w => flag_any _ w), fun w => sf2_t 2 (by decide) _ _ _ _ _ _ _ _ _ _ _ _ _ _ _ w KW1 RSa RSb (fun v1 v2 w h1 h2 => te_nb 2 _ g1 g2 v1 v2 _ _ _ _ _ w h1 h2 k1 (fun w => bool_any ((2 : Int) == 1) w))⟩
    · rw [decide_eq_false n2] at KNb
      have k2 : (kd_w m2 == 2) = false := by unfold kd_w; rw [if_neg n2]; split <;> decide
      have KOa := fun w => iorder_w (a % 18446744073709551616) m1 g1 w hA e1 f1
      have KOb := fun w => iorder_w (b % 18446744073709551616) m2 g2 w hB e2 f2
      have L1 := fun v1 v2 w h1 h2 => sless_w m1 m2 g1 g2 v1 v2 w (by omega) (by omega) h1 h2
      have L2 := fun v1 v2 w h1 h2 => sless_w m2 m1 g2 g1 v2 v1 w (by omega) (by omega) h2 h1
      generalize oI g1 m1 = x at *
      generalize oI g2 m2 = y at *
      have eB : decide (x < y) = (decide (x < y)) := by first | rfl | (rw [Bool.eq_iff_iff]; simp; done) | (rw [Bool.eq_iff_iff]; simp; omega)
      refine ⟨true, 0, if (decide (x < y)) then 1 else 0, fun w hT hz => if2_93 _ _ _ _ _ _ _ _ _ _ _ w hT hz KF KLa KLb (fun w => holds_93 _ _ _ _ _ _ x y w KNa KNb KOa KOb) (fun w => flag_any _ w), fun w => sf2_t 2 (by decide) _ _ _ _ _ _ _ _ _ _ _ _ _ _ _ w KW1 RSa RSb (fun v1 v2 w h1 h2 => te_2 _ _ _ _ g1 g2 v1 v2 _ _ _ _ _ w h1 h2 k1 k2 (L1 v1 v2) (L2 v1 v2) (fun w => ?_))⟩
      rw [eB]
      exact bool_any _ w
theorem b2_100 (a b : Nat) (ha : a < 18446744073709551616) (hb : b < 18446744073709551616) : B2 100 a b := by
  obtain ⟨m1, e1⟩ : ∃ m, m = a % 18446744073709551616 % 9223372036854775808 := ⟨_, rfl⟩
  obtain ⟨m2, e2⟩ : ∃ m, m = b % 18446744073709551616 % 9223372036854775808 := ⟨_, rfl⟩
  obtain ⟨g1, f1⟩ : ∃ g, g = decide (9223372036854775808 ≤ a % 18446744073709551616) := ⟨_, rfl⟩
  obtain ⟨g2, f2⟩ : ∃ g, g = decide (9223372036854775808 ≤ b % 18446744073709551616) := ⟨_, rfl⟩
  have hA : a % 18446744073709551616 < 18446744073709551616 := Nat.mod_lt _ (by decide)
  have hB : b % 18446744073709551616 < 18446744073709551616 := Nat.mod_lt _ (by decide)
  have l1 : m1 < 9223372036854775808 := by omega
  have l2 : m2 < 9223372036854775808 := by omega
  have RSa := fun w => sread_w a w ha m1 g1 e1 f1
  have RSb := fun w => sread_w b w hb m2 g2 e2 f2
  have KLa := fun w => low_w (a : Int) w
  have KLb := fun w => low_w (b : Int) w
  rw [low_w_m a ha] at KLa
  rw [low_w_m b hb] at KLb
  have KF : ∀ w, Tab0 w → 0 < w.heap.size → Hid (Calls Tryd.prog 32 #[.int .i64 100] w fun e w' => e = .returned (.tuple #[.int .i64 94, FVw]) ∧ Below w.heap.size w w') := fun w hT hz => fold_test 100 w (by decide) (by decide) hT hz
  have KW1 : ∀ w, Hid (Calls Tryd.prog 22 #[.int .i64 100, .int .i64 91, .int .i64 97, .int .i64 6] w fun e w' => e = .returned (.tuple #[FSw, .int .i64 3]) ∧ Below w.heap.size w w') := fun w => wht_w 100 w (by decide) (by decide) (by decide) (by decide)
  have KNa := fun w => inan_w (a % 18446744073709551616) m1 w hA e1
  have KNb := fun w => inan_w (b % 18446744073709551616) m2 w hB e2
  by_cases n1 : 9218868437227405312 < m1
  · rw [decide_eq_true n1] at KNa
    rw [kd_w_n n1] at RSa
    exact ⟨true, 0, if ((94 : Int) == 92) then 1 else 0, fun w hT hz => if2_94 _ _ _ _ _ _ _ _ _ _ _ w hT hz KF KLa KLb (fun w => holds_na _ _ _ _ 94 _ _ w KNa) (fun w => flag_any _ w), fun w => sf2_t 3 (by decide) _ _ _ _ _ _ _ _ _ _ _ _ _ _ _ w KW1 RSa RSb (fun v1 v2 w h1 h2 => te_na 3 _ g1 g2 v1 v2 _ _ _ _ _ w h1 h2 (fun w => bool_any ((3 : Int) == 1) w))⟩
  · rw [decide_eq_false n1] at KNa
    have k1 : (kd_w m1 == 2) = false := by unfold kd_w; rw [if_neg n1]; split <;> decide
    by_cases n2 : 9218868437227405312 < m2
    · rw [decide_eq_true n2] at KNb
      rw [kd_w_n n2] at RSb
      exact ⟨true, 0, if ((94 : Int) == 92) then 1 else 0, fun w hT hz => if2_94 _ _ _ _ _ _ _ _ _ _ _ w hT hz KF KLa KLb (fun w => holds_nb _ _ _ _ 94 _ _ w KNa KNb) (fun w => flag_any _ w), fun w => sf2_t 3 (by decide) _ _ _ _ _ _ _ _ _ _ _ _ _ _ _ w KW1 RSa RSb (fun v1 v2 w h1 h2 => te_nb 3 _ g1 g2 v1 v2 _ _ _ _ _ w h1 h2 k1 (fun w => bool_any ((3 : Int) == 1) w))⟩
    · rw [decide_eq_false n2] at KNb
      have k2 : (kd_w m2 == 2) = false := by unfold kd_w; rw [if_neg n2]; split <;> decide
      have KOa := fun w => iorder_w (a % 18446744073709551616) m1 g1 w hA e1 f1
      have KOb := fun w => iorder_w (b % 18446744073709551616) m2 g2 w hB e2 f2
      have L1 := fun v1 v2 w h1 h2 => sless_w m1 m2 g1 g2 v1 v2 w (by omega) (by omega) h1 h2
      have L2 := fun v1 v2 w h1 h2 => sless_w m2 m1 g2 g1 v2 v1 w (by omega) (by omega) h2 h1
      generalize oI g1 m1 = x at *
      generalize oI g2 m2 = y at *
      have eB : decide (y < x) = (decide (y < x)) := by first | rfl | (rw [Bool.eq_iff_iff]; simp; done) | (rw [Bool.eq_iff_iff]; simp; omega)
      refine ⟨true, 0, if (decide (y < x)) then 1 else 0, fun w hT hz => if2_94 _ _ _ _ _ _ _ _ _ _ _ w hT hz KF KLa KLb (fun w => holds_94 _ _ _ _ _ _ x y w KNa KNb KOa KOb) (fun w => flag_any _ w), fun w => sf2_t 3 (by decide) _ _ _ _ _ _ _ _ _ _ _ _ _ _ _ w KW1 RSa RSb (fun v1 v2 w h1 h2 => te_3 _ _ _ _ g1 g2 v1 v2 _ _ _ _ _ w h1 h2 k1 k2 (L1 v1 v2) (L2 v1 v2) (fun w => ?_))⟩
      rw [eB]
      exact bool_any _ w
theorem b2_101 (a b : Nat) (ha : a < 18446744073709551616) (hb : b < 18446744073709551616) : B2 101 a b := by
  obtain ⟨m1, e1⟩ : ∃ m, m = a % 18446744073709551616 % 9223372036854775808 := ⟨_, rfl⟩
  obtain ⟨m2, e2⟩ : ∃ m, m = b % 18446744073709551616 % 9223372036854775808 := ⟨_, rfl⟩
  obtain ⟨g1, f1⟩ : ∃ g, g = decide (9223372036854775808 ≤ a % 18446744073709551616) := ⟨_, rfl⟩
  obtain ⟨g2, f2⟩ : ∃ g, g = decide (9223372036854775808 ≤ b % 18446744073709551616) := ⟨_, rfl⟩
  have hA : a % 18446744073709551616 < 18446744073709551616 := Nat.mod_lt _ (by decide)
  have hB : b % 18446744073709551616 < 18446744073709551616 := Nat.mod_lt _ (by decide)
  have l1 : m1 < 9223372036854775808 := by omega
  have l2 : m2 < 9223372036854775808 := by omega
  have RSa := fun w => sread_w a w ha m1 g1 e1 f1
  have RSb := fun w => sread_w b w hb m2 g2 e2 f2
  have KLa := fun w => low_w (a : Int) w
  have KLb := fun w => low_w (b : Int) w
  rw [low_w_m a ha] at KLa
  rw [low_w_m b hb] at KLb
  have KF : ∀ w, Tab0 w → 0 < w.heap.size → Hid (Calls Tryd.prog 32 #[.int .i64 101] w fun e w' => e = .returned (.tuple #[.int .i64 95, FVw]) ∧ Below w.heap.size w w') := fun w hT hz => fold_test 101 w (by decide) (by decide) hT hz
  have KW1 : ∀ w, Hid (Calls Tryd.prog 22 #[.int .i64 101, .int .i64 91, .int .i64 97, .int .i64 6] w fun e w' => e = .returned (.tuple #[FSw, .int .i64 4]) ∧ Below w.heap.size w w') := fun w => wht_w 101 w (by decide) (by decide) (by decide) (by decide)
  have KNa := fun w => inan_w (a % 18446744073709551616) m1 w hA e1
  have KNb := fun w => inan_w (b % 18446744073709551616) m2 w hB e2
  by_cases n1 : 9218868437227405312 < m1
  · rw [decide_eq_true n1] at KNa
    rw [kd_w_n n1] at RSa
    exact ⟨true, 0, if ((95 : Int) == 92) then 1 else 0, fun w hT hz => if2_95 _ _ _ _ _ _ _ _ _ _ _ w hT hz KF KLa KLb (fun w => holds_na _ _ _ _ 95 _ _ w KNa) (fun w => flag_any _ w), fun w => sf2_t 4 (by decide) _ _ _ _ _ _ _ _ _ _ _ _ _ _ _ w KW1 RSa RSb (fun v1 v2 w h1 h2 => te_na 4 _ g1 g2 v1 v2 _ _ _ _ _ w h1 h2 (fun w => bool_any ((4 : Int) == 1) w))⟩
  · rw [decide_eq_false n1] at KNa
    have k1 : (kd_w m1 == 2) = false := by unfold kd_w; rw [if_neg n1]; split <;> decide
    by_cases n2 : 9218868437227405312 < m2
    · rw [decide_eq_true n2] at KNb
      rw [kd_w_n n2] at RSb
      exact ⟨true, 0, if ((95 : Int) == 92) then 1 else 0, fun w hT hz => if2_95 _ _ _ _ _ _ _ _ _ _ _ w hT hz KF KLa KLb (fun w => holds_nb _ _ _ _ 95 _ _ w KNa KNb) (fun w => flag_any _ w), fun w => sf2_t 4 (by decide) _ _ _ _ _ _ _ _ _ _ _ _ _ _ _ w KW1 RSa RSb (fun v1 v2 w h1 h2 => te_nb 4 _ g1 g2 v1 v2 _ _ _ _ _ w h1 h2 k1 (fun w => bool_any ((4 : Int) == 1) w))⟩
    · rw [decide_eq_false n2] at KNb
      have k2 : (kd_w m2 == 2) = false := by unfold kd_w; rw [if_neg n2]; split <;> decide
      have KOa := fun w => iorder_w (a % 18446744073709551616) m1 g1 w hA e1 f1
      have KOb := fun w => iorder_w (b % 18446744073709551616) m2 g2 w hB e2 f2
      have L1 := fun v1 v2 w h1 h2 => sless_w m1 m2 g1 g2 v1 v2 w (by omega) (by omega) h1 h2
      have L2 := fun v1 v2 w h1 h2 => sless_w m2 m1 g2 g1 v2 v1 w (by omega) (by omega) h2 h1
      generalize oI g1 m1 = x at *
      generalize oI g2 m2 = y at *
      have eB : (!decide (y < x)) = (decide (x ≤ y)) := by first | rfl | (rw [Bool.eq_iff_iff]; simp; done) | (rw [Bool.eq_iff_iff]; simp; omega)
      refine ⟨true, 0, if (decide (x ≤ y)) then 1 else 0, fun w hT hz => if2_95 _ _ _ _ _ _ _ _ _ _ _ w hT hz KF KLa KLb (fun w => holds_95 _ _ _ _ _ _ x y w KNa KNb KOa KOb) (fun w => flag_any _ w), fun w => sf2_t 4 (by decide) _ _ _ _ _ _ _ _ _ _ _ _ _ _ _ w KW1 RSa RSb (fun v1 v2 w h1 h2 => te_4 _ _ _ _ g1 g2 v1 v2 _ _ _ _ _ w h1 h2 k1 k2 (L1 v1 v2) (L2 v1 v2) (fun w => ?_))⟩
      rw [eB]
      exact bool_any _ w
theorem b2_102 (a b : Nat) (ha : a < 18446744073709551616) (hb : b < 18446744073709551616) : B2 102 a b := by
  obtain ⟨m1, e1⟩ : ∃ m, m = a % 18446744073709551616 % 9223372036854775808 := ⟨_, rfl⟩
  obtain ⟨m2, e2⟩ : ∃ m, m = b % 18446744073709551616 % 9223372036854775808 := ⟨_, rfl⟩
  obtain ⟨g1, f1⟩ : ∃ g, g = decide (9223372036854775808 ≤ a % 18446744073709551616) := ⟨_, rfl⟩
  obtain ⟨g2, f2⟩ : ∃ g, g = decide (9223372036854775808 ≤ b % 18446744073709551616) := ⟨_, rfl⟩
  have hA : a % 18446744073709551616 < 18446744073709551616 := Nat.mod_lt _ (by decide)
  have hB : b % 18446744073709551616 < 18446744073709551616 := Nat.mod_lt _ (by decide)
  have l1 : m1 < 9223372036854775808 := by omega
  have l2 : m2 < 9223372036854775808 := by omega
  have RSa := fun w => sread_w a w ha m1 g1 e1 f1
  have RSb := fun w => sread_w b w hb m2 g2 e2 f2
  have KLa := fun w => low_w (a : Int) w
  have KLb := fun w => low_w (b : Int) w
  rw [low_w_m a ha] at KLa
  rw [low_w_m b hb] at KLb
  have KF : ∀ w, Tab0 w → 0 < w.heap.size → Hid (Calls Tryd.prog 32 #[.int .i64 102] w fun e w' => e = .returned (.tuple #[.int .i64 96, FVw]) ∧ Below w.heap.size w w') := fun w hT hz => fold_test 102 w (by decide) (by decide) hT hz
  have KW1 : ∀ w, Hid (Calls Tryd.prog 22 #[.int .i64 102, .int .i64 91, .int .i64 97, .int .i64 6] w fun e w' => e = .returned (.tuple #[FSw, .int .i64 5]) ∧ Below w.heap.size w w') := fun w => wht_w 102 w (by decide) (by decide) (by decide) (by decide)
  have KNa := fun w => inan_w (a % 18446744073709551616) m1 w hA e1
  have KNb := fun w => inan_w (b % 18446744073709551616) m2 w hB e2
  by_cases n1 : 9218868437227405312 < m1
  · rw [decide_eq_true n1] at KNa
    rw [kd_w_n n1] at RSa
    exact ⟨true, 0, if ((96 : Int) == 92) then 1 else 0, fun w hT hz => if2_96 _ _ _ _ _ _ _ _ _ _ _ w hT hz KF KLa KLb (fun w => holds_na _ _ _ _ 96 _ _ w KNa) (fun w => flag_any _ w), fun w => sf2_t 5 (by decide) _ _ _ _ _ _ _ _ _ _ _ _ _ _ _ w KW1 RSa RSb (fun v1 v2 w h1 h2 => te_na 5 _ g1 g2 v1 v2 _ _ _ _ _ w h1 h2 (fun w => bool_any ((5 : Int) == 1) w))⟩
  · rw [decide_eq_false n1] at KNa
    have k1 : (kd_w m1 == 2) = false := by unfold kd_w; rw [if_neg n1]; split <;> decide
    by_cases n2 : 9218868437227405312 < m2
    · rw [decide_eq_true n2] at KNb
      rw [kd_w_n n2] at RSb
      exact ⟨true, 0, if ((96 : Int) == 92) then 1 else 0, fun w hT hz => if2_96 _ _ _ _ _ _ _ _ _ _ _ w hT hz KF KLa KLb (fun w => holds_nb _ _ _ _ 96 _ _ w KNa KNb) (fun w => flag_any _ w), fun w => sf2_t 5 (by decide) _ _ _ _ _ _ _ _ _ _ _ _ _ _ _ w KW1 RSa RSb (fun v1 v2 w h1 h2 => te_nb 5 _ g1 g2 v1 v2 _ _ _ _ _ w h1 h2 k1 (fun w => bool_any ((5 : Int) == 1) w))⟩
    · rw [decide_eq_false n2] at KNb
      have k2 : (kd_w m2 == 2) = false := by unfold kd_w; rw [if_neg n2]; split <;> decide
      have KOa := fun w => iorder_w (a % 18446744073709551616) m1 g1 w hA e1 f1
      have KOb := fun w => iorder_w (b % 18446744073709551616) m2 g2 w hB e2 f2
      have L1 := fun v1 v2 w h1 h2 => sless_w m1 m2 g1 g2 v1 v2 w (by omega) (by omega) h1 h2
      have L2 := fun v1 v2 w h1 h2 => sless_w m2 m1 g2 g1 v2 v1 w (by omega) (by omega) h2 h1
      generalize oI g1 m1 = x at *
      generalize oI g2 m2 = y at *
      have eB : (!decide (x < y)) = (decide (y ≤ x)) := by first | rfl | (rw [Bool.eq_iff_iff]; simp; done) | (rw [Bool.eq_iff_iff]; simp; omega)
      refine ⟨true, 0, if (decide (y ≤ x)) then 1 else 0, fun w hT hz => if2_96 _ _ _ _ _ _ _ _ _ _ _ w hT hz KF KLa KLb (fun w => holds_96 _ _ _ _ _ _ x y w KNa KNb KOa KOb) (fun w => flag_any _ w), fun w => sf2_t 5 (by decide) _ _ _ _ _ _ _ _ _ _ _ _ _ _ _ w KW1 RSa RSb (fun v1 v2 w h1 h2 => te_5 _ _ _ _ g1 g2 v1 v2 _ _ _ _ _ w h1 h2 k1 k2 (L1 v1 v2) (L2 v1 v2) (fun w => ?_))⟩
      rw [eB]
      exact bool_any _ w
end Go.Proofs.YthmppcfhbbjhlaaDoor
namespace Go.Proofs.YthmppcfhbbjhlaaDoor
open Go.RowKit Go.Sort

theorem b2_146 (a b : Nat) (ha : a < 18446744073709551616) (hb : b < 18446744073709551616) : B2 146 a b := by
  obtain ⟨m1, e1⟩ : ∃ m, m = a % 4294967296 % 2147483648 := ⟨_, rfl⟩
  obtain ⟨m2, e2⟩ : ∃ m, m = b % 4294967296 % 2147483648 := ⟨_, rfl⟩
  obtain ⟨g1, f1⟩ : ∃ g, g = decide (2147483648 ≤ a % 4294967296) := ⟨_, rfl⟩
  obtain ⟨g2, f2⟩ : ∃ g, g = decide (2147483648 ≤ b % 4294967296) := ⟨_, rfl⟩
  have hA : a % 4294967296 < 4294967296 := Nat.mod_lt _ (by decide)
  have hB : b % 4294967296 < 4294967296 := Nat.mod_lt _ (by decide)
  have l1 : m1 < 2147483648 := by omega
  have l2 : m2 < 2147483648 := by omega
  have RSa := fun w => sread_n a w ha m1 g1 e1 f1
  have RSb := fun w => sread_n b w hb m2 g2 e2 f2
  have KLa := fun w => low_n (a : Int) w
  have KLb := fun w => low_n (b : Int) w
  rw [low_n_m a ha] at KLa
  rw [low_n_m b hb] at KLb
  have KF : ∀ w, Tab0 w → 0 < w.heap.size → Hid (Calls Tryd.prog 32 #[.int .i64 146] w fun e w' => e = .returned (.tuple #[.int .i64 146, FVn]) ∧ Below w.heap.size w w') := fun w hT hz => fold_nb 146 w (by decide) (by decide) hT hz
  have KW1 : ∀ w, Hid (Calls Tryd.prog 22 #[.int .i64 146, .int .i64 91, .int .i64 97, .int .i64 6] w fun e w' => e = .returned (.tuple #[FSn, .int .i64 (-1)]) ∧ Below w.heap.size w w') := fun w => wht_c 146 w (by decide) (by decide) (by decide)
  have KW2 : ∀ w, Hid (Calls Tryd.prog 22 #[.int .i64 146, .int .i64 146, .int .i64 160, .int .i64 7] w fun e w' => e = .returned (.tuple #[FSn, .int .i64 0]) ∧ Below w.heap.size w w') := fun w => whb_n 146 w (by decide) (by decide) (by decide) (by decide)
  have RIa := fun w => iread_n (a % 4294967296) w (by omega) m1 g1 (by rw [Nat.mod_mod]; exact e1) (by rw [Nat.mod_mod]; exact f1)
  have RIb := fun w => iread_n (b % 4294967296) w (by omega) m2 g2 (by rw [Nat.mod_mod]; exact e2) (by rw [Nat.mod_mod]; exact f2)
  have ga : m1 ≤ 2139095040 → (if 2139095040 < m1 then false else g1) = g1 := fun h => if_neg (by omega)
  have gb : m2 ≤ 2139095040 → (if 2139095040 < m2 then false else g2) = g2 := fun h => if_neg (by omega)
  obtain ⟨k3, g3, x3, l3, h3, R, H1, H2, H3⟩ := plusB_n m1 m2 g1 g2 _ _ l1 l2 ga gb
  exact ⟨true, 0, R, fun w hT hz => if2_146 _ _ _ _ _ _ _ _ _ _ _ _ _ _ _ _ _ _ _ _ _ _ _ _ _ w hT hz KF KLa KLb RIa RIb H1 H2, fun w => sf2_0 _ _ _ _ _ _ _ _ _ _ _ _ _ _ _ w KW1 KW2 RSa RSb H3⟩
theorem b2_147 (a b : Nat) (ha : a < 18446744073709551616) (hb : b < 18446744073709551616) : B2 147 a b := by
  obtain ⟨m1, e1⟩ : ∃ m, m = a % 4294967296 % 2147483648 := ⟨_, rfl⟩
  obtain ⟨m2, e2⟩ : ∃ m, m = b % 4294967296 % 2147483648 := ⟨_, rfl⟩
  obtain ⟨g1, f1⟩ : ∃ g, g = decide (2147483648 ≤ a % 4294967296) := ⟨_, rfl⟩
  obtain ⟨g2, f2⟩ : ∃ g, g = decide (2147483648 ≤ b % 4294967296) := ⟨_, rfl⟩
  have hA : a % 4294967296 < 4294967296 := Nat.mod_lt _ (by decide)
  have hB : b % 4294967296 < 4294967296 := Nat.mod_lt _ (by decide)
  have l1 : m1 < 2147483648 := by omega
  have l2 : m2 < 2147483648 := by omega
  have RSa := fun w => sread_n a w ha m1 g1 e1 f1
  have RSb := fun w => sread_n b w hb m2 g2 e2 f2
  have KLa := fun w => low_n (a : Int) w
  have KLb := fun w => low_n (b : Int) w
  rw [low_n_m a ha] at KLa
  rw [low_n_m b hb] at KLb
  have KF : ∀ w, Tab0 w → 0 < w.heap.size → Hid (Calls Tryd.prog 32 #[.int .i64 147] w fun e w' => e = .returned (.tuple #[.int .i64 147, FVn]) ∧ Below w.heap.size w w') := fun w hT hz => fold_nb 147 w (by decide) (by decide) hT hz
  have KW1 : ∀ w, Hid (Calls Tryd.prog 22 #[.int .i64 147, .int .i64 91, .int .i64 97, .int .i64 6] w fun e w' => e = .returned (.tuple #[FSn, .int .i64 (-1)]) ∧ Below w.heap.size w w') := fun w => wht_c 147 w (by decide) (by decide) (by decide)
  have KW2 : ∀ w, Hid (Calls Tryd.prog 22 #[.int .i64 147, .int .i64 146, .int .i64 160, .int .i64 7] w fun e w' => e = .returned (.tuple #[FSn, .int .i64 1]) ∧ Below w.heap.size w w') := fun w => whb_n 147 w (by decide) (by decide) (by decide) (by decide)
  have RIa := fun w => iread_n (a % 4294967296) w (by omega) m1 g1 (by rw [Nat.mod_mod]; exact e1) (by rw [Nat.mod_mod]; exact f1)
  have RIb := fun w => iread_n (b % 4294967296) w (by omega) m2 g2 (by rw [Nat.mod_mod]; exact e2) (by rw [Nat.mod_mod]; exact f2)
  have ga : m1 ≤ 2139095040 → (if 2139095040 < m1 then false else g1) = g1 := fun h => if_neg (by omega)
  have gb : m2 ≤ 2139095040 → (if 2139095040 < m2 then false else g2) = g2 := fun h => if_neg (by omega)
  by_cases n2 : 2139095040 < m2
  · obtain ⟨k3, g3, x3, l3, h3, R, H1, H2, H3⟩ := plusB_n m1 m2 g1 g2 _ (!(if 2139095040 < m2 then false else g2)) l1 l2 ga (fun h => absurd n2 (by omega))
    exact ⟨true, 0, R, fun w hT hz => if2_147 _ _ _ _ _ _ _ _ _ _ _ _ _ _ _ _ _ _ _ _ _ _ _ _ _ w hT hz KF KLa KLb RIa RIb H1 H2, fun w => sf2_1n _ _ _ _ _ _ _ _ _ _ _ _ _ _ _ w KW1 KW2 RSa RSb H3 (by rw [kd_n_n n2]; decide)⟩
  · obtain ⟨k3, g3, x3, l3, h3, R, H1, H2, H3⟩ := plusB_n m1 m2 g1 (!g2) _ (!(if 2139095040 < m2 then false else g2)) l1 l2 ga (fun h => by rw [gb h])
    exact ⟨true, 0, R, fun w hT hz => if2_147 _ _ _ _ _ _ _ _ _ _ _ _ _ _ _ _ _ _ _ _ _ _ _ _ _ w hT hz KF KLa KLb RIa RIb H1 H2, fun w => sf2_1 _ _ _ _ _ _ _ _ _ _ _ _ _ _ _ w KW1 KW2 RSa RSb H3 (by unfold kd_n; rw [if_neg n2]; split <;> decide)⟩
theorem b2_148 (a b : Nat) (ha : a < 18446744073709551616) (hb : b < 18446744073709551616) : B2 148 a b := by
  obtain ⟨m1, e1⟩ : ∃ m, m = a % 4294967296 % 2147483648 := ⟨_, rfl⟩
  obtain ⟨m2, e2⟩ : ∃ m, m = b % 4294967296 % 2147483648 := ⟨_, rfl⟩
  obtain ⟨g1, f1⟩ : ∃ g, g = decide (2147483648 ≤ a % 4294967296) := ⟨_, rfl⟩
  obtain ⟨g2, f2⟩ : ∃ g, g = decide (2147483648 ≤ b % 4294967296) := ⟨_, rfl⟩
  have hA : a % 4294967296 < 4294967296 := Nat.mod_lt _ (by decide)
  have hB : b % 4294967296 < 4294967296 := Nat.mod_lt _ (by decide)
  have l1 : m1 < 2147483648 := by omega
  have l2 : m2 < 2147483648 := by omega
  have RSa := fun w => sread_n a w ha m1 g1 e1 f1
  have RSb := fun w => sread_n b w hb m2 g2 e2 f2
  have KLa := fun w => low_n (a : Int) w
  have KLb := fun w => low_n (b : Int) w
  rw [low_n_m a ha] at KLa
  rw [low_n_m b hb] at KLb
  have KF : ∀ w, Tab0 w → 0 < w.heap.size → Hid (Calls Tryd.prog 32 #[.int .i64 148] w fun e w' => e = .returned (.tuple #[.int .i64 148, FVn]) ∧ Below w.heap.size w w') := fun w hT hz => fold_nb 148 w (by decide) (by decide) hT hz
  have KW1 : ∀ w, Hid (Calls Tryd.prog 22 #[.int .i64 148, .int .i64 91, .int .i64 97, .int .i64 6] w fun e w' => e = .returned (.tuple #[FSn, .int .i64 (-1)]) ∧ Below w.heap.size w w') := fun w => wht_c 148 w (by decide) (by decide) (by decide)
  have KW2 : ∀ w, Hid (Calls Tryd.prog 22 #[.int .i64 148, .int .i64 146, .int .i64 160, .int .i64 7] w fun e w' => e = .returned (.tuple #[FSn, .int .i64 2]) ∧ Below w.heap.size w w') := fun w => whb_n 148 w (by decide) (by decide) (by decide) (by decide)
  have RIa := fun w => iread_n (a % 4294967296) w (by omega) m1 g1 (by rw [Nat.mod_mod]; exact e1) (by rw [Nat.mod_mod]; exact f1)
  have RIb := fun w => iread_n (b % 4294967296) w (by omega) m2 g2 (by rw [Nat.mod_mod]; exact e2) (by rw [Nat.mod_mod]; exact f2)
  have ga : m1 ≤ 2139095040 → (if 2139095040 < m1 then false else g1) = g1 := fun h => if_neg (by omega)
  have gb : m2 ≤ 2139095040 → (if 2139095040 < m2 then false else g2) = g2 := fun h => if_neg (by omega)
  obtain ⟨k3, g3, x3, l3, h3, R, H1, H2, H3⟩ := timesB_n m1 m2 g1 g2 _ _ l1 l2 ga gb
  exact ⟨true, 0, R, fun w hT hz => if2_148 _ _ _ _ _ _ _ _ _ _ _ _ _ _ _ _ _ _ _ _ _ _ _ _ _ w hT hz KF KLa KLb RIa RIb H1 H2, fun w => sf2_2 _ _ _ _ _ _ _ _ _ _ _ _ _ _ _ w KW1 KW2 RSa RSb H3⟩
theorem b2_149 (a b : Nat) (ha : a < 18446744073709551616) (hb : b < 18446744073709551616) : B2 149 a b := by
  obtain ⟨m1, e1⟩ : ∃ m, m = a % 4294967296 % 2147483648 := ⟨_, rfl⟩
  obtain ⟨m2, e2⟩ : ∃ m, m = b % 4294967296 % 2147483648 := ⟨_, rfl⟩
  obtain ⟨g1, f1⟩ : ∃ g, g = decide (2147483648 ≤ a % 4294967296) := ⟨_, rfl⟩
  obtain ⟨g2, f2⟩ : ∃ g, g = decide (2147483648 ≤ b % 4294967296) := ⟨_, rfl⟩
  have hA : a % 4294967296 < 4294967296 := Nat.mod_lt _ (by decide)
  have hB : b % 4294967296 < 4294967296 := Nat.mod_lt _ (by decide)
  have l1 : m1 < 2147483648 := by omega
  have l2 : m2 < 2147483648 := by omega
  have RSa := fun w => sread_n a w ha m1 g1 e1 f1
  have RSb := fun w => sread_n b w hb m2 g2 e2 f2
  have KLa := fun w => low_n (a : Int) w
  have KLb := fun w => low_n (b : Int) w
  rw [low_n_m a ha] at KLa
  rw [low_n_m b hb] at KLb
  have KF : ∀ w, Tab0 w → 0 < w.heap.size → Hid (Calls Tryd.prog 32 #[.int .i64 149] w fun e w' => e = .returned (.tuple #[.int .i64 149, FVn]) ∧ Below w.heap.size w w') := fun w hT hz => fold_nb 149 w (by decide) (by decide) hT hz
  have KW1 : ∀ w, Hid (Calls Tryd.prog 22 #[.int .i64 149, .int .i64 91, .int .i64 97, .int .i64 6] w fun e w' => e = .returned (.tuple #[FSn, .int .i64 (-1)]) ∧ Below w.heap.size w w') := fun w => wht_c 149 w (by decide) (by decide) (by decide)
  have KW2 : ∀ w, Hid (Calls Tryd.prog 22 #[.int .i64 149, .int .i64 146, .int .i64 160, .int .i64 7] w fun e w' => e = .returned (.tuple #[FSn, .int .i64 3]) ∧ Below w.heap.size w w') := fun w => whb_n 149 w (by decide) (by decide) (by decide) (by decide)
  have RIa := fun w => iread_n (a % 4294967296) w (by omega) m1 g1 (by rw [Nat.mod_mod]; exact e1) (by rw [Nat.mod_mod]; exact f1)
  have RIb := fun w => iread_n (b % 4294967296) w (by omega) m2 g2 (by rw [Nat.mod_mod]; exact e2) (by rw [Nat.mod_mod]; exact f2)
  have ga : m1 ≤ 2139095040 → (if 2139095040 < m1 then false else g1) = g1 := fun h => if_neg (by omega)
  have gb : m2 ≤ 2139095040 → (if 2139095040 < m2 then false else g2) = g2 := fun h => if_neg (by omega)
  obtain ⟨k3, g3, x3, l3, h3, R, H1, H2, H3⟩ := byB_n m1 m2 g1 g2 _ _ l1 l2 ga gb
  exact ⟨true, 0, R, fun w hT hz => if2_149 _ _ _ _ _ _ _ _ _ _ _ _ _ _ _ _ _ _ _ _ _ _ _ _ _ w hT hz KF KLa KLb RIa RIb H1 H2, fun w => sf2_3 _ _ _ _ _ _ _ _ _ _ _ _ _ _ _ w KW1 KW2 RSa RSb H3⟩
theorem b2_160 (a b : Nat) (ha : a < 18446744073709551616) (hb : b < 18446744073709551616) : B2 160 a b := by
  obtain ⟨m1, e1⟩ : ∃ m, m = a % 18446744073709551616 % 9223372036854775808 := ⟨_, rfl⟩
  obtain ⟨m2, e2⟩ : ∃ m, m = b % 18446744073709551616 % 9223372036854775808 := ⟨_, rfl⟩
  obtain ⟨g1, f1⟩ : ∃ g, g = decide (9223372036854775808 ≤ a % 18446744073709551616) := ⟨_, rfl⟩
  obtain ⟨g2, f2⟩ : ∃ g, g = decide (9223372036854775808 ≤ b % 18446744073709551616) := ⟨_, rfl⟩
  have hA : a % 18446744073709551616 < 18446744073709551616 := Nat.mod_lt _ (by decide)
  have hB : b % 18446744073709551616 < 18446744073709551616 := Nat.mod_lt _ (by decide)
  have l1 : m1 < 9223372036854775808 := by omega
  have l2 : m2 < 9223372036854775808 := by omega
  have RSa := fun w => sread_w a w ha m1 g1 e1 f1
  have RSb := fun w => sread_w b w hb m2 g2 e2 f2
  have KLa := fun w => low_w (a : Int) w
  have KLb := fun w => low_w (b : Int) w
  rw [low_w_m a ha] at KLa
  rw [low_w_m b hb] at KLb
  have KF : ∀ w, Tab0 w → 0 < w.heap.size → Hid (Calls Tryd.prog 32 #[.int .i64 160] w fun e w' => e = .returned (.tuple #[.int .i64 146, FVw]) ∧ Below w.heap.size w w') := fun w hT hz => fold_wide 160 w (by decide) (by decide) hT hz
  have KW1 : ∀ w, Hid (Calls Tryd.prog 22 #[.int .i64 160, .int .i64 91, .int .i64 97, .int .i64 6] w fun e w' => e = .returned (.tuple #[FSn, .int .i64 (-1)]) ∧ Below w.heap.size w w') := fun w => wht_c 160 w (by decide) (by decide) (by decide)
  have KW2 : ∀ w, Hid (Calls Tryd.prog 22 #[.int .i64 160, .int .i64 146, .int .i64 160, .int .i64 7] w fun e w' => e = .returned (.tuple #[FSw, .int .i64 0]) ∧ Below w.heap.size w w') := fun w => whb_w 160 w (by decide) (by decide) (by decide) (by decide)
  have RIa := fun w => iread_w (a % 18446744073709551616) w (by omega) m1 g1 (by rw [Nat.mod_mod]; exact e1) (by rw [Nat.mod_mod]; exact f1)
  have RIb := fun w => iread_w (b % 18446744073709551616) w (by omega) m2 g2 (by rw [Nat.mod_mod]; exact e2) (by rw [Nat.mod_mod]; exact f2)
  have ga : m1 ≤ 9218868437227405312 → (if 9218868437227405312 < m1 then false else g1) = g1 := fun h => if_neg (by omega)
  have gb : m2 ≤ 9218868437227405312 → (if 9218868437227405312 < m2 then false else g2) = g2 := fun h => if_neg (by omega)
  obtain ⟨k3, g3, x3, l3, h3, R, H1, H2, H3⟩ := plusB_w m1 m2 g1 g2 _ _ l1 l2 ga gb
  exact ⟨true, 0, R, fun w hT hz => if2_146 _ _ _ _ _ _ _ _ _ _ _ _ _ _ _ _ _ _ _ _ _ _ _ _ _ w hT hz KF KLa KLb RIa RIb H1 H2, fun w => sf2_0 _ _ _ _ _ _ _ _ _ _ _ _ _ _ _ w KW1 KW2 RSa RSb H3⟩
theorem b2_161 (a b : Nat) (ha : a < 18446744073709551616) (hb : b < 18446744073709551616) : B2 161 a b := by
  obtain ⟨m1, e1⟩ : ∃ m, m = a % 18446744073709551616 % 9223372036854775808 := ⟨_, rfl⟩
  obtain ⟨m2, e2⟩ : ∃ m, m = b % 18446744073709551616 % 9223372036854775808 := ⟨_, rfl⟩
  obtain ⟨g1, f1⟩ : ∃ g, g = decide (9223372036854775808 ≤ a % 18446744073709551616) := ⟨_, rfl⟩
  obtain ⟨g2, f2⟩ : ∃ g, g = decide (9223372036854775808 ≤ b % 18446744073709551616) := ⟨_, rfl⟩
  have hA : a % 18446744073709551616 < 18446744073709551616 := Nat.mod_lt _ (by decide)
  have hB : b % 18446744073709551616 < 18446744073709551616 := Nat.mod_lt _ (by decide)
  have l1 : m1 < 9223372036854775808 := by omega
  have l2 : m2 < 9223372036854775808 := by omega
  have RSa := fun w => sread_w a w ha m1 g1 e1 f1
  have RSb := fun w => sread_w b w hb m2 g2 e2 f2
  have KLa := fun w => low_w (a : Int) w
  have KLb := fun w => low_w (b : Int) w
  rw [low_w_m a ha] at KLa
  rw [low_w_m b hb] at KLb
  have KF : ∀ w, Tab0 w → 0 < w.heap.size → Hid (Calls Tryd.prog 32 #[.int .i64 161] w fun e w' => e = .returned (.tuple #[.int .i64 147, FVw]) ∧ Below w.heap.size w w') := fun w hT hz => fold_wide 161 w (by decide) (by decide) hT hz
  have KW1 : ∀ w, Hid (Calls Tryd.prog 22 #[.int .i64 161, .int .i64 91, .int .i64 97, .int .i64 6] w fun e w' => e = .returned (.tuple #[FSn, .int .i64 (-1)]) ∧ Below w.heap.size w w') := fun w => wht_c 161 w (by decide) (by decide) (by decide)
  have KW2 : ∀ w, Hid (Calls Tryd.prog 22 #[.int .i64 161, .int .i64 146, .int .i64 160, .int .i64 7] w fun e w' => e = .returned (.tuple #[FSw, .int .i64 1]) ∧ Below w.heap.size w w') := fun w => whb_w 161 w (by decide) (by decide) (by decide) (by decide)
  have RIa := fun w => iread_w (a % 18446744073709551616) w (by omega) m1 g1 (by rw [Nat.mod_mod]; exact e1) (by rw [Nat.mod_mod]; exact f1)
  have RIb := fun w => iread_w (b % 18446744073709551616) w (by omega) m2 g2 (by rw [Nat.mod_mod]; exact e2) (by rw [Nat.mod_mod]; exact f2)
  have ga : m1 ≤ 9218868437227405312 → (if 9218868437227405312 < m1 then false else g1) = g1 := fun h => if_neg (by omega)
  have gb : m2 ≤ 9218868437227405312 → (if 9218868437227405312 < m2 then false else g2) = g2 := fun h => if_neg (by omega)
  by_cases n2 : 9218868437227405312 < m2
  · obtain ⟨k3, g3, x3, l3, h3, R, H1, H2, H3⟩ := plusB_w m1 m2 g1 g2 _ (!(if 9218868437227405312 < m2 then false else g2)) l1 l2 ga (fun h => absurd n2 (by omega))
    exact ⟨true, 0, R, fun w hT hz => if2_147 _ _ _ _ _ _ _ _ _ _ _ _ _ _ _ _ _ _ _ _ _ _ _ _ _ w hT hz KF KLa KLb RIa RIb H1 H2, fun w => sf2_1n _ _ _ _ _ _ _ _ _ _ _ _ _ _ _ w KW1 KW2 RSa RSb H3 (by rw [kd_w_n n2]; decide)⟩
  · obtain ⟨k3, g3, x3, l3, h3, R, H1, H2, H3⟩ := plusB_w m1 m2 g1 (!g2) _ (!(if 9218868437227405312 < m2 then false else g2)) l1 l2 ga (fun h => by rw [gb h])
    exact ⟨true, 0, R, fun w hT hz => if2_147 _ _ _ _ _ _ _ _ _ _ _ _ _ _ _ _ _ _ _ _ _ _ _ _ _ w hT hz KF KLa KLb RIa RIb H1 H2, fun w => sf2_1 _ _ _ _ _ _ _ _ _ _ _ _ _ _ _ w KW1 KW2 RSa RSb H3 (by unfold kd_w; rw [if_neg n2]; split <;> decide)⟩
theorem b2_162 (a b : Nat) (ha : a < 18446744073709551616) (hb : b < 18446744073709551616) : B2 162 a b := by
  obtain ⟨m1, e1⟩ : ∃ m, m = a % 18446744073709551616 % 9223372036854775808 := ⟨_, rfl⟩
  obtain ⟨m2, e2⟩ : ∃ m, m = b % 18446744073709551616 % 9223372036854775808 := ⟨_, rfl⟩
  obtain ⟨g1, f1⟩ : ∃ g, g = decide (9223372036854775808 ≤ a % 18446744073709551616) := ⟨_, rfl⟩
  obtain ⟨g2, f2⟩ : ∃ g, g = decide (9223372036854775808 ≤ b % 18446744073709551616) := ⟨_, rfl⟩
  have hA : a % 18446744073709551616 < 18446744073709551616 := Nat.mod_lt _ (by decide)
  have hB : b % 18446744073709551616 < 18446744073709551616 := Nat.mod_lt _ (by decide)
  have l1 : m1 < 9223372036854775808 := by omega
  have l2 : m2 < 9223372036854775808 := by omega
  have RSa := fun w => sread_w a w ha m1 g1 e1 f1
  have RSb := fun w => sread_w b w hb m2 g2 e2 f2
  have KLa := fun w => low_w (a : Int) w
  have KLb := fun w => low_w (b : Int) w
  rw [low_w_m a ha] at KLa
  rw [low_w_m b hb] at KLb
  have KF : ∀ w, Tab0 w → 0 < w.heap.size → Hid (Calls Tryd.prog 32 #[.int .i64 162] w fun e w' => e = .returned (.tuple #[.int .i64 148, FVw]) ∧ Below w.heap.size w w') := fun w hT hz => fold_wide 162 w (by decide) (by decide) hT hz
  have KW1 : ∀ w, Hid (Calls Tryd.prog 22 #[.int .i64 162, .int .i64 91, .int .i64 97, .int .i64 6] w fun e w' => e = .returned (.tuple #[FSn, .int .i64 (-1)]) ∧ Below w.heap.size w w') := fun w => wht_c 162 w (by decide) (by decide) (by decide)
  have KW2 : ∀ w, Hid (Calls Tryd.prog 22 #[.int .i64 162, .int .i64 146, .int .i64 160, .int .i64 7] w fun e w' => e = .returned (.tuple #[FSw, .int .i64 2]) ∧ Below w.heap.size w w') := fun w => whb_w 162 w (by decide) (by decide) (by decide) (by decide)
  have RIa := fun w => iread_w (a % 18446744073709551616) w (by omega) m1 g1 (by rw [Nat.mod_mod]; exact e1) (by rw [Nat.mod_mod]; exact f1)
  have RIb := fun w => iread_w (b % 18446744073709551616) w (by omega) m2 g2 (by rw [Nat.mod_mod]; exact e2) (by rw [Nat.mod_mod]; exact f2)
  have ga : m1 ≤ 9218868437227405312 → (if 9218868437227405312 < m1 then false else g1) = g1 := fun h => if_neg (by omega)
  have gb : m2 ≤ 9218868437227405312 → (if 9218868437227405312 < m2 then false else g2) = g2 := fun h => if_neg (by omega)
  obtain ⟨k3, g3, x3, l3, h3, R, H1, H2, H3⟩ := timesB_w m1 m2 g1 g2 _ _ l1 l2 ga gb
  exact ⟨true, 0, R, fun w hT hz => if2_148 _ _ _ _ _ _ _ _ _ _ _ _ _ _ _ _ _ _ _ _ _ _ _ _ _ w hT hz KF KLa KLb RIa RIb H1 H2, fun w => sf2_2 _ _ _ _ _ _ _ _ _ _ _ _ _ _ _ w KW1 KW2 RSa RSb H3⟩
theorem b2_163 (a b : Nat) (ha : a < 18446744073709551616) (hb : b < 18446744073709551616) : B2 163 a b := by
  obtain ⟨m1, e1⟩ : ∃ m, m = a % 18446744073709551616 % 9223372036854775808 := ⟨_, rfl⟩
  obtain ⟨m2, e2⟩ : ∃ m, m = b % 18446744073709551616 % 9223372036854775808 := ⟨_, rfl⟩
  obtain ⟨g1, f1⟩ : ∃ g, g = decide (9223372036854775808 ≤ a % 18446744073709551616) := ⟨_, rfl⟩
  obtain ⟨g2, f2⟩ : ∃ g, g = decide (9223372036854775808 ≤ b % 18446744073709551616) := ⟨_, rfl⟩
  have hA : a % 18446744073709551616 < 18446744073709551616 := Nat.mod_lt _ (by decide)
  have hB : b % 18446744073709551616 < 18446744073709551616 := Nat.mod_lt _ (by decide)
  have l1 : m1 < 9223372036854775808 := by omega
  have l2 : m2 < 9223372036854775808 := by omega
  have RSa := fun w => sread_w a w ha m1 g1 e1 f1
  have RSb := fun w => sread_w b w hb m2 g2 e2 f2
  have KLa := fun w => low_w (a : Int) w
  have KLb := fun w => low_w (b : Int) w
  rw [low_w_m a ha] at KLa
  rw [low_w_m b hb] at KLb
  have KF : ∀ w, Tab0 w → 0 < w.heap.size → Hid (Calls Tryd.prog 32 #[.int .i64 163] w fun e w' => e = .returned (.tuple #[.int .i64 149, FVw]) ∧ Below w.heap.size w w') := fun w hT hz => fold_wide 163 w (by decide) (by decide) hT hz
  have KW1 : ∀ w, Hid (Calls Tryd.prog 22 #[.int .i64 163, .int .i64 91, .int .i64 97, .int .i64 6] w fun e w' => e = .returned (.tuple #[FSn, .int .i64 (-1)]) ∧ Below w.heap.size w w') := fun w => wht_c 163 w (by decide) (by decide) (by decide)
  have KW2 : ∀ w, Hid (Calls Tryd.prog 22 #[.int .i64 163, .int .i64 146, .int .i64 160, .int .i64 7] w fun e w' => e = .returned (.tuple #[FSw, .int .i64 3]) ∧ Below w.heap.size w w') := fun w => whb_w 163 w (by decide) (by decide) (by decide) (by decide)
  have RIa := fun w => iread_w (a % 18446744073709551616) w (by omega) m1 g1 (by rw [Nat.mod_mod]; exact e1) (by rw [Nat.mod_mod]; exact f1)
  have RIb := fun w => iread_w (b % 18446744073709551616) w (by omega) m2 g2 (by rw [Nat.mod_mod]; exact e2) (by rw [Nat.mod_mod]; exact f2)
  have ga : m1 ≤ 9218868437227405312 → (if 9218868437227405312 < m1 then false else g1) = g1 := fun h => if_neg (by omega)
  have gb : m2 ≤ 9218868437227405312 → (if 9218868437227405312 < m2 then false else g2) = g2 := fun h => if_neg (by omega)
  obtain ⟨k3, g3, x3, l3, h3, R, H1, H2, H3⟩ := byB_w m1 m2 g1 g2 _ _ l1 l2 ga gb
  exact ⟨true, 0, R, fun w hT hz => if2_149 _ _ _ _ _ _ _ _ _ _ _ _ _ _ _ _ _ _ _ _ _ _ _ _ _ w hT hz KF KLa KLb RIa RIb H1 H2, fun w => sf2_3 _ _ _ _ _ _ _ _ _ _ _ _ _ _ _ w KW1 KW2 RSa RSb H3⟩
end Go.Proofs.YthmppcfhbbjhlaaDoor
namespace Go.Proofs.YthmppcfhbbjhlaaDoor
open Go.RowKit Go.Sort

set_option maxHeartbeats 1000000 in
theorem b2_150 (a b : Nat) (ha : a < 18446744073709551616) (hb : b < 18446744073709551616) : B2 150 a b := by
  obtain ⟨m1, e1⟩ : ∃ m, m = a % 4294967296 % 2147483648 := ⟨_, rfl⟩
  obtain ⟨m2, e2⟩ : ∃ m, m = b % 4294967296 % 2147483648 := ⟨_, rfl⟩
  obtain ⟨g1, f1⟩ : ∃ g, g = decide (2147483648 ≤ a % 4294967296) := ⟨_, rfl⟩
  obtain ⟨g2, f2⟩ : ∃ g, g = decide (2147483648 ≤ b % 4294967296) := ⟨_, rfl⟩
  have hA : a % 4294967296 < 4294967296 := Nat.mod_lt _ (by decide)
  have hB : b % 4294967296 < 4294967296 := Nat.mod_lt _ (by decide)
  have l1 : m1 < 2147483648 := by omega
  have l2 : m2 < 2147483648 := by omega
  have RSa := fun w => sread_n a w ha m1 g1 e1 f1
  have RSb := fun w => sread_n b w hb m2 g2 e2 f2
  have KLa := fun w => low_n (a : Int) w
  have KLb := fun w => low_n (b : Int) w
  rw [low_n_m a ha] at KLa
  rw [low_n_m b hb] at KLb
  have KF : ∀ w, Tab0 w → 0 < w.heap.size → Hid (Calls Tryd.prog 32 #[.int .i64 150] w fun e w' => e = .returned (.tuple #[.int .i64 150, FVn]) ∧ Below w.heap.size w w') := fun w hT hz => fold_nb 150 w (by decide) (by decide) hT hz
  have KW1 : ∀ w, Hid (Calls Tryd.prog 22 #[.int .i64 150, .int .i64 91, .int .i64 97, .int .i64 6] w fun e w' => e = .returned (.tuple #[FSn, .int .i64 (-1)]) ∧ Below w.heap.size w w') := fun w => wht_c 150 w (by decide) (by decide) (by decide)
  have KW2 : ∀ w, Hid (Calls Tryd.prog 22 #[.int .i64 150, .int .i64 146, .int .i64 160, .int .i64 7] w fun e w' => e = .returned (.tuple #[FSn, .int .i64 4]) ∧ Below w.heap.size w w') := fun w => whb_n 150 w (by decide) (by decide) (by decide) (by decide)
  have KNa := fun w => inan_n (a % 4294967296) m1 w hA e1
  have KNb := fun w => inan_n (b % 4294967296) m2 w hB e2
  by_cases n1 : 2139095040 < m1
  · rw [decide_eq_true n1] at KNa
    rw [kd_n_n n1] at RSa
    exact ⟨true, 0, 2143289344, fun w hT hz => if2_150 _ _ _ _ _ _ _ _ _ _ w hT hz KF KLa KLb (fun w => pick_na _ _ _ _ true _ _ w KNa), fun w => sf2_4 _ _ _ _ _ _ _ _ _ _ _ _ _ _ _ w KW1 KW2 RSa RSb (fun v1 v2 w h1 h2 => en_na _ _ _ _ g1 g2 v1 v2 _ _ _ _ false _ w h1 h2 (fun w => nan_n w))⟩
  · rw [decide_eq_false n1] at KNa
    have k1 : (kd_n m1 == 2) = false := by unfold kd_n; rw [if_neg n1]; split <;> decide
    by_cases n2 : 2139095040 < m2
    · rw [decide_eq_true n2] at KNb
      rw [kd_n_n n2] at RSb
      exact ⟨true, 0, 2143289344, fun w hT hz => if2_150 _ _ _ _ _ _ _ _ _ _ w hT hz KF KLa KLb (fun w => pick_nb _ _ _ _ true _ _ w KNa KNb), fun w => sf2_4 _ _ _ _ _ _ _ _ _ _ _ _ _ _ _ w KW1 KW2 RSa RSb (fun v1 v2 w h1 h2 => en_nb _ _ _ _ g1 g2 v1 v2 _ _ _ _ false _ w h1 h2 k1 (fun w => nan_n w))⟩
    · rw [decide_eq_false n2] at KNb
      have k2 : (kd_n m2 == 2) = false := by unfold kd_n; rw [if_neg n2]; split <;> decide
      have KOa := fun w => iorder_n (a % 4294967296) m1 g1 w hA e1 f1
      have KOb := fun w => iorder_n (b % 4294967296) m2 g2 w hB e2 f2
      have L1 := fun v1 v2 w h1 h2 => sless_n m1 m2 g1 g2 v1 v2 w (by omega) (by omega) h1 h2
      have L2 := fun v1 v2 w h1 h2 => sless_n m2 m1 g2 g1 v2 v1 w (by omega) (by omega) h2 h1
      have x1b := ex_n_b m1 l1
      have x2b := ex_n_b m2 l2
      have b1 : bl (mt_n m1) ≤ 60 := bl60 (by have := mt_n_b m1; omega)
      have b2 : bl (mt_n m2) ≤ 60 := bl60 (by have := mt_n_b m2; omega)
      have sA : sg_n g1 + (m1 : Nat) = ((a % 4294967296 : Nat) : Int) := by
        rw [f1]; unfold sg_n
        by_cases h : 2147483648 ≤ a % 4294967296
        · rw [decide_eq_true h, if_pos rfl]; omega
        · rw [decide_eq_false h, if_neg (by decide)]; omega
      have sB : sg_n g2 + (m2 : Nat) = ((b % 4294967296 : Nat) : Int) := by
        rw [f2]; unfold sg_n
        by_cases h : 2147483648 ≤ b % 4294967296
        · rw [decide_eq_true h, if_pos rfl]; omega
        · rw [decide_eq_false h, if_neg (by decide)]; omega
      have W1 := fun v1 w h => swrite_n (kd_n m1) g1 (ex_n m1) (mt_n m1) v1 w (kd_n_k m1) (by omega) (by omega) (by omega) h
      have W2' := fun v2 w h => swrite_n (kd_n m2) g2 (ex_n m2) (mt_n m2) v2 w (kd_n_k m2) (by omega) (by omega) (by omega) h
      rw [self_n m1 g1 (by omega), sA] at W1
      rw [self_n m2 g2 (by omega), sB] at W2'
      have SPC := fun w => sf2_4 _ _ _ _ (a : Int) (b : Int) _ _ _ _ _ _ _ _ _ w KW1 KW2 RSa RSb (fun v1 v2 w h1 h2 => en_any _ _ _ _ _ _ _ _ _ g1 g2 v1 v2 _ _ _ _ false w h1 h2 k1 k2 (L1 v1 v2) (L2 v1 v2) (W1 v1) (W2' v2))
      by_cases hxy : oI g1 m1 = oI g2 m2
      · have l1' : decide (oI g1 m1 < oI g2 m2) = false := by rw [hxy]; simp
        have l2' : decide (oI g2 m2 < oI g1 m1) = false := by rw [hxy]; simp
        rw [l1', l2'] at SPC
        have cases2 : (g1 = g2 ∧ m1 = m2) ∨ (g1 ≠ g2 ∧ m1 = 0 ∧ m2 = 0) := by
          unfold oI at hxy
          cases g1 <;> cases g2 <;> simp at hxy ⊢ <;> omega
        have hor : bits .or .u64 ((a % 4294967296 : Nat) : Int) ((b % 4294967296 : Nat) : Int) = (if (false || (!false && g1)) != false then ((a % 4294967296 : Nat) : Int) else ((b % 4294967296 : Nat) : Int)) := by
          have hn := bits_or_u64_nat (a % 4294967296) (b % 4294967296) (by omega) (by omega)
          rw [hn]
          rcases cases2 with ⟨c1, c2⟩ | ⟨c1, c2, c3⟩
          · have : a % 4294967296 = b % 4294967296 := by
              subst c1; subst c2
              have := sA.symm.trans sB
              omega
            rw [this]; simp
          · subst c2; subst c3
            cases g1 <;> cases g2
            · exact absurd rfl c1
            · have q1 : a % 4294967296 = 0 := by unfold sg_n at sA; simp at sA; omega
              have q2 : b % 4294967296 = 2147483648 := by unfold sg_n at sB; simp at sB; omega
              rw [q1, q2]; decide
            · have q1 : a % 4294967296 = 2147483648 := by unfold sg_n at sA; simp at sA; omega
              have q2 : b % 4294967296 = 0 := by unfold sg_n at sB; simp at sB; omega
              rw [q1, q2]; decide
            · exact absurd rfl c1
        refine ⟨true, 0, _, fun w hT hz => if2_150 _ _ _ _ _ _ _ _ _ _ w hT hz KF KLa KLb (fun w => ?_), SPC⟩
        have h := pick_et _ _ _ _ _ _ _ _ w KNa KNb KOa KOb (by simpa using hxy)
        rw [hor] at h
        exact h
      · have l2' : decide (oI g2 m2 < oI g1 m1) = !decide (oI g1 m1 < oI g2 m2) := by rw [Bool.eq_iff_iff]; simp; omega
        rw [l2'] at SPC
        by_cases hl : oI g1 m1 < oI g2 m2
        · rw [decide_eq_true hl] at SPC
          refine ⟨true, 0, _, fun w hT hz => if2_150 _ _ _ _ _ _ _ _ _ _ w hT hz KF KLa KLb (fun w => ?_), SPC⟩
          have h := pick_a _ _ _ _ true _ _ _ _ w KNa KNb KOa KOb (by simpa using hxy) (by rw [decide_eq_true hl]; rfl)
          exact h
        · rw [decide_eq_false hl] at SPC
          refine ⟨true, 0, _, fun w hT hz => if2_150 _ _ _ _ _ _ _ _ _ _ w hT hz KF KLa KLb (fun w => ?_), SPC⟩
          have h := pick_b _ _ _ _ true _ _ _ _ w KNa KNb KOa KOb (by simpa using hxy) (by rw [decide_eq_false hl]; rfl)
          exact h
set_option maxHeartbeats 1000000 in
theorem b2_151 (a b : Nat) (ha : a < 18446744073709551616) (hb : b < 18446744073709551616) : B2 151 a b := by
  obtain ⟨m1, e1⟩ : ∃ m, m = a % 4294967296 % 2147483648 := ⟨_, rfl⟩
  obtain ⟨m2, e2⟩ : ∃ m, m = b % 4294967296 % 2147483648 := ⟨_, rfl⟩
  obtain ⟨g1, f1⟩ : ∃ g, g = decide (2147483648 ≤ a % 4294967296) := ⟨_, rfl⟩
  obtain ⟨g2, f2⟩ : ∃ g, g = decide (2147483648 ≤ b % 4294967296) := ⟨_, rfl⟩
  have hA : a % 4294967296 < 4294967296 := Nat.mod_lt _ (by decide)
  have hB : b % 4294967296 < 4294967296 := Nat.mod_lt _ (by decide)
  have l1 : m1 < 2147483648 := by omega
  have l2 : m2 < 2147483648 := by omega
  have RSa := fun w => sread_n a w ha m1 g1 e1 f1
  have RSb := fun w => sread_n b w hb m2 g2 e2 f2
  have KLa := fun w => low_n (a : Int) w
  have KLb := fun w => low_n (b : Int) w
  rw [low_n_m a ha] at KLa
  rw [low_n_m b hb] at KLb
  have KF : ∀ w, Tab0 w → 0 < w.heap.size → Hid (Calls Tryd.prog 32 #[.int .i64 151] w fun e w' => e = .returned (.tuple #[.int .i64 151, FVn]) ∧ Below w.heap.size w w') := fun w hT hz => fold_nb 151 w (by decide) (by decide) hT hz
  have KW1 : ∀ w, Hid (Calls Tryd.prog 22 #[.int .i64 151, .int .i64 91, .int .i64 97, .int .i64 6] w fun e w' => e = .returned (.tuple #[FSn, .int .i64 (-1)]) ∧ Below w.heap.size w w') := fun w => wht_c 151 w (by decide) (by decide) (by decide)
  have KW2 : ∀ w, Hid (Calls Tryd.prog 22 #[.int .i64 151, .int .i64 146, .int .i64 160, .int .i64 7] w fun e w' => e = .returned (.tuple #[FSn, .int .i64 5]) ∧ Below w.heap.size w w') := fun w => whb_n 151 w (by decide) (by decide) (by decide) (by decide)
  have KNa := fun w => inan_n (a % 4294967296) m1 w hA e1
  have KNb := fun w => inan_n (b % 4294967296) m2 w hB e2
  by_cases n1 : 2139095040 < m1
  · rw [decide_eq_true n1] at KNa
    rw [kd_n_n n1] at RSa
    exact ⟨true, 0, 2143289344, fun w hT hz => if2_151 _ _ _ _ _ _ _ _ _ _ w hT hz KF KLa KLb (fun w => pick_na _ _ _ _ false _ _ w KNa), fun w => sf2_5 _ _ _ _ _ _ _ _ _ _ _ _ _ _ _ w KW1 KW2 RSa RSb (fun v1 v2 w h1 h2 => en_na _ _ _ _ g1 g2 v1 v2 _ _ _ _ true _ w h1 h2 (fun w => nan_n w))⟩
  · rw [decide_eq_false n1] at KNa
    have k1 : (kd_n m1 == 2) = false := by unfold kd_n; rw [if_neg n1]; split <;> decide
    by_cases n2 : 2139095040 < m2
    · rw [decide_eq_true n2] at KNb
      rw [kd_n_n n2] at RSb
      exact ⟨true, 0, 2143289344, fun w hT hz => if2_151 _ _ _ _ _ _ _ _ _ _ w hT hz KF KLa KLb (fun w => pick_nb _ _ _ _ false _ _ w KNa KNb), fun w => sf2_5 _ _ _ _ _ _ _ _ _ _ _ _ _ _ _ w KW1 KW2 RSa RSb (fun v1 v2 w h1 h2 => en_nb _ _ _ _ g1 g2 v1 v2 _ _ _ _ true _ w h1 h2 k1 (fun w => nan_n w))⟩
    · rw [decide_eq_false n2] at KNb
      have k2 : (kd_n m2 == 2) = false := by unfold kd_n; rw [if_neg n2]; split <;> decide
      have KOa := fun w => iorder_n (a % 4294967296) m1 g1 w hA e1 f1
      have KOb := fun w => iorder_n (b % 4294967296) m2 g2 w hB e2 f2
      have L1 := fun v1 v2 w h1 h2 => sless_n m1 m2 g1 g2 v1 v2 w (by omega) (by omega) h1 h2
      have L2 := fun v1 v2 w h1 h2 => sless_n m2 m1 g2 g1 v2 v1 w (by omega) (by omega) h2 h1
      have x1b := ex_n_b m1 l1
      have x2b := ex_n_b m2 l2
      have b1 : bl (mt_n m1) ≤ 60 := bl60 (by have := mt_n_b m1; omega)
      have b2 : bl (mt_n m2) ≤ 60 := bl60 (by have := mt_n_b m2; omega)
      have sA : sg_n g1 + (m1 : Nat) = ((a % 4294967296 : Nat) : Int) := by
        rw [f1]; unfold sg_n
        by_cases h : 2147483648 ≤ a % 4294967296
        · rw [decide_eq_true h, if_pos rfl]; omega
        · rw [decide_eq_false h, if_neg (by decide)]; omega
      have sB : sg_n g2 + (m2 : Nat) = ((b % 4294967296 : Nat) : Int) := by
        rw [f2]; unfold sg_n
        by_cases h : 2147483648 ≤ b % 4294967296
        · rw [decide_eq_true h, if_pos rfl]; omega
        · rw [decide_eq_false h, if_neg (by decide)]; omega
      have W1 := fun v1 w h => swrite_n (kd_n m1) g1 (ex_n m1) (mt_n m1) v1 w (kd_n_k m1) (by omega) (by omega) (by omega) h
      have W2' := fun v2 w h => swrite_n (kd_n m2) g2 (ex_n m2) (mt_n m2) v2 w (kd_n_k m2) (by omega) (by omega) (by omega) h
      rw [self_n m1 g1 (by omega), sA] at W1
      rw [self_n m2 g2 (by omega), sB] at W2'
      have SPC := fun w => sf2_5 _ _ _ _ (a : Int) (b : Int) _ _ _ _ _ _ _ _ _ w KW1 KW2 RSa RSb (fun v1 v2 w h1 h2 => en_any _ _ _ _ _ _ _ _ _ g1 g2 v1 v2 _ _ _ _ true w h1 h2 k1 k2 (L1 v1 v2) (L2 v1 v2) (W1 v1) (W2' v2))
      by_cases hxy : oI g1 m1 = oI g2 m2
      · have l1' : decide (oI g1 m1 < oI g2 m2) = false := by rw [hxy]; simp
        have l2' : decide (oI g2 m2 < oI g1 m1) = false := by rw [hxy]; simp
        rw [l1', l2'] at SPC
        have cases2 : (g1 = g2 ∧ m1 = m2) ∨ (g1 ≠ g2 ∧ m1 = 0 ∧ m2 = 0) := by
          unfold oI at hxy
          cases g1 <;> cases g2 <;> simp at hxy ⊢ <;> omega
        have hor : bits .and .u64 ((a % 4294967296 : Nat) : Int) ((b % 4294967296 : Nat) : Int) = (if (false || (!false && g1)) != true then ((a % 4294967296 : Nat) : Int) else ((b % 4294967296 : Nat) : Int)) := by
          have hn := bits_and_u64_nat (a % 4294967296) (b % 4294967296) (by omega) (by omega)
          rw [hn]
          rcases cases2 with ⟨c1, c2⟩ | ⟨c1, c2, c3⟩
          · have : a % 4294967296 = b % 4294967296 := by
              subst c1; subst c2
              have := sA.symm.trans sB
              omega
            rw [this]; simp
          · subst c2; subst c3
            cases g1 <;> cases g2
            · exact absurd rfl c1
            · have q1 : a % 4294967296 = 0 := by unfold sg_n at sA; simp at sA; omega
              have q2 : b % 4294967296 = 2147483648 := by unfold sg_n at sB; simp at sB; omega
              rw [q1, q2]; decide
            · have q1 : a % 4294967296 = 2147483648 := by unfold sg_n at sA; simp at sA; omega
              have q2 : b % 4294967296 = 0 := by unfold sg_n at sB; simp at sB; omega
              rw [q1, q2]; decide
            · exact absurd rfl c1
        refine ⟨true, 0, _, fun w hT hz => if2_151 _ _ _ _ _ _ _ _ _ _ w hT hz KF KLa KLb (fun w => ?_), SPC⟩
        have h := pick_ef _ _ _ _ _ _ _ _ w KNa KNb KOa KOb (by simpa using hxy)
        rw [hor] at h
        exact h
      · have l2' : decide (oI g2 m2 < oI g1 m1) = !decide (oI g1 m1 < oI g2 m2) := by rw [Bool.eq_iff_iff]; simp; omega
        rw [l2'] at SPC
        by_cases hl : oI g1 m1 < oI g2 m2
        · rw [decide_eq_true hl] at SPC
          refine ⟨true, 0, _, fun w hT hz => if2_151 _ _ _ _ _ _ _ _ _ _ w hT hz KF KLa KLb (fun w => ?_), SPC⟩
          have h := pick_b _ _ _ _ false _ _ _ _ w KNa KNb KOa KOb (by simpa using hxy) (by rw [decide_eq_true hl]; rfl)
          exact h
        · rw [decide_eq_false hl] at SPC
          refine ⟨true, 0, _, fun w hT hz => if2_151 _ _ _ _ _ _ _ _ _ _ w hT hz KF KLa KLb (fun w => ?_), SPC⟩
          have h := pick_a _ _ _ _ false _ _ _ _ w KNa KNb KOa KOb (by simpa using hxy) (by rw [decide_eq_false hl]; rfl)
          exact h
set_option maxHeartbeats 1000000 in
theorem b2_164 (a b : Nat) (ha : a < 18446744073709551616) (hb : b < 18446744073709551616) : B2 164 a b := by
  obtain ⟨m1, e1⟩ : ∃ m, m = a % 18446744073709551616 % 9223372036854775808 := ⟨_, rfl⟩
  obtain ⟨m2, e2⟩ : ∃ m, m = b % 18446744073709551616 % 9223372036854775808 := ⟨_, rfl⟩
  obtain ⟨g1, f1⟩ : ∃ g, g = decide (9223372036854775808 ≤ a % 18446744073709551616) := ⟨_, rfl⟩
  obtain ⟨g2, f2⟩ : ∃ g, g = decide (9223372036854775808 ≤ b % 18446744073709551616) := ⟨_, rfl⟩
  have hA : a % 18446744073709551616 < 18446744073709551616 := Nat.mod_lt _ (by decide)
  have hB : b % 18446744073709551616 < 18446744073709551616 := Nat.mod_lt _ (by decide)
  have l1 : m1 < 9223372036854775808 := by omega
  have l2 : m2 < 9223372036854775808 := by omega
  have RSa := fun w => sread_w a w ha m1 g1 e1 f1
  have RSb := fun w => sread_w b w hb m2 g2 e2 f2
  have KLa := fun w => low_w (a : Int) w
  have KLb := fun w => low_w (b : Int) w
  rw [low_w_m a ha] at KLa
  rw [low_w_m b hb] at KLb
  have KF : ∀ w, Tab0 w → 0 < w.heap.size → Hid (Calls Tryd.prog 32 #[.int .i64 164] w fun e w' => e = .returned (.tuple #[.int .i64 150, FVw]) ∧ Below w.heap.size w w') := fun w hT hz => fold_wide 164 w (by decide) (by decide) hT hz
  have KW1 : ∀ w, Hid (Calls Tryd.prog 22 #[.int .i64 164, .int .i64 91, .int .i64 97, .int .i64 6] w fun e w' => e = .returned (.tuple #[FSn, .int .i64 (-1)]) ∧ Below w.heap.size w w') := fun w => wht_c 164 w (by decide) (by decide) (by decide)
  have KW2 : ∀ w, Hid (Calls Tryd.prog 22 #[.int .i64 164, .int .i64 146, .int .i64 160, .int .i64 7] w fun e w' => e = .returned (.tuple #[FSw, .int .i64 4]) ∧ Below w.heap.size w w') := fun w => whb_w 164 w (by decide) (by decide) (by decide) (by decide)
  have KNa := fun w => inan_w (a % 18446744073709551616) m1 w hA e1
  have KNb := fun w => inan_w (b % 18446744073709551616) m2 w hB e2
  by_cases n1 : 9218868437227405312 < m1
  · rw [decide_eq_true n1] at KNa
    rw [kd_w_n n1] at RSa
    exact ⟨true, 0, 9221120237041090560, fun w hT hz => if2_150 _ _ _ _ _ _ _ _ _ _ w hT hz KF KLa KLb (fun w => pick_na _ _ _ _ true _ _ w KNa), fun w => sf2_4 _ _ _ _ _ _ _ _ _ _ _ _ _ _ _ w KW1 KW2 RSa RSb (fun v1 v2 w h1 h2 => en_na _ _ _ _ g1 g2 v1 v2 _ _ _ _ false _ w h1 h2 (fun w => nan_w w))⟩
  · rw [decide_eq_false n1] at KNa
    have k1 : (kd_w m1 == 2) = false := by unfold kd_w; rw [if_neg n1]; split <;> decide
    by_cases n2 : 9218868437227405312 < m2
    · rw [decide_eq_true n2] at KNb
      rw [kd_w_n n2] at RSb
      exact ⟨true, 0, 9221120237041090560, fun w hT hz => if2_150 _ _ _ _ _ _ _ _ _ _ w hT hz KF KLa KLb (fun w => pick_nb _ _ _ _ true _ _ w KNa KNb), fun w => sf2_4 _ _ _ _ _ _ _ _ _ _ _ _ _ _ _ w KW1 KW2 RSa RSb (fun v1 v2 w h1 h2 => en_nb _ _ _ _ g1 g2 v1 v2 _ _ _ _ false _ w h1 h2 k1 (fun w => nan_w w))⟩
    · rw [decide_eq_false n2] at KNb
      have k2 : (kd_w m2 == 2) = false := by unfold kd_w; rw [if_neg n2]; split <;> decide
      have KOa := fun w => iorder_w (a % 18446744073709551616) m1 g1 w hA e1 f1
      have KOb := fun w => iorder_w (b % 18446744073709551616) m2 g2 w hB e2 f2
      have L1 := fun v1 v2 w h1 h2 => sless_w m1 m2 g1 g2 v1 v2 w (by omega) (by omega) h1 h2
      have L2 := fun v1 v2 w h1 h2 => sless_w m2 m1 g2 g1 v2 v1 w (by omega) (by omega) h2 h1
      have x1b := ex_w_b m1 l1
      have x2b := ex_w_b m2 l2
      have b1 : bl (mt_w m1) ≤ 60 := bl60 (by have := mt_w_b m1; omega)
      have b2 : bl (mt_w m2) ≤ 60 := bl60 (by have := mt_w_b m2; omega)
      have sA : sg_w g1 + (m1 : Nat) = ((a % 18446744073709551616 : Nat) : Int) := by
        rw [f1]; unfold sg_w
        by_cases h : 9223372036854775808 ≤ a % 18446744073709551616
        · rw [decide_eq_true h, if_pos rfl]; omega
        · rw [decide_eq_false h, if_neg (by decide)]; omega
      have sB : sg_w g2 + (m2 : Nat) = ((b % 18446744073709551616 : Nat) : Int) := by
        rw [f2]; unfold sg_w
        by_cases h : 9223372036854775808 ≤ b % 18446744073709551616
        · rw [decide_eq_true h, if_pos rfl]; omega
        · rw [decide_eq_false h, if_neg (by decide)]; omega
      have W1 := fun v1 w h => swrite_w (kd_w m1) g1 (ex_w m1) (mt_w m1) v1 w (kd_w_k m1) (by omega) (by omega) (by omega) h
      have W2' := fun v2 w h => swrite_w (kd_w m2) g2 (ex_w m2) (mt_w m2) v2 w (kd_w_k m2) (by omega) (by omega) (by omega) h
      rw [self_w m1 g1 (by omega), sA] at W1
      rw [self_w m2 g2 (by omega), sB] at W2'
      have SPC := fun w => sf2_4 _ _ _ _ (a : Int) (b : Int) _ _ _ _ _ _ _ _ _ w KW1 KW2 RSa RSb (fun v1 v2 w h1 h2 => en_any _ _ _ _ _ _ _ _ _ g1 g2 v1 v2 _ _ _ _ false w h1 h2 k1 k2 (L1 v1 v2) (L2 v1 v2) (W1 v1) (W2' v2))
      by_cases hxy : oI g1 m1 = oI g2 m2
      · have l1' : decide (oI g1 m1 < oI g2 m2) = false := by rw [hxy]; simp
        have l2' : decide (oI g2 m2 < oI g1 m1) = false := by rw [hxy]; simp
        rw [l1', l2'] at SPC
        have cases2 : (g1 = g2 ∧ m1 = m2) ∨ (g1 ≠ g2 ∧ m1 = 0 ∧ m2 = 0) := by
          unfold oI at hxy
          cases g1 <;> cases g2 <;> simp at hxy ⊢ <;> omega
        have hor : bits .or .u64 ((a % 18446744073709551616 : Nat) : Int) ((b % 18446744073709551616 : Nat) : Int) = (if (false || (!false && g1)) != false then ((a % 18446744073709551616 : Nat) : Int) else ((b % 18446744073709551616 : Nat) : Int)) := by
          have hn := bits_or_u64_nat (a % 18446744073709551616) (b % 18446744073709551616) (by omega) (by omega)
          rw [hn]
          rcases cases2 with ⟨c1, c2⟩ | ⟨c1, c2, c3⟩
          · have : a % 18446744073709551616 = b % 18446744073709551616 := by
              subst c1; subst c2
              have := sA.symm.trans sB
              omega
            rw [this]; simp
          · subst c2; subst c3
            cases g1 <;> cases g2
            · exact absurd rfl c1
            · have q1 : a % 18446744073709551616 = 0 := by unfold sg_w at sA; simp at sA; omega
              have q2 : b % 18446744073709551616 = 9223372036854775808 := by unfold sg_w at sB; simp at sB; omega
              rw [q1, q2]; decide
            · have q1 : a % 18446744073709551616 = 9223372036854775808 := by unfold sg_w at sA; simp at sA; omega
              have q2 : b % 18446744073709551616 = 0 := by unfold sg_w at sB; simp at sB; omega
              rw [q1, q2]; decide
            · exact absurd rfl c1
        refine ⟨true, 0, _, fun w hT hz => if2_150 _ _ _ _ _ _ _ _ _ _ w hT hz KF KLa KLb (fun w => ?_), SPC⟩
        have h := pick_et _ _ _ _ _ _ _ _ w KNa KNb KOa KOb (by simpa using hxy)
        rw [hor] at h
        exact h
      · have l2' : decide (oI g2 m2 < oI g1 m1) = !decide (oI g1 m1 < oI g2 m2) := by rw [Bool.eq_iff_iff]; simp; omega
        rw [l2'] at SPC
        by_cases hl : oI g1 m1 < oI g2 m2
        · rw [decide_eq_true hl] at SPC
          refine ⟨true, 0, _, fun w hT hz => if2_150 _ _ _ _ _ _ _ _ _ _ w hT hz KF KLa KLb (fun w => ?_), SPC⟩
          have h := pick_a _ _ _ _ true _ _ _ _ w KNa KNb KOa KOb (by simpa using hxy) (by rw [decide_eq_true hl]; rfl)
          exact h
        · rw [decide_eq_false hl] at SPC
          refine ⟨true, 0, _, fun w hT hz => if2_150 _ _ _ _ _ _ _ _ _ _ w hT hz KF KLa KLb (fun w => ?_), SPC⟩
          have h := pick_b _ _ _ _ true _ _ _ _ w KNa KNb KOa KOb (by simpa using hxy) (by rw [decide_eq_false hl]; rfl)
          exact h
set_option maxHeartbeats 1000000 in
theorem b2_165 (a b : Nat) (ha : a < 18446744073709551616) (hb : b < 18446744073709551616) : B2 165 a b := by
  obtain ⟨m1, e1⟩ : ∃ m, m = a % 18446744073709551616 % 9223372036854775808 := ⟨_, rfl⟩
  obtain ⟨m2, e2⟩ : ∃ m, m = b % 18446744073709551616 % 9223372036854775808 := ⟨_, rfl⟩
  obtain ⟨g1, f1⟩ : ∃ g, g = decide (9223372036854775808 ≤ a % 18446744073709551616) := ⟨_, rfl⟩
  obtain ⟨g2, f2⟩ : ∃ g, g = decide (9223372036854775808 ≤ b % 18446744073709551616) := ⟨_, rfl⟩
  have hA : a % 18446744073709551616 < 18446744073709551616 := Nat.mod_lt _ (by decide)
  have hB : b % 18446744073709551616 < 18446744073709551616 := Nat.mod_lt _ (by decide)
  have l1 : m1 < 9223372036854775808 := by omega
  have l2 : m2 < 9223372036854775808 := by omega
  have RSa := fun w => sread_w a w ha m1 g1 e1 f1
  have RSb := fun w => sread_w b w hb m2 g2 e2 f2
  have KLa := fun w => low_w (a : Int) w
  have KLb := fun w => low_w (b : Int) w
  rw [low_w_m a ha] at KLa
  rw [low_w_m b hb] at KLb
  have KF : ∀ w, Tab0 w → 0 < w.heap.size → Hid (Calls Tryd.prog 32 #[.int .i64 165] w fun e w' => e = .returned (.tuple #[.int .i64 151, FVw]) ∧ Below w.heap.size w w') := fun w hT hz => fold_wide 165 w (by decide) (by decide) hT hz
  have KW1 : ∀ w, Hid (Calls Tryd.prog 22 #[.int .i64 165, .int .i64 91, .int .i64 97, .int .i64 6] w fun e w' => e = .returned (.tuple #[FSn, .int .i64 (-1)]) ∧ Below w.heap.size w w') := fun w => wht_c 165 w (by decide) (by decide) (by decide)
  have KW2 : ∀ w, Hid (Calls Tryd.prog 22 #[.int .i64 165, .int .i64 146, .int .i64 160, .int .i64 7] w fun e w' => e = .returned (.tuple #[FSw, .int .i64 5]) ∧ Below w.heap.size w w') := fun w => whb_w 165 w (by decide) (by decide) (by decide) (by decide)
  have KNa := fun w => inan_w (a % 18446744073709551616) m1 w hA e1
  have KNb := fun w => inan_w (b % 18446744073709551616) m2 w hB e2
  by_cases n1 : 9218868437227405312 < m1
  · rw [decide_eq_true n1] at KNa
    rw [kd_w_n n1] at RSa
    exact ⟨true, 0, 9221120237041090560, fun w hT hz => if2_151 _ _ _ _ _ _ _ _ _ _ w hT hz KF KLa KLb (fun w => pick_na _ _ _ _ false _ _ w KNa), fun w => sf2_5 _ _ _ _ _ _ _ _ _ _ _ _ _ _ _ w KW1 KW2 RSa RSb (fun v1 v2 w h1 h2 => en_na _ _ _ _ g1 g2 v1 v2 _ _ _ _ true _ w h1 h2 (fun w => nan_w w))⟩
  · rw [decide_eq_false n1] at KNa
    have k1 : (kd_w m1 == 2) = false := by unfold kd_w; rw [if_neg n1]; split <;> decide
    by_cases n2 : 9218868437227405312 < m2
    · rw [decide_eq_true n2] at KNb
      rw [kd_w_n n2] at RSb
      exact ⟨true, 0, 9221120237041090560, fun w hT hz => if2_151 _ _ _ _ _ _ _ _ _ _ w hT hz KF KLa KLb (fun w => pick_nb _ _ _ _ false _ _ w KNa KNb), fun w => sf2_5 _ _ _ _ _ _ _ _ _ _ _ _ _ _ _ w KW1 KW2 RSa RSb (fun v1 v2 w h1 h2 => en_nb _ _ _ _ g1 g2 v1 v2 _ _ _ _ true _ w h1 h2 k1 (fun w => nan_w w))⟩
    · rw [decide_eq_false n2] at KNb
      have k2 : (kd_w m2 == 2) = false := by unfold kd_w; rw [if_neg n2]; split <;> decide
      have KOa := fun w => iorder_w (a % 18446744073709551616) m1 g1 w hA e1 f1
      have KOb := fun w => iorder_w (b % 18446744073709551616) m2 g2 w hB e2 f2
      have L1 := fun v1 v2 w h1 h2 => sless_w m1 m2 g1 g2 v1 v2 w (by omega) (by omega) h1 h2
      have L2 := fun v1 v2 w h1 h2 => sless_w m2 m1 g2 g1 v2 v1 w (by omega) (by omega) h2 h1
      have x1b := ex_w_b m1 l1
      have x2b := ex_w_b m2 l2
      have b1 : bl (mt_w m1) ≤ 60 := bl60 (by have := mt_w_b m1; omega)
      have b2 : bl (mt_w m2) ≤ 60 := bl60 (by have := mt_w_b m2; omega)
      have sA : sg_w g1 + (m1 : Nat) = ((a % 18446744073709551616 : Nat) : Int) := by
        rw [f1]; unfold sg_w
        by_cases h : 9223372036854775808 ≤ a % 18446744073709551616
        · rw [decide_eq_true h, if_pos rfl]; omega
        · rw [decide_eq_false h, if_neg (by decide)]; omega
      have sB : sg_w g2 + (m2 : Nat) = ((b % 18446744073709551616 : Nat) : Int) := by
        rw [f2]; unfold sg_w
        by_cases h : 9223372036854775808 ≤ b % 18446744073709551616
        · rw [decide_eq_true h, if_pos rfl]; omega
        · rw [decide_eq_false h, if_neg (by decide)]; omega
      have W1 := fun v1 w h => swrite_w (kd_w m1) g1 (ex_w m1) (mt_w m1) v1 w (kd_w_k m1) (by omega) (by omega) (by omega) h
      have W2' := fun v2 w h => swrite_w (kd_w m2) g2 (ex_w m2) (mt_w m2) v2 w (kd_w_k m2) (by omega) (by omega) (by omega) h
      rw [self_w m1 g1 (by omega), sA] at W1
      rw [self_w m2 g2 (by omega), sB] at W2'
      have SPC := fun w => sf2_5 _ _ _ _ (a : Int) (b : Int) _ _ _ _ _ _ _ _ _ w KW1 KW2 RSa RSb (fun v1 v2 w h1 h2 => en_any _ _ _ _ _ _ _ _ _ g1 g2 v1 v2 _ _ _ _ true w h1 h2 k1 k2 (L1 v1 v2) (L2 v1 v2) (W1 v1) (W2' v2))
      by_cases hxy : oI g1 m1 = oI g2 m2
      · have l1' : decide (oI g1 m1 < oI g2 m2) = false := by rw [hxy]; simp
        have l2' : decide (oI g2 m2 < oI g1 m1) = false := by rw [hxy]; simp
        rw [l1', l2'] at SPC
        have cases2 : (g1 = g2 ∧ m1 = m2) ∨ (g1 ≠ g2 ∧ m1 = 0 ∧ m2 = 0) := by
          unfold oI at hxy
          cases g1 <;> cases g2 <;> simp at hxy ⊢ <;> omega
        have hor : bits .and .u64 ((a % 18446744073709551616 : Nat) : Int) ((b % 18446744073709551616 : Nat) : Int) = (if (false || (!false && g1)) != true then ((a % 18446744073709551616 : Nat) : Int) else ((b % 18446744073709551616 : Nat) : Int)) := by
          have hn := bits_and_u64_nat (a % 18446744073709551616) (b % 18446744073709551616) (by omega) (by omega)
          rw [hn]
          rcases cases2 with ⟨c1, c2⟩ | ⟨c1, c2, c3⟩
          · have : a % 18446744073709551616 = b % 18446744073709551616 := by
              subst c1; subst c2
              have := sA.symm.trans sB
              omega
            rw [this]; simp
          · subst c2; subst c3
            cases g1 <;> cases g2
            · exact absurd rfl c1
            · have q1 : a % 18446744073709551616 = 0 := by unfold sg_w at sA; simp at sA; omega
              have q2 : b % 18446744073709551616 = 9223372036854775808 := by unfold sg_w at sB; simp at sB; omega
              rw [q1, q2]; decide
            · have q1 : a % 18446744073709551616 = 9223372036854775808 := by unfold sg_w at sA; simp at sA; omega
              have q2 : b % 18446744073709551616 = 0 := by unfold sg_w at sB; simp at sB; omega
              rw [q1, q2]; decide
            · exact absurd rfl c1
        refine ⟨true, 0, _, fun w hT hz => if2_151 _ _ _ _ _ _ _ _ _ _ w hT hz KF KLa KLb (fun w => ?_), SPC⟩
        have h := pick_ef _ _ _ _ _ _ _ _ w KNa KNb KOa KOb (by simpa using hxy)
        rw [hor] at h
        exact h
      · have l2' : decide (oI g2 m2 < oI g1 m1) = !decide (oI g1 m1 < oI g2 m2) := by rw [Bool.eq_iff_iff]; simp; omega
        rw [l2'] at SPC
        by_cases hl : oI g1 m1 < oI g2 m2
        · rw [decide_eq_true hl] at SPC
          refine ⟨true, 0, _, fun w hT hz => if2_151 _ _ _ _ _ _ _ _ _ _ w hT hz KF KLa KLb (fun w => ?_), SPC⟩
          have h := pick_b _ _ _ _ false _ _ _ _ w KNa KNb KOa KOb (by simpa using hxy) (by rw [decide_eq_true hl]; rfl)
          exact h
        · rw [decide_eq_false hl] at SPC
          refine ⟨true, 0, _, fun w hT hz => if2_151 _ _ _ _ _ _ _ _ _ _ w hT hz KF KLa KLb (fun w => ?_), SPC⟩
          have h := pick_a _ _ _ _ false _ _ _ _ w KNa KNb KOa KOb (by simpa using hxy) (by rw [decide_eq_false hl]; rfl)
          exact h
end Go.Proofs.YthmppcfhbbjhlaaDoor
namespace Go.Proofs.YthmppcfhbbjhlaaDoor
open Go.RowKit Go.Sort

theorem b2_152 (a b : Nat) (ha : a < 18446744073709551616) (hb : b < 18446744073709551616) : B2 152 a b := by
  obtain ⟨m1, e1⟩ : ∃ m, m = a % 4294967296 % 2147483648 := ⟨_, rfl⟩
  obtain ⟨m2, e2⟩ : ∃ m, m = b % 4294967296 % 2147483648 := ⟨_, rfl⟩
  obtain ⟨g1, f1⟩ : ∃ g, g = decide (2147483648 ≤ a % 4294967296) := ⟨_, rfl⟩
  obtain ⟨g2, f2⟩ : ∃ g, g = decide (2147483648 ≤ b % 4294967296) := ⟨_, rfl⟩
  have hA : a % 4294967296 < 4294967296 := Nat.mod_lt _ (by decide)
  have hB : b % 4294967296 < 4294967296 := Nat.mod_lt _ (by decide)
  have l1 : m1 < 2147483648 := by omega
  have l2 : m2 < 2147483648 := by omega
  have RSa := fun w => sread_n a w ha m1 g1 e1 f1
  have RSb := fun w => sread_n b w hb m2 g2 e2 f2
  have KLa := fun w => low_n (a : Int) w
  have KLb := fun w => low_n (b : Int) w
  rw [low_n_m a ha] at KLa
  rw [low_n_m b hb] at KLb
  have KF : ∀ w, Tab0 w → 0 < w.heap.size → Hid (Calls Tryd.prog 32 #[.int .i64 152] w fun e w' => e = .returned (.tuple #[.int .i64 152, FVn]) ∧ Below w.heap.size w w') := fun w hT hz => fold_nb 152 w (by decide) (by decide) hT hz
  have KW1 : ∀ w, Hid (Calls Tryd.prog 22 #[.int .i64 152, .int .i64 91, .int .i64 97, .int .i64 6] w fun e w' => e = .returned (.tuple #[FSn, .int .i64 (-1)]) ∧ Below w.heap.size w w') := fun w => wht_c 152 w (by decide) (by decide) (by decide)
  have KW2 : ∀ w, Hid (Calls Tryd.prog 22 #[.int .i64 152, .int .i64 146, .int .i64 160, .int .i64 7] w fun e w' => e = .returned (.tuple #[FSn, .int .i64 6]) ∧ Below w.heap.size w w') := fun w => whb_n 152 w (by decide) (by decide) (by decide) (by decide)
  have SLa : ∀ w, Hid (Calls Tryd.prog 23 #[.int .u64 (a : Int), .int .i64 32] w fun e w' => e = .returned (.int .u64 ((a % 4294967296 : Nat) : Int)) ∧ w = w') := fun w => by
    have h := low32 (a : Int) w (by omega) (by omega)
    rw [show (a : Int) % 4294967296 = ((a % 4294967296 : Nat) : Int) by omega] at h
    exact h
  have SLb : ∀ w, Hid (Calls Tryd.prog 23 #[.int .u64 (b : Int), .int .i64 32] w fun e w' => e = .returned (.int .u64 ((b % 4294967296 : Nat) : Int)) ∧ w = w') := fun w => by
    have h := low32 (b : Int) w (by omega) (by omega)
    rw [show (b : Int) % 4294967296 = ((b % 4294967296 : Nat) : Int) by omega] at h
    exact h
  have hR : bits .or .u64 (bits .andNot .u64 ((a % 4294967296 : Nat) : Int) 2147483648) (bits .and .u64 ((b % 4294967296 : Nat) : Int) 2147483648) = ((a % 4294967296 : Nat) : Int) % 2147483648 + ((b % 4294967296 : Nat) : Int) / 2147483648 * 2147483648 := by
    rw [mag_n_m _ hA]
    have h1 := bits_and_u64_nat (b % 4294967296) 2147483648 (by omega) (by decide)
    have h2 := and_pow (b % 4294967296) 31 (by rw [show (2 : Nat) ^ (31 + 1) = 4294967296 by decide]; exact hB)
    rw [show (2 : Nat) ^ 31 = 2147483648 by decide] at h2
    rw [h2, show ((2147483648 : Nat) : Int) = 2147483648 from rfl] at h1
    rw [h1]
    have h3 := bits_or_u64_nat (a % 4294967296 % 2147483648) (b % 4294967296 / 2147483648 * 2147483648) (by omega) (by omega)
    rw [h3]
    have h4 := or_add' (b % 4294967296 / 2147483648) (a % 4294967296 % 2147483648) 31 (Nat.mod_lt _ (by decide))
    rw [show (2 : Nat) ^ 31 = 2147483648 by decide] at h4
    rw [h4]
    omega
  exact ⟨true, 0, _, fun w hT hz => if2_152 2147483648 _ _ _ _ _ _ _ _ _ _ w hT hz KF KLa KLb (fun w => signBit_n w) hR, fun w => sf2_6n _ _ _ _ _ _ _ _ _ _ _ _ _ _ w KW1 KW2 RSa RSb SLa SLb (by omega) (by omega) (by omega) (by omega) rfl⟩
theorem b2_166 (a b : Nat) (ha : a < 18446744073709551616) (hb : b < 18446744073709551616) : B2 166 a b := by
  obtain ⟨m1, e1⟩ : ∃ m, m = a % 18446744073709551616 % 9223372036854775808 := ⟨_, rfl⟩
  obtain ⟨m2, e2⟩ : ∃ m, m = b % 18446744073709551616 % 9223372036854775808 := ⟨_, rfl⟩
  obtain ⟨g1, f1⟩ : ∃ g, g = decide (9223372036854775808 ≤ a % 18446744073709551616) := ⟨_, rfl⟩
  obtain ⟨g2, f2⟩ : ∃ g, g = decide (9223372036854775808 ≤ b % 18446744073709551616) := ⟨_, rfl⟩
  have hA : a % 18446744073709551616 < 18446744073709551616 := Nat.mod_lt _ (by decide)
  have hB : b % 18446744073709551616 < 18446744073709551616 := Nat.mod_lt _ (by decide)
  have l1 : m1 < 9223372036854775808 := by omega
  have l2 : m2 < 9223372036854775808 := by omega
  have RSa := fun w => sread_w a w ha m1 g1 e1 f1
  have RSb := fun w => sread_w b w hb m2 g2 e2 f2
  have KLa := fun w => low_w (a : Int) w
  have KLb := fun w => low_w (b : Int) w
  rw [low_w_m a ha] at KLa
  rw [low_w_m b hb] at KLb
  have KF : ∀ w, Tab0 w → 0 < w.heap.size → Hid (Calls Tryd.prog 32 #[.int .i64 166] w fun e w' => e = .returned (.tuple #[.int .i64 152, FVw]) ∧ Below w.heap.size w w') := fun w hT hz => fold_wide 166 w (by decide) (by decide) hT hz
  have KW1 : ∀ w, Hid (Calls Tryd.prog 22 #[.int .i64 166, .int .i64 91, .int .i64 97, .int .i64 6] w fun e w' => e = .returned (.tuple #[FSn, .int .i64 (-1)]) ∧ Below w.heap.size w w') := fun w => wht_c 166 w (by decide) (by decide) (by decide)
  have KW2 : ∀ w, Hid (Calls Tryd.prog 22 #[.int .i64 166, .int .i64 146, .int .i64 160, .int .i64 7] w fun e w' => e = .returned (.tuple #[FSw, .int .i64 6]) ∧ Below w.heap.size w w') := fun w => whb_w 166 w (by decide) (by decide) (by decide) (by decide)
  have SLa : ∀ w, Hid (Calls Tryd.prog 23 #[.int .u64 (a : Int), .int .i64 64] w fun e w' => e = .returned (.int .u64 ((a % 18446744073709551616 : Nat) : Int)) ∧ w = w') := fun w => by
    have h := low64 (a : Int) w
    rw [show (a : Int) = ((a % 18446744073709551616 : Nat) : Int) by omega] at h ⊢
    exact h
  have SLb : ∀ w, Hid (Calls Tryd.prog 23 #[.int .u64 (b : Int), .int .i64 64] w fun e w' => e = .returned (.int .u64 ((b % 18446744073709551616 : Nat) : Int)) ∧ w = w') := fun w => by
    have h := low64 (b : Int) w
    rw [show (b : Int) = ((b % 18446744073709551616 : Nat) : Int) by omega] at h ⊢
    exact h
  have hR : bits .or .u64 (bits .andNot .u64 ((a % 18446744073709551616 : Nat) : Int) 9223372036854775808) (bits .and .u64 ((b % 18446744073709551616 : Nat) : Int) 9223372036854775808) = ((a % 18446744073709551616 : Nat) : Int) % 9223372036854775808 + ((b % 18446744073709551616 : Nat) : Int) / 9223372036854775808 * 9223372036854775808 := by
    rw [mag_w_m _ hA]
    have h1 := bits_and_u64_nat (b % 18446744073709551616) 9223372036854775808 (by omega) (by decide)
    have h2 := and_pow (b % 18446744073709551616) 63 (by rw [show (2 : Nat) ^ (63 + 1) = 18446744073709551616 by decide]; exact hB)
    rw [show (2 : Nat) ^ 63 = 9223372036854775808 by decide] at h2
    rw [h2, show ((9223372036854775808 : Nat) : Int) = 9223372036854775808 from rfl] at h1
    rw [h1]
    have h3 := bits_or_u64_nat (a % 18446744073709551616 % 9223372036854775808) (b % 18446744073709551616 / 9223372036854775808 * 9223372036854775808) (by omega) (by omega)
    rw [h3]
    have h4 := or_add' (b % 18446744073709551616 / 9223372036854775808) (a % 18446744073709551616 % 9223372036854775808) 63 (Nat.mod_lt _ (by decide))
    rw [show (2 : Nat) ^ 63 = 9223372036854775808 by decide] at h4
    rw [h4]
    omega
  exact ⟨true, 0, _, fun w hT hz => if2_152 9223372036854775808 _ _ _ _ _ _ _ _ _ _ w hT hz KF KLa KLb (fun w => signBit_w w) hR, fun w => sf2_6w _ _ _ _ _ _ _ _ _ _ _ _ _ _ w KW1 KW2 RSa RSb SLa SLb (by omega) (by omega) (by omega) (by omega) rfl⟩
end Go.Proofs.YthmppcfhbbjhlaaDoor
namespace Go.Proofs.YthmppcfhbbjhlaaDoor
open Go.RowKit Go.Sort

theorem b2_any (op : Int) (a b : Nat) (ha : a < 18446744073709551616) (hb : b < 18446744073709551616) (hl : -9223372036854775808 ≤ op) (hr : op ≤ 9223372036854775807) : B2 op a b := by
  by_cases h1 : 91 ≤ op ∧ op ≤ 102
  · rcases (show op = 91 ∨ op = 92 ∨ op = 93 ∨ op = 94 ∨ op = 95 ∨ op = 96 ∨ op = 97 ∨ op = 98 ∨ op = 99 ∨ op = 100 ∨ op = 101 ∨ op = 102 by omega) with rfl | rfl | rfl | rfl | rfl | rfl | rfl | rfl | rfl | rfl | rfl | rfl
    · exact b2_91 a b ha hb
    · exact b2_92 a b ha hb
    · exact b2_93 a b ha hb
    · exact b2_94 a b ha hb
    · exact b2_95 a b ha hb
    · exact b2_96 a b ha hb
    · exact b2_97 a b ha hb
    · exact b2_98 a b ha hb
    · exact b2_99 a b ha hb
    · exact b2_100 a b ha hb
    · exact b2_101 a b ha hb
    · exact b2_102 a b ha hb
  · by_cases h2 : 146 ≤ op ∧ op ≤ 152
    · rcases (show op = 146 ∨ op = 147 ∨ op = 148 ∨ op = 149 ∨ op = 150 ∨ op = 151 ∨ op = 152 by omega) with rfl | rfl | rfl | rfl | rfl | rfl | rfl
      · exact b2_146 a b ha hb
      · exact b2_147 a b ha hb
      · exact b2_148 a b ha hb
      · exact b2_149 a b ha hb
      · exact b2_150 a b ha hb
      · exact b2_151 a b ha hb
      · exact b2_152 a b ha hb
    · by_cases h3 : 160 ≤ op ∧ op ≤ 166
      · rcases (show op = 160 ∨ op = 161 ∨ op = 162 ∨ op = 163 ∨ op = 164 ∨ op = 165 ∨ op = 166 by omega) with rfl | rfl | rfl | rfl | rfl | rfl | rfl
        · exact b2_160 a b ha hb
        · exact b2_161 a b ha hb
        · exact b2_162 a b ha hb
        · exact b2_163 a b ha hb
        · exact b2_164 a b ha hb
        · exact b2_165 a b ha hb
        · exact b2_166 a b ha hb
      · have KW1 : ∀ w, Hid (Calls Tryd.prog 22 #[.int .i64 op, .int .i64 91, .int .i64 97, .int .i64 6] w fun e w' => e = .returned (.tuple #[FSn, .int .i64 (-1)]) ∧ Below w.heap.size w w') := fun w => by
          rcases (show op < 91 ∨ 103 ≤ op by omega) with h | h
          · exact wht_a op w h hl hr
          · exact wht_c op w h hl hr
        have KW2 : ∀ w, Hid (Calls Tryd.prog 22 #[.int .i64 op, .int .i64 146, .int .i64 160, .int .i64 7] w fun e w' => e = .returned (.tuple #[FSn, .int .i64 (-1)]) ∧ Below w.heap.size w w') := fun w => by
          rcases (show op < 146 ∨ (153 ≤ op ∧ op < 160) ∨ 167 ≤ op by omega) with h | ⟨h, h'⟩ | h
          · exact whb_a op w h hl hr
          · exact whb_b op w h h' hl hr
          · exact whb_c op w h hl hr
        refine ⟨false, 0, 0, fun w hT hz => ?_, fun w => sf2_x _ _ _ op a b 0 _ _ _ _ _ _ _ _ w KW1 KW2 (fun w => sread_n a w ha _ _ rfl rfl) (fun w => sread_n b w hb _ _ rfl rfl)⟩
        rcases (show op < 97 ∨ (102 < op ∧ op < 153) ∨ (153 ≤ op ∧ op ≤ 166) ∨ 166 < op by omega) with h | ⟨h, h'⟩ | ⟨h, h'⟩ | h
        · exact if2_x op _ _ _ _ op a b _ _ 0 w hT hz (fun w hT hz => fold_na op w h hT hz) (fun w => low_n _ w) (fun w => low_n _ w) (beq_eq_false_iff_ne.2 (by omega)) (beq_eq_false_iff_ne.2 (by omega)) (beq_eq_false_iff_ne.2 (by omega)) (beq_eq_false_iff_ne.2 (by omega)) (beq_eq_false_iff_ne.2 (by omega)) (beq_eq_false_iff_ne.2 (by omega)) (beq_eq_false_iff_ne.2 (by omega)) (beq_eq_false_iff_ne.2 (by omega)) (beq_eq_false_iff_ne.2 (by omega)) (beq_eq_false_iff_ne.2 (by omega)) (beq_eq_false_iff_ne.2 (by omega)) (beq_eq_false_iff_ne.2 (by omega)) (beq_eq_false_iff_ne.2 (by omega))
        · exact if2_x op _ _ _ _ op a b _ _ 0 w hT hz (fun w hT hz => fold_nb op w h h' hT hz) (fun w => low_n _ w) (fun w => low_n _ w) (beq_eq_false_iff_ne.2 (by omega)) (beq_eq_false_iff_ne.2 (by omega)) (beq_eq_false_iff_ne.2 (by omega)) (beq_eq_false_iff_ne.2 (by omega)) (beq_eq_false_iff_ne.2 (by omega)) (beq_eq_false_iff_ne.2 (by omega)) (beq_eq_false_iff_ne.2 (by omega)) (beq_eq_false_iff_ne.2 (by omega)) (beq_eq_false_iff_ne.2 (by omega)) (beq_eq_false_iff_ne.2 (by omega)) (beq_eq_false_iff_ne.2 (by omega)) (beq_eq_false_iff_ne.2 (by omega)) (beq_eq_false_iff_ne.2 (by omega))
        · exact if2_x _ _ _ _ _ op a b _ _ 0 w hT hz (fun w hT hz => fold_wide op w h h' hT hz) (fun w => low_w _ w) (fun w => low_w _ w) (beq_eq_false_iff_ne.2 (by omega)) (beq_eq_false_iff_ne.2 (by omega)) (beq_eq_false_iff_ne.2 (by omega)) (beq_eq_false_iff_ne.2 (by omega)) (beq_eq_false_iff_ne.2 (by omega)) (beq_eq_false_iff_ne.2 (by omega)) (beq_eq_false_iff_ne.2 (by omega)) (beq_eq_false_iff_ne.2 (by omega)) (beq_eq_false_iff_ne.2 (by omega)) (beq_eq_false_iff_ne.2 (by omega)) (beq_eq_false_iff_ne.2 (by omega)) (beq_eq_false_iff_ne.2 (by omega)) (beq_eq_false_iff_ne.2 (by omega))
        · exact if2_x op _ _ _ _ op a b _ _ 0 w hT hz (fun w hT hz => fold_nc op w h hT hz) (fun w => low_n _ w) (fun w => low_n _ w) (beq_eq_false_iff_ne.2 (by omega)) (beq_eq_false_iff_ne.2 (by omega)) (beq_eq_false_iff_ne.2 (by omega)) (beq_eq_false_iff_ne.2 (by omega)) (beq_eq_false_iff_ne.2 (by omega)) (beq_eq_false_iff_ne.2 (by omega)) (beq_eq_false_iff_ne.2 (by omega)) (beq_eq_false_iff_ne.2 (by omega)) (beq_eq_false_iff_ne.2 (by omega)) (beq_eq_false_iff_ne.2 (by omega)) (beq_eq_false_iff_ne.2 (by omega)) (beq_eq_false_iff_ne.2 (by omega)) (beq_eq_false_iff_ne.2 (by omega))

set_option maxHeartbeats 1000000 in
theorem lawFloat2 (op : Int) (A B0 : Nat) (w : World) (hl : -9223372036854775808 ≤ op) (hr : op ≤ 9223372036854775807) (hA : A < 18446744073709551616) (hB : B0 < 18446744073709551616) (hT : Tab0 w) (hz : 0 < w.heap.size) :
    Calls Tryd.prog 5 #[.int .i64 op, .int .u64 A, .int .u64 B0] w fun e w' => e = .returned (.bool true) ∧ Below w.heap.size w w' := by
  obtain ⟨K, t, v, hG⟩ := b2_any op A B0 hA hB hl hr
  have HI := Hid.mk' hG.1
  have HS := Hid.mk' hG.2
  have HT := Hid.mk' hT
  clear hG hT
  go_enter Tryd.func5, Tryd.ntmps5
  go_wp2_with fail
  refine (HS.out _).mono ?_
  rintro e w1 ⟨rfl, hb1⟩
  have HB1 := Hid.mk' hb1
  have hz1 := hb1.size
  clear hb1
  go_wp2_with fail
  refine (HI.out _ ?hTab ?hSize).mono ?_
  case hTab => exact HT.out.below (HB1.out.trans ((Below.refl _ _).alloc hz1 _)) hz
  case hSize => simp
  rintro e w2 ⟨rfl, hb2⟩
  have hb1 := HB1.out
  have hz2 := hb2.size
  simp at hz2
  have c0 : ∀ o, (w2.alloc o).cell? ⟨w1.heap.size, 0, none⟩ = some (.bool K) := fun o => by rw [World.cell?_alloc_past _ _ _ (by show w1.heap.size < _; omega), hb2.cell (p := ⟨w1.heap.size, 0, none⟩) (by simp)]; exact cell_new rfl rfl
  have c1 : ∀ o, (w2.alloc o).cell? ⟨w1.heap.size, 1, none⟩ = some (.int .i64 t) := fun o => by rw [World.cell?_alloc_past _ _ _ (by show w1.heap.size < _; omega), hb2.cell (p := ⟨w1.heap.size, 1, none⟩) (by simp)]; exact cell_new rfl rfl
  have c2 : ∀ o, (w2.alloc o).cell? ⟨w1.heap.size, 2, none⟩ = some (.int .u64 v) := fun o => by rw [World.cell?_alloc_past _ _ _ (by show w1.heap.size < _; omega), hb2.cell (p := ⟨w1.heap.size, 2, none⟩) (by simp)]; exact cell_new rfl rfl
  have hne : ¬ w1.heap.size = w2.heap.size := by omega
  have HB : Hid (Below w.heap.size w w2) := hb1.trans (Below.trans ((Below.refl _ _).alloc (Nat.le_refl _) _) (hb2.mono (by simp))|>.mono hz1)
  clear hb1 hb2 HI HS HT HB1
  go_wp2_with fail
  refine (eqRes_any K t v _).mono ?_
  rintro e w3 ⟨rfl, hb3⟩
  have HB3 := Hid.mk' hb3
  clear hb3
  go_wp2
  go_ret
  exact ⟨rfl, (HB.out.trans (Below.trans ((Below.refl _ _).alloc (Nat.le_refl _) _) (HB3.out.mono (by simp))|>.mono (by omega)))⟩
end Go.Proofs.YthmppcfhbbjhlaaDoor
