import Derived.Test.YthmppcfhbbjhlaaDoorYl
import Derived.Test.YthmppcfhbbjhlaaDoorYi
import Derived.Test.YthmppcfhbbjhlaaDoorYf
import Derived.Test.YthmppcfhbbjhlaaDoorXa
import Derived.Test.YthmppcfhbbjhlaaDoorZa
import Derived.Test.YthmppcfhbbjhlaaDoorXm
import Derived.Test.YthmppcfhbbjhlaaDoorZb
import Derived.Test.YthmppcfhbbjhlaaDoorZc
import Derived.Test.YthmppcfhbbjhlaaDoorZd
import Derived.Test.YthmppcfhbbjhlaaDoorMz
import Derived.Test.YthmppcfhbbjhlaaDoorYz
import Derived.Test.YthmppcfhbbjhlaaDoorYd
import Derived.Lib.QuietBelow
import Derived.Laws.StructEq
import Derived.Test.YthmppcfhbbjhlaaDoorRows
import Derived.Test.YthmppcfhbbjhlaaDoorCards
import Derived.Test.YthmppcfhbbjhlaaDoorTie
import Derived.Test.YthmppcfhbbjhlaaDoorLaid
import Derived.SevenTiedAt
import Derived.ChangeVars
import Derived.Carry
import Derived.WalkKit
import Derived.ProofKit
import Derived.OpenShut
import Derived.ShutString
import Derived.Below
set_option linter.all false
namespace Go.Proofs.YthmppcfhbbjhlaaDoor
open Go.RowKit Go.Sort

def IF2 (op : Int) (a b : Nat) (v : Int) : Prop := ∀ w, Tab0 w → 0 < w.heap.size → Calls Tryd.prog 15 #[.int .i64 op, .int .u64 (a : Int), .int .u64 (b : Int)] w fun e w' => e = .returned (RV true 0 v) ∧ Below w.heap.size w w'
def SF2 (op : Int) (a b : Nat) (v : Int) : Prop := ∀ w, Calls Tryd.prog 14 #[.int .i64 op, .int .u64 (a : Int), .int .u64 (b : Int)] w fun e w' => e = .returned (RV true 0 v) ∧ Below w.heap.size w w'
def IF1 (op : Int) (a : Nat) (v : Int) : Prop := ∀ w, Tab0 w → 0 < w.heap.size → Calls Tryd.prog 10 #[.int .i64 op, .int .u64 (a : Int)] w fun e w' => e = .returned (RV true 0 v) ∧ Below w.heap.size w w'
theorem v_146 (a b m1 m2 : Nat) (g1 g2 : Bool) (ha : a < 18446744073709551616) (hb : b < 18446744073709551616) (e1 : m1 = a % 4294967296 % 2147483648) (e2 : m2 = b % 4294967296 % 2147483648) (f1 : g1 = decide (2147483648 ≤ a % 4294967296)) (f2 : g2 = decide (2147483648 ≤ b % 4294967296)) : IF2 146 a b (plusV_n m1 g1 m2 g2) ∧ SF2 146 a b (plusV_n m1 g1 m2 g2) := by
  have hA : a % 4294967296 < 4294967296 := Nat.mod_lt _ (by decide)
  have hB : b % 4294967296 < 4294967296 := Nat.mod_lt _ (by decide)
  have l1 : m1 < 2147483648 := by omega
  have l2 : m2 < 2147483648 := by omega
  have RSa := fun w => sread_n a w ha m1 g1 e1 f1
  have RSb := fun w => sread_n b w hb m2 g2 e2 f2
  have KLa := fun w => low_n (a : Int) w
  have KLb := fun w => low_n (b : Int) w
  rw [low_n_m a ha] at KLa
  rw [low_n_m b hb] at KLb
  have KF : ∀ w, Tab0 w → 0 < w.heap.size → Hid (Calls Tryd.prog 32 #[.int .i64 146] w fun e w' => e = .returned (.tuple #[.int .i64 146, FVn]) ∧ Below w.heap.size w w') := fun w hT hz => fold_nb 146 w (by decide) (by decide) hT hz
  have KW1 : ∀ w, Hid (Calls Tryd.prog 22 #[.int .i64 146, .int .i64 91, .int .i64 97, .int .i64 6] w fun e w' => e = .returned (.tuple #[FSn, .int .i64 (-1)]) ∧ Below w.heap.size w w') := fun w => wht_c 146 w (by decide) (by decide) (by decide)
  have KW2 : ∀ w, Hid (Calls Tryd.prog 22 #[.int .i64 146, .int .i64 146, .int .i64 160, .int .i64 7] w fun e w' => e = .returned (.tuple #[FSn, .int .i64 0]) ∧ Below w.heap.size w w') := fun w => whb_n 146 w (by decide) (by decide) (by decide) (by decide)
  have RIa := fun w => iread_n (a % 4294967296) w (by omega) m1 g1 (by rw [Nat.mod_mod]; exact e1) (by rw [Nat.mod_mod]; exact f1)
  have RIb := fun w => iread_n (b % 4294967296) w (by omega) m2 g2 (by rw [Nat.mod_mod]; exact e2) (by rw [Nat.mod_mod]; exact f2)
  have ga : m1 ≤ 2139095040 → (if 2139095040 < m1 then false else g1) = g1 := fun h => if_neg (by omega)
  have gb : m2 ≤ 2139095040 → (if 2139095040 < m2 then false else g2) = g2 := fun h => if_neg (by omega)
  obtain ⟨k3, g3, x3, l3, h3, R, H1, H2, H3, hR⟩ := plusE_n m1 m2 g1 g2 _ _ l1 l2 ga gb
  subst hR
  exact ⟨fun w hT hz => if2_146 _ _ _ _ _ _ _ _ _ _ _ _ _ _ _ _ _ _ _ _ _ _ _ _ _ w hT hz KF KLa KLb RIa RIb H1 H2, fun w => sf2_0 _ _ _ _ _ _ _ _ _ _ _ _ _ _ _ w KW1 KW2 RSa RSb H3⟩
theorem v_148 (a b m1 m2 : Nat) (g1 g2 : Bool) (ha : a < 18446744073709551616) (hb : b < 18446744073709551616) (e1 : m1 = a % 4294967296 % 2147483648) (e2 : m2 = b % 4294967296 % 2147483648) (f1 : g1 = decide (2147483648 ≤ a % 4294967296)) (f2 : g2 = decide (2147483648 ≤ b % 4294967296)) : IF2 148 a b (timesV_n m1 g1 m2 g2) ∧ SF2 148 a b (timesV_n m1 g1 m2 g2) := by
  have hA : a % 4294967296 < 4294967296 := Nat.mod_lt _ (by decide)
  have hB : b % 4294967296 < 4294967296 := Nat.mod_lt _ (by decide)
  have l1 : m1 < 2147483648 := by omega
  have l2 : m2 < 2147483648 := by omega
  have RSa := fun w => sread_n a w ha m1 g1 e1 f1
  have RSb := fun w => sread_n b w hb m2 g2 e2 f2
  have KLa := fun w => low_n (a : Int) w
  have KLb := fun w => low_n (b : Int) w
  rw [low_n_m a ha] at KLa
  rw [low_n_m b hb] at KLb
  have KF : ∀ w, Tab0 w → 0 < w.heap.size → Hid (Calls Tryd.prog 32 #[.int .i64 148] w fun e w' => e = .returned (.tuple #[.int .i64 148, FVn]) ∧ Below w.heap.size w w') := fun w hT hz => fold_nb 148 w (by decide) (by decide) hT hz
  have KW1 : ∀ w, Hid (Calls Tryd.prog 22 #[.int .i64 148, .int .i64 91, .int .i64 97, .int .i64 6] w fun e w' => e = .returned (.tuple #[FSn, .int .i64 (-1)]) ∧ Below w.heap.size w w') := fun w => wht_c 148 w (by decide) (by decide) (by decide)
  have KW2 : ∀ w, Hid (Calls Tryd.prog 22 #[.int .i64 148, .int .i64 146, .int .i64 160, .int .i64 7] w fun e w' => e = .returned (.tuple #[FSn, .int .i64 2]) ∧ Below w.heap.size w w') := fun w => whb_n 148 w (by decide) (by decide) (by decide) (by decide)
  have RIa := fun w => iread_n (a % 4294967296) w (by omega) m1 g1 (by rw [Nat.mod_mod]; exact e1) (by rw [Nat.mod_mod]; exact f1)
  have RIb := fun w => iread_n (b % 4294967296) w (by omega) m2 g2 (by rw [Nat.mod_mod]; exact e2) (by rw [Nat.mod_mod]; exact f2)
  have ga : m1 ≤ 2139095040 → (if 2139095040 < m1 then false else g1) = g1 := fun h => if_neg (by omega)
  have gb : m2 ≤ 2139095040 → (if 2139095040 < m2 then false else g2) = g2 := fun h => if_neg (by omega)
  obtain ⟨k3, g3, x3, l3, h3, R, H1, H2, H3, hR⟩ := timesE_n m1 m2 g1 g2 _ _ l1 l2 ga gb
  subst hR
  exact ⟨fun w hT hz => if2_148 _ _ _ _ _ _ _ _ _ _ _ _ _ _ _ _ _ _ _ _ _ _ _ _ _ w hT hz KF KLa KLb RIa RIb H1 H2, fun w => sf2_2 _ _ _ _ _ _ _ _ _ _ _ _ _ _ _ w KW1 KW2 RSa RSb H3⟩
theorem v_147 (a b m1 m2 : Nat) (g1 g2 : Bool) (ha : a < 18446744073709551616) (hb : b < 18446744073709551616) (e1 : m1 = a % 4294967296 % 2147483648) (e2 : m2 = b % 4294967296 % 2147483648) (f1 : g1 = decide (2147483648 ≤ a % 4294967296)) (f2 : g2 = decide (2147483648 ≤ b % 4294967296)) : IF2 147 a b (plusV_n m1 g1 m2 (!g2)) := by
  have hA : a % 4294967296 < 4294967296 := Nat.mod_lt _ (by decide)
  have hB : b % 4294967296 < 4294967296 := Nat.mod_lt _ (by decide)
  have l1 : m1 < 2147483648 := by omega
  have l2 : m2 < 2147483648 := by omega
  have RSa := fun w => sread_n a w ha m1 g1 e1 f1
  have RSb := fun w => sread_n b w hb m2 g2 e2 f2
  have KLa := fun w => low_n (a : Int) w
  have KLb := fun w => low_n (b : Int) w
  rw [low_n_m a ha] at KLa
  rw [low_n_m b hb] at KLb
  have KF : ∀ w, Tab0 w → 0 < w.heap.size → Hid (Calls Tryd.prog 32 #[.int .i64 147] w fun e w' => e = .returned (.tuple #[.int .i64 147, FVn]) ∧ Below w.heap.size w w') := fun w hT hz => fold_nb 147 w (by decide) (by decide) hT hz
  have RIa := fun w => iread_n (a % 4294967296) w (by omega) m1 g1 (by rw [Nat.mod_mod]; exact e1) (by rw [Nat.mod_mod]; exact f1)
  have RIb := fun w => iread_n (b % 4294967296) w (by omega) m2 g2 (by rw [Nat.mod_mod]; exact e2) (by rw [Nat.mod_mod]; exact f2)
  have ga : m1 ≤ 2139095040 → (if 2139095040 < m1 then false else g1) = g1 := fun h => if_neg (by omega)
  have gb : m2 ≤ 2139095040 → (if 2139095040 < m2 then false else g2) = g2 := fun h => if_neg (by omega)
  by_cases n2 : 2139095040 < m2
  · obtain ⟨k3, g3, x3, l3, h3, R, H1, H2, H3, hR⟩ := plusE_n m1 m2 g1 (!g2) _ (!(if 2139095040 < m2 then false else g2)) l1 l2 ga (fun h => absurd n2 (by omega))
    subst hR
    exact fun w hT hz => if2_147 _ _ _ _ _ _ _ _ _ _ _ _ _ _ _ _ _ _ _ _ _ _ _ _ _ w hT hz KF KLa KLb RIa RIb H1 H2
  · obtain ⟨k3, g3, x3, l3, h3, R, H1, H2, H3, hR⟩ := plusE_n m1 m2 g1 (!g2) _ (!(if 2139095040 < m2 then false else g2)) l1 l2 ga (fun h => by rw [gb h])
    subst hR
    exact fun w hT hz => if2_147 _ _ _ _ _ _ _ _ _ _ _ _ _ _ _ _ _ _ _ _ _ _ _ _ _ w hT hz KF KLa KLb RIa RIb H1 H2
theorem v_95 (a b m1 m2 : Nat) (g1 g2 : Bool) (ha : a < 18446744073709551616) (hb : b < 18446744073709551616) (e1 : m1 = a % 4294967296 % 2147483648) (e2 : m2 = b % 4294967296 % 2147483648) (f1 : g1 = decide (2147483648 ≤ a % 4294967296)) (f2 : g2 = decide (2147483648 ≤ b % 4294967296)) (n1 : ¬ 2139095040 < m1) (n2 : ¬ 2139095040 < m2) : IF2 95 a b (if decide (oI g1 m1 ≤ oI g2 m2) then 1 else 0) := by
  have hA : a % 4294967296 < 4294967296 := Nat.mod_lt _ (by decide)
  have hB : b % 4294967296 < 4294967296 := Nat.mod_lt _ (by decide)
  have l1 : m1 < 2147483648 := by omega
  have l2 : m2 < 2147483648 := by omega
  have RSa := fun w => sread_n a w ha m1 g1 e1 f1
  have RSb := fun w => sread_n b w hb m2 g2 e2 f2
  have KLa := fun w => low_n (a : Int) w
  have KLb := fun w => low_n (b : Int) w
  rw [low_n_m a ha] at KLa
  rw [low_n_m b hb] at KLb
  have KF : ∀ w, Tab0 w → 0 < w.heap.size → Hid (Calls Tryd.prog 32 #[.int .i64 95] w fun e w' => e = .returned (.tuple #[.int .i64 95, FVn]) ∧ Below w.heap.size w w') := fun w hT hz => fold_na 95 w (by decide) hT hz
  have KNa := fun w => inan_n (a % 4294967296) m1 w hA e1
  have KNb := fun w => inan_n (b % 4294967296) m2 w hB e2
  rw [decide_eq_false n1] at KNa
  rw [decide_eq_false n2] at KNb
  have KOa := fun w => iorder_n (a % 4294967296) m1 g1 w hA e1 f1
  have KOb := fun w => iorder_n (b % 4294967296) m2 g2 w hB e2 f2
  exact fun w hT hz => if2_95 _ _ _ _ _ _ _ _ _ _ _ w hT hz KF KLa KLb (fun w => holds_95 _ _ _ _ _ _ _ _ w KNa KNb KOa KOb) (fun w => flag_any _ w)
theorem v_96 (a b m1 m2 : Nat) (g1 g2 : Bool) (ha : a < 18446744073709551616) (hb : b < 18446744073709551616) (e1 : m1 = a % 4294967296 % 2147483648) (e2 : m2 = b % 4294967296 % 2147483648) (f1 : g1 = decide (2147483648 ≤ a % 4294967296)) (f2 : g2 = decide (2147483648 ≤ b % 4294967296)) (n1 : ¬ 2139095040 < m1) (n2 : ¬ 2139095040 < m2) : IF2 96 a b (if decide (oI g2 m2 ≤ oI g1 m1) then 1 else 0) := by
  have hA : a % 4294967296 < 4294967296 := Nat.mod_lt _ (by decide)
  have hB : b % 4294967296 < 4294967296 := Nat.mod_lt _ (by decide)
  have l1 : m1 < 2147483648 := by omega
  have l2 : m2 < 2147483648 := by omega
  have RSa := fun w => sread_n a w ha m1 g1 e1 f1
  have RSb := fun w => sread_n b w hb m2 g2 e2 f2
  have KLa := fun w => low_n (a : Int) w
  have KLb := fun w => low_n (b : Int) w
  rw [low_n_m a ha] at KLa
  rw [low_n_m b hb] at KLb
  have KF : ∀ w, Tab0 w → 0 < w.heap.size → Hid (Calls Tryd.prog 32 #[.int .i64 96] w fun e w' => e = .returned (.tuple #[.int .i64 96, FVn]) ∧ Below w.heap.size w w') := fun w hT hz => fold_na 96 w (by decide) hT hz
  have KNa := fun w => inan_n (a % 4294967296) m1 w hA e1
  have KNb := fun w => inan_n (b % 4294967296) m2 w hB e2
  rw [decide_eq_false n1] at KNa
  rw [decide_eq_false n2] at KNb
  have KOa := fun w => iorder_n (a % 4294967296) m1 g1 w hA e1 f1
  have KOb := fun w => iorder_n (b % 4294967296) m2 g2 w hB e2 f2
  exact fun w hT hz => if2_96 _ _ _ _ _ _ _ _ _ _ _ w hT hz KF KLa KLb (fun w => holds_96 _ _ _ _ _ _ _ _ w KNa KNb KOa KOb) (fun w => flag_any _ w)
theorem v_150 (a b m1 m2 : Nat) (g1 g2 : Bool) (ha : a < 18446744073709551616) (hb : b < 18446744073709551616) (e1 : m1 = a % 4294967296 % 2147483648) (e2 : m2 = b % 4294967296 % 2147483648) (f1 : g1 = decide (2147483648 ≤ a % 4294967296)) (f2 : g2 = decide (2147483648 ≤ b % 4294967296)) (n1 : ¬ 2139095040 < m1) (n2 : ¬ 2139095040 < m2) : ∃ c : Nat, IF2 150 a b (c : Int) ∧ (c = a % 4294967296 ∨ c = b % 4294967296) ∧ oI (decide (2147483648 ≤ c)) (c % 2147483648) ≤ oI g1 m1 ∧ oI (decide (2147483648 ≤ c)) (c % 2147483648) ≤ oI g2 m2 := by
  have hA : a % 4294967296 < 4294967296 := Nat.mod_lt _ (by decide)
  have hB : b % 4294967296 < 4294967296 := Nat.mod_lt _ (by decide)
  have l1 : m1 < 2147483648 := by omega
  have l2 : m2 < 2147483648 := by omega
  have RSa := fun w => sread_n a w ha m1 g1 e1 f1
  have RSb := fun w => sread_n b w hb m2 g2 e2 f2
  have KLa := fun w => low_n (a : Int) w
  have KLb := fun w => low_n (b : Int) w
  rw [low_n_m a ha] at KLa
  rw [low_n_m b hb] at KLb
  have KF : ∀ w, Tab0 w → 0 < w.heap.size → Hid (Calls Tryd.prog 32 #[.int .i64 150] w fun e w' => e = .returned (.tuple #[.int .i64 150, FVn]) ∧ Below w.heap.size w w') := fun w hT hz => fold_nb 150 w (by decide) (by decide) hT hz
  have KNa := fun w => inan_n (a % 4294967296) m1 w hA e1
  have KNb := fun w => inan_n (b % 4294967296) m2 w hB e2
  rw [decide_eq_false n1] at KNa
  rw [decide_eq_false n2] at KNb
  have KOa := fun w => iorder_n (a % 4294967296) m1 g1 w hA e1 f1
  have KOb := fun w => iorder_n (b % 4294967296) m2 g2 w hB e2 f2
  have cA : oI (decide (2147483648 ≤ a % 4294967296)) (a % 4294967296 % 2147483648) = oI g1 m1 := by rw [← e1, ← f1]
  have cB : oI (decide (2147483648 ≤ b % 4294967296)) (b % 4294967296 % 2147483648) = oI g2 m2 := by rw [← e2, ← f2]
  by_cases hxy : oI g1 m1 = oI g2 m2
  · have hor : ∃ c : Nat, bits .or .u64 ((a % 4294967296 : Nat) : Int) ((b % 4294967296 : Nat) : Int) = (c : Int) ∧ (c = a % 4294967296 ∨ c = b % 4294967296) := by
      have hn := bits_or_u64_nat (a % 4294967296) (b % 4294967296) (by omega) (by omega)
      refine ⟨_, hn, ?_⟩
      have cases2 : (g1 = g2 ∧ m1 = m2) ∨ (g1 ≠ g2 ∧ m1 = 0 ∧ m2 = 0) := by
        unfold oI at hxy
        cases g1 <;> cases g2 <;> simp at hxy ⊢ <;> omega
      have sA : a % 4294967296 = m1 + (if g1 then 2147483648 else 0) := by
        rw [f1]
        by_cases h : 2147483648 ≤ a % 4294967296
        · rw [decide_eq_true h, if_pos rfl]; omega
        · rw [decide_eq_false h, if_neg (by decide)]; omega
      have sB : b % 4294967296 = m2 + (if g2 then 2147483648 else 0) := by
        rw [f2]
        by_cases h : 2147483648 ≤ b % 4294967296
        · rw [decide_eq_true h, if_pos rfl]; omega
        · rw [decide_eq_false h, if_neg (by decide)]; omega
      rcases cases2 with ⟨c1, c2⟩ | ⟨c1, c2, c3⟩
      · have : a % 4294967296 = b % 4294967296 := by rw [sA, sB, c1, c2]
        rw [this]; left; simp
      · rw [sA, sB, c2, c3]
        cases g1 <;> cases g2
        · exact absurd rfl c1
        · decide
        · decide
        · exact absurd rfl c1
    obtain ⟨c, hc, hcc⟩ := hor
    refine ⟨c, fun w hT hz => if2_150 _ _ _ _ _ _ _ _ _ _ w hT hz KF KLa KLb (fun w => ?_), hcc, ?_⟩
    · have h := pick_et _ _ _ _ _ _ _ _ w KNa KNb KOa KOb (by simpa using hxy)
      rw [hc] at h
      exact h
    · rcases hcc with rfl | rfl
      · rw [cA]; omega
      · rw [cB]; omega
  · by_cases hl : oI g1 m1 < oI g2 m2
    · refine ⟨_, fun w hT hz => if2_150 _ _ _ _ _ _ _ _ _ _ w hT hz KF KLa KLb (fun w => pick_a _ _ _ _ true _ _ _ _ w KNa KNb KOa KOb (by simpa using hxy) (by rw [decide_eq_true hl]; rfl)), .inl rfl, ?_⟩
      rw [cA]; omega
    · refine ⟨_, fun w hT hz => if2_150 _ _ _ _ _ _ _ _ _ _ w hT hz KF KLa KLb (fun w => pick_b _ _ _ _ true _ _ _ _ w KNa KNb KOa KOb (by simpa using hxy) (by rw [decide_eq_false hl]; rfl)), .inr rfl, ?_⟩
      rw [cB]; omega
theorem v_151 (a b m1 m2 : Nat) (g1 g2 : Bool) (ha : a < 18446744073709551616) (hb : b < 18446744073709551616) (e1 : m1 = a % 4294967296 % 2147483648) (e2 : m2 = b % 4294967296 % 2147483648) (f1 : g1 = decide (2147483648 ≤ a % 4294967296)) (f2 : g2 = decide (2147483648 ≤ b % 4294967296)) (n1 : ¬ 2139095040 < m1) (n2 : ¬ 2139095040 < m2) : ∃ c : Nat, IF2 151 a b (c : Int) ∧ (c = a % 4294967296 ∨ c = b % 4294967296) ∧ oI g1 m1 ≤ oI (decide (2147483648 ≤ c)) (c % 2147483648) ∧ oI g2 m2 ≤ oI (decide (2147483648 ≤ c)) (c % 2147483648) := by
  have hA : a % 4294967296 < 4294967296 := Nat.mod_lt _ (by decide)
  have hB : b % 4294967296 < 4294967296 := Nat.mod_lt _ (by decide)
  have l1 : m1 < 2147483648 := by omega
  have l2 : m2 < 2147483648 := by omega
  have RSa := fun w => sread_n a w ha m1 g1 e1 f1
  have RSb := fun w => sread_n b w hb m2 g2 e2 f2
  have KLa := fun w => low_n (a : Int) w
  have KLb := fun w => low_n (b : Int) w
  rw [low_n_m a ha] at KLa
  rw [low_n_m b hb] at KLb
  have KF : ∀ w, Tab0 w → 0 < w.heap.size → Hid (Calls Tryd.prog 32 #[.int .i64 151] w fun e w' => e = .returned (.tuple #[.int .i64 151, FVn]) ∧ Below w.heap.size w w') := fun w hT hz => fold_nb 151 w (by decide) (by decide) hT hz
  have KNa := fun w => inan_n (a % 4294967296) m1 w hA e1
  have KNb := fun w => inan_n (b % 4294967296) m2 w hB e2
  rw [decide_eq_false n1] at KNa
  rw [decide_eq_false n2] at KNb
  have KOa := fun w => iorder_n (a % 4294967296) m1 g1 w hA e1 f1
  have KOb := fun w => iorder_n (b % 4294967296) m2 g2 w hB e2 f2
  have cA : oI (decide (2147483648 ≤ a % 4294967296)) (a % 4294967296 % 2147483648) = oI g1 m1 := by rw [← e1, ← f1]
  have cB : oI (decide (2147483648 ≤ b % 4294967296)) (b % 4294967296 % 2147483648) = oI g2 m2 := by rw [← e2, ← f2]
  by_cases hxy : oI g1 m1 = oI g2 m2
  · have hor : ∃ c : Nat, bits .and .u64 ((a % 4294967296 : Nat) : Int) ((b % 4294967296 : Nat) : Int) = (c : Int) ∧ (c = a % 4294967296 ∨ c = b % 4294967296) := by
      have hn := bits_and_u64_nat (a % 4294967296) (b % 4294967296) (by omega) (by omega)
      refine ⟨_, hn, ?_⟩
      have cases2 : (g1 = g2 ∧ m1 = m2) ∨ (g1 ≠ g2 ∧ m1 = 0 ∧ m2 = 0) := by
        unfold oI at hxy
        cases g1 <;> cases g2 <;> simp at hxy ⊢ <;> omega
      have sA : a % 4294967296 = m1 + (if g1 then 2147483648 else 0) := by
        rw [f1]
        by_cases h : 2147483648 ≤ a % 4294967296
        · rw [decide_eq_true h, if_pos rfl]; omega
        · rw [decide_eq_false h, if_neg (by decide)]; omega
      have sB : b % 4294967296 = m2 + (if g2 then 2147483648 else 0) := by
        rw [f2]
        by_cases h : 2147483648 ≤ b % 4294967296
        · rw [decide_eq_true h, if_pos rfl]; omega
        · rw [decide_eq_false h, if_neg (by decide)]; omega
      rcases cases2 with ⟨c1, c2⟩ | ⟨c1, c2, c3⟩
      · have : a % 4294967296 = b % 4294967296 := by rw [sA, sB, c1, c2]
        rw [this]; left; simp
      · rw [sA, sB, c2, c3]
        cases g1 <;> cases g2
        · exact absurd rfl c1
        · decide
        · decide
        · exact absurd rfl c1
    obtain ⟨c, hc, hcc⟩ := hor
    refine ⟨c, fun w hT hz => if2_151 _ _ _ _ _ _ _ _ _ _ w hT hz KF KLa KLb (fun w => ?_), hcc, ?_⟩
    · have h := pick_ef _ _ _ _ _ _ _ _ w KNa KNb KOa KOb (by simpa using hxy)
      rw [hc] at h
      exact h
    · rcases hcc with rfl | rfl
      · rw [cA]; omega
      · rw [cB]; omega
  · by_cases hl : oI g1 m1 < oI g2 m2
    · refine ⟨_, fun w hT hz => if2_151 _ _ _ _ _ _ _ _ _ _ w hT hz KF KLa KLb (fun w => pick_b _ _ _ _ false _ _ _ _ w KNa KNb KOa KOb (by simpa using hxy) (by rw [decide_eq_true hl]; rfl)), .inr rfl, ?_⟩
      rw [cB]; omega
    · refine ⟨_, fun w hT hz => if2_151 _ _ _ _ _ _ _ _ _ _ w hT hz KF KLa KLb (fun w => pick_a _ _ _ _ false _ _ _ _ w KNa KNb KOa KOb (by simpa using hxy) (by rw [decide_eq_false hl]; rfl)), .inl rfl, ?_⟩
      rw [cA]; omega
theorem v_160 (a b m1 m2 : Nat) (g1 g2 : Bool) (ha : a < 18446744073709551616) (hb : b < 18446744073709551616) (e1 : m1 = a % 18446744073709551616 % 9223372036854775808) (e2 : m2 = b % 18446744073709551616 % 9223372036854775808) (f1 : g1 = decide (9223372036854775808 ≤ a % 18446744073709551616)) (f2 : g2 = decide (9223372036854775808 ≤ b % 18446744073709551616)) : IF2 160 a b (plusV_w m1 g1 m2 g2) ∧ SF2 160 a b (plusV_w m1 g1 m2 g2) := by
  have hA : a % 18446744073709551616 < 18446744073709551616 := Nat.mod_lt _ (by decide)
  have hB : b % 18446744073709551616 < 18446744073709551616 := Nat.mod_lt _ (by decide)
  have l1 : m1 < 9223372036854775808 := by omega
  have l2 : m2 < 9223372036854775808 := by omega
  have RSa := fun w => sread_w a w ha m1 g1 e1 f1
  have RSb := fun w => sread_w b w hb m2 g2 e2 f2
  have KLa := fun w => low_w (a : Int) w
  have KLb := fun w => low_w (b : Int) w
  rw [low_w_m a ha] at KLa
  rw [low_w_m b hb] at KLb
  have KF : ∀ w, Tab0 w → 0 < w.heap.size → Hid (Calls Tryd.prog 32 #[.int .i64 160] w fun e w' => e = .returned (.tuple #[.int .i64 146, FVw]) ∧ Below w.heap.size w w') := fun w hT hz => fold_wide 160 w (by decide) (by decide) hT hz
  have KW1 : ∀ w, Hid (Calls Tryd.prog 22 #[.int .i64 160, .int .i64 91, .int .i64 97, .int .i64 6] w fun e w' => e = .returned (.tuple #[FSn, .int .i64 (-1)]) ∧ Below w.heap.size w w') := fun w => wht_c 160 w (by decide) (by decide) (by decide)
  have KW2 : ∀ w, Hid (Calls Tryd.prog 22 #[.int .i64 160, .int .i64 146, .int .i64 160, .int .i64 7] w fun e w' => e = .returned (.tuple #[FSw, .int .i64 0]) ∧ Below w.heap.size w w') := fun w => whb_w 160 w (by decide) (by decide) (by decide) (by decide)
  have RIa := fun w => iread_w (a % 18446744073709551616) w (by omega) m1 g1 (by rw [Nat.mod_mod]; exact e1) (by rw [Nat.mod_mod]; exact f1)
  have RIb := fun w => iread_w (b % 18446744073709551616) w (by omega) m2 g2 (by rw [Nat.mod_mod]; exact e2) (by rw [Nat.mod_mod]; exact f2)
  have ga : m1 ≤ 9218868437227405312 → (if 9218868437227405312 < m1 then false else g1) = g1 := fun h => if_neg (by omega)
  have gb : m2 ≤ 9218868437227405312 → (if 9218868437227405312 < m2 then false else g2) = g2 := fun h => if_neg (by omega)
  obtain ⟨k3, g3, x3, l3, h3, R, H1, H2, H3, hR⟩ := plusE_w m1 m2 g1 g2 _ _ l1 l2 ga gb
  subst hR
  exact ⟨fun w hT hz => if2_146 _ _ _ _ _ _ _ _ _ _ _ _ _ _ _ _ _ _ _ _ _ _ _ _ _ w hT hz KF KLa KLb RIa RIb H1 H2, fun w => sf2_0 _ _ _ _ _ _ _ _ _ _ _ _ _ _ _ w KW1 KW2 RSa RSb H3⟩
theorem v_162 (a b m1 m2 : Nat) (g1 g2 : Bool) (ha : a < 18446744073709551616) (hb : b < 18446744073709551616) (e1 : m1 = a % 18446744073709551616 % 9223372036854775808) (e2 : m2 = b % 18446744073709551616 % 9223372036854775808) (f1 : g1 = decide (9223372036854775808 ≤ a % 18446744073709551616)) (f2 : g2 = decide (9223372036854775808 ≤ b % 18446744073709551616)) : IF2 162 a b (timesV_w m1 g1 m2 g2) ∧ SF2 162 a b (timesV_w m1 g1 m2 g2) := by
  have hA : a % 18446744073709551616 < 18446744073709551616 := Nat.mod_lt _ (by decide)
  have hB : b % 18446744073709551616 < 18446744073709551616 := Nat.mod_lt _ (by decide)
  have l1 : m1 < 9223372036854775808 := by omega
  have l2 : m2 < 9223372036854775808 := by omega
  have RSa := fun w => sread_w a w ha m1 g1 e1 f1
  have RSb := fun w => sread_w b w hb m2 g2 e2 f2
  have KLa := fun w => low_w (a : Int) w
  have KLb := fun w => low_w (b : Int) w
  rw [low_w_m a ha] at KLa
  rw [low_w_m b hb] at KLb
  have KF : ∀ w, Tab0 w → 0 < w.heap.size → Hid (Calls Tryd.prog 32 #[.int .i64 162] w fun e w' => e = .returned (.tuple #[.int .i64 148, FVw]) ∧ Below w.heap.size w w') := fun w hT hz => fold_wide 162 w (by decide) (by decide) hT hz
  have KW1 : ∀ w, Hid (Calls Tryd.prog 22 #[.int .i64 162, .int .i64 91, .int .i64 97, .int .i64 6] w fun e w' => e = .returned (.tuple #[FSn, .int .i64 (-1)]) ∧ Below w.heap.size w w') := fun w => wht_c 162 w (by decide) (by decide) (by decide)
  have KW2 : ∀ w, Hid (Calls Tryd.prog 22 #[.int .i64 162, .int .i64 146, .int .i64 160, .int .i64 7] w fun e w' => e = .returned (.tuple #[FSw, .int .i64 2]) ∧ Below w.heap.size w w') := fun w => whb_w 162 w (by decide) (by decide) (by decide) (by decide)
  have RIa := fun w => iread_w (a % 18446744073709551616) w (by omega) m1 g1 (by rw [Nat.mod_mod]; exact e1) (by rw [Nat.mod_mod]; exact f1)
  have RIb := fun w => iread_w (b % 18446744073709551616) w (by omega) m2 g2 (by rw [Nat.mod_mod]; exact e2) (by rw [Nat.mod_mod]; exact f2)
  have ga : m1 ≤ 9218868437227405312 → (if 9218868437227405312 < m1 then false else g1) = g1 := fun h => if_neg (by omega)
  have gb : m2 ≤ 9218868437227405312 → (if 9218868437227405312 < m2 then false else g2) = g2 := fun h => if_neg (by omega)
  obtain ⟨k3, g3, x3, l3, h3, R, H1, H2, H3, hR⟩ := timesE_w m1 m2 g1 g2 _ _ l1 l2 ga gb
  subst hR
  exact ⟨fun w hT hz => if2_148 _ _ _ _ _ _ _ _ _ _ _ _ _ _ _ _ _ _ _ _ _ _ _ _ _ w hT hz KF KLa KLb RIa RIb H1 H2, fun w => sf2_2 _ _ _ _ _ _ _ _ _ _ _ _ _ _ _ w KW1 KW2 RSa RSb H3⟩
theorem v_161 (a b m1 m2 : Nat) (g1 g2 : Bool) (ha : a < 18446744073709551616) (hb : b < 18446744073709551616) (e1 : m1 = a % 18446744073709551616 % 9223372036854775808) (e2 : m2 = b % 18446744073709551616 % 9223372036854775808) (f1 : g1 = decide (9223372036854775808 ≤ a % 18446744073709551616)) (f2 : g2 = decide (9223372036854775808 ≤ b % 18446744073709551616)) : IF2 161 a b (plusV_w m1 g1 m2 (!g2)) := by
  have hA : a % 18446744073709551616 < 18446744073709551616 := Nat.mod_lt _ (by decide)
  have hB : b % 18446744073709551616 < 18446744073709551616 := Nat.mod_lt _ (by decide)
  have l1 : m1 < 9223372036854775808 := by omega
  have l2 : m2 < 9223372036854775808 := by omega
  have RSa := fun w => sread_w a w ha m1 g1 e1 f1
  have RSb := fun w => sread_w b w hb m2 g2 e2 f2
  have KLa := fun w => low_w (a : Int) w
  have KLb := fun w => low_w (b : Int) w
  rw [low_w_m a ha] at KLa
  rw [low_w_m b hb] at KLb
  have KF : ∀ w, Tab0 w → 0 < w.heap.size → Hid (Calls Tryd.prog 32 #[.int .i64 161] w fun e w' => e = .returned (.tuple #[.int .i64 147, FVw]) ∧ Below w.heap.size w w') := fun w hT hz => fold_wide 161 w (by decide) (by decide) hT hz
  have RIa := fun w => iread_w (a % 18446744073709551616) w (by omega) m1 g1 (by rw [Nat.mod_mod]; exact e1) (by rw [Nat.mod_mod]; exact f1)
  have RIb := fun w => iread_w (b % 18446744073709551616) w (by omega) m2 g2 (by rw [Nat.mod_mod]; exact e2) (by rw [Nat.mod_mod]; exact f2)
  have ga : m1 ≤ 9218868437227405312 → (if 9218868437227405312 < m1 then false else g1) = g1 := fun h => if_neg (by omega)
  have gb : m2 ≤ 9218868437227405312 → (if 9218868437227405312 < m2 then false else g2) = g2 := fun h => if_neg (by omega)
  by_cases n2 : 9218868437227405312 < m2
  · obtain ⟨k3, g3, x3, l3, h3, R, H1, H2, H3, hR⟩ := plusE_w m1 m2 g1 (!g2) _ (!(if 9218868437227405312 < m2 then false else g2)) l1 l2 ga (fun h => absurd n2 (by omega))
    subst hR
    exact fun w hT hz => if2_147 _ _ _ _ _ _ _ _ _ _ _ _ _ _ _ _ _ _ _ _ _ _ _ _ _ w hT hz KF KLa KLb RIa RIb H1 H2
  · obtain ⟨k3, g3, x3, l3, h3, R, H1, H2, H3, hR⟩ := plusE_w m1 m2 g1 (!g2) _ (!(if 9218868437227405312 < m2 then false else g2)) l1 l2 ga (fun h => by rw [gb h])
    subst hR
    exact fun w hT hz => if2_147 _ _ _ _ _ _ _ _ _ _ _ _ _ _ _ _ _ _ _ _ _ _ _ _ _ w hT hz KF KLa KLb RIa RIb H1 H2
theorem v_101 (a b m1 m2 : Nat) (g1 g2 : Bool) (ha : a < 18446744073709551616) (hb : b < 18446744073709551616) (e1 : m1 = a % 18446744073709551616 % 9223372036854775808) (e2 : m2 = b % 18446744073709551616 % 9223372036854775808) (f1 : g1 = decide (9223372036854775808 ≤ a % 18446744073709551616)) (f2 : g2 = decide (9223372036854775808 ≤ b % 18446744073709551616)) (n1 : ¬ 9218868437227405312 < m1) (n2 : ¬ 9218868437227405312 < m2) : IF2 101 a b (if decide (oI g1 m1 ≤ oI g2 m2) then 1 else 0) := by
  have hA : a % 18446744073709551616 < 18446744073709551616 := Nat.mod_lt _ (by decide)
  have hB : b % 18446744073709551616 < 18446744073709551616 := Nat.mod_lt _ (by decide)
  have l1 : m1 < 9223372036854775808 := by omega
  have l2 : m2 < 9223372036854775808 := by omega
  have RSa := fun w => sread_w a w ha m1 g1 e1 f1
  have RSb := fun w => sread_w b w hb m2 g2 e2 f2
  have KLa := fun w => low_w (a : Int) w
  have KLb := fun w => low_w (b : Int) w
  rw [low_w_m a ha] at KLa
  rw [low_w_m b hb] at KLb
  have KF : ∀ w, Tab0 w → 0 < w.heap.size → Hid (Calls Tryd.prog 32 #[.int .i64 101] w fun e w' => e = .returned (.tuple #[.int .i64 95, FVw]) ∧ Below w.heap.size w w') := fun w hT hz => fold_test 101 w (by decide) (by decide) hT hz
  have KNa := fun w => inan_w (a % 18446744073709551616) m1 w hA e1
  have KNb := fun w => inan_w (b % 18446744073709551616) m2 w hB e2
  rw [decide_eq_false n1] at KNa
  rw [decide_eq_false n2] at KNb
  have KOa := fun w => iorder_w (a % 18446744073709551616) m1 g1 w hA e1 f1
  have KOb := fun w => iorder_w (b % 18446744073709551616) m2 g2 w hB e2 f2
  exact fun w hT hz => if2_95 _ _ _ _ _ _ _ _ _ _ _ w hT hz KF KLa KLb (fun w => holds_95 _ _ _ _ _ _ _ _ w KNa KNb KOa KOb) (fun w => flag_any _ w)
theorem v_102 (a b m1 m2 : Nat) (g1 g2 : Bool) (ha : a < 18446744073709551616) (hb : b < 18446744073709551616) (e1 : m1 = a % 18446744073709551616 % 9223372036854775808) (e2 : m2 = b % 18446744073709551616 % 9223372036854775808) (f1 : g1 = decide (9223372036854775808 ≤ a % 18446744073709551616)) (f2 : g2 = decide (9223372036854775808 ≤ b % 18446744073709551616)) (n1 : ¬ 9218868437227405312 < m1) (n2 : ¬ 9218868437227405312 < m2) : IF2 102 a b (if decide (oI g2 m2 ≤ oI g1 m1) then 1 else 0) := by
  have hA : a % 18446744073709551616 < 18446744073709551616 := Nat.mod_lt _ (by decide)
  have hB : b % 18446744073709551616 < 18446744073709551616 := Nat.mod_lt _ (by decide)
  have l1 : m1 < 9223372036854775808 := by omega
  have l2 : m2 < 9223372036854775808 := by omega
  have RSa := fun w => sread_w a w ha m1 g1 e1 f1
  have RSb := fun w => sread_w b w hb m2 g2 e2 f2
  have KLa := fun w => low_w (a : Int) w
  have KLb := fun w => low_w (b : Int) w
  rw [low_w_m a ha] at KLa
  rw [low_w_m b hb] at KLb
  have KF : ∀ w, Tab0 w → 0 < w.heap.size → Hid (Calls Tryd.prog 32 #[.int .i64 102] w fun e w' => e = .returned (.tuple #[.int .i64 96, FVw]) ∧ Below w.heap.size w w') := fun w hT hz => fold_test 102 w (by decide) (by decide) hT hz
  have KNa := fun w => inan_w (a % 18446744073709551616) m1 w hA e1
  have KNb := fun w => inan_w (b % 18446744073709551616) m2 w hB e2
  rw [decide_eq_false n1] at KNa
  rw [decide_eq_false n2] at KNb
  have KOa := fun w => iorder_w (a % 18446744073709551616) m1 g1 w hA e1 f1
  have KOb := fun w => iorder_w (b % 18446744073709551616) m2 g2 w hB e2 f2
  exact fun w hT hz => if2_96 _ _ _ _ _ _ _ _ _ _ _ w hT hz KF KLa KLb (fun w => holds_96 _ _ _ _ _ _ _ _ w KNa KNb KOa KOb) (fun w => flag_any _ w)
theorem v_164 (a b m1 m2 : Nat) (g1 g2 : Bool) (ha : a < 18446744073709551616) (hb : b < 18446744073709551616) (e1 : m1 = a % 18446744073709551616 % 9223372036854775808) (e2 : m2 = b % 18446744073709551616 % 9223372036854775808) (f1 : g1 = decide (9223372036854775808 ≤ a % 18446744073709551616)) (f2 : g2 = decide (9223372036854775808 ≤ b % 18446744073709551616)) (n1 : ¬ 9218868437227405312 < m1) (n2 : ¬ 9218868437227405312 < m2) : ∃ c : Nat, IF2 164 a b (c : Int) ∧ (c = a % 18446744073709551616 ∨ c = b % 18446744073709551616) ∧ oI (decide (9223372036854775808 ≤ c)) (c % 9223372036854775808) ≤ oI g1 m1 ∧ oI (decide (9223372036854775808 ≤ c)) (c % 9223372036854775808) ≤ oI g2 m2 := by
  have hA : a % 18446744073709551616 < 18446744073709551616 := Nat.mod_lt _ (by decide)
  have hB : b % 18446744073709551616 < 18446744073709551616 := Nat.mod_lt _ (by decide)
  have l1 : m1 < 9223372036854775808 := by omega
  have l2 : m2 < 9223372036854775808 := by omega
  have RSa := fun w => sread_w a w ha m1 g1 e1 f1
  have RSb := fun w => sread_w b w hb m2 g2 e2 f2
  have KLa := fun w => low_w (a : Int) w
  have KLb := fun w => low_w (b : Int) w
  rw [low_w_m a ha] at KLa
  rw [low_w_m b hb] at KLb
  have KF : ∀ w, Tab0 w → 0 < w.heap.size → Hid (Calls Tryd.prog 32 #[.int .i64 164] w fun e w' => e = .returned (.tuple #[.int .i64 150, FVw]) ∧ Below w.heap.size w w') := fun w hT hz => fold_wide 164 w (by decide) (by decide) hT hz
  have KNa := fun w => inan_w (a % 18446744073709551616) m1 w hA e1
  have KNb := fun w => inan_w (b % 18446744073709551616) m2 w hB e2
  rw [decide_eq_false n1] at KNa
  rw [decide_eq_false n2] at KNb
  have KOa := fun w => iorder_w (a % 18446744073709551616) m1 g1 w hA e1 f1
  have KOb := fun w => iorder_w (b % 18446744073709551616) m2 g2 w hB e2 f2
  have cA : oI (decide (9223372036854775808 ≤ a % 18446744073709551616)) (a % 18446744073709551616 % 9223372036854775808) = oI g1 m1 := by rw [← e1, ← f1]
  have cB : oI (decide (9223372036854775808 ≤ b % 18446744073709551616)) (b % 18446744073709551616 % 9223372036854775808) = oI g2 m2 := by rw [← e2, ← f2]
  by_cases hxy : oI g1 m1 = oI g2 m2
  · have hor : ∃ c : Nat, bits .or .u64 ((a % 18446744073709551616 : Nat) : Int) ((b % 18446744073709551616 : Nat) : Int) = (c : Int) ∧ (c = a % 18446744073709551616 ∨ c = b % 18446744073709551616) := by
      have hn := bits_or_u64_nat (a % 18446744073709551616) (b % 18446744073709551616) (by omega) (by omega)
      refine ⟨_, hn, ?_⟩
      have cases2 : (g1 = g2 ∧ m1 = m2) ∨ (g1 ≠ g2 ∧ m1 = 0 ∧ m2 = 0) := by
        unfold oI at hxy
        cases g1 <;> cases g2 <;> simp at hxy ⊢ <;> omega
      have sA : a % 18446744073709551616 = m1 + (if g1 then 9223372036854775808 else 0) := by
        rw [f1]
        by_cases h : 9223372036854775808 ≤ a % 18446744073709551616
        · rw [decide_eq_true h, if_pos rfl]; omega
        · rw [decide_eq_false h, if_neg (by decide)]; omega
      have sB : b % 18446744073709551616 = m2 + (if g2 then 9223372036854775808 else 0) := by
        rw [f2]
        by_cases h : 9223372036854775808 ≤ b % 18446744073709551616
        · rw [decide_eq_true h, if_pos rfl]; omega
        · rw [decide_eq_false h, if_neg (by decide)]; omega
      rcases cases2 with ⟨c1, c2⟩ | ⟨c1, c2, c3⟩
      · have : a % 18446744073709551616 = b % 18446744073709551616 := by rw [sA, sB, c1, c2]
        rw [this]; left; simp
      · rw [sA, sB, c2, c3]
        cases g1 <;> cases g2
        · exact absurd rfl c1
        · decide
        · decide
        · exact absurd rfl c1
    obtain ⟨c, hc, hcc⟩ := hor
    refine ⟨c, fun w hT hz => if2_150 _ _ _ _ _ _ _ _ _ _ w hT hz KF KLa KLb (fun w => ?_), hcc, ?_⟩
    · have h := pick_et _ _ _ _ _ _ _ _ w KNa KNb KOa KOb (by simpa using hxy)
      rw [hc] at h
      exact h
    · rcases hcc with rfl | rfl
      · rw [cA]; omega
      · rw [cB]; omega
  · by_cases hl : oI g1 m1 < oI g2 m2
    · refine ⟨_, fun w hT hz => if2_150 _ _ _ _ _ _ _ _ _ _ w hT hz KF KLa KLb (fun w => pick_a _ _ _ _ true _ _ _ _ w KNa KNb KOa KOb (by simpa using hxy) (by rw [decide_eq_true hl]; rfl)), .inl rfl, ?_⟩
      rw [cA]; omega
    · refine ⟨_, fun w hT hz => if2_150 _ _ _ _ _ _ _ _ _ _ w hT hz KF KLa KLb (fun w => pick_b _ _ _ _ true _ _ _ _ w KNa KNb KOa KOb (by simpa using hxy) (by rw [decide_eq_false hl]; rfl)), .inr rfl, ?_⟩
      rw [cB]; omega
theorem v_165 (a b m1 m2 : Nat) (g1 g2 : Bool) (ha : a < 18446744073709551616) (hb : b < 18446744073709551616) (e1 : m1 = a % 18446744073709551616 % 9223372036854775808) (e2 : m2 = b % 18446744073709551616 % 9223372036854775808) (f1 : g1 = decide (9223372036854775808 ≤ a % 18446744073709551616)) (f2 : g2 = decide (9223372036854775808 ≤ b % 18446744073709551616)) (n1 : ¬ 9218868437227405312 < m1) (n2 : ¬ 9218868437227405312 < m2) : ∃ c : Nat, IF2 165 a b (c : Int) ∧ (c = a % 18446744073709551616 ∨ c = b % 18446744073709551616) ∧ oI g1 m1 ≤ oI (decide (9223372036854775808 ≤ c)) (c % 9223372036854775808) ∧ oI g2 m2 ≤ oI (decide (9223372036854775808 ≤ c)) (c % 9223372036854775808) := by
  have hA : a % 18446744073709551616 < 18446744073709551616 := Nat.mod_lt _ (by decide)
  have hB : b % 18446744073709551616 < 18446744073709551616 := Nat.mod_lt _ (by decide)
  have l1 : m1 < 9223372036854775808 := by omega
  have l2 : m2 < 9223372036854775808 := by omega
  have RSa := fun w => sread_w a w ha m1 g1 e1 f1
  have RSb := fun w => sread_w b w hb m2 g2 e2 f2
  have KLa := fun w => low_w (a : Int) w
  have KLb := fun w => low_w (b : Int) w
  rw [low_w_m a ha] at KLa
  rw [low_w_m b hb] at KLb
  have KF : ∀ w, Tab0 w → 0 < w.heap.size → Hid (Calls Tryd.prog 32 #[.int .i64 165] w fun e w' => e = .returned (.tuple #[.int .i64 151, FVw]) ∧ Below w.heap.size w w') := fun w hT hz => fold_wide 165 w (by decide) (by decide) hT hz
  have KNa := fun w => inan_w (a % 18446744073709551616) m1 w hA e1
  have KNb := fun w => inan_w (b % 18446744073709551616) m2 w hB e2
  rw [decide_eq_false n1] at KNa
  rw [decide_eq_false n2] at KNb
  have KOa := fun w => iorder_w (a % 18446744073709551616) m1 g1 w hA e1 f1
  have KOb := fun w => iorder_w (b % 18446744073709551616) m2 g2 w hB e2 f2
  have cA : oI (decide (9223372036854775808 ≤ a % 18446744073709551616)) (a % 18446744073709551616 % 9223372036854775808) = oI g1 m1 := by rw [← e1, ← f1]
  have cB : oI (decide (9223372036854775808 ≤ b % 18446744073709551616)) (b % 18446744073709551616 % 9223372036854775808) = oI g2 m2 := by rw [← e2, ← f2]
  by_cases hxy : oI g1 m1 = oI g2 m2
  · have hor : ∃ c : Nat, bits .and .u64 ((a % 18446744073709551616 : Nat) : Int) ((b % 18446744073709551616 : Nat) : Int) = (c : Int) ∧ (c = a % 18446744073709551616 ∨ c = b % 18446744073709551616) := by
      have hn := bits_and_u64_nat (a % 18446744073709551616) (b % 18446744073709551616) (by omega) (by omega)
      refine ⟨_, hn, ?_⟩
      have cases2 : (g1 = g2 ∧ m1 = m2) ∨ (g1 ≠ g2 ∧ m1 = 0 ∧ m2 = 0) := by
        unfold oI at hxy
        cases g1 <;> cases g2 <;> simp at hxy ⊢ <;> omega
      have sA : a % 18446744073709551616 = m1 + (if g1 then 9223372036854775808 else 0) := by
        rw [f1]
        by_cases h : 9223372036854775808 ≤ a % 18446744073709551616
        · rw [decide_eq_true h, if_pos rfl]; omega
        · rw [decide_eq_false h, if_neg (by decide)]; omega
      have sB : b % 18446744073709551616 = m2 + (if g2 then 9223372036854775808 else 0) := by
        rw [f2]
        by_cases h : 9223372036854775808 ≤ b % 18446744073709551616
        · rw [decide_eq_true h, if_pos rfl]; omega
        · rw [decide_eq_false h, if_neg (by decide)]; omega
      rcases cases2 with ⟨c1, c2⟩ | ⟨c1, c2, c3⟩
      · have : a % 18446744073709551616 = b % 18446744073709551616 := by rw [sA, sB, c1, c2]
        rw [this]; left; simp
      · rw [sA, sB, c2, c3]
        cases g1 <;> cases g2
        · exact absurd rfl c1
        · decide
        · decide
        · exact absurd rfl c1
    obtain ⟨c, hc, hcc⟩ := hor
    refine ⟨c, fun w hT hz => if2_151 _ _ _ _ _ _ _ _ _ _ w hT hz KF KLa KLb (fun w => ?_), hcc, ?_⟩
    · have h := pick_ef _ _ _ _ _ _ _ _ w KNa KNb KOa KOb (by simpa using hxy)
      rw [hc] at h
      exact h
    · rcases hcc with rfl | rfl
      · rw [cA]; omega
      · rw [cB]; omega
  · by_cases hl : oI g1 m1 < oI g2 m2
    · refine ⟨_, fun w hT hz => if2_151 _ _ _ _ _ _ _ _ _ _ w hT hz KF KLa KLb (fun w => pick_b _ _ _ _ false _ _ _ _ w KNa KNb KOa KOb (by simpa using hxy) (by rw [decide_eq_true hl]; rfl)), .inr rfl, ?_⟩
      rw [cB]; omega
    · refine ⟨_, fun w hT hz => if2_151 _ _ _ _ _ _ _ _ _ _ w hT hz KF KLa KLb (fun w => pick_a _ _ _ _ false _ _ _ _ w KNa KNb KOa KOb (by simpa using hxy) (by rw [decide_eq_false hl]; rfl)), .inl rfl, ?_⟩
      rw [cA]; omega
end Go.Proofs.YthmppcfhbbjhlaaDoor
namespace Go.Proofs.YthmppcfhbbjhlaaDoor
open Go.RowKit Go.Sort

theorem vw_at {P k q : Nat} (hP : 0 < P) (h1 : P ≤ q) (h2 : q ≤ 2 * P) : vw P (k * P + q) = q * 2 ^ k := by
  unfold vw
  have hq : ¬ k * P + q < P := by have := Nat.zero_le (k * P); omega
  rw [if_neg hq]
  rcases Nat.lt_or_eq_of_le h2 with h | h
  · have e1 : k * P + q = (q - P) + P * (k + 1) := by rw [Nat.mul_add, Nat.mul_comm P k]; omega
    rw [e1, Nat.add_mul_mod_self_left, Nat.add_mul_div_left _ _ hP, Nat.mod_eq_of_lt (by omega), Nat.div_eq_of_lt (by omega)]
    rw [show 0 + (k + 1) - 1 = k by omega, show q - P + P = q by omega]
  · have e1 : k * P + q = 0 + P * (k + 2) := by rw [Nat.mul_add, Nat.mul_comm P k]; omega
    rw [e1, Nat.add_mul_mod_self_left, Nat.add_mul_div_left _ _ hP, Nat.zero_mod, Nat.zero_div]
    rw [show 0 + (k + 2) - 1 = k + 1 by omega, Nat.zero_add, Nat.pow_succ, h, Nat.mul_comm (2 ^ k) 2, ← Nat.mul_assoc, Nat.mul_comm P 2]
theorem rq_near (R : Nat) (more : Bool) : (rqN R 11 more - 1) * 2048 ≤ R ∧ R + 1 ≤ (rqN R 11 more + 1) * 2048 := by
  have h1 := Nat.mod_add_div R 2048
  have h2 : R / 2 ^ (11 - 1) / 2 = R / 2048 := by rw [Nat.div_div_eq_div_mul]
  unfold rqN
  rw [h2]
  split <;> omega
/-- The root's float and its neighbours. -/
theorem root_near {R h : Nat} {more : Bool} {k : Nat} (hR : 2 ^ 63 ≤ R) (hR' : R < 2 ^ 64) (hk : 11 ≤ k) (V : Nat) (hV : V = k * 4503599627370496 + rqN R 11 more) (hq1 : 4503599627370496 ≤ rqN R 11 more) (hq2 : rqN R 11 more ≤ 9007199254740992) :
    vw 4503599627370496 (V - 1) ≤ R * 2 ^ (k - 11) ∧ (R + 1) * 2 ^ (k - 11) ≤ vw 4503599627370496 (V + 1) := by
  obtain ⟨n1, n2⟩ := rq_near R more
  generalize rqN R 11 more = q at *
  obtain ⟨j, rfl⟩ : ∃ j, k = j + 11 := ⟨k - 11, by omega⟩
  rw [show j + 11 - 11 = j by omega]
  have e : ∀ z : Nat, z * 2 ^ (j + 11) = z * 2048 * 2 ^ j := fun z => by rw [Nat.pow_add, Nat.mul_comm (2 ^ j), ← Nat.mul_assoc]
  have up : (q + 1) * 2 ^ (j + 11) ≤ vw 4503599627370496 (V + 1) := by
    rcases Nat.lt_or_eq_of_le hq2 with h1 | h1
    · rw [hV, show (j + 11) * 4503599627370496 + q + 1 = (j + 11) * 4503599627370496 + (q + 1) by omega, vw_at (by decide) (by omega) (by omega)]
      exact Nat.le_refl _
    · subst h1
      have hv := vw_next (P := 4503599627370496) (by decide) V
      have hV2 : vw 4503599627370496 V = 9007199254740992 * 2 ^ (j + 11) := by rw [hV, vw_at (by decide) (by decide) (by decide)]
      have hV3 : vw 4503599627370496 (V + 1) = 4503599627370497 * 2 ^ (j + 12) := by
        rw [hV, show (j + 11) * 4503599627370496 + 9007199254740992 + 1 = (j + 12) * 4503599627370496 + 4503599627370497 by omega, vw_at (by decide) (by decide) (by decide)]
      have p12 : (2 : Nat) ^ (j + 12) = 2 ^ (j + 11) * 2 := Nat.pow_succ _ _
      rw [hV3, p12]
      have := Nat.two_pow_pos (j + 11)
      generalize (2 : Nat) ^ (j + 11) = Z at *
      omega
  have dn : vw 4503599627370496 (V - 1) * 1 ≤ R * 2 ^ j := by
    rcases Nat.lt_or_eq_of_le hq1 with h1 | h1
    · rw [hV, show (j + 11) * 4503599627370496 + q - 1 = (j + 11) * 4503599627370496 + (q - 1) by omega, vw_at (by decide) (by omega) (by omega), e, Nat.mul_one]
      exact Nat.mul_le_mul_right _ n1
    · rw [hV, ← h1, show (j + 11) * 4503599627370496 + 4503599627370496 - 1 = (j + 10) * 4503599627370496 + 9007199254740991 by omega, vw_at (by decide) (by decide) (by decide), Nat.mul_one]
      have e2 : 9007199254740991 * 2 ^ (j + 10) = 9007199254740991 * 1024 * 2 ^ j := by rw [Nat.pow_add, Nat.mul_comm (2 ^ j), ← Nat.mul_assoc]
      rw [e2]
      exact Nat.mul_le_mul_right _ (Nat.le_trans (by decide) hR)
  refine ⟨by omega, ?_⟩
  refine Nat.le_trans ?_ up
  rw [e]
  exact Nat.mul_le_mul_right _ n2
theorem sq_mono {a b : Nat} (h : a ≤ b) : a * a ≤ b * b := Nat.mul_le_mul h h
/-- Squares of the neighbours of a root, rounded. -/
theorem root_sq (m V : Nat) (hm : m < 9218868437227405312) (m0 : m ≠ 0) (R k pl : Nat) (hI : IsR (mt_w m * 2 ^ pl) R) (hk : 11 ≤ k) (hx : ex_w m - (pl : Int) = 2 * ((k : Int) - 11 - 1074))
    (v0 : 1 ≤ V) (v1 : V + 1 < 9218868437227405312) (hn : vw 4503599627370496 (V - 1) ≤ R * 2 ^ (k - 11) ∧ (R + 1) * 2 ^ (k - 11) ≤ vw 4503599627370496 (V + 1)) :
    rnd 53 11 (-1074) (mt_w (V - 1) * mt_w (V - 1)) (ex_w (V - 1) + ex_w (V - 1)) false ≤ m ∧ m ≤ rnd 53 11 (-1074) (mt_w (V + 1) * mt_w (V + 1)) (ex_w (V + 1) + ex_w (V + 1)) false := by
  have hs := rnd_self_w m m0 hm
  have aL := ex_w_L m hm
  obtain ⟨j, rfl⟩ : ∃ j, k = j + 11 := ⟨k - 11, by omega⟩
  rw [show j + 11 - 11 = j by omega] at hn
  have sqv : ∀ z : Nat, z < 9218868437227405312 → mt_w z * mt_w z * 2 ^ (ex_w z + ex_w z - (-2148)).toNat = vw 4503599627370496 z * vw 4503599627370496 z := fun z hz => by
    have h1 := vw_w z hz
    have h2 := ex_w_L z hz
    rw [← h1, show (ex_w z + ex_w z - (-2148)).toNat = (ex_w z - (-1074)).toNat + (ex_w z - (-1074)).toNat by omega, Nat.pow_add]
    generalize 2 ^ (ex_w z - (-1074)).toNat = Z
    generalize mt_w z = s
    rw [Nat.mul_assoc, Nat.mul_left_comm s Z Z, ← Nat.mul_assoc s Z (s * Z), Nat.mul_comm s Z, Nat.mul_assoc]
  have hmv : mt_w m * 2 ^ (ex_w m - (-2148)).toNat = mt_w m * 2 ^ pl * (2 ^ j * 2 ^ j) := by
    rw [Nat.mul_assoc, ← Nat.pow_add, ← Nat.pow_add]; congr 2; omega
  constructor
  · have hlt : V - 1 < 9218868437227405312 := by omega
    have h2 := ex_w_L (V - 1) hlt
    have h := rnd_le (p := 53) (e := 11) (L := -1074) (s := mt_w (V - 1) * mt_w (V - 1)) (t := mt_w m) (x := ex_w (V - 1) + ex_w (V - 1)) (y := ex_w m) (by decide) (k := -2148) (by omega) (by omega) (by
      rw [sqv _ hlt, hmv]
      refine Nat.le_trans (sq_mono hn.1) ?_
      rw [show R * 2 ^ j * (R * 2 ^ j) = R * R * (2 ^ j * 2 ^ j) by rw [Nat.mul_assoc, Nat.mul_left_comm (2 ^ j) R (2 ^ j), ← Nat.mul_assoc]]
      exact Nat.mul_le_mul_right _ hI.1)
    rw [hs] at h
    exact h
  · have h2 := ex_w_L (V + 1) v1
    have h := rnd_le (p := 53) (e := 11) (L := -1074) (s := mt_w m) (t := mt_w (V + 1) * mt_w (V + 1)) (x := ex_w m) (y := ex_w (V + 1) + ex_w (V + 1)) (by decide) (k := -2148) (by omega) (by omega) (by
      rw [sqv _ v1, hmv]
      refine Nat.le_trans ?_ (sq_mono hn.2)
      rw [show (R + 1) * 2 ^ j * ((R + 1) * 2 ^ j) = (R + 1) * (R + 1) * (2 ^ j * 2 ^ j) by rw [Nat.mul_assoc, Nat.mul_left_comm (2 ^ j) (R + 1) (2 ^ j), ← Nat.mul_assoc]]
      exact Nat.mul_le_mul_right _ (Nat.le_of_lt hI.2))
    rw [hs] at h
    exact h
end Go.Proofs.YthmppcfhbbjhlaaDoor
namespace Go.Proofs.YthmppcfhbbjhlaaDoor
open Go.RowKit Go.Sort
/-- The root's value, of a number that is not small. -/
def Root (m : Nat) (v : Int) : Prop := ∃ (R pl : Nat) (h : Int), (127 ≤ bl (mt_w m) + pl ∧ bl (mt_w m) + pl ≤ 128) ∧ ex_w m - pl = 2 * h ∧ IsR (mt_w m * 2 ^ pl) R ∧ v = ((rnd 53 11 (-1074) (if decide (R * R ≠ mt_w m * 2 ^ pl) then R + (1 - R % 2) else R) h false : Nat) : Int)
theorem root_pair (m : Nat) (hm1 : 4503599627370496 ≤ m) (hm : m < 9218868437227405312) (v : Int) (hv : Root m v) :
    ∃ V : Nat, v = (V : Int) ∧ 1 ≤ V ∧ V + 1 < 9218868437227405312 ∧ rnd 53 11 (-1074) (mt_w (V - 1) * mt_w (V - 1)) (ex_w (V - 1) + ex_w (V - 1)) false ≤ m ∧ m ≤ rnd 53 11 (-1074) (mt_w (V + 1) * mt_w (V + 1)) (ex_w (V + 1) + ex_w (V + 1)) false := by
  obtain ⟨R, pl, h, hpl, hph, hR, rfl⟩ := hv
  have es : mt_w m = m % 4503599627370496 + 4503599627370496 := by unfold mt_w; rw [if_neg (by omega), if_neg (by omega)]
  have ex : ex_w m = (m / 4503599627370496 : Nat) - 1 + (-1074) := by unfold ex_w; rw [if_neg (by omega), if_neg (by omega)]
  have e52 : (2 : Nat) ^ 52 = 4503599627370496 := by decide
  have e53 : (2 : Nat) ^ 53 = 9007199254740992 := by decide
  have hb1 : bl (mt_w m) ≤ 53 := bl_le (by rw [e53]; omega)
  have hb2 : 52 + 1 ≤ bl (mt_w m) := lt_bl (by rw [e52]; omega)
  have hp1 : 74 ≤ pl := by omega
  have hp2 : pl ≤ 75 := by omega
  have hN1 : 2 ^ (2 * 63) ≤ mt_w m * 2 ^ pl := by
    rw [show 2 * 63 = 52 + 74 by decide, Nat.pow_add]
    exact Nat.mul_le_mul (by rw [e52]; omega) (Nat.pow_le_pow_right (by decide) hp1)
  have hN2 : mt_w m * 2 ^ pl < 2 ^ 64 * 2 ^ 64 := by
    rw [← Nat.pow_add, show 64 + 64 = 53 + 75 by decide, Nat.pow_add]
    exact Nat.mul_lt_mul_of_lt_of_le (by rw [e53]; omega) (Nat.pow_le_pow_right (by decide) hp2) (Nat.two_pow_pos _)
  have hR1 : 2 ^ 63 ≤ R := isR_le hR (by rw [← Nat.pow_add]; exact hN1)
  have hR2 : R < 2 ^ 64 := by
    by_cases hc : R < 2 ^ 64
    · exact hc
    · have h1 := Nat.mul_le_mul (show 2 ^ 64 ≤ R by omega) (show 2 ^ 64 ≤ R by omega)
      exact absurd (Nat.lt_of_le_of_lt (Nat.le_trans h1 hR.1) hN2) (Nat.lt_irrefl _)
  have hbR : bl R = 64 := Nat.le_antisymm (bl_le hR2) (lt_bl hR1)
  have hv : ∃ more : Bool, rnd 53 11 (-1074) (if decide (R * R ≠ mt_w m * 2 ^ pl) then R + (1 - R % 2) else R) h false = rnd 53 11 (-1074) R h more := by
    by_cases hd : R * R ≠ mt_w m * 2 ^ pl
    · rw [if_pos (decide_eq_true hd)]
      exact ⟨true, rnd_mark (by omega)⟩
    · rw [if_neg (by simpa using hd)]
      exact ⟨false, rfl⟩
  obtain ⟨more, hv⟩ := hv
  rw [hv]
  have hdiv : m / 4503599627370496 ≤ 2046 ∧ 1 ≤ m / 4503599627370496 := by omega
  have hq1 : 4503599627370496 ≤ rqN R 11 more := by
    have := rqN_ge R 11 52 more (by rw [show 11 + 52 = 63 by decide]; exact hR1) (by decide)
    rwa [e52] at this
  have hq2 : rqN R 11 more ≤ 9007199254740992 := by
    have := rqN_le R 11 53 more (by rw [show 11 + 53 = 64 by decide]; exact hR2) (by decide)
    rwa [e53] at this
  obtain ⟨k, hk⟩ : ∃ k : Nat, (k : Int) = h + 11 + 1074 := ⟨(h + 11 + 1074).toNat, by omega⟩
  have hc : cutOf 53 (-1074) R h = 11 := by unfold cutOf; rw [hbR]; omega
  have hk1 : 11 ≤ k := by omega
  have hk2 : k ≤ 1600 := by omega
  have hR0 : R ≠ 0 := by intro h0; rw [h0, bl_zero] at hbR; omega
  have eV : rnd 53 11 (-1074) R h more = k * 4503599627370496 + rqN R 11 more := by
    unfold rnd
    rw [if_neg hR0, hc, show (h + 11 - -1074).toNat = k by omega, if_neg (by omega), show infM 53 11 = 9218868437227405312 by decide, show rq R 11 more = rqN R 11 more by rfl, show 53 - 1 = 52 by decide, e52]
    exact Nat.min_eq_right (by omega)
  rw [eV]
  refine ⟨_, rfl, by omega, by omega, ?_⟩
  exact root_sq m _ hm (by omega) R k pl hR hk1 (by omega) (by omega) (by omega) (root_near (h := 0) hR1 hR2 hk1 _ rfl hq1 hq2)
/-- A float with its place. -/
theorem rnd_norm (s : Nat) (x : Int) (h1 : 4503599627370496 ≤ s) (h2 : s < 9007199254740992) (x1 : -1074 ≤ x) (x2 : x ≤ 0) :
    ∃ n : Nat, rnd 53 11 (-1074) s x false = n ∧ 4503599627370496 ≤ n ∧ n < 9218868437227405312 ∧ mt_w n = s ∧ ex_w n = x := by
  have e52 : (2 : Nat) ^ 52 = 4503599627370496 := by decide
  have e53 : (2 : Nat) ^ 53 = 9007199254740992 := by decide
  have hb : bl s = 53 := Nat.le_antisymm (bl_le (by rw [e53]; exact h2)) (lt_bl (by rw [e52]; exact h1))
  obtain ⟨k, hk⟩ : ∃ k : Nat, (k : Int) = x + 1074 := ⟨(x + 1074).toNat, by omega⟩
  have hc : cutOf 53 (-1074) s x = 0 := by unfold cutOf; rw [hb]; omega
  have e : rnd 53 11 (-1074) s x false = k * 4503599627370496 + s := by
    unfold rnd
    rw [if_neg (by omega), hc, show (x + 0 - -1074).toNat = k by omega, if_neg (by omega), show infM 53 11 = 9218868437227405312 by decide, show rq s 0 false = s by simp [rq], show 53 - 1 = 52 by decide, e52]
    exact Nat.min_eq_right (by omega)
  refine ⟨_, e, by omega, by omega, ?_, ?_⟩
  · unfold mt_w; rw [if_neg (by omega), if_neg (by omega)]; omega
  · unfold ex_w; rw [if_neg (by omega), if_neg (by omega)]; omega
theorem rnd_int (X : Nat) (h0 : X ≠ 0) (hX : X < 9007199254740992) : ∃ n j : Nat, rnd 53 11 (-1074) X 0 false = n ∧ 4503599627370496 ≤ n ∧ n < 9218868437227405312 ∧ mt_w n = X * 2 ^ j ∧ ex_w n = -(j : Int) := by
  have e52 : (2 : Nat) ^ 52 = 4503599627370496 := by decide
  have e53 : (2 : Nat) ^ 53 = 9007199254740992 := by decide
  have hb : bl X ≤ 53 := bl_le (by rw [e53]; exact hX)
  have hb0 := bl_pos h0
  obtain ⟨j, hj⟩ : ∃ j, j = 53 - bl X := ⟨_, rfl⟩
  have hbj : bl (X * 2 ^ j) = 53 := by rw [bl_mul h0]; omega
  have u := bl_lt (X * 2 ^ j)
  rw [hbj, e53] at u
  have l : 4503599627370496 ≤ X * 2 ^ j := by
    by_cases hc : 4503599627370496 ≤ X * 2 ^ j
    · exact hc
    · have := bl_le (x := X * 2 ^ j) (k := 52) (by rw [e52]; omega)
      omega
  obtain ⟨n, e, n1, n2, n3, n4⟩ := rnd_norm (X * 2 ^ j) (0 - (j : Int)) l u (by omega) (by omega)
  rw [rnd_shift h0] at e
  exact ⟨n, j, e, n1, n2, n3, by omega⟩
theorem root_int (X n m : Nat) (h0 : X ≠ 0) (hX : X < 67108864) (hn : rnd 53 11 (-1074) X 0 false = n) (hm : rnd 53 11 (-1074) (mt_w n * mt_w n) (ex_w n + ex_w n) false = m) (v : Int) :
    4503599627370496 ≤ m ∧ m < 9218868437227405312 ∧ (Root m v → v = (n : Int)) := by
  obtain ⟨n', j, e, n1, n2, n3, n4⟩ := rnd_int X h0 (by omega)
  obtain rfl : n = n' := hn.symm.trans e
  have hXX : X * X < 67108864 * 67108864 := Nat.mul_lt_mul_of_lt_of_lt hX hX
  have hX0 : X * X ≠ 0 := Nat.mul_ne_zero h0 h0
  have eq2 : mt_w n * mt_w n = X * X * 2 ^ (j + j) := by
    rw [n3, Nat.pow_add]
    generalize 2 ^ j = Z
    rw [Nat.mul_assoc, Nat.mul_left_comm Z X Z, ← Nat.mul_assoc]
  rw [eq2, n4, show -(j : Int) + -(j : Int) = 0 - ((j + j : Nat) : Int) by omega, rnd_shift hX0] at hm
  obtain ⟨m', i, e', m1, m2, m3, m4⟩ := rnd_int (X * X) hX0 (by omega)
  obtain rfl : m = m' := hm.symm.trans e'
  refine ⟨m1, m2, ?_⟩
  rintro ⟨R, pl, h, hpl, hph, hR, rfl⟩
  obtain ⟨t, ht⟩ : ∃ t : Nat, (t : Int) = -h := ⟨(-h).toNat, by omega⟩
  have eN : mt_w m * 2 ^ pl = X * 2 ^ t * (X * 2 ^ t) := by
    rw [m3, Nat.mul_assoc, ← Nat.pow_add, show i + pl = t + t by omega, Nat.pow_add]
    generalize 2 ^ t = Z
    rw [Nat.mul_assoc, Nat.mul_assoc, Nat.mul_left_comm Z X Z]
  rw [eN] at hR ⊢
  have hRe : R = X * 2 ^ t := isR_eq hR ⟨Nat.le_refl _, by
    have := Nat.mul_lt_mul_of_lt_of_lt (Nat.lt_succ_self (X * 2 ^ t)) (Nat.lt_succ_self (X * 2 ^ t)); exact this⟩
  rw [if_neg (by simp [hRe]), hRe, show h = 0 - (t : Int) by omega, rnd_shift h0, hn]
end Go.Proofs.YthmppcfhbbjhlaaDoor
namespace Go.Proofs.YthmppcfhbbjhlaaDoor
open Go.RowKit Go.Sort

theorem isR_ex (N : Nat) : ∃ r, IsR N r := by
  induction N with
  | zero => exact ⟨0, by decide, by decide⟩
  | succ N ih =>
    obtain ⟨r, h1, h2⟩ := ih
    by_cases h : (r + 1) * (r + 1) ≤ N + 1
    · refine ⟨r + 1, h, ?_⟩
      have e : (r + 1 + 1) * (r + 1 + 1) = (r + 1) * (r + 1) + 2 * (r + 1) + 1 := by
        rw [Nat.add_mul, Nat.mul_add]; omega
      rw [e]; omega
    · exact ⟨r, by omega, by omega⟩
theorem slow_w (a : Nat) (ha : a < 18446744073709551616) (w : World) : Calls Tryd.prog 23 #[.int .u64 (a : Int), .int .i64 64] w fun e w' => e = .returned (.int .u64 ((a % 18446744073709551616 : Nat) : Int)) ∧ w = w' := by
  have h := low64 (a : Int) w
  have e : (a : Int) = ((a % 18446744073709551616 : Nat) : Int) := by omega
  rw [← e]; exact h
theorem wr_zero (x : Int) : wr_w 0 false 0 x = 0 := by
  unfold wr_w; simp [sg_w, rnd, bl_zero]
set_option maxHeartbeats 4000000 in
theorem rt_159 (a : Nat) (ha : a < 18446744073709551616) : ∃ v : Int,
    (∀ w, Tab0 w → 0 < w.heap.size → Calls Tryd.prog 10 #[.int .i64 159, .int .u64 (a : Int)] w fun e w' => e = .returned (RV true 0 v) ∧ Below w.heap.size w w') ∧
    (∀ w, Calls Tryd.prog 9 #[.int .i64 159, .int .u64 (a : Int)] w fun e w' => e = .returned (RV true 0 v) ∧ Below w.heap.size w w') ∧
    (4503599627370496 ≤ a → a < 9218868437227405312 → Root a v) ∧ (a = 0 → v = 0) := by
  obtain ⟨m, hm⟩ : ∃ m, m = a % 18446744073709551616 % 9223372036854775808 := ⟨_, rfl⟩
  obtain ⟨g, hg⟩ : ∃ g, g = decide (9223372036854775808 ≤ a % 18446744073709551616) := ⟨_, rfl⟩
  have hml : m < 9223372036854775808 := by omega
  have hAl : a % 18446744073709551616 < 18446744073709551616 := Nat.mod_lt _ (by decide)
  have ms : (4503599627370496 ≤ a → a < 9218868437227405312 → mt_w m ≠ 0) ∧ (a = 0 → mt_w m = 0) := by
    unfold mt_w
    refine ⟨fun h1 h2 => ?_, fun h1 => ?_⟩
    · rw [if_neg (by omega), if_neg (by omega)]; omega
    · rw [if_neg (by omega), if_pos (by omega)]; omega
  have RI := fun w => iread_w a w ha m g hm hg
  have RS := fun w => sread_w (a % 18446744073709551616) w (by omega) m g (by rw [Nat.mod_mod]; exact hm) (by rw [Nat.mod_mod]; exact hg)
  have KLo := fun w => slow_w a ha w
  have KF : ∀ w, Tab0 w → 0 < w.heap.size → Hid (Calls Tryd.prog 32 #[.int .i64 159] w fun e w' => e = .returned (.tuple #[.int .i64 145, FVw]) ∧ Below w.heap.size w w') := fun w hT hz => fold_wide 159 w (by decide) (by decide) hT hz
  have KS : ∀ w, Hid (Calls Tryd.prog 22 #[.int .i64 159, .int .i64 139, .int .i64 153, .int .i64 7] w fun e w' => e = .returned (.tuple #[FSw, .int .i64 6]) ∧ Below w.heap.size w w') := fun w => which_w 159 w (by decide) (by decide) (by decide) (by decide)
  have hx := ex_w_b m hml
  have hs := mt_w_b m
  have hz0 := mt_w_z m
  have hkk := kd_w_k m
  have hs60 : bl (mt_w m) ≤ 60 := bl60 (by omega)
  rcases hkk with hk | hk | hk
  · have hnot : ¬ 9218868437227405312 < m := by intro h; unfold kd_w at hk; rw [if_pos h] at hk; omega
    rw [hk, if_neg hnot] at RI
    rw [hk] at RS
    have hz0 := hz0 hk
    generalize hxd : ex_w m = x at *
    generalize hsd : mt_w m = s at *
    have hs128 : s < 340282366920938463463374607431768211456 := by omega
    have KZ := fun w => nzero_key 0 g x ((s % 18446744073709551616 : Nat) : Int) ((s / 18446744073709551616 : Nat) : Int) (decide (s = 0)) w (fun w => isZero_any s w hs128)
    have KZs := fun (v : Value) (w : World) (hS : SN w v s) => szero_key 0 g v x s w (by omega) hS
    by_cases h0 : s = 0
    · rw [show (decide ((0 : Int) = 0) && decide (s = 0)) = true by simp [h0]] at KZ KZs
      refine ⟨wr_w 0 g s x, fun w hT hz => if1_w_145 159 a _ _ _ _ _ w hT hz KF RI _ _ _ _ _ _ (fun w => iroot_z g x _ _ w KZ) (fun w => write_w 0 g x s w (.inl rfl) (by omega) (by omega) (by omega)), fun w => ?_, fun h1 h2 => absurd h0 (ms.1 h1 h2), fun h1 => ?_⟩
      case refine_2 =>
        have eg : g = false := by rw [hg]; exact decide_eq_false (by omega)
        rw [eg, h0]; exact wr_zero x
      refine sf1_w_6 159 a _ _ _ _ _ w KS KLo RS _ (fun v w hS => ?_)
      have KW := fun w hS => swrite_w 0 g x s v w (.inl rfl) (by omega) (by omega) (by omega) hS
      cases g
      · exact sroot_w_zf v x s w hS (fun w hS => KZs v w hS) _ KW
      · exact sroot_w_zt v x s w hS (fun w hS => KZs v w hS) _ KW
    · rw [show (decide ((0 : Int) = 0) && decide (s = 0)) = false by simp [h0]] at KZ KZs
      cases g
      · have hb1 := bl_pos h0
        have hbs : bl s ≤ 53 := bl_le (by rw [show 2 ^ 53 = 9007199254740992 by decide]; exact hs)
        obtain ⟨pl, h, R, hpl, hph, hR, KX⟩ : ∃ (pl : Nat) (h : Int) (R : Nat), (127 ≤ bl s + pl ∧ bl s + pl ≤ 128) ∧ x - pl = 2 * h ∧ IsR (s * 2 ^ pl) R ∧ (∀ w, Hid (Calls Tryd.prog 38 #[N2 0 false x s] w fun e w' => e = .returned (N2 0 false h (if decide (R * R ≠ s * 2 ^ pl) then R + (1 - R % 2) else R)) ∧ Below w.heap.size w w')) := by
          have KL := fun w => lift_any 0 false x 127 s w hs128 h0 (by omega) (by omega) (by omega) (by omega)
          obtain ⟨pl, hpl⟩ : ∃ pl : Nat, pl = 127 - bl s := ⟨_, rfl⟩
          have e1 : (127 - (bl s : Int)).toNat = pl := by omega
          have e2 : (127 - (bl s : Int)) = (pl : Int) := by omega
          rw [e1, e2] at KL
          have hlt : ∀ q : Nat, bl s + q ≤ 128 → s * 2 ^ q < 340282366920938463463374607431768211456 := fun q hq => by
            have h1 := bl_lt (s * 2 ^ q)
            rw [bl_mul h0] at h1
            have h2 := pow_le hq
            rw [← M128_pow] at h2
            omega
          by_cases hpar : (x - (pl : Int)) % 2 = 0
          · obtain ⟨R, hR⟩ := isR_ex (s * 2 ^ pl)
            obtain ⟨h, hh⟩ : ∃ h, x - (pl : Int) = 2 * h := ⟨(x - pl) / 2, by omega⟩
            refine ⟨pl, h, R, by omega, hh, hR, fun w => ?_⟩
            rw [hh] at KL
            refine (iroot_0 x _ _ _ _ h (s * 2 ^ pl) w (hlt pl (by omega)) rfl rfl (by omega) (by omega) KZ KL).mono ?_
            rintro e w' ⟨⟨R', hR', _, rfl⟩, hb⟩
            rw [isR_eq hR hR']
            exact ⟨rfl, hb⟩
          · obtain ⟨R, hR⟩ := isR_ex (s * 2 ^ (pl + 1))
            obtain ⟨h, hh⟩ : ∃ h, x - ((pl + 1 : Nat) : Int) = 2 * h := ⟨(x - (pl + 1 : Nat)) / 2, by omega⟩
            refine ⟨pl + 1, h, R, by omega, hh, hR, fun w => ?_⟩
            have hb2 := bl_mul h0 pl
            have h20 : s * 2 ^ pl ≠ 0 := by intro h; rw [h, bl_zero] at hb2; omega
            have KL2 := fun w => lift_any 0 false (x - pl) 128 (s * 2 ^ pl) w (hlt pl (by omega)) h20 (by omega) (by omega) (by omega) (by omega)
            have e3 : (128 - (bl (s * 2 ^ pl) : Int)) = 1 := by omega
            have e5 : s * 2 ^ pl * 2 ^ (1 : Int).toNat = s * 2 ^ (pl + 1) := by rw [show (1 : Int).toNat = 1 by decide, Nat.mul_assoc, ← Nat.pow_succ]
            rw [e3, e5, show x - (pl : Int) - 1 = 2 * h by omega] at KL2
            refine (iroot_1 x _ _ _ _ h (x - pl) _ _ (s * 2 ^ (pl + 1)) w (hlt (pl + 1) (by omega)) rfl rfl (by omega) (by omega) KZ KL (by rw [bne_iff_ne, Int.tmod_def]; omega) KL2).mono ?_
            rintro e w' ⟨⟨R', hR', _, rfl⟩, hb⟩
            rw [isR_eq hR hR']
            exact ⟨rfl, hb⟩
        have hRl : R < 18446744073709551616 * 2 := by
          by_cases hc : R < 18446744073709551616 * 2
          · exact hc
          · have h1 := Nat.mul_le_mul (show 18446744073709551616 * 2 ≤ R by omega) (show 18446744073709551616 * 2 ≤ R by omega)
            have h2 := hR.1
            have h3 := bl_lt (s * 2 ^ pl)
            rw [bl_mul h0] at h3
            have h4 := pow_le hpl.2
            rw [← M128_pow] at h4
            omega
        obtain ⟨n, r, hn, hnp, hr, KR⟩ : ∃ (n r : Nat), 110 ≤ n ∧ (x - n) % 2 = 0 ∧ IsR (s * 2 ^ n) r ∧ (∀ v w, SN w v s → Hid (Calls Tryd.prog 28 #[FSw, SV 0 false v x] w fun e w' => e = .returned (.int .u64 ((rnd 53 11 (-1074) r ((x - n) / 2) (decide (r * r ≠ s * 2 ^ n)) : Nat) : Int)) ∧ Below w.heap.size w w')) := by
          by_cases hpar : (x - 110) % 2 = 0
          · obtain ⟨r, hr⟩ := isR_ex (s * 2 ^ 110)
            refine ⟨110, r, by omega, by omega, hr, fun v w hS => ?_⟩
            refine (sroot_w_0 v x ((x - 110) / 2) s w hs60 h0 hx.1 hx.2 hS (by omega)).mono ?_
            rintro e w' ⟨⟨r', hr', rfl⟩, hb⟩
            rw [isR_eq hr hr']
            exact ⟨rfl, hb⟩
          · obtain ⟨r, hr⟩ := isR_ex (s * 2 ^ 111)
            refine ⟨111, r, by omega, by omega, hr, fun v w hS => ?_⟩
            refine (sroot_w_1 v x ((x - 111) / 2) s w hs60 h0 hx.1 hx.2 hS (by omega)).mono ?_
            rintro e w' ⟨⟨r', hr', rfl⟩, hb⟩
            rw [isR_eq hr hr']
            exact ⟨rfl, hb⟩
        have hq := root_eq (p := 53) (e := 11) (L := -1074) (ex := x) h0 hr hR hnp (by omega) (by omega) (by omega)
        rw [show (x - (pl : Int)) / 2 = h by omega] at hq
        refine ⟨((rnd 53 11 (-1074) (if decide (R * R ≠ s * 2 ^ pl) then R + (1 - R % 2) else R) h false : Nat) : Int), fun w hT hz => ?_, fun w => by rw [hq]; exact sf1_w_6 159 a _ _ _ _ _ w KS KLo RS _ KR, fun h1 h2 => ?_, fun h1 => absurd (ms.2 h1) h0⟩
        case refine_2 =>
          have ea : a = m := by omega
          unfold Root
          rw [ea, hsd, hxd]
          exact ⟨R, pl, h, hpl, hph, hR, rfl⟩
        refine if1_w_145 159 a _ _ _ _ _ w hT hz KF RI _ _ _ _ _ _ KX (fun w => ?_)
        have hw := write_w 0 false h (if decide (R * R ≠ s * 2 ^ pl) then R + (1 - R % 2) else R) w (.inl rfl) (by split <;> omega) (by omega) (by omega)
        have ew : wr_w 0 false (if decide (R * R ≠ s * 2 ^ pl) then R + (1 - R % 2) else R) h = ((rnd 53 11 (-1074) (if decide (R * R ≠ s * 2 ^ pl) then R + (1 - R % 2) else R) h false : Nat) : Int) := by
          unfold wr_w; simp [sg_w]
        rw [ew] at hw
        exact hw
      · refine ⟨9221120237041090560, fun w hT hz => if1_w_145 159 a _ _ _ _ _ w hT hz KF RI _ _ _ _ _ _ (fun w => iroot_g0 x _ _ w KZ) (fun w => write_w_2 false 0 0 0 w), fun w => ?_, fun h1 h2 => absurd (of_decide_eq_true hg.symm) (by omega), fun h1 => absurd (of_decide_eq_true hg.symm) (by omega)⟩
        exact sf1_w_6 159 a _ _ _ _ _ w KS KLo RS _ (fun v w hS => sroot_w_g0 v x s w hS (fun w hS => KZs v w hS))
  · have hnot : ¬ 9218868437227405312 < m := by intro h; unfold kd_w at hk; rw [if_pos h] at hk; omega
    rw [hk, if_neg hnot] at RI
    rw [hk] at RS
    generalize hxd : ex_w m = x at *
    generalize hsd : mt_w m = s at *
    have hs128 : s < 340282366920938463463374607431768211456 := by omega
    have KZ := fun w => nzero_key 1 g x ((s % 18446744073709551616 : Nat) : Int) ((s / 18446744073709551616 : Nat) : Int) (decide (s = 0)) w (fun w => isZero_any s w hs128)
    have KZs := fun (v : Value) (w : World) (hS : SN w v s) => szero_key 1 g v x s w (by omega) hS
    rw [show (decide ((1 : Int) = 0) && decide (s = 0)) = false by simp] at KZ KZs
    cases g
    · refine ⟨wr_w 1 false s x, fun w hT hz => if1_w_145 159 a _ _ _ _ _ w hT hz KF RI _ _ _ _ _ _ (fun w => iroot_i x _ _ w KZ) (fun w => write_w 1 false x s w (.inr (.inl rfl)) hs128 (by omega) (by omega)), fun w => ?_, fun h1 h2 => absurd hk (by unfold kd_w; rw [if_neg (by omega), if_neg (by omega)]; decide), fun h1 => absurd hk (by unfold kd_w; rw [if_neg (by omega), if_neg (by omega)]; decide)⟩
      exact sf1_w_6 159 a _ _ _ _ _ w KS KLo RS _ (fun v w hS => sroot_w_i v x s w hS _ (fun w hS => swrite_w 1 false x s v w (.inr (.inl rfl)) (by omega) (by omega) (by omega) hS))
    · refine ⟨9221120237041090560, fun w hT hz => if1_w_145 159 a _ _ _ _ _ w hT hz KF RI _ _ _ _ _ _ (fun w => iroot_g1 x _ _ w KZ) (fun w => write_w_2 false 0 0 0 w), fun w => ?_, fun h1 h2 => absurd hk (by unfold kd_w; rw [if_neg (by omega), if_neg (by omega)]; decide), fun h1 => absurd hk (by unfold kd_w; rw [if_neg (by omega), if_neg (by omega)]; decide)⟩
      exact sf1_w_6 159 a _ _ _ _ _ w KS KLo RS _ (fun v w hS => sroot_w_g1 v x s w hS (fun w hS => KZs v w hS))
  · have hyes : 9218868437227405312 < m := by
      unfold kd_w at hk
      split at hk
      · assumption
      · split at hk <;> omega
    rw [hk, if_pos hyes] at RI
    rw [hk] at RS
    generalize hxd : ex_w m = x at *
    generalize hsd : mt_w m = s at *
    have hs128 : s < 340282366920938463463374607431768211456 := by omega
    have KZ := fun w => nzero_key 2 false x ((s % 18446744073709551616 : Nat) : Int) ((s / 18446744073709551616 : Nat) : Int) (decide (s = 0)) w (fun w => isZero_any s w hs128)
    rw [show (decide ((2 : Int) = 0) && decide (s = 0)) = false by simp] at KZ
    refine ⟨9221120237041090560, fun w hT hz => if1_w_145 159 a _ _ _ _ _ w hT hz KF RI _ _ _ _ _ _ (fun w => iroot_n false x _ _ w KZ) (fun w => write_w_2 false 0 0 0 w), fun w => ?_, fun h1 h2 => absurd hk (by unfold kd_w; rw [if_neg (by omega), if_neg (by omega)]; decide), fun h1 => absurd hk (by unfold kd_w; rw [if_neg (by omega), if_neg (by omega)]; decide)⟩
    exact sf1_w_6 159 a _ _ _ _ _ w KS KLo RS _ (fun v w _ => sroot_w_n g v x w)
end Go.Proofs.YthmppcfhbbjhlaaDoor
namespace Go.Proofs.YthmppcfhbbjhlaaDoor
open Go.RowKit Go.Sort
theorem icv_184 (x : Nat) (hx : x < 4294967296) (w : World) (hT : Tab0 w) (hz : 0 < w.heap.size) : Calls Tryd.prog 13 #[.int .i64 184, .int .u64 (x : Int)] w fun e w' => e = .returned (RV true 0 ((rnd 53 11 (-1074) x 0 false : Nat) : Int)) ∧ Below w.heap.size w w' := by
  have hO := fun w => ofInt_1f (x : Int) ((x : Int) % 4294967296) w (by omega) (by omega) rfl
  have e : NV 0 false 0 ((x : Int) % 4294967296) 0 = N2 0 false 0 x := by
    rw [N2, Nat.mod_eq_of_lt (by omega), Nat.div_eq_of_lt (by omega), show (x : Int) % 4294967296 = (x : Int) by omega]; rfl
  rw [e] at hO
  have h := iconv_184 x false 0 _ _ _ w hT hz hO (fun w => write_w 0 false 0 x w (.inl rfl) (by omega) (by omega) (by omega))
  rw [show wr_w 0 false x 0 = ((rnd 53 11 (-1074) x 0 false : Nat) : Int) by unfold wr_w; simp [sg_w]] at h
  exact h
/-- The square of a number that is not negative. -/
theorem sq_162 (m : Nat) (hm : m < 9218868437227405312) : IF2 162 m m ((rnd 53 11 (-1074) (mt_w m * mt_w m) (ex_w m + ex_w m) false : Nat) : Int) := by
  have h := (v_162 m m m m false false (by omega) (by omega) (by omega) (by omega) (decide_eq_false (by omega)).symm (decide_eq_false (by omega)).symm).1
  have e : timesV_w m false m false = ((rnd 53 11 (-1074) (mt_w m * mt_w m) (ex_w m + ex_w m) false : Nat) : Int) := by
    unfold timesV_w
    rw [if_neg (by omega), if_neg (by omega)]
    simp [sg_w]
  rw [e] at h
  exact h
theorem le_101 (d A : Nat) (hd : d ≤ 9218868437227405312) (hA : A < 9218868437227405312) (h : d ≤ A) : IF2 101 d A 1 := by
  have h1 := v_101 d A d A false false (by omega) (by omega) (by omega) (by omega) (decide_eq_false (by omega)).symm (decide_eq_false (by omega)).symm (by omega) (by omega)
  rw [if_pos (decide_eq_true (by simp [oI]; exact h))] at h1
  exact h1
theorem ge_102 (u A : Nat) (hu : u ≤ 9218868437227405312) (hA : A < 9218868437227405312) (h : A ≤ u) : IF2 102 u A 1 := by
  have h1 := v_102 u A u A false false (by omega) (by omega) (by omega) (by omega) (decide_eq_false (by omega)).symm (decide_eq_false (by omega)).symm (by omega) (by omega)
  rw [if_pos (decide_eq_true (by simp [oI]; exact h))] at h1
  exact h1
def IC1 (x : Nat) (n : Nat) : Prop := ∀ w, Tab0 w → 0 < w.heap.size → Calls Tryd.prog 13 #[.int .i64 184, .int .u64 (x : Int)] w fun e w' => e = .returned (RV true 0 (n : Int)) ∧ Below w.heap.size w w'
def SF1 (op : Int) (a : Nat) (v : Int) : Prop := ∀ w, Calls Tryd.prog 9 #[.int .i64 op, .int .u64 (a : Int)] w fun e w' => e = .returned (RV true 0 v) ∧ Below w.heap.size w w'
/-- The root of a small number's square is that number. -/
theorem pack_back (X : Nat) (hX : X < 65536) : ∃ n q : Nat, IC1 X n ∧ IF2 162 n n (q : Int) ∧ IF1 159 q (n : Int) := by
  by_cases h0 : X = 0
  · subst h0
    have e0 : rnd 53 11 (-1074) 0 0 false = 0 := by unfold rnd; rw [if_pos rfl]
    have hs := sq_162 0 (by decide)
    rw [show mt_w 0 = 0 by decide, Nat.zero_mul, rnd_zz] at hs
    obtain ⟨v, h1, _, _, h4⟩ := rt_159 0 (by decide)
    rw [h4 rfl] at h1
    refine ⟨0, 0, fun w hT hz => ?_, hs, h1⟩
    have h := icv_184 0 (by decide) w hT hz
    rw [e0] at h
    exact h
  · obtain ⟨n, j, e, n1, n2, n3, n4⟩ := rnd_int X h0 (by omega)
    obtain ⟨m, hm⟩ : ∃ m, rnd 53 11 (-1074) (mt_w n * mt_w n) (ex_w n + ex_w n) false = m := ⟨_, rfl⟩
    have hs := sq_162 n n2
    rw [hm] at hs
    have hmm := fun v => root_int X n m h0 (by omega) e hm v
    obtain ⟨v, h1, _, h3, _⟩ := rt_159 m (by have := (hmm 0).2.1; omega)
    have hv := (hmm v).2.2 (h3 (hmm 0).1 (hmm 0).2.1)
    rw [hv] at h1
    refine ⟨n, m, fun w hT hz => ?_, hs, h1⟩
    have h := icv_184 X (by omega) w hT hz
    rw [e] at h
    exact h
/-- All that the law asks of a root. -/
theorem pack_root (A : Nat) (hA : A < 18446744073709551616) : ∃ r : Int, IF1 159 A r ∧ SF1 159 A r ∧
    (4503599627370496 ≤ A → A < 9218868437227405312 → ∃ V d u : Nat, r = (V : Int) ∧ 1 ≤ V ∧ V + 1 < 9218868437227405312 ∧ IF2 162 (V - 1) (V - 1) (d : Int) ∧ IF2 162 (V + 1) (V + 1) (u : Int) ∧ IF2 101 d A 1 ∧ IF2 102 u A 1) := by
  obtain ⟨r, h1, h2, h3, _⟩ := rt_159 A hA
  refine ⟨r, h1, h2, fun a1 a2 => ?_⟩
  obtain ⟨V, hV, v1, v2, l1, l2⟩ := root_pair A a1 a2 r (h3 a1 a2)
  exact ⟨V, _, _, hV, v1, v2, sq_162 (V - 1) (by omega), sq_162 (V + 1) v2, le_101 _ A (rnd_w_le _ _ _) a2 l1, ge_102 _ A (rnd_w_le _ _ _) a2 l2⟩
end Go.Proofs.YthmppcfhbbjhlaaDoor
set_option linter.unusedVariables false
namespace Go.Proofs.YthmppcfhbbjhlaaDoor
open Go.RowKit Go.Sort
set_option maxRecDepth 100000
theorem fieldV (b : Bool) (t v : Int) (w : World) : (Instr.field 24 (.agg #[.bool b, .int .i64 t, .int .u64 v]) 2).run Tryd.prog w = .ok (.int .u64 v) w := by kernel_rfl
theorem eqIn24 (b : Bool) (t v : Int) (w : World) : (Op.equalIn 10000 24 (.agg #[.bool b, .int .i64 t, .int .u64 v]) (.agg #[.bool b, .int .i64 t, .int .u64 v])).run Tryd.prog w = .ok true w := by
  have hF : (Tryd.prog.fieldsOf 24).toList.map (fun f => (f.type, f.offset, decide (f.name = "_"))) = [(4, 0, false), (2, 1, false), (22, 2, false)] := by kernel_rfl
  rw [show (10000 : Nat) = 9998 + 1 + 1 from rfl, run_equalIn_struct w (9998 + 1) _ _ _ (by kernel_rfl) (by kernel_rfl)]
  generalize (Tryd.prog.fieldsOf 24).toList = fs at hF
  obtain ⟨f0, r0, rfl, e0, h0⟩ := List.map_eq_cons_iff.1 hF
  obtain ⟨f1, r1, rfl, e1, h1⟩ := List.map_eq_cons_iff.1 h0
  obtain ⟨f2, r2, rfl, e2, h2⟩ := List.map_eq_cons_iff.1 h1
  obtain rfl := List.map_eq_nil_iff.1 h2
  simp only [Prod.mk.injEq, decide_eq_false_iff_not] at e0 e1 e2
  obtain ⟨t0, o0, n0⟩ := e0
  obtain ⟨t1, o1, n1⟩ := e1
  obtain ⟨t2, o2, n2⟩ := e2
  simp only [Op.eqFields, ne_eq, n0, n1, n2, not_false_eq_true, if_true, t0, o0, t1, o1, t2, o2, Sem.run_bind]
  have p0 : ∀ (x y z : Value), (part 4 #[x, y, z] 0).run Tryd.prog w = .ok x w := fun x y z => by simp [part, isAgg, run_underlying Tryd.underlying4]
  have p1 : ∀ (x y z : Value), (part 2 #[x, y, z] 1).run Tryd.prog w = .ok y w := fun x y z => by simp [part, isAgg, run_underlying Tryd.underlying2]
  have p2 : ∀ (x y z : Value), (part 22 #[x, y, z] 2).run Tryd.prog w = .ok z w := fun x y z => by simp [part, isAgg, run_underlying Tryd.underlying22]
  simp only [p0, p1, p2, Result.andThen_ok, run_equalIn_int w 9998 2 .i64 .i64 _ _ Tryd.underlying2, run_equalIn_bool' w 9998 4 _ _ Tryd.underlying4]
  cases b <;> simp [Sem.run_bind, p0, p1, p2, run_equalIn_int w 9998 2 .i64 .i64 _ _ Tryd.underlying2, run_equalIn_int w 9998 22 .u64 .u64 _ _ Tryd.underlying22, run_equalIn_bool' w 9998 4 _ _ Tryd.underlying4]
theorem neqR (b : Bool) (t v : Int) (w : World) : (binOp .neq 24 (.agg #[.bool b, .int .i64 t, .int .u64 v]) (.agg #[.bool b, .int .i64 t, .int .u64 v])).run Tryd.prog w = .ok (.bool false) w := by
  rw [run_neq_struct, eqIn24]; rfl
/-- A block of three cells. -/
def B3 (w : World) (g : Nat) (b : Bool) (t v : Int) : Prop := (w.cell? ⟨g, 0, none⟩ = some (.bool b) ∧ w.cell? ⟨g, 1, none⟩ = some (.int .i64 t) ∧ w.cell? ⟨g, 2, none⟩ = some (.int .u64 v)) ∧ g < w.heap.size
theorem B3.new {w : World} {b : Bool} {t v : Int} {ty : TypeId} : B3 (w.alloc (.cells #[.bool b, .int .i64 t, .int .u64 v] ty)) w.heap.size b t v := ⟨⟨cell_new rfl rfl, cell_new rfl rfl, cell_new rfl rfl⟩, by simp⟩
theorem B3.keep {w w1 : World} {g : Nat} {b : Bool} {t v : Int} (h : B3 w g b t v) (hb : Below w.heap.size w w1) : B3 w1 g b t v := by
  obtain ⟨⟨h0, h1, h2⟩, hl⟩ := h
  exact ⟨⟨(hb.cell (p := ⟨g, 0, none⟩) hl).trans h0, (hb.cell (p := ⟨g, 1, none⟩) hl).trans h1, (hb.cell (p := ⟨g, 2, none⟩) hl).trans h2⟩, Nat.lt_of_lt_of_le hl hb.size⟩
theorem if2_use {op : Int} {a b : Nat} {v : Int} (h : IF2 op a b v) {w : World} (hT : Tab0 w) (hz : 0 < w.heap.size) (V : World) (hb : Below w.heap.size w V) :
    Calls Tryd.prog 15 #[.int .i64 op, .int .u64 (a : Int), .int .u64 (b : Int)] V fun e w' => e = .returned (RV true 0 v) ∧ Below w.heap.size w w' ∧ Below V.heap.size V w' :=
  (h V (hT.below hb hz) (Nat.lt_of_lt_of_le hz hb.size)).mono fun e w' ⟨h1, h2⟩ => ⟨h1, hb.trans (h2.mono hb.size), h2⟩
theorem if1_use {op : Int} {a : Nat} {v : Int} (h : IF1 op a v) {w : World} (hT : Tab0 w) (hz : 0 < w.heap.size) (V : World) (hb : Below w.heap.size w V) :
    Calls Tryd.prog 10 #[.int .i64 op, .int .u64 (a : Int)] V fun e w' => e = .returned (RV true 0 v) ∧ Below w.heap.size w w' ∧ Below V.heap.size V w' :=
  (h V (hT.below hb hz) (Nat.lt_of_lt_of_le hz hb.size)).mono fun e w' ⟨h1, h2⟩ => ⟨h1, hb.trans (h2.mono hb.size), h2⟩
theorem lwNan1_c (x : Int) (w : World) (h0 : 0 ≤ x) (h1 : x ≤ 18446744073709551615) :
    Calls Tryd.prog 17 #[.int .i64 1, .int .u64 x] w fun e w' => e = .returned (.bool (decide (9218868437227405312 < x % 9223372036854775808))) ∧ w = w' := by
  have hm : Int.tmod x 9223372036854775808 = x % 9223372036854775808 := Int.tmod_eq_emod_of_nonneg h0
  go_enter Tryd.func17, Tryd.ntmps17
  go_wp2
  go_ret
  exact ⟨by simp, rfl⟩
end Go.Proofs.YthmppcfhbbjhlaaDoor
set_option linter.unusedVariables false
namespace Go.Proofs.YthmppcfhbbjhlaaDoor
open Go.RowKit Go.Sort
set_option maxRecDepth 100000
set_option maxHeartbeats 8000000 in
theorem drawFloat1_c (a : Option Addr) (cap : Nat) (xs : List Int) (w : World) (hl : xs.length ≤ 1099511627776) (hB : AllB xs) (ha : Has w a xs) :
    Calls Tryd.prog 20 #[.slice a xs.length cap] w fun e w' => ∃ op x : Int, e = .returned (.tuple #[.int .i64 op, .int .u64 x]) ∧ 0 ≤ x ∧ x ≤ 18446744073709551615 ∧ Below w.heap.size w w' := by
  have KN := Hid.mk' (new_any a cap xs w hl hB ha)
  have KB := Hid.mk' (fun W n hC h1 h2 => below_any w.heap.size a cap xs n W hl hB hC h1 h2)
  have KO := Hid.mk' (fun W n hC h1 h2 => once_any w.heap.size a cap xs n W hl hB hC h1 h2)
  have K3 := Hid.mk' (fun v hv W hC => draw3_any v hv w.heap.size a cap xs W hl hB hC)
  have KU := Hid.mk' (fun W hC => drawU64_any w.heap.size a cap xs W hl hB hC)
  clear hl hB ha
  go_enter Tryd.func20, Tryd.ntmps20
  go_wp2_with fail
  refine KN.out.mono ?_
  rintro e w1 ⟨rfl, hC1, hb1, hs1⟩
  have HQ := Hid.mk' (DQ.mk hC1 hb1)
  clear KN hC1 hb1 hs1
  go_wp2_with fail
  refine (KB.out _ 7 HQ.out.cur (by omega) (by omega)).mono ?_
  rintro e w2 ⟨k, rfl, hk0, hk1, hC1, hg1⟩
  replace HQ := Hid.mk' (HQ.out.step hC1 hg1)
  clear hC1 hg1
  go_wp2_with fail
  refine (KB.out _ 2 HQ.out.cur (by omega) (by omega)).mono ?_
  rintro e w3 ⟨j, rfl, hj0, hj1, hC1, hg1⟩
  replace HQ := Hid.mk' (HQ.out.step hC1 hg1)
  clear hC1 hg1
  obtain ⟨op, hop⟩ : ∃ op, op = 139 + k + 14 * j := ⟨_, rfl⟩
  have o1 : 139 ≤ op ∧ op ≤ 159 := by omega
  have hopw : IntKind.i64.wrap (IntKind.i64.wrap (139 + k) + IntKind.i64.wrap (14 * j)) = op := by simp only [IntKind.wrap_i64]; omega
  have hopw2 : 139 + k + 14 * j = op := hop.symm
  clear hop
  have HO : Hid ((91 ≤ op ∧ op ≤ 102) ∨ (139 ≤ op ∧ op ≤ 166)) := Hid.mk' (.inr ⟨o1.1, by omega⟩)
  go_wp2_with fail
  refine (formOf2_c op _ HO.out).mono ?_
  rintro e w6 ⟨v, rfl, hv, hb⟩
  replace HQ := Hid.mk' (HQ.out.below hb)
  clear hb
  go_wp2_with fail
  refine (K3.out v hv _ HQ.out.cur).mono ?_
  rintro e w7 ⟨x, rfl, x0, x1, hC1, hg1⟩
  replace HQ := Hid.mk' (HQ.out.step hC1 hg1)
  clear hC1 hg1 hv
  go_wp2_with fail
  refine (KO.out _ 40 HQ.out.cur (by omega) (by omega)).mono ?_
  rintro e w8 ⟨r, rfl, hC1, hg1⟩
  replace HQ := Hid.mk' (HQ.out.step hC1 hg1)
  clear hC1 hg1
  go_upto_if 21 with fail
  go_cut [5] from 22 (fun s V => ∃ op : Int, s = .int .i64 op ∧ V = w8)
  case first =>
    cases r
    · go_wp2_with fail
      go_meet
      case rel => exact ⟨op, rfl, rfl⟩
    · go_wp2_with fail
      go_meet
      case rel => exact ⟨152, rfl, rfl⟩
  case rest =>
    obtain ⟨op', rfl, rfl⟩ := hcut
    clear hopw hopw2 o1 hk0 hk1 hj0 hj1 HO
    go_wp2_with fail
    refine (KO.out _ 20 HQ.out.cur (by omega) (by omega)).mono ?_
    rintro e w9 ⟨r, rfl, hC1, hg1⟩
    replace HQ := Hid.mk' (HQ.out.step hC1 hg1)
    clear hC1 hg1
    cases r
    · go_wp2
      exact bodyPost_ret (v := .tuple #[.int .i64 op', .int .u64 x]) (by simp [results, Tryd.results20, go_sem]) rfl ⟨op', x, rfl, x0, x1, HQ.out.bel⟩
    · go_wp2_with fail
      refine (KU.out _ HQ.out.cur).mono ?_
      rintro e w10 ⟨y, rfl, y0, y1, hC1, hg1⟩
      replace HQ := Hid.mk' (HQ.out.step hC1 hg1)
      clear hC1 hg1
      go_wp2
      exact bodyPost_ret (v := .tuple #[.int .i64 op', .int .u64 y]) (by simp [results, Tryd.results20, go_sem]) rfl ⟨op', y, rfl, y0, y1, HQ.out.bel⟩
end Go.Proofs.YthmppcfhbbjhlaaDoor
set_option linter.unusedVariables false
namespace Go.Proofs.YthmppcfhbbjhlaaDoor
open Go.RowKit Go.Sort
set_option maxRecDepth 100000
set_option maxHeartbeats 16000000 in
theorem lawRoots_of (PR : ∀ A : Nat, A < 18446744073709551616 → ∃ r : Int, IF1 159 A r ∧ (∀ w, Calls Tryd.prog 9 #[.int .i64 159, .int .u64 (A : Int)] w fun e w' => e = .returned (RV true 0 r) ∧ Below w.heap.size w w') ∧
    (4503599627370496 ≤ A → A < 9218868437227405312 → ∃ V d u : Nat, r = (V : Int) ∧ 1 ≤ V ∧ V + 1 < 9218868437227405312 ∧ IF2 162 (V - 1) (V - 1) (d : Int) ∧ IF2 162 (V + 1) (V + 1) (u : Int) ∧ IF2 101 d A 1 ∧ IF2 102 u A 1))
    (PB : ∀ X : Nat, X < 65536 → ∃ n q : Nat, (∀ w, Tab0 w → 0 < w.heap.size → Calls Tryd.prog 13 #[.int .i64 184, .int .u64 (X : Int)] w fun e w' => e = .returned (RV true 0 (n : Int)) ∧ Below w.heap.size w w') ∧ IF2 162 n n (q : Int) ∧ IF1 159 q (n : Int))
    (a a' : Option Addr) (c c' : Nat) (xs ys : List Int) (w : World) (hB : AllB xs) (hB' : AllB ys) (ha : Has w a xs) (ha' : Has w a' ys) (hT : Tab0 w) (hz : 0 < w.heap.size) :
    Calls Tryd.prog 8 #[.slice a xs.length c, .slice a' ys.length c'] w fun e w' => e = .returned (.bool true) ∧ Below w.heap.size w w' := by
  by_cases h1 : 1048576 < xs.length
  · have h1' : (1048576 : Int) < (xs.length : Int) := by omega
    clear ha ha' hT hB hB' PR PB
    go_enter Tryd.func8, Tryd.ntmps8
    go_wp2
    go_ret
    exact ⟨rfl, Below.refl _ _⟩
  by_cases h2 : 1048576 < ys.length
  · have h1' : ¬ (1048576 : Int) < (xs.length : Int) := by omega
    have h2' : (1048576 : Int) < (ys.length : Int) := by omega
    clear ha ha' hT hB hB' PR PB
    go_enter Tryd.func8, Tryd.ntmps8
    go_wp2
    go_ret
    exact ⟨rfl, Below.refl _ _⟩
  have h1' : ¬ (1048576 : Int) < (xs.length : Int) := by omega
  have h2' : ¬ (1048576 : Int) < (ys.length : Int) := by omega
  have hl' : ys.length ≤ 1099511627776 := by omega
  have KDr := Hid.mk' (drawFloat1_c a c xs w (by omega) hB ha)
  have KA0 : Hid (∀ V, Below w.heap.size w V → Calls Tryd.prog 21 #[.slice a' ys.length c', .int .i64 0] V fun e w' => ∃ x : Int, e = .returned (.int .i64 x) ∧ 0 ≤ x ∧ x ≤ 255 ∧ V = w') := Hid.mk' (fun V hb => lwAt_c a' c' ys 0 V (by decide) hl' hB' (ha'.below hb))
  have KA1 : Hid (∀ V, Below w.heap.size w V → Calls Tryd.prog 21 #[.slice a' ys.length c', .int .i64 1] V fun e w' => ∃ x : Int, e = .returned (.int .i64 x) ∧ 0 ≤ x ∧ x ≤ 255 ∧ V = w') := Hid.mk' (fun V hb => lwAt_c a' c' ys 1 V (by decide) hl' hB' (ha'.below hb))
  have HT := Hid.mk' hT
  have HPB := Hid.mk' PB
  have HPR := Hid.mk' PR
  clear hB ha hB' ha' hT h1 h2 hl' PB PR
  go_enter Tryd.func8, Tryd.ntmps8
  go_wp2_with fail
  refine KDr.out.mono ?_
  rintro e w1 ⟨op, A, rfl, A0, A1, b1⟩
  have HB := Hid.mk' b1
  clear b1 KDr
  obtain ⟨An, hAn⟩ : ∃ An : Nat, A = (An : Int) := ⟨A.toNat, by omega⟩
  subst hAn
  obtain ⟨r, R1, S1, hr⟩ := HPR.out An (by omega)
  have J1 := Hid.mk' (if1_use R1 HT.out hz)
  have HS1 := Hid.mk' S1
  have HR := Hid.mk' hr
  clear R1 S1 hr HPR
  go_wp2_with fail
  refine (J1.out _ HB.out).mono ?_
  rintro e w2 ⟨rfl, b2, k2⟩
  go_upto_region 5 with fail
  refine wp_gen (fun wz => B3 wz w2.heap.size true 0 r ∧ Below w.heap.size w wz) ⟨B3.new, b2.alloc b2.size _⟩ ?_
  generalize w2.heap.size = g1 at *
  clear b2 k2 J1 HB
  rintro W ⟨P1, b3⟩
  have HP1 := Hid.mk' P1
  have HB := Hid.mk' b3
  obtain ⟨⟨c0, c1, c2⟩, zc⟩ := P1
  have k0 := cell_regrown c0
  have k1 := cell_regrown c1
  have k2 := cell_regrown c2
  have T1 := Hid.mk' (show ∀ d os, Calls Tryd.prog 9 #[.int .i64 159, .int .u64 (An : Int)] (grow (redrawn W d) os) fun e w'' => e = .returned (RV true 0 r) ∧ ∃ p : Regrown, w'' = grow (redrawn W p.d) p.os from fun d os => Calls.regrown_of (HS1.out _))
  have HEQ := neqR
  clear zc c0 c1 c2 b3 HS1
  refine wp_region_quiet_below (by kernel_rfl) (by kernel_rfl) ?_
  repeat (quiet_step (with_reducible exact T1.out _ _))
  refine wpQuiet_nil ?_
  intro _ hw'
  obtain ⟨⟨dq, osq⟩, hw''⟩ := hw'
  subst hw''
  have hbw := below_regrown W dq osq
  replace HP1 := Hid.mk' (HP1.out.keep hbw)
  replace HB := Hid.mk' (HB.out.trans (hbw.mono HB.out.size))
  clear k0 k1 k2 T1 HEQ hbw
  generalize grow (redrawn W dq) osq = w5 at *
  clear W
  try show Exit.then _ _ Exit.normal _ w5
  have hfld := fieldV
  go_wp2_with fail
  refine (KA0.out _ HB.out).mono ?_
  rintro e w6 ⟨x0, rfl, x00, x01, rfl⟩
  go_wp2_with fail
  refine (KA1.out _ HB.out).mono ?_
  rintro e w7 ⟨x1, rfl, x10, x11, rfl⟩
  clear KA0 KA1
  obtain ⟨X, hX⟩ : ∃ X : Nat, x0 * 256 + x1 = (X : Int) := ⟨(x0 * 256 + x1).toNat, by omega⟩
  have hX1 : IntKind.i64.wrap (x0 * 256) = x0 * 256 := by rw [IntKind.wrap_i64]; omega
  have hX2 : IntKind.i64.wrap (X : Int) = (X : Int) := by rw [IntKind.wrap_i64]; omega
  have hX3 : IntKind.u64.wrap (X : Int) = (X : Int) := by rw [IntKind.wrap_u64]; omega
  obtain ⟨n, q, I1, I2, I3⟩ := HPB.out X (by omega)
  have J1 : Hid (∀ V, Below w.heap.size w V → Calls Tryd.prog 13 #[.int .i64 184, .int .u64 (X : Int)] V fun e w' => e = .returned (RV true 0 (n : Int)) ∧ Below w.heap.size w w' ∧ Below V.heap.size V w') := Hid.mk' (fun V hb => (I1 V (HT.out.below hb hz) (Nat.lt_of_lt_of_le hz hb.size)).mono fun e w' ⟨h1, h2⟩ => ⟨h1, hb.trans (h2.mono hb.size), h2⟩)
  have J2 := Hid.mk' (if2_use I2 HT.out hz)
  have J3 := Hid.mk' (if1_use I3 HT.out hz)
  clear I1 I2 I3 HPB
  go_wp2_with fail
  refine (J1.out _ HB.out).mono ?_
  rintro e w8 ⟨rfl, b8, k8⟩
  replace HP1 := Hid.mk' (HP1.out.keep k8)
  go_upto_region 8 with fail
  refine wp_gen (fun wz => B3 wz g1 true 0 r ∧ B3 wz w8.heap.size true 0 (n : Int) ∧ Below w.heap.size w wz) ⟨HP1.out.keep ((Below.refl _ _).alloc (Nat.le_refl _) _), B3.new, b8.alloc b8.size _⟩ ?_
  generalize w8.heap.size = g2 at *
  clear b8 k8 J1 HB HP1 x00 x01 x10 x11 hX hX1 hX2 hX3
  rintro w9 ⟨P1, P2, b9⟩
  have HP1 := Hid.mk' P1
  have HP2 := Hid.mk' P2
  have HB := Hid.mk' b9
  obtain ⟨⟨c0, c1, c2⟩, _⟩ := P2
  clear P1 b9
  go_wp2_with fail
  refine (J2.out _ HB.out).mono ?_
  rintro e w10 ⟨rfl, b10, k10⟩
  replace HP1 := Hid.mk' (HP1.out.keep k10)
  replace HP2 := Hid.mk' (HP2.out.keep k10)
  clear HB k10 J2 c0 c1 c2
  go_wp2_with fail
  refine (J3.out _ b10).mono ?_
  rintro e w11 ⟨rfl, b11, k11⟩
  replace HP1 := Hid.mk' (HP1.out.keep k11)
  replace HP2 := Hid.mk' (HP2.out.keep k11)
  clear b10 k11 J3
  go_upto_region 9 with fail
  refine wp_gen (fun wz => B3 wz g1 true 0 r ∧ B3 wz g2 true 0 (n : Int) ∧ B3 wz w11.heap.size true 0 (n : Int) ∧ Below w.heap.size w wz) ⟨HP1.out.keep ((Below.refl _ _).alloc (Nat.le_refl _) _), HP2.out.keep ((Below.refl _ _).alloc (Nat.le_refl _) _), B3.new, b11.alloc b11.size _⟩ ?_
  generalize w11.heap.size = g3 at *
  clear b11 HP1 HP2
  rintro w12 ⟨⟨⟨p0, p1, p2⟩, hg⟩, ⟨⟨c0, c1, c2⟩, _⟩, ⟨⟨d0, d1, d2⟩, _⟩, b12⟩
  have HB := Hid.mk' b12
  have HG := Hid.mk' hg
  clear b12 hg
  have hnn : ((n : Int) != (n : Int)) = false := by simp
  have KL := Hid.mk' (fun (V : World) => lwNan1_c (An : Int) V (by omega) (by omega))
  by_cases hin : 4503599627370496 ≤ An ∧ An < 9218868437227405312
  · obtain ⟨V, d, u, hV, v1, v2, I1, I2, I3, I4⟩ := HR.out hin.1 hin.2
    have HP1 := Hid.mk' (And.intro p0 (And.intro p1 p2))
    rw [show decide ((9218868437227405312 : Int) < (An : Int) % 9223372036854775808) = false from decide_eq_false (by omega)] at KL
    have q1 : decide ((9223372036854775808 : Int) ≤ (An : Int)) = false := decide_eq_false (by omega)
    have q2 : decide ((An : Int) < 4503599627370496) = false := decide_eq_false (by omega)
    have q3 : decide ((9218868437227405312 : Int) ≤ (An : Int)) = false := decide_eq_false (by omega)
    obtain ⟨D, hD⟩ : ∃ D, D = V - 1 := ⟨_, rfl⟩
    obtain ⟨U, hU⟩ : ∃ U, U = V + 1 := ⟨_, rfl⟩
    rw [← hD] at I1
    rw [← hU] at I2
    have e1 : r - 1 = (D : Int) := by omega
    have e2 : r + 1 = (U : Int) := by omega
    have e3 : IntKind.u64.wrap (D : Int) = (D : Int) := by rw [IntKind.wrap_u64]; omega
    have e4 : IntKind.u64.wrap (U : Int) = (U : Int) := by rw [IntKind.wrap_u64]; omega
    have e5 : IntKind.u64.wrap (r - 1) = (D : Int) := by rw [e1, e3]
    have e6 : IntKind.u64.wrap (r + 1) = (U : Int) := by rw [e2, e4]
    have G1 := Hid.mk' (if2_use I1 HT.out hz)
    have G2 := Hid.mk' (if2_use I2 HT.out hz)
    have G3 := Hid.mk' (if2_use I3 HT.out hz)
    have G4 := Hid.mk' (if2_use I4 HT.out hz)
    clear I1 I2 I3 I4 hV v1 v2 hD hU HR hin e1 e2 e3 e4
    go_wp2_with fail
    refine (KL.out _).mono ?_
    rintro e w13 ⟨rfl, rfl⟩
    clear KL hnn c0 c1 c2 d0 d1 d2
    go_upto_region 13 with fail
    clear q1 q2 q3
    go_wp2_with fail
    refine (G1.out _ HB.out).mono ?_
    rintro e w14 ⟨rfl, b14, k14⟩
    obtain ⟨p0, p1, p2⟩ : w14.cell? ⟨g1, 0, none⟩ = some (.bool true) ∧ w14.cell? ⟨g1, 1, none⟩ = some (.int .i64 0) ∧ w14.cell? ⟨g1, 2, none⟩ = some (.int .u64 r) := by
      have hk := (show B3 w12 g1 true 0 r from ⟨HP1.out, HG.out⟩).keep k14
      exact hk.1
    clear G1 HB k14
    go_wp2_with fail
    refine (G2.out _ b14).mono ?_
    rintro e w15 ⟨rfl, b15, _⟩
    clear G2 b14 p0 p1 p2
    go_wp2_with fail
    refine (G3.out _ b15).mono ?_
    rintro e w16 ⟨rfl, b16, _⟩
    clear G3 b15
    go_wp2_with fail
    refine (G4.out _ b16).mono ?_
    rintro e w17 ⟨rfl, b17, _⟩
    clear G4 b16
    go_wp2
    go_ret
    exact ⟨rfl, b17⟩
  · have hcase : (9218868437227405312 : Int) < (An : Int) % 9223372036854775808 ∨ (¬ (9218868437227405312 : Int) < (An : Int) % 9223372036854775808 ∧ (9223372036854775808 : Int) ≤ (An : Int)) ∨ (¬ (9218868437227405312 : Int) < (An : Int) % 9223372036854775808 ∧ ¬ (9223372036854775808 : Int) ≤ (An : Int) ∧ (An : Int) < 4503599627370496) ∨ (¬ (9218868437227405312 : Int) < (An : Int) % 9223372036854775808 ∧ ¬ (9223372036854775808 : Int) ≤ (An : Int) ∧ ¬ (An : Int) < 4503599627370496 ∧ (9218868437227405312 : Int) ≤ (An : Int)) := by omega
    clear hin HR
    rcases hcase with h | ⟨h, q1⟩ | ⟨h, q1, q2⟩ | ⟨h, q1, q2, q3⟩
    · rw [show decide ((9218868437227405312 : Int) < (An : Int) % 9223372036854775808) = true from decide_eq_true h] at KL
      clear h
      go_wp2_with fail
      refine (KL.out _).mono ?_
      rintro e w13 ⟨rfl, rfl⟩
      go_wp2
      go_ret
      exact ⟨rfl, HB.out⟩
    all_goals
      rw [show decide ((9218868437227405312 : Int) < (An : Int) % 9223372036854775808) = false from decide_eq_false h] at KL
      clear h
      go_wp2_with fail
      refine (KL.out _).mono ?_
      rintro e w13 ⟨rfl, rfl⟩
      go_wp2
      go_ret
      exact ⟨rfl, HB.out⟩
end Go.Proofs.YthmppcfhbbjhlaaDoor
namespace Go.Proofs.YthmppcfhbbjhlaaDoor
open Go.RowKit Go.Sort
theorem lawRoots (a a' : Option Addr) (c c' : Nat) (xs ys : List Int) (w : World) (hB : AllB xs) (hB' : AllB ys) (ha : Has w a xs) (ha' : Has w a' ys) (hT : Tab0 w) (hz : 0 < w.heap.size) :
    Calls Tryd.prog 8 #[.slice a xs.length c, .slice a' ys.length c'] w fun e w' => e = .returned (.bool true) ∧ Below w.heap.size w w' :=
  lawRoots_of pack_root pack_back a a' c c' xs ys w hB hB' ha ha' hT hz
end Go.Proofs.YthmppcfhbbjhlaaDoor
namespace Go.Proofs.YthmppcfhbbjhlaaDoor.fnRoots
open Go.ChangeShapes Go.WideShapes Go.ChangeAt Go.RowKit
open Go.ChangeMaps (open_string shut_string)
set_option linter.unusedVariables false

theorem laidOut : laidOutB Tryd.prog = true := by kernel_rfl
theorem var_below {P : Program} {B g : Nat} {W W' : World} {n : String} {cs : Array Value} (h : Below B W W') (hg : P.globalNamed n = some g) (hgB : g < B) (hv : W.var? P n = some cs) : W'.var? P n = some cs := by
  unfold World.var? at hv ⊢
  simp only [hg, Option.bind_some] at hv ⊢
  rw [h.block g hgB]
  exact hv

theorem own : ownKnob Tryd.prog.godebug = none := by kernel_rfl

def IsRow (k : IntKind) (w : World) (a : Option Addr) (len cap : Nat) (zs : List Int) : Prop :=
  (a = none ∧ len = 0 ∧ cap = 0 ∧ zs = []) ∨
  ∃ x, a = some x ∧ len ≤ cap ∧ cap ≤ maxLen ∧ zs.length = cap ∧ (∀ i, i < zs.length → w.cell? (x.add i) = some (.int k (zs.getD i 0))) ∧ ∀ n ∈ zs, (Lit.int k n).wf = true

theorem walk (a0 : Option Addr) (len0 cap0 : Nat) (z0 : List Int) (a1 : Option Addr) (len1 cap1 : Nat) (z1 : List Int) (w : World) (w0 : IsRow .u8 w a0 len0 cap0 z0) (w1 : IsRow .u8 w a1 len1 cap1 z1) (hT : Tab0 w) (hz : 0 < w.heap.size) :
    Calls Tryd.prog 8 #[.slice a0 len0 cap0, .slice a1 len1 cap1] w fun e w' => e = .returned (.bool true) ∧ Below w.heap.size w w' := by
  obtain ⟨xs, rfl, hm, hh, hB⟩ := row_has w0
  obtain ⟨ys, rfl, hm', hh', hB'⟩ := row_has w1
  exact lawRoots a0 a1 cap0 cap1 xs ys w hB hB' hh hh' hT hz

set_option maxRecDepth 100000 in
theorem lifted (os : Os) (started : os.Started) (H : Type) (enc : TypeId × Value → H) :
    ReturnsInHanded {} Tryd.checked os 8 .any (fun w args => (Rows.fnRootsSpec.pre enc Tryd.prog Tryd.f8 [] false w args ∧ laidMetH Tryd.prog [("loop.example/s00119/impl.floatFormats", Rows.laid_loop_example_s00119_impl_floatFormats)] w) ∧ sizedMet enc Tryd.prog Tryd.f8 (OpenSpec.ofChange Rows.fnRootsSpec) false w args) (Rows.fnRootsSpec.post enc Tryd.prog Tryd.f8 false true false false) := by
  refine returnsInHanded_of_change_and (C := Tryd.checked) (X := fun w _ => laidMetH Tryd.prog [("loop.example/s00119/impl.floatFormats", Rows.laid_loop_example_s00119_impl_floatFormats)] w) (fun _ _ _ hh h => h.of_heap hh) own started (by kernel_rfl) Tryd.func8
    (ChangeSpec.witness_shaped (enc := enc) (C := Tryd.checked) (os := os) (X := fun w _ => laidMetH Tryd.prog [("loop.example/s00119/impl.floatFormats", Rows.laid_loop_example_s00119_impl_floatFormats)] w) false (World.doorLaid Tryd.prog 400 os) #[.slice none 0 0, .slice none 0 0] 8 rfl (World.shaped_of_RefB (by kernel_rfl) (by kernel_rfl)) (by kernel_rfl) (by kernel_rfl) (by kernel_rfl) (door_met os _)) ?_
  intro W base args ds gs before hval0 hW _ _ hL _
  obtain ⟨hT, hz⟩ := of_laid hL
  have hval : ∀ (j : Nat) t v, Tryd.f8.params[j]? = some t → args[j]? = some v → Value.okWide Tryd.prog W .any base t v := hval0
  have hW' := hW
  obtain ⟨p, q, hA0, hV, rfl, hfz, hnd⟩ := hW
  have hA : DataW.TrodAll enc Tryd.prog W 0 (fun _ => true) true Tryd.f8.params.toList args.toList ds p := hA0
  rw [Tryd.params8] at hA hval
  obtain ⟨v0, vs0, d0, ds0, p0, q0, hargs, rfl, rfl, h0, r0⟩ := trodAll_cons hA
  obtain ⟨v1, vs1, d1, ds1, p1, q1, rfl, rfl, rfl, h1, r1⟩ := trodAll_cons r0
  obtain ⟨rfl, rfl, rfl⟩ := trodAll_nil r1
  obtain rfl : args = #[v0, v1] := by cases args; simp_all
  have hV1 : DataW.TrodVars enc Tryd.prog W (fun _ => true) ["loop.example/s00119/impl.floatFormats"] gs q := hV
  obtain ⟨gv, tv, csv, fuelv, dv, pv, rfl, hgv, htv, hvarv, hdv, rfl⟩ := trodVars_one hV1
  obtain rfl := Option.some.inj (gTab.symm.trans hgv)
  obtain rfl := Option.some.inj (tTab.symm.trans htv)
  obtain ⟨a0, len0, cap0, rfl⟩ := okWide_slice Tryd.underlying30 (hval 0 30 v0 rfl rfl)
  have k0 := h0
  have lt0 : ∀ x ∈ p0, x.block < W.heap.size := by obtain ⟨m, hm⟩ := k0; exact DataW.trod_lt m _ _ _ hm
  obtain ⟨z0, w0⟩ : ∃ zs, IsRow .u8 W a0 len0 cap0 zs := by
    obtain ⟨fuel, hf⟩ := h0
    rcases open_ints Tryd.underlying30 Tryd.underlying5 (by kernel_rfl) hf with ⟨hcs, _⟩ | ⟨x, l, c, zs, hcs, _, hl, hm, hz, _, hcell, hwz⟩
    · simp [Value.cells] at hcs
      obtain ⟨rfl, rfl, rfl⟩ := hcs
      exact ⟨[], .inl ⟨rfl, rfl, rfl, rfl⟩⟩
    · simp [Value.cells] at hcs
      obtain ⟨rfl, rfl, rfl⟩ := hcs
      exact ⟨zs, .inr ⟨_, rfl, hl, hm, by simpa using hz, hcell, hwz⟩⟩
  obtain ⟨a1, len1, cap1, rfl⟩ := okWide_slice Tryd.underlying30 (hval 1 30 v1 rfl rfl)
  have k1 := h1
  have lt1 : ∀ x ∈ p1, x.block < W.heap.size := by obtain ⟨m, hm⟩ := k1; exact DataW.trod_lt m _ _ _ hm
  obtain ⟨z1, w1⟩ : ∃ zs, IsRow .u8 W a1 len1 cap1 zs := by
    obtain ⟨fuel, hf⟩ := h1
    rcases open_ints Tryd.underlying30 Tryd.underlying5 (by kernel_rfl) hf with ⟨hcs, _⟩ | ⟨x, l, c, zs, hcs, _, hl, hm, hz, _, hcell, hwz⟩
    · simp [Value.cells] at hcs
      obtain ⟨rfl, rfl, rfl⟩ := hcs
      exact ⟨[], .inl ⟨rfl, rfl, rfl, rfl⟩⟩
    · simp [Value.cells] at hcs
      obtain ⟨rfl, rfl, rfl⟩ := hcs
      exact ⟨zs, .inr ⟨_, rfl, hl, hm, by simpa using hz, hcell, hwz⟩⟩
  clear hA0 hval0
  simp only [List.append_nil] at hW'
  refine (walk a0 len0 cap0 z0 a1 len1 cap1 z1 W w0 w1 hT hz).mono fun e W' ⟨he, bel⟩ => ?_
  subst he
  have hltv : ∀ x ∈ pv, x.block < W.heap.size := fun x hx => hW'.lt x (by simp only [List.mem_append]; exact .inr (.inr hx))
  obtain ⟨fuel', hd'⟩ := Below.trod laidOut (by kernel_rfl) (of_decide_eq_true (by kernel_rfl)) (v := .agg csv) (⟨fuelv, by simpa [Value.cells] using hdv⟩ : DataW.Trod enc Tryd.prog W 0 (fun _ => true) true 74 (.agg csv) dv pv) bel hltv
  have hv' := trodVars_mk1 (enc := enc) (spare := fun b => decide (b < W.heap.size)) hgv htv (var_below bel hgv hz hvarv) (by simpa [Value.cells] using hd')
  exact ⟨_, rfl, _, _, _, [], _, (MemPlace.row ⟨0, 0, none⟩ csv.size ++ pv), hW', trodAll_mk1 (shut_bool Tryd.underlying4 _), (trodAll_cons_mk (Below.trod laidOut (by kernel_rfl) (of_decide_eq_true (by kernel_rfl)) k0 bel lt0) (trodAll_cons_mk (Below.trod laidOut (by kernel_rfl) (of_decide_eq_true (by kernel_rfl)) k1 bel lt1) trodAll_mk0)), hv', bel.frame _, fun h => by cases h⟩

theorem over : Rows.fnRootsRow.holds Tryd.pinned (OpenSpec.ofChange Rows.fnRootsSpec) :=
  OpenClaim.holds_of_wide 8 Tryd.f8 rfl rfl rfl rfl rfl rfl rfl ⟨rfl, rfl, rfl, rfl, rfl⟩ rfl rfl rfl rfl rfl (by kernel_rfl) Tryd.func8 (by kernel_rfl)
    (of_decide_eq_true (by kernel_rfl)) (by unfold Func.isWrapper; first | (rw [if_pos (by decide +kernel)]; kernel_rfl) | (rw [if_neg (by decide +kernel)]; exact ⟨rfl, rfl⟩))
    (fun os started H enc _ => lifted os started H enc)

theorem card : Rows.FnRootsCardSaid :=
  Claim7.holds_tied_plain_at .later [] [.wider] true (true, "8ea68ab7b1022ecbce9a1ddc8bcc9e084640eb58875821bd2d39bb60e953b6ff") false
    over (fun _ h => by cases h) (by kernel_rfl) (fun _ h => by cases h) fnRoots_row_tie rfl ⟨rfl, rfl⟩ (by kernel_rfl) rfl
    (fun f fn hf hfn => by
      obtain rfl : f = 8 := Option.some.inj ((show Tryd.prog.funcNamed "loop.example/s00119/laws.FnRoots" = some 8 by kernel_rfl).symm.trans hf) |>.symm
      obtain rfl : fn = Tryd.f8 := (Option.some.inj (Tryd.func8.symm.trans hfn)).symm
      exact ⟨by kernel_rfl, fun j t ht => by
        rw [Tryd.params8] at ht
        have hm : t ∈ [30, 30] := by simpa using Array.mem_of_getElem? ht
        have hall : ([30, 30].all fun u => !Tryd.prog.wantsStandIn u) = true := by kernel_rfl
        exact (show Tryd.prog.wantsStandIn t = false by simpa using List.all_eq_true.1 hall t hm)⟩)
    (by kernel_rfl)
end Go.Proofs.YthmppcfhbbjhlaaDoor.fnRoots
namespace Go.Proofs.YthmppcfhbbjhlaaDoor
theorem fnRoots_holds : Rows.FnRootsCardSaid := fnRoots.card
#print axioms fnRoots_holds
end Go.Proofs.YthmppcfhbbjhlaaDoor
