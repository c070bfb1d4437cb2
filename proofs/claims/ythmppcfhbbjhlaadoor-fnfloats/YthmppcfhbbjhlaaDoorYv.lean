import Derived.Test.YthmppcfhbbjhlaaDoorYl
import Derived.Test.YthmppcfhbbjhlaaDoorYi
import Derived.Test.YthmppcfhbbjhlaaDoorYf
import Derived.Test.YthmppcfhbbjhlaaDoorIvp
import Derived.Test.YthmppcfhbbjhlaaDoorRm
import Derived.Test.YthmppcfhbbjhlaaDoorYn
set_option linter.all false
namespace Go.Proofs.YthmppcfhbbjhlaaDoor
open Go.RowKit Go.Sort

def IF2 (op : Int) (a b : Nat) (v : Int) : Prop := ∀ w, Tab0 w → 0 < w.heap.size → Calls Tryd.prog 15 #[.int .i64 op, .int .u64 (a : Int), .int .u64 (b : Int)] w fun e w' => e = .returned (RV true 0 v) ∧ Below w.heap.size w w'
def SF2 (op : Int) (a b : Nat) (v : Int) : Prop := ∀ w, Calls Tryd.prog 14 #[.int .i64 op, .int .u64 (a : Int), .int .u64 (b : Int)] w fun e w' => e = .returned (RV true 0 v) ∧ Below w.heap.size w w'
def IF1 (op : Int) (a : Nat) (v : Int) : Prop := ∀ w, Tab0 w → 0 < w.heap.size → Calls Tryd.prog 10 #[.int .i64 op, .int .u64 (a : Int)] w fun e w' => e = .returned (RV true 0 v) ∧ Below w.heap.size w w'
theorem v_146 (a b m1 m2 : Nat) (g1 g2 : Bool) (ha : a < 18446744073709551616) (hb : b < 18446744073709551616) (e1 : m1 = a % 4294967296 % 2147483648) (e2 : m2 = b % 4294967296 % 2147483648) (f1 : g1 = decide (2147483648 ≤ a % 4294967296)) (f2 : g2 = decide (2147483648 ≤ b % 4294967296)) : IF2 146 a b (plusV_n m1 g1 m2 g2) ∧ SF2 146 a b (plusV_n m1 g1 m2 g2) := by
  have hA : a % 4294967296 < 4294967296 := Nat.mod_lt _ (by decide)
  have hB : b % 4294967296 < 4294967296 := Nat.mod_lt _ (by decide)
  have l1 : m1 < 2147483648 := by omega
  have l2 : m2 < 2147483648 := by omega
  have RSa := fun w => sread_n a w ha m1 g1 e1 f1
  have RSb := fun w => sread_n b w hb m2 g2 e2 f2
  have KLa := fun w => low_n (a : Int) w
  have KLb := fun w => low_n (b : Int) w
  rw [low_n_m a ha] at KLa
  rw [low_n_m b hb] at KLb
  have KF : ∀ w, Tab0 w → 0 < w.heap.size → Hid (Calls Tryd.prog 32 #[.int .i64 146] w fun e w' => e = .returned (.tuple #[.int .i64 146, FVn]) ∧ Below w.heap.size w w') := fun w hT hz => fold_nb 146 w (by decide) (by decide) hT hz
  have KW1 : ∀ w, Hid (Calls Tryd.prog 22 #[.int .i64 146, .int .i64 91, .int .i64 97, .int .i64 6] w fun e w' => e = .returned (.tuple #[FSn, .int .i64 (-1)]) ∧ Below w.heap.size w w') := fun w => wht_c 146 w (by decide) (by decide) (by decide)
  have KW2 : ∀ w, Hid (Calls Tryd.prog 22 #[.int .i64 146, .int .i64 146, .int .i64 160, .int .i64 7] w fun e w' => e = .returned (.tuple #[FSn, .int .i64 0]) ∧ Below w.heap.size w w') := fun w => whb_n 146 w (by decide) (by decide) (by decide) (by decide)
  have RIa := fun w => iread_n (a % 4294967296) w (by omega) m1 g1 (by rw [Nat.mod_mod]; exact e1) (by rw [Nat.mod_mod]; exact f1)
  have RIb := fun w => iread_n (b % 4294967296) w (by omega) m2 g2 (by rw [Nat.mod_mod]; exact e2) (by rw [Nat.mod_mod]; exact f2)
  have ga : m1 ≤ 2139095040 → (if 2139095040 < m1 then false else g1) = g1 := fun h => if_neg (by omega)
  have gb : m2 ≤ 2139095040 → (if 2139095040 < m2 then false else g2) = g2 := fun h => if_neg (by omega)
  obtain ⟨k3, g3, x3, l3, h3, R, H1, H2, H3, hR⟩ := plusE_n m1 m2 g1 g2 _ _ l1 l2 ga gb
  subst hR
  exact ⟨fun w hT hz => if2_146 _ _ _ _ _ _ _ _ _ _ _ _ _ _ _ _ _ _ _ _ _ _ _ _ _ w hT hz KF KLa KLb RIa RIb H1 H2, fun w => sf2_0 _ _ _ _ _ _ _ _ _ _ _ _ _ _ _ w KW1 KW2 RSa RSb H3⟩
theorem v_148 (a b m1 m2 : Nat) (g1 g2 : Bool) (ha : a < 18446744073709551616) (hb : b < 18446744073709551616) (e1 : m1 = a % 4294967296 % 2147483648) (e2 : m2 = b % 4294967296 % 2147483648) (f1 : g1 = decide (2147483648 ≤ a % 4294967296)) (f2 : g2 = decide (2147483648 ≤ b % 4294967296)) : IF2 148 a b (timesV_n m1 g1 m2 g2) ∧ SF2 148 a b (timesV_n m1 g1 m2 g2) := by
  have hA : a % 4294967296 < 4294967296 := Nat.mod_lt _ (by decide)
  have hB : b % 4294967296 < 4294967296 := Nat.mod_lt _ (by decide)
  have l1 : m1 < 2147483648 := by omega
  have l2 : m2 < 2147483648 := by omega
  have RSa := fun w => sread_n a w ha m1 g1 e1 f1
  have RSb := fun w => sread_n b w hb m2 g2 e2 f2
  have KLa := fun w => low_n (a : Int) w
  have KLb := fun w => low_n (b : Int) w
  rw [low_n_m a ha] at KLa
  rw [low_n_m b hb] at KLb
  have KF : ∀ w, Tab0 w → 0 < w.heap.size → Hid (Calls Tryd.prog 32 #[.int .i64 148] w fun e w' => e = .returned (.tuple #[.int .i64 148, FVn]) ∧ Below w.heap.size w w') := fun w hT hz => fold_nb 148 w (by decide) (by decide) hT hz
  have KW1 : ∀ w, Hid (Calls Tryd.prog 22 #[.int .i64 148, .int .i64 91, .int .i64 97, .int .i64 6] w fun e w' => e = .returned (.tuple #[FSn, .int .i64 (-1)]) ∧ Below w.heap.size w w') := fun w => wht_c 148 w (by decide) (by decide) (by decide)
  have KW2 : ∀ w, Hid (Calls Tryd.prog 22 #[.int .i64 148, .int .i64 146, .int .i64 160, .int .i64 7] w fun e w' => e = .returned (.tuple #[FSn, .int .i64 2]) ∧ Below w.heap.size w w') := fun w => whb_n 148 w (by decide) (by decide) (by decide) (by decide)
  have RIa := fun w => iread_n (a % 4294967296) w (by omega) m1 g1 (by rw [Nat.mod_mod]; exact e1) (by rw [Nat.mod_mod]; exact f1)
  have RIb := fun w => iread_n (b % 4294967296) w (by omega) m2 g2 (by rw [Nat.mod_mod]; exact e2) (by rw [Nat.mod_mod]; exact f2)
  have ga : m1 ≤ 2139095040 → (if 2139095040 < m1 then false else g1) = g1 := fun h => if_neg (by omega)
  have gb : m2 ≤ 2139095040 → (if 2139095040 < m2 then false else g2) = g2 := fun h => if_neg (by omega)
  obtain ⟨k3, g3, x3, l3, h3, R, H1, H2, H3, hR⟩ := timesE_n m1 m2 g1 g2 _ _ l1 l2 ga gb
  subst hR
  exact ⟨fun w hT hz => if2_148 _ _ _ _ _ _ _ _ _ _ _ _ _ _ _ _ _ _ _ _ _ _ _ _ _ w hT hz KF KLa KLb RIa RIb H1 H2, fun w => sf2_2 _ _ _ _ _ _ _ _ _ _ _ _ _ _ _ w KW1 KW2 RSa RSb H3⟩
theorem v_147 (a b m1 m2 : Nat) (g1 g2 : Bool) (ha : a < 18446744073709551616) (hb : b < 18446744073709551616) (e1 : m1 = a % 4294967296 % 2147483648) (e2 : m2 = b % 4294967296 % 2147483648) (f1 : g1 = decide (2147483648 ≤ a % 4294967296)) (f2 : g2 = decide (2147483648 ≤ b % 4294967296)) : IF2 147 a b (plusV_n m1 g1 m2 (!g2)) := by
  have hA : a % 4294967296 < 4294967296 := Nat.mod_lt _ (by decide)
  have hB : b % 4294967296 < 4294967296 := Nat.mod_lt _ (by decide)
  have l1 : m1 < 2147483648 := by omega
  have l2 : m2 < 2147483648 := by omega
  have RSa := fun w => sread_n a w ha m1 g1 e1 f1
  have RSb := fun w => sread_n b w hb m2 g2 e2 f2
  have KLa := fun w => low_n (a : Int) w
  have KLb := fun w => low_n (b : Int) w
  rw [low_n_m a ha] at KLa
  rw [low_n_m b hb] at KLb
  have KF : ∀ w, Tab0 w → 0 < w.heap.size → Hid (Calls Tryd.prog 32 #[.int .i64 147] w fun e w' => e = .returned (.tuple #[.int .i64 147, FVn]) ∧ Below w.heap.size w w') := fun w hT hz => fold_nb 147 w (by decide) (by decide) hT hz
  have RIa := fun w => iread_n (a % 4294967296) w (by omega) m1 g1 (by rw [Nat.mod_mod]; exact e1) (by rw [Nat.mod_mod]; exact f1)
  have RIb := fun w => iread_n (b % 4294967296) w (by omega) m2 g2 (by rw [Nat.mod_mod]; exact e2) (by rw [Nat.mod_mod]; exact f2)
  have ga : m1 ≤ 2139095040 → (if 2139095040 < m1 then false else g1) = g1 := fun h => if_neg (by omega)
  have gb : m2 ≤ 2139095040 → (if 2139095040 < m2 then false else g2) = g2 := fun h => if_neg (by omega)
  by_cases n2 : 2139095040 < m2
  · obtain ⟨k3, g3, x3, l3, h3, R, H1, H2, H3, hR⟩ := plusE_n m1 m2 g1 (!g2) _ (!(if 2139095040 < m2 then false else g2)) l1 l2 ga (fun h => absurd n2 (by omega))
    subst hR
    exact fun w hT hz => if2_147 _ _ _ _ _ _ _ _ _ _ _ _ _ _ _ _ _ _ _ _ _ _ _ _ _ w hT hz KF KLa KLb RIa RIb H1 H2
  · obtain ⟨k3, g3, x3, l3, h3, R, H1, H2, H3, hR⟩ := plusE_n m1 m2 g1 (!g2) _ (!(if 2139095040 < m2 then false else g2)) l1 l2 ga (fun h => by rw [gb h])
    subst hR
    exact fun w hT hz => if2_147 _ _ _ _ _ _ _ _ _ _ _ _ _ _ _ _ _ _ _ _ _ _ _ _ _ w hT hz KF KLa KLb RIa RIb H1 H2
theorem v_95 (a b m1 m2 : Nat) (g1 g2 : Bool) (ha : a < 18446744073709551616) (hb : b < 18446744073709551616) (e1 : m1 = a % 4294967296 % 2147483648) (e2 : m2 = b % 4294967296 % 2147483648) (f1 : g1 = decide (2147483648 ≤ a % 4294967296)) (f2 : g2 = decide (2147483648 ≤ b % 4294967296)) (n1 : ¬ 2139095040 < m1) (n2 : ¬ 2139095040 < m2) : IF2 95 a b (if decide (oI g1 m1 ≤ oI g2 m2) then 1 else 0) := by
  have hA : a % 4294967296 < 4294967296 := Nat.mod_lt _ (by decide)
  have hB : b % 4294967296 < 4294967296 := Nat.mod_lt _ (by decide)
  have l1 : m1 < 2147483648 := by omega
  have l2 : m2 < 2147483648 := by omega
  have RSa := fun w => sread_n a w ha m1 g1 e1 f1
  have RSb := fun w => sread_n b w hb m2 g2 e2 f2
  have KLa := fun w => low_n (a : Int) w
  have KLb := fun w => low_n (b : Int) w
  rw [low_n_m a ha] at KLa
  rw [low_n_m b hb] at KLb
  have KF : ∀ w, Tab0 w → 0 < w.heap.size → Hid (Calls Tryd.prog 32 #[.int .i64 95] w fun e w' => e = .returned (.tuple #[.int .i64 95, FVn]) ∧ Below w.heap.size w w') := fun w hT hz => fold_na 95 w (by decide) hT hz
  have KNa := fun w => inan_n (a % 4294967296) m1 w hA e1
  have KNb := fun w => inan_n (b % 4294967296) m2 w hB e2
  rw [decide_eq_false n1] at KNa
  rw [decide_eq_false n2] at KNb
  have KOa := fun w => iorder_n (a % 4294967296) m1 g1 w hA e1 f1
  have KOb := fun w => iorder_n (b % 4294967296) m2 g2 w hB e2 f2
  exact fun w hT hz => if2_95 _ _ _ _ _ _ _ _ _ _ _ w hT hz KF KLa KLb (fun w => holds_95 _ _ _ _ _ _ _ _ w KNa KNb KOa KOb) (fun w => flag_any _ w)
theorem v_96 (a b m1 m2 : Nat) (g1 g2 : Bool) (ha : a < 18446744073709551616) (hb : b < 18446744073709551616) (e1 : m1 = a % 4294967296 % 2147483648) (e2 : m2 = b % 4294967296 % 2147483648) (f1 : g1 = decide (2147483648 ≤ a % 4294967296)) (f2 : g2 = decide (2147483648 ≤ b % 4294967296)) (n1 : ¬ 2139095040 < m1) (n2 : ¬ 2139095040 < m2) : IF2 96 a b (if decide (oI g2 m2 ≤ oI g1 m1) then 1 else 0) := by
  have hA : a % 4294967296 < 4294967296 := Nat.mod_lt _ (by decide)
  have hB : b % 4294967296 < 4294967296 := Nat.mod_lt _ (by decide)
  have l1 : m1 < 2147483648 := by omega
  have l2 : m2 < 2147483648 := by omega
  have RSa := fun w => sread_n a w ha m1 g1 e1 f1
  have RSb := fun w => sread_n b w hb m2 g2 e2 f2
  have KLa := fun w => low_n (a : Int) w
  have KLb := fun w => low_n (b : Int) w
  rw [low_n_m a ha] at KLa
  rw [low_n_m b hb] at KLb
  have KF : ∀ w, Tab0 w → 0 < w.heap.size → Hid (Calls Tryd.prog 32 #[.int .i64 96] w fun e w' => e = .returned (.tuple #[.int .i64 96, FVn]) ∧ Below w.heap.size w w') := fun w hT hz => fold_na 96 w (by decide) hT hz
  have KNa := fun w => inan_n (a % 4294967296) m1 w hA e1
  have KNb := fun w => inan_n (b % 4294967296) m2 w hB e2
  rw [decide_eq_false n1] at KNa
  rw [decide_eq_false n2] at KNb
  have KOa := fun w => iorder_n (a % 4294967296) m1 g1 w hA e1 f1
  have KOb := fun w => iorder_n (b % 4294967296) m2 g2 w hB e2 f2
  exact fun w hT hz => if2_96 _ _ _ _ _ _ _ _ _ _ _ w hT hz KF KLa KLb (fun w => holds_96 _ _ _ _ _ _ _ _ w KNa KNb KOa KOb) (fun w => flag_any _ w)
theorem v_150 (a b m1 m2 : Nat) (g1 g2 : Bool) (ha : a < 18446744073709551616) (hb : b < 18446744073709551616) (e1 : m1 = a % 4294967296 % 2147483648) (e2 : m2 = b % 4294967296 % 2147483648) (f1 : g1 = decide (2147483648 ≤ a % 4294967296)) (f2 : g2 = decide (2147483648 ≤ b % 4294967296)) (n1 : ¬ 2139095040 < m1) (n2 : ¬ 2139095040 < m2) : ∃ c : Nat, IF2 150 a b (c : Int) ∧ (c = a % 4294967296 ∨ c = b % 4294967296) ∧ oI (decide (2147483648 ≤ c)) (c % 2147483648) ≤ oI g1 m1 ∧ oI (decide (2147483648 ≤ c)) (c % 2147483648) ≤ oI g2 m2 := by
  have hA : a % 4294967296 < 4294967296 := Nat.mod_lt _ (by decide)
  have hB : b % 4294967296 < 4294967296 := Nat.mod_lt _ (by decide)
  have l1 : m1 < 2147483648 := by omega
  have l2 : m2 < 2147483648 := by omega
  have RSa := fun w => sread_n a w ha m1 g1 e1 f1
  have RSb := fun w => sread_n b w hb m2 g2 e2 f2
  have KLa := fun w => low_n (a : Int) w
  have KLb := fun w => low_n (b : Int) w
  rw [low_n_m a ha] at KLa
  rw [low_n_m b hb] at KLb
  have KF : ∀ w, Tab0 w → 0 < w.heap.size → Hid (Calls Tryd.prog 32 #[.int .i64 150] w fun e w' => e = .returned (.tuple #[.int .i64 150, FVn]) ∧ Below w.heap.size w w') := fun w hT hz => fold_nb 150 w (by decide) (by decide) hT hz
  have KNa := fun w => inan_n (a % 4294967296) m1 w hA e1
  have KNb := fun w => inan_n (b % 4294967296) m2 w hB e2
  rw [decide_eq_false n1] at KNa
  rw [decide_eq_false n2] at KNb
  have KOa := fun w => iorder_n (a % 4294967296) m1 g1 w hA e1 f1
  have KOb := fun w => iorder_n (b % 4294967296) m2 g2 w hB e2 f2
  have cA : oI (decide (2147483648 ≤ a % 4294967296)) (a % 4294967296 % 2147483648) = oI g1 m1 := by rw [← e1, ← f1]
  have cB : oI (decide (2147483648 ≤ b % 4294967296)) (b % 4294967296 % 2147483648) = oI g2 m2 := by rw [← e2, ← f2]
  by_cases hxy : oI g1 m1 = oI g2 m2
  · have hor : ∃ c : Nat, bits .or .u64 ((a % 4294967296 : Nat) : Int) ((b % 4294967296 : Nat) : Int) = (c : Int) ∧ (c = a % 4294967296 ∨ c = b % 4294967296) := by
      have hn := bits_or_u64_nat (a % 4294967296) (b % 4294967296) (by omega) (by omega)
      refine ⟨_, hn, ?_⟩
      have cases2 : (g1 = g2 ∧ m1 = m2) ∨ (g1 ≠ g2 ∧ m1 = 0 ∧ m2 = 0) := by
        unfold oI at hxy
        cases g1 <;> cases g2 <;> simp at hxy ⊢ <;> omega
      have sA : a % 4294967296 = m1 + (if g1 then 2147483648 else 0) := by
        rw [f1]
        by_cases h : 2147483648 ≤ a % 4294967296
        · rw [decide_eq_true h, if_pos rfl]; omega
        · rw [decide_eq_false h, if_neg (by decide)]; omega
      have sB : b % 4294967296 = m2 + (if g2 then 2147483648 else 0) := by
        rw [f2]
        by_cases h : 2147483648 ≤ b % 4294967296
        · rw [decide_eq_true h, if_pos rfl]; omega
        · rw [decide_eq_false h, if_neg (by decide)]; omega
      rcases cases2 with ⟨c1, c2⟩ | ⟨c1, c2, c3⟩
      · have : a % 4294967296 = b % 4294967296 := by rw [sA, sB, c1, c2]
        rw [this]; left; simp
      · rw [sA, sB, c2, c3]
        cases g1 <;> cases g2
        · exact absurd rfl c1
        · decide
        · decide
        · exact absurd rfl c1
    obtain ⟨c, hc, hcc⟩ := hor
    refine ⟨c, fun w hT hz => if2_150 _ _ _ _ _ _ _ _ _ _ w hT hz KF KLa KLb (fun w => ?_), hcc, ?_⟩
    · have h := pick_et _ _ _ _ _ _ _ _ w KNa KNb KOa KOb (by simpa using hxy)
      rw [hc] at h
      exact h
    · rcases hcc with rfl | rfl
      · rw [cA]; omega
      · rw [cB]; omega
  · by_cases hl : oI g1 m1 < oI g2 m2
    · refine ⟨_, fun w hT hz => if2_150 _ _ _ _ _ _ _ _ _ _ w hT hz KF KLa KLb (fun w => pick_a _ _ _ _ true _ _ _ _ w KNa KNb KOa KOb (by simpa using hxy) (by rw [decide_eq_true hl]; rfl)), .inl rfl, ?_⟩
      rw [cA]; omega
    · refine ⟨_, fun w hT hz => if2_150 _ _ _ _ _ _ _ _ _ _ w hT hz KF KLa KLb (fun w => pick_b _ _ _ _ true _ _ _ _ w KNa KNb KOa KOb (by simpa using hxy) (by rw [decide_eq_false hl]; rfl)), .inr rfl, ?_⟩
      rw [cB]; omega
theorem v_151 (a b m1 m2 : Nat) (g1 g2 : Bool) (ha : a < 18446744073709551616) (hb : b < 18446744073709551616) (e1 : m1 = a % 4294967296 % 2147483648) (e2 : m2 = b % 4294967296 % 2147483648) (f1 : g1 = decide (2147483648 ≤ a % 4294967296)) (f2 : g2 = decide (2147483648 ≤ b % 4294967296)) (n1 : ¬ 2139095040 < m1) (n2 : ¬ 2139095040 < m2) : ∃ c : Nat, IF2 151 a b (c : Int) ∧ (c = a % 4294967296 ∨ c = b % 4294967296) ∧ oI g1 m1 ≤ oI (decide (2147483648 ≤ c)) (c % 2147483648) ∧ oI g2 m2 ≤ oI (decide (2147483648 ≤ c)) (c % 2147483648) := by
  have hA : a % 4294967296 < 4294967296 := Nat.mod_lt _ (by decide)
  have hB : b % 4294967296 < 4294967296 := Nat.mod_lt _ (by decide)
  have l1 : m1 < 2147483648 := by omega
  have l2 : m2 < 2147483648 := by omega
  have RSa := fun w => sread_n a w ha m1 g1 e1 f1
  have RSb := fun w => sread_n b w hb m2 g2 e2 f2
  have KLa := fun w => low_n (a : Int) w
  have KLb := fun w => low_n (b : Int) w
  rw [low_n_m a ha] at KLa
  rw [low_n_m b hb] at KLb
  have KF : ∀ w, Tab0 w → 0 < w.heap.size → Hid (Calls Tryd.prog 32 #[.int .i64 151] w fun e w' => e = .returned (.tuple #[.int .i64 151, FVn]) ∧ Below w.heap.size w w') := fun w hT hz => fold_nb 151 w (by decide) (by decide) hT hz
  have KNa := fun w => inan_n (a % 4294967296) m1 w hA e1
  have KNb := fun w => inan_n (b % 4294967296) m2 w hB e2
  rw [decide_eq_false n1] at KNa
  rw [decide_eq_false n2] at KNb
  have KOa := fun w => iorder_n (a % 4294967296) m1 g1 w hA e1 f1
  have KOb := fun w => iorder_n (b % 4294967296) m2 g2 w hB e2 f2
  have cA : oI (decide (2147483648 ≤ a % 4294967296)) (a % 4294967296 % 2147483648) = oI g1 m1 := by rw [← e1, ← f1]
  have cB : oI (decide (2147483648 ≤ b % 4294967296)) (b % 4294967296 % 2147483648) = oI g2 m2 := by rw [← e2, ← f2]
  by_cases hxy : oI g1 m1 = oI g2 m2
  · have hor : ∃ c : Nat, bits .and .u64 ((a % 4294967296 : Nat) : Int) ((b % 4294967296 : Nat) : Int) = (c : Int) ∧ (c = a % 4294967296 ∨ c = b % 4294967296) := by
      have hn := bits_and_u64_nat (a % 4294967296) (b % 4294967296) (by omega) (by omega)
      refine ⟨_, hn, ?_⟩
      have cases2 : (g1 = g2 ∧ m1 = m2) ∨ (g1 ≠ g2 ∧ m1 = 0 ∧ m2 = 0) := by
        unfold oI at hxy
        cases g1 <;> cases g2 <;> simp at hxy ⊢ <;> omega
      have sA : a % 4294967296 = m1 + (if g1 then 2147483648 else 0) := by
        rw [f1]
        by_cases h : 2147483648 ≤ a % 4294967296
        · rw [decide_eq_true h, if_pos rfl]; omega
        · rw [decide_eq_false h, if_neg (by decide)]; omega
      have sB : b % 4294967296 = m2 + (if g2 then 2147483648 else 0) := by
        rw [f2]
        by_cases h : 2147483648 ≤ b % 4294967296
        · rw [decide_eq_true h, if_pos rfl]; omega
        · rw [decide_eq_false h, if_neg (by decide)]; omega
      rcases cases2 with ⟨c1, c2⟩ | ⟨c1, c2, c3⟩
      · have : a % 4294967296 = b % 4294967296 := by rw [sA, sB, c1, c2]
        rw [this]; left; simp
      · rw [sA, sB, c2, c3]
        cases g1 <;> cases g2
        · exact absurd rfl c1
        · decide
        · decide
        · exact absurd rfl c1
    obtain ⟨c, hc, hcc⟩ := hor
    refine ⟨c, fun w hT hz => if2_151 _ _ _ _ _ _ _ _ _ _ w hT hz KF KLa KLb (fun w => ?_), hcc, ?_⟩
    · have h := pick_ef _ _ _ _ _ _ _ _ w KNa KNb KOa KOb (by simpa using hxy)
      rw [hc] at h
      exact h
    · rcases hcc with rfl | rfl
      · rw [cA]; omega
      · rw [cB]; omega
  · by_cases hl : oI g1 m1 < oI g2 m2
    · refine ⟨_, fun w hT hz => if2_151 _ _ _ _ _ _ _ _ _ _ w hT hz KF KLa KLb (fun w => pick_b _ _ _ _ false _ _ _ _ w KNa KNb KOa KOb (by simpa using hxy) (by rw [decide_eq_true hl]; rfl)), .inr rfl, ?_⟩
      rw [cB]; omega
    · refine ⟨_, fun w hT hz => if2_151 _ _ _ _ _ _ _ _ _ _ w hT hz KF KLa KLb (fun w => pick_a _ _ _ _ false _ _ _ _ w KNa KNb KOa KOb (by simpa using hxy) (by rw [decide_eq_false hl]; rfl)), .inl rfl, ?_⟩
      rw [cA]; omega
theorem v_160 (a b m1 m2 : Nat) (g1 g2 : Bool) (ha : a < 18446744073709551616) (hb : b < 18446744073709551616) (e1 : m1 = a % 18446744073709551616 % 9223372036854775808) (e2 : m2 = b % 18446744073709551616 % 9223372036854775808) (f1 : g1 = decide (9223372036854775808 ≤ a % 18446744073709551616)) (f2 : g2 = decide (9223372036854775808 ≤ b % 18446744073709551616)) : IF2 160 a b (plusV_w m1 g1 m2 g2) ∧ SF2 160 a b (plusV_w m1 g1 m2 g2) := by
  have hA : a % 18446744073709551616 < 18446744073709551616 := Nat.mod_lt _ (by decide)
  have hB : b % 18446744073709551616 < 18446744073709551616 := Nat.mod_lt _ (by decide)
  have l1 : m1 < 9223372036854775808 := by omega
  have l2 : m2 < 9223372036854775808 := by omega
  have RSa := fun w => sread_w a w ha m1 g1 e1 f1
  have RSb := fun w => sread_w b w hb m2 g2 e2 f2
  have KLa := fun w => low_w (a : Int) w
  have KLb := fun w => low_w (b : Int) w
  rw [low_w_m a ha] at KLa
  rw [low_w_m b hb] at KLb
  have KF : ∀ w, Tab0 w → 0 < w.heap.size → Hid (Calls Tryd.prog 32 #[.int .i64 160] w fun e w' => e = .returned (.tuple #[.int .i64 146, FVw]) ∧ Below w.heap.size w w') := fun w hT hz => fold_wide 160 w (by decide) (by decide) hT hz
  have KW1 : ∀ w, Hid (Calls Tryd.prog 22 #[.int .i64 160, .int .i64 91, .int .i64 97, .int .i64 6] w fun e w' => e = .returned (.tuple #[FSn, .int .i64 (-1)]) ∧ Below w.heap.size w w') := fun w => wht_c 160 w (by decide) (by decide) (by decide)
  have KW2 : ∀ w, Hid (Calls Tryd.prog 22 #[.int .i64 160, .int .i64 146, .int .i64 160, .int .i64 7] w fun e w' => e = .returned (.tuple #[FSw, .int .i64 0]) ∧ Below w.heap.size w w') := fun w => whb_w 160 w (by decide) (by decide) (by decide) (by decide)
  have RIa := fun w => iread_w (a % 18446744073709551616) w (by omega) m1 g1 (by rw [Nat.mod_mod]; exact e1) (by rw [Nat.mod_mod]; exact f1)
  have RIb := fun w => iread_w (b % 18446744073709551616) w (by omega) m2 g2 (by rw [Nat.mod_mod]; exact e2) (by rw [Nat.mod_mod]; exact f2)
  have ga : m1 ≤ 9218868437227405312 → (if 9218868437227405312 < m1 then false else g1) = g1 := fun h => if_neg (by omega)
  have gb : m2 ≤ 9218868437227405312 → (if 9218868437227405312 < m2 then false else g2) = g2 := fun h => if_neg (by omega)
  obtain ⟨k3, g3, x3, l3, h3, R, H1, H2, H3, hR⟩ := plusE_w m1 m2 g1 g2 _ _ l1 l2 ga gb
  subst hR
  exact ⟨fun w hT hz => if2_146 _ _ _ _ _ _ _ _ _ _ _ _ _ _ _ _ _ _ _ _ _ _ _ _ _ w hT hz KF KLa KLb RIa RIb H1 H2, fun w => sf2_0 _ _ _ _ _ _ _ _ _ _ _ _ _ _ _ w KW1 KW2 RSa RSb H3⟩
theorem v_162 (a b m1 m2 : Nat) (g1 g2 : Bool) (ha : a < 18446744073709551616) (hb : b < 18446744073709551616) (e1 : m1 = a % 18446744073709551616 % 9223372036854775808) (e2 : m2 = b % 18446744073709551616 % 9223372036854775808) (f1 : g1 = decide (9223372036854775808 ≤ a % 18446744073709551616)) (f2 : g2 = decide (9223372036854775808 ≤ b % 18446744073709551616)) : IF2 162 a b (timesV_w m1 g1 m2 g2) ∧ SF2 162 a b (timesV_w m1 g1 m2 g2) := by
  have hA : a % 18446744073709551616 < 18446744073709551616 := Nat.mod_lt _ (by decide)
  have hB : b % 18446744073709551616 < 18446744073709551616 := Nat.mod_lt _ (by decide)
  have l1 : m1 < 9223372036854775808 := by omega
  have l2 : m2 < 9223372036854775808 := by omega
  have RSa := fun w => sread_w a w ha m1 g1 e1 f1
  have RSb := fun w => sread_w b w hb m2 g2 e2 f2
  have KLa := fun w => low_w (a : Int) w
  have KLb := fun w => low_w (b : Int) w
  rw [low_w_m a ha] at KLa
  rw [low_w_m b hb] at KLb
  have KF : ∀ w, Tab0 w → 0 < w.heap.size → Hid (Calls Tryd.prog 32 #[.int .i64 162] w fun e w' => e = .returned (.tuple #[.int .i64 148, FVw]) ∧ Below w.heap.size w w') := fun w hT hz => fold_wide 162 w (by decide) (by decide) hT hz
  have KW1 : ∀ w, Hid (Calls Tryd.prog 22 #[.int .i64 162, .int .i64 91, .int .i64 97, .int .i64 6] w fun e w' => e = .returned (.tuple #[FSn, .int .i64 (-1)]) ∧ Below w.heap.size w w') := fun w => wht_c 162 w (by decide) (by decide) (by decide)
  have KW2 : ∀ w, Hid (Calls Tryd.prog 22 #[.int .i64 162, .int .i64 146, .int .i64 160, .int .i64 7] w fun e w' => e = .returned (.tuple #[FSw, .int .i64 2]) ∧ Below w.heap.size w w') := fun w => whb_w 162 w (by decide) (by decide) (by decide) (by decide)
  have RIa := fun w => iread_w (a % 18446744073709551616) w (by omega) m1 g1 (by rw [Nat.mod_mod]; exact e1) (by rw [Nat.mod_mod]; exact f1)
  have RIb := fun w => iread_w (b % 18446744073709551616) w (by omega) m2 g2 (by rw [Nat.mod_mod]; exact e2) (by rw [Nat.mod_mod]; exact f2)
  have ga : m1 ≤ 9218868437227405312 → (if 9218868437227405312 < m1 then false else g1) = g1 := fun h => if_neg (by omega)
  have gb : m2 ≤ 9218868437227405312 → (if 9218868437227405312 < m2 then false else g2) = g2 := fun h => if_neg (by omega)
  obtain ⟨k3, g3, x3, l3, h3, R, H1, H2, H3, hR⟩ := timesE_w m1 m2 g1 g2 _ _ l1 l2 ga gb
  subst hR
  exact ⟨fun w hT hz => if2_148 _ _ _ _ _ _ _ _ _ _ _ _ _ _ _ _ _ _ _ _ _ _ _ _ _ w hT hz KF KLa KLb RIa RIb H1 H2, fun w => sf2_2 _ _ _ _ _ _ _ _ _ _ _ _ _ _ _ w KW1 KW2 RSa RSb H3⟩
theorem v_161 (a b m1 m2 : Nat) (g1 g2 : Bool) (ha : a < 18446744073709551616) (hb : b < 18446744073709551616) (e1 : m1 = a % 18446744073709551616 % 9223372036854775808) (e2 : m2 = b % 18446744073709551616 % 9223372036854775808) (f1 : g1 = decide (9223372036854775808 ≤ a % 18446744073709551616)) (f2 : g2 = decide (9223372036854775808 ≤ b % 18446744073709551616)) : IF2 161 a b (plusV_w m1 g1 m2 (!g2)) := by
  have hA : a % 18446744073709551616 < 18446744073709551616 := Nat.mod_lt _ (by decide)
  have hB : b % 18446744073709551616 < 18446744073709551616 := Nat.mod_lt _ (by decide)
  have l1 : m1 < 9223372036854775808 := by omega
  have l2 : m2 < 9223372036854775808 := by omega
  have RSa := fun w => sread_w a w ha m1 g1 e1 f1
  have RSb := fun w => sread_w b w hb m2 g2 e2 f2
  have KLa := fun w => low_w (a : Int) w
  have KLb := fun w => low_w (b : Int) w
  rw [low_w_m a ha] at KLa
  rw [low_w_m b hb] at KLb
  have KF : ∀ w, Tab0 w → 0 < w.heap.size → Hid (Calls Tryd.prog 32 #[.int .i64 161] w fun e w' => e = .returned (.tuple #[.int .i64 147, FVw]) ∧ Below w.heap.size w w') := fun w hT hz => fold_wide 161 w (by decide) (by decide) hT hz
  have RIa := fun w => iread_w (a % 18446744073709551616) w (by omega) m1 g1 (by rw [Nat.mod_mod]; exact e1) (by rw [Nat.mod_mod]; exact f1)
  have RIb := fun w => iread_w (b % 18446744073709551616) w (by omega) m2 g2 (by rw [Nat.mod_mod]; exact e2) (by rw [Nat.mod_mod]; exact f2)
  have ga : m1 ≤ 9218868437227405312 → (if 9218868437227405312 < m1 then false else g1) = g1 := fun h => if_neg (by omega)
  have gb : m2 ≤ 9218868437227405312 → (if 9218868437227405312 < m2 then false else g2) = g2 := fun h => if_neg (by omega)
  by_cases n2 : 9218868437227405312 < m2
  · obtain ⟨k3, g3, x3, l3, h3, R, H1, H2, H3, hR⟩ := plusE_w m1 m2 g1 (!g2) _ (!(if 9218868437227405312 < m2 then false else g2)) l1 l2 ga (fun h => absurd n2 (by omega))
    subst hR
    exact fun w hT hz => if2_147 _ _ _ _ _ _ _ _ _ _ _ _ _ _ _ _ _ _ _ _ _ _ _ _ _ w hT hz KF KLa KLb RIa RIb H1 H2
  · obtain ⟨k3, g3, x3, l3, h3, R, H1, H2, H3, hR⟩ := plusE_w m1 m2 g1 (!g2) _ (!(if 9218868437227405312 < m2 then false else g2)) l1 l2 ga (fun h => by rw [gb h])
    subst hR
    exact fun w hT hz => if2_147 _ _ _ _ _ _ _ _ _ _ _ _ _ _ _ _ _ _ _ _ _ _ _ _ _ w hT hz KF KLa KLb RIa RIb H1 H2
theorem v_101 (a b m1 m2 : Nat) (g1 g2 : Bool) (ha : a < 18446744073709551616) (hb : b < 18446744073709551616) (e1 : m1 = a % 18446744073709551616 % 9223372036854775808) (e2 : m2 = b % 18446744073709551616 % 9223372036854775808) (f1 : g1 = decide (9223372036854775808 ≤ a % 18446744073709551616)) (f2 : g2 = decide (9223372036854775808 ≤ b % 18446744073709551616)) (n1 : ¬ 9218868437227405312 < m1) (n2 : ¬ 9218868437227405312 < m2) : IF2 101 a b (if decide (oI g1 m1 ≤ oI g2 m2) then 1 else 0) := by
  have hA : a % 18446744073709551616 < 18446744073709551616 := Nat.mod_lt _ (by decide)
  have hB : b % 18446744073709551616 < 18446744073709551616 := Nat.mod_lt _ (by decide)
  have l1 : m1 < 9223372036854775808 := by omega
  have l2 : m2 < 9223372036854775808 := by omega
  have RSa := fun w => sread_w a w ha m1 g1 e1 f1
  have RSb := fun w => sread_w b w hb m2 g2 e2 f2
  have KLa := fun w => low_w (a : Int) w
  have KLb := fun w => low_w (b : Int) w
  rw [low_w_m a ha] at KLa
  rw [low_w_m b hb] at KLb
  have KF : ∀ w, Tab0 w → 0 < w.heap.size → Hid (Calls Tryd.prog 32 #[.int .i64 101] w fun e w' => e = .returned (.tuple #[.int .i64 95, FVw]) ∧ Below w.heap.size w w') := fun w hT hz => fold_test 101 w (by decide) (by decide) hT hz
  have KNa := fun w => inan_w (a % 18446744073709551616) m1 w hA e1
  have KNb := fun w => inan_w (b % 18446744073709551616) m2 w hB e2
  rw [decide_eq_false n1] at KNa
  rw [decide_eq_false n2] at KNb
  have KOa := fun w => iorder_w (a % 18446744073709551616) m1 g1 w hA e1 f1
  have KOb := fun w => iorder_w (b % 18446744073709551616) m2 g2 w hB e2 f2
  exact fun w hT hz => if2_95 _ _ _ _ _ _ _ _ _ _ _ w hT hz KF KLa KLb (fun w => holds_95 _ _ _ _ _ _ _ _ w KNa KNb KOa KOb) (fun w => flag_any _ w)
theorem v_102 (a b m1 m2 : Nat) (g1 g2 : Bool) (ha : a < 18446744073709551616) (hb : b < 18446744073709551616) (e1 : m1 = a % 18446744073709551616 % 9223372036854775808) (e2 : m2 = b % 18446744073709551616 % 9223372036854775808) (f1 : g1 = decide (9223372036854775808 ≤ a % 18446744073709551616)) (f2 : g2 = decide (9223372036854775808 ≤ b % 18446744073709551616)) (n1 : ¬ 9218868437227405312 < m1) (n2 : ¬ 9218868437227405312 < m2) : IF2 102 a b (if decide (oI g2 m2 ≤ oI g1 m1) then 1 else 0) := by
  have hA : a % 18446744073709551616 < 18446744073709551616 := Nat.mod_lt _ (by decide)
  have hB : b % 18446744073709551616 < 18446744073709551616 := Nat.mod_lt _ (by decide)
  have l1 : m1 < 9223372036854775808 := by omega
  have l2 : m2 < 9223372036854775808 := by omega
  have RSa := fun w => sread_w a w ha m1 g1 e1 f1
  have RSb := fun w => sread_w b w hb m2 g2 e2 f2
  have KLa := fun w => low_w (a : Int) w
  have KLb := fun w => low_w (b : Int) w
  rw [low_w_m a ha] at KLa
  rw [low_w_m b hb] at KLb
  have KF : ∀ w, Tab0 w → 0 < w.heap.size → Hid (Calls Tryd.prog 32 #[.int .i64 102] w fun e w' => e = .returned (.tuple #[.int .i64 96, FVw]) ∧ Below w.heap.size w w') := fun w hT hz => fold_test 102 w (by decide) (by decide) hT hz
  have KNa := fun w => inan_w (a % 18446744073709551616) m1 w hA e1
  have KNb := fun w => inan_w (b % 18446744073709551616) m2 w hB e2
  rw [decide_eq_false n1] at KNa
  rw [decide_eq_false n2] at KNb
  have KOa := fun w => iorder_w (a % 18446744073709551616) m1 g1 w hA e1 f1
  have KOb := fun w => iorder_w (b % 18446744073709551616) m2 g2 w hB e2 f2
  exact fun w hT hz => if2_96 _ _ _ _ _ _ _ _ _ _ _ w hT hz KF KLa KLb (fun w => holds_96 _ _ _ _ _ _ _ _ w KNa KNb KOa KOb) (fun w => flag_any _ w)
theorem v_164 (a b m1 m2 : Nat) (g1 g2 : Bool) (ha : a < 18446744073709551616) (hb : b < 18446744073709551616) (e1 : m1 = a % 18446744073709551616 % 9223372036854775808) (e2 : m2 = b % 18446744073709551616 % 9223372036854775808) (f1 : g1 = decide (9223372036854775808 ≤ a % 18446744073709551616)) (f2 : g2 = decide (9223372036854775808 ≤ b % 18446744073709551616)) (n1 : ¬ 9218868437227405312 < m1) (n2 : ¬ 9218868437227405312 < m2) : ∃ c : Nat, IF2 164 a b (c : Int) ∧ (c = a % 18446744073709551616 ∨ c = b % 18446744073709551616) ∧ oI (decide (9223372036854775808 ≤ c)) (c % 9223372036854775808) ≤ oI g1 m1 ∧ oI (decide (9223372036854775808 ≤ c)) (c % 9223372036854775808) ≤ oI g2 m2 := by
  have hA : a % 18446744073709551616 < 18446744073709551616 := Nat.mod_lt _ (by decide)
  have hB : b % 18446744073709551616 < 18446744073709551616 := Nat.mod_lt _ (by decide)
  have l1 : m1 < 9223372036854775808 := by omega
  have l2 : m2 < 9223372036854775808 := by omega
  have RSa := fun w => sread_w a w ha m1 g1 e1 f1
  have RSb := fun w => sread_w b w hb m2 g2 e2 f2
  have KLa := fun w => low_w (a : Int) w
  have KLb := fun w => low_w (b : Int) w
  rw [low_w_m a ha] at KLa
  rw [low_w_m b hb] at KLb
  have KF : ∀ w, Tab0 w → 0 < w.heap.size → Hid (Calls Tryd.prog 32 #[.int .i64 164] w fun e w' => e = .returned (.tuple #[.int .i64 150, FVw]) ∧ Below w.heap.size w w') := fun w hT hz => fold_wide 164 w (by decide) (by decide) hT hz
  have KNa := fun w => inan_w (a % 18446744073709551616) m1 w hA e1
  have KNb := fun w => inan_w (b % 18446744073709551616) m2 w hB e2
  rw [decide_eq_false n1] at KNa
  rw [decide_eq_false n2] at KNb
  have KOa := fun w => iorder_w (a % 18446744073709551616) m1 g1 w hA e1 f1
  have KOb := fun w => iorder_w (b % 18446744073709551616) m2 g2 w hB e2 f2
  have cA : oI (decide (9223372036854775808 ≤ a % 18446744073709551616)) (a % 18446744073709551616 % 9223372036854775808) = oI g1 m1 := by rw [← e1, ← f1]
  have cB : oI (decide (9223372036854775808 ≤ b % 18446744073709551616)) (b % 18446744073709551616 % 9223372036854775808) = oI g2 m2 := by rw [← e2, ← f2]
  by_cases hxy : oI g1 m1 = oI g2 m2
  · have hor : ∃ c : Nat, bits .or .u64 ((a % 18446744073709551616 : Nat) : Int) ((b % 18446744073709551616 : Nat) : Int) = (c : Int) ∧ (c = a % 18446744073709551616 ∨ c = b % 18446744073709551616) := by
      have hn := bits_or_u64_nat (a % 18446744073709551616) (b % 18446744073709551616) (by omega) (by omega)
      refine ⟨_, hn, ?_⟩
      have cases2 : (g1 = g2 ∧ m1 = m2) ∨ (g1 ≠ g2 ∧ m1 = 0 ∧ m2 = 0) := by
        unfold oI at hxy
        cases g1 <;> cases g2 <;> simp at hxy ⊢ <;> omega
      have sA : a % 18446744073709551616 = m1 + (if g1 then 9223372036854775808 else 0) := by
        rw [f1]
        by_cases h : 9223372036854775808 ≤ a % 18446744073709551616
        · rw [decide_eq_true h, if_pos rfl]; omega
        · rw [decide_eq_false h, if_neg (by decide)]; omega
      have sB : b % 18446744073709551616 = m2 + (if g2 then 9223372036854775808 else 0) := by
        rw [f2]
        by_cases h : 9223372036854775808 ≤ b % 18446744073709551616
        · rw [decide_eq_true h, if_pos rfl]; omega
        · rw [decide_eq_false h, if_neg (by decide)]; omega
      rcases cases2 with ⟨c1, c2⟩ | ⟨c1, c2, c3⟩
      · have : a % 18446744073709551616 = b % 18446744073709551616 := by rw [sA, sB, c1, c2]
        rw [this]; left; simp
      · rw [sA, sB, c2, c3]
        cases g1 <;> cases g2
        · exact absurd rfl c1
        · decide
        · decide
        · exact absurd rfl c1
    obtain ⟨c, hc, hcc⟩ := hor
    refine ⟨c, fun w hT hz => if2_150 _ _ _ _ _ _ _ _ _ _ w hT hz KF KLa KLb (fun w => ?_), hcc, ?_⟩
    · have h := pick_et _ _ _ _ _ _ _ _ w KNa KNb KOa KOb (by simpa using hxy)
      rw [hc] at h
      exact h
    · rcases hcc with rfl | rfl
      · rw [cA]; omega
      · rw [cB]; omega
  · by_cases hl : oI g1 m1 < oI g2 m2
    · refine ⟨_, fun w hT hz => if2_150 _ _ _ _ _ _ _ _ _ _ w hT hz KF KLa KLb (fun w => pick_a _ _ _ _ true _ _ _ _ w KNa KNb KOa KOb (by simpa using hxy) (by rw [decide_eq_true hl]; rfl)), .inl rfl, ?_⟩
      rw [cA]; omega
    · refine ⟨_, fun w hT hz => if2_150 _ _ _ _ _ _ _ _ _ _ w hT hz KF KLa KLb (fun w => pick_b _ _ _ _ true _ _ _ _ w KNa KNb KOa KOb (by simpa using hxy) (by rw [decide_eq_false hl]; rfl)), .inr rfl, ?_⟩
      rw [cB]; omega
theorem v_165 (a b m1 m2 : Nat) (g1 g2 : Bool) (ha : a < 18446744073709551616) (hb : b < 18446744073709551616) (e1 : m1 = a % 18446744073709551616 % 9223372036854775808) (e2 : m2 = b % 18446744073709551616 % 9223372036854775808) (f1 : g1 = decide (9223372036854775808 ≤ a % 18446744073709551616)) (f2 : g2 = decide (9223372036854775808 ≤ b % 18446744073709551616)) (n1 : ¬ 9218868437227405312 < m1) (n2 : ¬ 9218868437227405312 < m2) : ∃ c : Nat, IF2 165 a b (c : Int) ∧ (c = a % 18446744073709551616 ∨ c = b % 18446744073709551616) ∧ oI g1 m1 ≤ oI (decide (9223372036854775808 ≤ c)) (c % 9223372036854775808) ∧ oI g2 m2 ≤ oI (decide (9223372036854775808 ≤ c)) (c % 9223372036854775808) := by
  have hA : a % 18446744073709551616 < 18446744073709551616 := Nat.mod_lt _ (by decide)
  have hB : b % 18446744073709551616 < 18446744073709551616 := Nat.mod_lt _ (by decide)
  have l1 : m1 < 9223372036854775808 := by omega
  have l2 : m2 < 9223372036854775808 := by omega
  have RSa := fun w => sread_w a w ha m1 g1 e1 f1
  have RSb := fun w => sread_w b w hb m2 g2 e2 f2
  have KLa := fun w => low_w (a : Int) w
  have KLb := fun w => low_w (b : Int) w
  rw [low_w_m a ha] at KLa
  rw [low_w_m b hb] at KLb
  have KF : ∀ w, Tab0 w → 0 < w.heap.size → Hid (Calls Tryd.prog 32 #[.int .i64 165] w fun e w' => e = .returned (.tuple #[.int .i64 151, FVw]) ∧ Below w.heap.size w w') := fun w hT hz => fold_wide 165 w (by decide) (by decide) hT hz
  have KNa := fun w => inan_w (a % 18446744073709551616) m1 w hA e1
  have KNb := fun w => inan_w (b % 18446744073709551616) m2 w hB e2
  rw [decide_eq_false n1] at KNa
  rw [decide_eq_false n2] at KNb
  have KOa := fun w => iorder_w (a % 18446744073709551616) m1 g1 w hA e1 f1
  have KOb := fun w => iorder_w (b % 18446744073709551616) m2 g2 w hB e2 f2
  have cA : oI (decide (9223372036854775808 ≤ a % 18446744073709551616)) (a % 18446744073709551616 % 9223372036854775808) = oI g1 m1 := by rw [← e1, ← f1]
  have cB : oI (decide (9223372036854775808 ≤ b % 18446744073709551616)) (b % 18446744073709551616 % 9223372036854775808) = oI g2 m2 := by rw [← e2, ← f2]
  by_cases hxy : oI g1 m1 = oI g2 m2
  · have hor : ∃ c : Nat, bits .and .u64 ((a % 18446744073709551616 : Nat) : Int) ((b % 18446744073709551616 : Nat) : Int) = (c : Int) ∧ (c = a % 18446744073709551616 ∨ c = b % 18446744073709551616) := by
      have hn := bits_and_u64_nat (a % 18446744073709551616) (b % 18446744073709551616) (by omega) (by omega)
      refine ⟨_, hn, ?_⟩
      have cases2 : (g1 = g2 ∧ m1 = m2) ∨ (g1 ≠ g2 ∧ m1 = 0 ∧ m2 = 0) := by
        unfold oI at hxy
        cases g1 <;> cases g2 <;> simp at hxy ⊢ <;> omega
      have sA : a % 18446744073709551616 = m1 + (if g1 then 9223372036854775808 else 0) := by
        rw [f1]
        by_cases h : 9223372036854775808 ≤ a % 18446744073709551616
        · rw [decide_eq_true h, if_pos rfl]; omega
        · rw [decide_eq_false h, if_neg (by decide)]; omega
      have sB : b % 18446744073709551616 = m2 + (if g2 then 9223372036854775808 else 0) := by
        rw [f2]
        by_cases h : 9223372036854775808 ≤ b % 18446744073709551616
        · rw [decide_eq_true h, if_pos rfl]; omega
        · rw [decide_eq_false h, if_neg (by decide)]; omega
      rcases cases2 with ⟨c1, c2⟩ | ⟨c1, c2, c3⟩
      · have : a % 18446744073709551616 = b % 18446744073709551616 := by rw [sA, sB, c1, c2]
        rw [this]; left; simp
      · rw [sA, sB, c2, c3]
        cases g1 <;> cases g2
        · exact absurd rfl c1
        · decide
        · decide
        · exact absurd rfl c1
    obtain ⟨c, hc, hcc⟩ := hor
    refine ⟨c, fun w hT hz => if2_151 _ _ _ _ _ _ _ _ _ _ w hT hz KF KLa KLb (fun w => ?_), hcc, ?_⟩
    · have h := pick_ef _ _ _ _ _ _ _ _ w KNa KNb KOa KOb (by simpa using hxy)
      rw [hc] at h
      exact h
    · rcases hcc with rfl | rfl
      · rw [cA]; omega
      · rw [cB]; omega
  · by_cases hl : oI g1 m1 < oI g2 m2
    · refine ⟨_, fun w hT hz => if2_151 _ _ _ _ _ _ _ _ _ _ w hT hz KF KLa KLb (fun w => pick_b _ _ _ _ false _ _ _ _ w KNa KNb KOa KOb (by simpa using hxy) (by rw [decide_eq_true hl]; rfl)), .inr rfl, ?_⟩
      rw [cB]; omega
    · refine ⟨_, fun w hT hz => if2_151 _ _ _ _ _ _ _ _ _ _ w hT hz KF KLa KLb (fun w => pick_a _ _ _ _ false _ _ _ _ w KNa KNb KOa KOb (by simpa using hxy) (by rw [decide_eq_false hl]; rfl)), .inl rfl, ?_⟩
      rw [cA]; omega
end Go.Proofs.YthmppcfhbbjhlaaDoor
namespace Go.Proofs.YthmppcfhbbjhlaaDoor
open Go.RowKit Go.Sort

theorem half_or (s j : Nat) (h : s % 2 ^ (j + 1) ≠ 0) : s / 2 ^ j % 2 = 1 ∨ s % 2 ^ j ≠ 0 := by
  by_cases h1 : s % 2 ^ j = 0
  · left
    have e := Nat.mod_mul (x := s) (a := 2 ^ j) (b := 2)
    rw [← Nat.pow_succ] at e
    rw [e, h1] at h
    have : s / 2 ^ j % 2 ≠ 0 := fun h0 => h (by rw [h0]; simp)
    omega
  · exact .inr h1
theorem v_141 (a m : Nat) (g : Bool) (ha : a < 18446744073709551616) (hm : m = a % 4294967296 % 2147483648) (hg : g = decide (2147483648 ≤ a % 4294967296)) (n1 : ¬ 2139095040 < m) : ∃ r : Nat, IF1 141 a (sg_n g + (r : Nat)) ∧ r ≤ 2139095040 ∧ (g = false → m ≤ r) ∧ (g = true → r ≤ m) := by
  have hml : m < 2147483648 := by omega
  have RI := fun w => iread_n a w ha m g hm hg
  have KF : ∀ w, Tab0 w → 0 < w.heap.size → Hid (Calls Tryd.prog 32 #[.int .i64 141] w fun e w' => e = .returned (.tuple #[.int .i64 141, FVn]) ∧ Below w.heap.size w w') := fun w hT hz => fold_nb 141 w (by decide) (by decide) hT hz
  have hx := ex_n_b m hml
  have hs := mt_n_b m
  have hkk := kd_n_k m
  rcases Nat.lt_or_eq_of_le (show m ≤ 2139095040 by omega) with hk | hk
  · have hse := self_n m g (by omega)
    have aL := ex_n_L m hk
    rw [kd_n_f hk, wr_n, if_neg (by decide), if_neg (by decide)] at hse
    have hse2 : rnd 24 8 (-149) (mt_n m) (ex_n m) false = m := by omega
    rw [kd_n_f hk, if_neg n1] at RI
    have KX := fun w => iwhole_any g (ex_n m) 1 (mt_n m) w (by omega) (by omega) (by omega) (by omega) (by omega)
    by_cases hxp : 0 ≤ ex_n m
    · simp only [if_pos hxp] at KX
      refine ⟨m, ?_, by omega, fun _ => Nat.le_refl _, fun _ => Nat.le_refl _⟩
      intro w hT hz
      have h := if1_n_141 141 a _ _ _ _ _ w hT hz KF RI _ _ _ _ _ _ KX (fun w => write_n 0 g (ex_n m) (mt_n m) w (.inl rfl) (by omega) (by omega) (by omega))
      rw [wr_n, if_neg (by decide), if_neg (by decide), hse2] at h
      exact h
    · simp only [if_neg hxp] at KX
      have hwl : wh 1 g (mt_n m) (ex_n m) ≤ mt_n m + 1 := by
        unfold wh
        rw [if_neg hxp]
        have := Nat.div_le_self (mt_n m) (2 ^ (-ex_n m).toNat)
        split <;> omega
      obtain ⟨W0, hW0⟩ : ∃ W0, W0 = wh 1 g (mt_n m) (ex_n m) := ⟨_, rfl⟩
      have hge : ∀ b : Bool, g = b → ((b = true → W0 = mt_n m / 2 ^ (-ex_n m).toNat) ∧ (b = false → mt_n m ≤ W0 * 2 ^ (-ex_n m).toNat)) := fun b hbb => by
        rw [hW0]; unfold wh
        rw [if_neg hxp, hbb]
        have hpos := Nat.two_pow_pos (-ex_n m).toNat
        constructor
        · rintro rfl
          rw [if_neg (by simp [goes])]; omega
        · rintro rfl
          have hd := Nat.mod_add_div (mt_n m) (2 ^ (-ex_n m).toNat)
          have hml2 := Nat.mod_lt (mt_n m) hpos
          by_cases hz : mt_n m % 2 ^ (-ex_n m).toNat = 0
          · rw [Nat.add_mul]
            have := Nat.div_mul_cancel (Nat.dvd_of_mod_eq_zero hz)
            omega
          · rw [if_pos]
            · rw [Nat.add_mul, Nat.mul_comm]; omega
            · have hj : (-ex_n m).toNat = ((-ex_n m).toNat - 1) + 1 := by omega
              have := half_or (mt_n m) ((-ex_n m).toNat - 1) (by rw [← hj]; exact hz)
              simp only [goes]
              simpa using this
      refine ⟨rnd 24 8 (-149) W0 0 false, ?_, rnd_n_le _ _ _, fun hgg => ?_, fun hgg => ?_⟩
      · intro w hT hz
        have h := if1_n_141 141 a _ _ _ _ _ w hT hz KF RI _ _ _ _ _ _ KX (fun w => write_n 0 g 0 _ w (.inl rfl) (by omega) (by omega) (by omega))
        rw [wr_n, if_neg (by decide), if_neg (by decide), ← hW0] at h
        exact h
      · have h1 := (hge g rfl).2 hgg
        have h2 := rnd_le (p := 24) (e := 8) (L := -149) (s := mt_n m) (t := W0) (x := ex_n m) (y := 0) (by decide) (k := ex_n m) (by omega) (by omega) (by
          rw [show (ex_n m - ex_n m).toNat = 0 by omega, show (0 - ex_n m).toNat = (-ex_n m).toNat by omega, Nat.pow_zero, Nat.mul_one]
          exact h1)
        rw [hse2] at h2
        exact h2
      · have h1 := (hge g rfl).1 hgg
        have h2 := rnd_le (p := 24) (e := 8) (L := -149) (s := W0) (t := mt_n m) (x := 0) (y := ex_n m) (by decide) (k := ex_n m) (by omega) (by omega) (by
          rw [h1, show (ex_n m - ex_n m).toNat = 0 by omega, show (0 - ex_n m).toNat = (-ex_n m).toNat by omega, Nat.pow_zero, Nat.mul_one]
          exact Nat.div_mul_le_self _ _)
        rw [hse2] at h2
        exact h2
  · refine ⟨2139095040, ?_, Nat.le_refl _, fun _ => by omega, fun _ => by omega⟩
    intro w hT hz
    rw [hk, if_neg (by decide), kd_n_i] at RI
    refine if1_n_141 141 a _ _ _ _ _ w hT hz KF RI _ _ _ _ _ _ (fun w => iwhole_k _ _ _ _ _ 1 w (by decide)) (fun w => ?_)
    have h := write_n 1 g (ex_n 2139095040) (mt_n 2139095040) w (.inr (.inl rfl)) (by decide) (by decide) (by decide)
    rw [wr_n, if_neg (by decide), if_pos rfl] at h
    exact h
theorem v_142 (a m : Nat) (g : Bool) (ha : a < 18446744073709551616) (hm : m = a % 4294967296 % 2147483648) (hg : g = decide (2147483648 ≤ a % 4294967296)) (n1 : ¬ 2139095040 < m) : ∃ r : Nat, IF1 142 a (sg_n g + (r : Nat)) ∧ r ≤ 2139095040 ∧ (g = false → r ≤ m) ∧ (g = true → m ≤ r) := by
  have hml : m < 2147483648 := by omega
  have RI := fun w => iread_n a w ha m g hm hg
  have KF : ∀ w, Tab0 w → 0 < w.heap.size → Hid (Calls Tryd.prog 32 #[.int .i64 142] w fun e w' => e = .returned (.tuple #[.int .i64 142, FVn]) ∧ Below w.heap.size w w') := fun w hT hz => fold_nb 142 w (by decide) (by decide) hT hz
  have hx := ex_n_b m hml
  have hs := mt_n_b m
  have hkk := kd_n_k m
  rcases Nat.lt_or_eq_of_le (show m ≤ 2139095040 by omega) with hk | hk
  · have hse := self_n m g (by omega)
    have aL := ex_n_L m hk
    rw [kd_n_f hk, wr_n, if_neg (by decide), if_neg (by decide)] at hse
    have hse2 : rnd 24 8 (-149) (mt_n m) (ex_n m) false = m := by omega
    rw [kd_n_f hk, if_neg n1] at RI
    have KX := fun w => iwhole_any g (ex_n m) 2 (mt_n m) w (by omega) (by omega) (by omega) (by omega) (by omega)
    by_cases hxp : 0 ≤ ex_n m
    · simp only [if_pos hxp] at KX
      refine ⟨m, ?_, by omega, fun _ => Nat.le_refl _, fun _ => Nat.le_refl _⟩
      intro w hT hz
      have h := if1_n_142 142 a _ _ _ _ _ w hT hz KF RI _ _ _ _ _ _ KX (fun w => write_n 0 g (ex_n m) (mt_n m) w (.inl rfl) (by omega) (by omega) (by omega))
      rw [wr_n, if_neg (by decide), if_neg (by decide), hse2] at h
      exact h
    · simp only [if_neg hxp] at KX
      have hwl : wh 2 g (mt_n m) (ex_n m) ≤ mt_n m + 1 := by
        unfold wh
        rw [if_neg hxp]
        have := Nat.div_le_self (mt_n m) (2 ^ (-ex_n m).toNat)
        split <;> omega
      obtain ⟨W0, hW0⟩ : ∃ W0, W0 = wh 2 g (mt_n m) (ex_n m) := ⟨_, rfl⟩
      have hge : ∀ b : Bool, g = b → ((b = false → W0 = mt_n m / 2 ^ (-ex_n m).toNat) ∧ (b = true → mt_n m ≤ W0 * 2 ^ (-ex_n m).toNat)) := fun b hbb => by
        rw [hW0]; unfold wh
        rw [if_neg hxp, hbb]
        have hpos := Nat.two_pow_pos (-ex_n m).toNat
        constructor
        · rintro rfl
          rw [if_neg (by simp [goes])]; omega
        · rintro rfl
          have hd := Nat.mod_add_div (mt_n m) (2 ^ (-ex_n m).toNat)
          have hml2 := Nat.mod_lt (mt_n m) hpos
          by_cases hz : mt_n m % 2 ^ (-ex_n m).toNat = 0
          · rw [Nat.add_mul]
            have := Nat.div_mul_cancel (Nat.dvd_of_mod_eq_zero hz)
            omega
          · rw [if_pos]
            · rw [Nat.add_mul, Nat.mul_comm]; omega
            · have hj : (-ex_n m).toNat = ((-ex_n m).toNat - 1) + 1 := by omega
              have := half_or (mt_n m) ((-ex_n m).toNat - 1) (by rw [← hj]; exact hz)
              simp only [goes]
              simpa using this
      refine ⟨rnd 24 8 (-149) W0 0 false, ?_, rnd_n_le _ _ _, fun hgg => ?_, fun hgg => ?_⟩
      · intro w hT hz
        have h := if1_n_142 142 a _ _ _ _ _ w hT hz KF RI _ _ _ _ _ _ KX (fun w => write_n 0 g 0 _ w (.inl rfl) (by omega) (by omega) (by omega))
        rw [wr_n, if_neg (by decide), if_neg (by decide), ← hW0] at h
        exact h
      · have h1 := (hge g rfl).1 hgg
        have h2 := rnd_le (p := 24) (e := 8) (L := -149) (s := W0) (t := mt_n m) (x := 0) (y := ex_n m) (by decide) (k := ex_n m) (by omega) (by omega) (by
          rw [h1, show (ex_n m - ex_n m).toNat = 0 by omega, show (0 - ex_n m).toNat = (-ex_n m).toNat by omega, Nat.pow_zero, Nat.mul_one]
          exact Nat.div_mul_le_self _ _)
        rw [hse2] at h2
        exact h2
      · have h1 := (hge g rfl).2 hgg
        have h2 := rnd_le (p := 24) (e := 8) (L := -149) (s := mt_n m) (t := W0) (x := ex_n m) (y := 0) (by decide) (k := ex_n m) (by omega) (by omega) (by
          rw [show (ex_n m - ex_n m).toNat = 0 by omega, show (0 - ex_n m).toNat = (-ex_n m).toNat by omega, Nat.pow_zero, Nat.mul_one]
          exact h1)
        rw [hse2] at h2
        exact h2
  · refine ⟨2139095040, ?_, Nat.le_refl _, fun _ => by omega, fun _ => by omega⟩
    intro w hT hz
    rw [hk, if_neg (by decide), kd_n_i] at RI
    refine if1_n_142 142 a _ _ _ _ _ w hT hz KF RI _ _ _ _ _ _ (fun w => iwhole_k _ _ _ _ _ 2 w (by decide)) (fun w => ?_)
    have h := write_n 1 g (ex_n 2139095040) (mt_n 2139095040) w (.inr (.inl rfl)) (by decide) (by decide) (by decide)
    rw [wr_n, if_neg (by decide), if_pos rfl] at h
    exact h
theorem v_155 (a m : Nat) (g : Bool) (ha : a < 18446744073709551616) (hm : m = a % 18446744073709551616 % 9223372036854775808) (hg : g = decide (9223372036854775808 ≤ a % 18446744073709551616)) (n1 : ¬ 9218868437227405312 < m) : ∃ r : Nat, IF1 155 a (sg_w g + (r : Nat)) ∧ r ≤ 9218868437227405312 ∧ (g = false → m ≤ r) ∧ (g = true → r ≤ m) := by
  have hml : m < 9223372036854775808 := by omega
  have RI := fun w => iread_w a w ha m g hm hg
  have KF : ∀ w, Tab0 w → 0 < w.heap.size → Hid (Calls Tryd.prog 32 #[.int .i64 155] w fun e w' => e = .returned (.tuple #[.int .i64 141, FVw]) ∧ Below w.heap.size w w') := fun w hT hz => fold_wide 155 w (by decide) (by decide) hT hz
  have hx := ex_w_b m hml
  have hs := mt_w_b m
  have hkk := kd_w_k m
  rcases Nat.lt_or_eq_of_le (show m ≤ 9218868437227405312 by omega) with hk | hk
  · have hse := self_w m g (by omega)
    have aL := ex_w_L m hk
    rw [kd_w_f hk, wr_w, if_neg (by decide), if_neg (by decide)] at hse
    have hse2 : rnd 53 11 (-1074) (mt_w m) (ex_w m) false = m := by omega
    rw [kd_w_f hk, if_neg n1] at RI
    have KX := fun w => iwhole_any g (ex_w m) 1 (mt_w m) w (by omega) (by omega) (by omega) (by omega) (by omega)
    by_cases hxp : 0 ≤ ex_w m
    · simp only [if_pos hxp] at KX
      refine ⟨m, ?_, by omega, fun _ => Nat.le_refl _, fun _ => Nat.le_refl _⟩
      intro w hT hz
      have h := if1_w_141 155 a _ _ _ _ _ w hT hz KF RI _ _ _ _ _ _ KX (fun w => write_w 0 g (ex_w m) (mt_w m) w (.inl rfl) (by omega) (by omega) (by omega))
      rw [wr_w, if_neg (by decide), if_neg (by decide), hse2] at h
      exact h
    · simp only [if_neg hxp] at KX
      have hwl : wh 1 g (mt_w m) (ex_w m) ≤ mt_w m + 1 := by
        unfold wh
        rw [if_neg hxp]
        have := Nat.div_le_self (mt_w m) (2 ^ (-ex_w m).toNat)
        split <;> omega
      obtain ⟨W0, hW0⟩ : ∃ W0, W0 = wh 1 g (mt_w m) (ex_w m) := ⟨_, rfl⟩
      have hge : ∀ b : Bool, g = b → ((b = true → W0 = mt_w m / 2 ^ (-ex_w m).toNat) ∧ (b = false → mt_w m ≤ W0 * 2 ^ (-ex_w m).toNat)) := fun b hbb => by
        rw [hW0]; unfold wh
        rw [if_neg hxp, hbb]
        have hpos := Nat.two_pow_pos (-ex_w m).toNat
        constructor
        · rintro rfl
          rw [if_neg (by simp [goes])]; omega
        · rintro rfl
          have hd := Nat.mod_add_div (mt_w m) (2 ^ (-ex_w m).toNat)
          have hml2 := Nat.mod_lt (mt_w m) hpos
          by_cases hz : mt_w m % 2 ^ (-ex_w m).toNat = 0
          · rw [Nat.add_mul]
            have := Nat.div_mul_cancel (Nat.dvd_of_mod_eq_zero hz)
            omega
          · rw [if_pos]
            · rw [Nat.add_mul, Nat.mul_comm]; omega
            · have hj : (-ex_w m).toNat = ((-ex_w m).toNat - 1) + 1 := by omega
              have := half_or (mt_w m) ((-ex_w m).toNat - 1) (by rw [← hj]; exact hz)
              simp only [goes]
              simpa using this
      refine ⟨rnd 53 11 (-1074) W0 0 false, ?_, rnd_w_le _ _ _, fun hgg => ?_, fun hgg => ?_⟩
      · intro w hT hz
        have h := if1_w_141 155 a _ _ _ _ _ w hT hz KF RI _ _ _ _ _ _ KX (fun w => write_w 0 g 0 _ w (.inl rfl) (by omega) (by omega) (by omega))
        rw [wr_w, if_neg (by decide), if_neg (by decide), ← hW0] at h
        exact h
      · have h1 := (hge g rfl).2 hgg
        have h2 := rnd_le (p := 53) (e := 11) (L := -1074) (s := mt_w m) (t := W0) (x := ex_w m) (y := 0) (by decide) (k := ex_w m) (by omega) (by omega) (by
          rw [show (ex_w m - ex_w m).toNat = 0 by omega, show (0 - ex_w m).toNat = (-ex_w m).toNat by omega, Nat.pow_zero, Nat.mul_one]
          exact h1)
        rw [hse2] at h2
        exact h2
      · have h1 := (hge g rfl).1 hgg
        have h2 := rnd_le (p := 53) (e := 11) (L := -1074) (s := W0) (t := mt_w m) (x := 0) (y := ex_w m) (by decide) (k := ex_w m) (by omega) (by omega) (by
          rw [h1, show (ex_w m - ex_w m).toNat = 0 by omega, show (0 - ex_w m).toNat = (-ex_w m).toNat by omega, Nat.pow_zero, Nat.mul_one]
          exact Nat.div_mul_le_self _ _)
        rw [hse2] at h2
        exact h2
  · refine ⟨9218868437227405312, ?_, Nat.le_refl _, fun _ => by omega, fun _ => by omega⟩
    intro w hT hz
    rw [hk, if_neg (by decide), kd_w_i] at RI
    refine if1_w_141 155 a _ _ _ _ _ w hT hz KF RI _ _ _ _ _ _ (fun w => iwhole_k _ _ _ _ _ 1 w (by decide)) (fun w => ?_)
    have h := write_w 1 g (ex_w 9218868437227405312) (mt_w 9218868437227405312) w (.inr (.inl rfl)) (by decide) (by decide) (by decide)
    rw [wr_w, if_neg (by decide), if_pos rfl] at h
    exact h
theorem v_156 (a m : Nat) (g : Bool) (ha : a < 18446744073709551616) (hm : m = a % 18446744073709551616 % 9223372036854775808) (hg : g = decide (9223372036854775808 ≤ a % 18446744073709551616)) (n1 : ¬ 9218868437227405312 < m) : ∃ r : Nat, IF1 156 a (sg_w g + (r : Nat)) ∧ r ≤ 9218868437227405312 ∧ (g = false → r ≤ m) ∧ (g = true → m ≤ r) := by
  have hml : m < 9223372036854775808 := by omega
  have RI := fun w => iread_w a w ha m g hm hg
  have KF : ∀ w, Tab0 w → 0 < w.heap.size → Hid (Calls Tryd.prog 32 #[.int .i64 156] w fun e w' => e = .returned (.tuple #[.int .i64 142, FVw]) ∧ Below w.heap.size w w') := fun w hT hz => fold_wide 156 w (by decide) (by decide) hT hz
  have hx := ex_w_b m hml
  have hs := mt_w_b m
  have hkk := kd_w_k m
  rcases Nat.lt_or_eq_of_le (show m ≤ 9218868437227405312 by omega) with hk | hk
  · have hse := self_w m g (by omega)
    have aL := ex_w_L m hk
    rw [kd_w_f hk, wr_w, if_neg (by decide), if_neg (by decide)] at hse
    have hse2 : rnd 53 11 (-1074) (mt_w m) (ex_w m) false = m := by omega
    rw [kd_w_f hk, if_neg n1] at RI
    have KX := fun w => iwhole_any g (ex_w m) 2 (mt_w m) w (by omega) (by omega) (by omega) (by omega) (by omega)
    by_cases hxp : 0 ≤ ex_w m
    · simp only [if_pos hxp] at KX
      refine ⟨m, ?_, by omega, fun _ => Nat.le_refl _, fun _ => Nat.le_refl _⟩
      intro w hT hz
      have h := if1_w_142 156 a _ _ _ _ _ w hT hz KF RI _ _ _ _ _ _ KX (fun w => write_w 0 g (ex_w m) (mt_w m) w (.inl rfl) (by omega) (by omega) (by omega))
      rw [wr_w, if_neg (by decide), if_neg (by decide), hse2] at h
      exact h
    · simp only [if_neg hxp] at KX
      have hwl : wh 2 g (mt_w m) (ex_w m) ≤ mt_w m + 1 := by
        unfold wh
        rw [if_neg hxp]
        have := Nat.div_le_self (mt_w m) (2 ^ (-ex_w m).toNat)
        split <;> omega
      obtain ⟨W0, hW0⟩ : ∃ W0, W0 = wh 2 g (mt_w m) (ex_w m) := ⟨_, rfl⟩
      have hge : ∀ b : Bool, g = b → ((b = false → W0 = mt_w m / 2 ^ (-ex_w m).toNat) ∧ (b = true → mt_w m ≤ W0 * 2 ^ (-ex_w m).toNat)) := fun b hbb => by
        rw [hW0]; unfold wh
        rw [if_neg hxp, hbb]
        have hpos := Nat.two_pow_pos (-ex_w m).toNat
        constructor
        · rintro rfl
          rw [if_neg (by simp [goes])]; omega
        · rintro rfl
          have hd := Nat.mod_add_div (mt_w m) (2 ^ (-ex_w m).toNat)
          have hml2 := Nat.mod_lt (mt_w m) hpos
          by_cases hz : mt_w m % 2 ^ (-ex_w m).toNat = 0
          · rw [Nat.add_mul]
            have := Nat.div_mul_cancel (Nat.dvd_of_mod_eq_zero hz)
            omega
          · rw [if_pos]
            · rw [Nat.add_mul, Nat.mul_comm]; omega
            · have hj : (-ex_w m).toNat = ((-ex_w m).toNat - 1) + 1 := by omega
              have := half_or (mt_w m) ((-ex_w m).toNat - 1) (by rw [← hj]; exact hz)
              simp only [goes]
              simpa using this
      refine ⟨rnd 53 11 (-1074) W0 0 false, ?_, rnd_w_le _ _ _, fun hgg => ?_, fun hgg => ?_⟩
      · intro w hT hz
        have h := if1_w_142 156 a _ _ _ _ _ w hT hz KF RI _ _ _ _ _ _ KX (fun w => write_w 0 g 0 _ w (.inl rfl) (by omega) (by omega) (by omega))
        rw [wr_w, if_neg (by decide), if_neg (by decide), ← hW0] at h
        exact h
      · have h1 := (hge g rfl).1 hgg
        have h2 := rnd_le (p := 53) (e := 11) (L := -1074) (s := W0) (t := mt_w m) (x := 0) (y := ex_w m) (by decide) (k := ex_w m) (by omega) (by omega) (by
          rw [h1, show (ex_w m - ex_w m).toNat = 0 by omega, show (0 - ex_w m).toNat = (-ex_w m).toNat by omega, Nat.pow_zero, Nat.mul_one]
          exact Nat.div_mul_le_self _ _)
        rw [hse2] at h2
        exact h2
      · have h1 := (hge g rfl).2 hgg
        have h2 := rnd_le (p := 53) (e := 11) (L := -1074) (s := mt_w m) (t := W0) (x := ex_w m) (y := 0) (by decide) (k := ex_w m) (by omega) (by omega) (by
          rw [show (ex_w m - ex_w m).toNat = 0 by omega, show (0 - ex_w m).toNat = (-ex_w m).toNat by omega, Nat.pow_zero, Nat.mul_one]
          exact h1)
        rw [hse2] at h2
        exact h2
  · refine ⟨9218868437227405312, ?_, Nat.le_refl _, fun _ => by omega, fun _ => by omega⟩
    intro w hT hz
    rw [hk, if_neg (by decide), kd_w_i] at RI
    refine if1_w_142 156 a _ _ _ _ _ w hT hz KF RI _ _ _ _ _ _ (fun w => iwhole_k _ _ _ _ _ 2 w (by decide)) (fun w => ?_)
    have h := write_w 1 g (ex_w 9218868437227405312) (mt_w 9218868437227405312) w (.inr (.inl rfl)) (by decide) (by decide) (by decide)
    rw [wr_w, if_neg (by decide), if_pos rfl] at h
    exact h
end Go.Proofs.YthmppcfhbbjhlaaDoor
