import Derived.Test.YthmppcfhbbjhlaaDoorYv
import Derived.Test.YthmppcfhbbjhlaaDoorYy
set_option linter.all false
namespace Go.Proofs.YthmppcfhbbjhlaaDoor
open Go.RowKit Go.Sort

theorem v_149 (a b m1 m2 : Nat) (g1 g2 : Bool) (ha : a < 18446744073709551616) (hb : b < 18446744073709551616) (e1 : m1 = a % 4294967296 % 2147483648) (e2 : m2 = b % 4294967296 % 2147483648) (f1 : g1 = decide (2147483648 ≤ a % 4294967296)) (f2 : g2 = decide (2147483648 ≤ b % 4294967296)) : IF2 149 a b (byV_n m1 g1 m2 g2) := by
  have hA : a % 4294967296 < 4294967296 := Nat.mod_lt _ (by decide)
  have hB : b % 4294967296 < 4294967296 := Nat.mod_lt _ (by decide)
  have l1 : m1 < 2147483648 := by omega
  have l2 : m2 < 2147483648 := by omega
  have RSa := fun w => sread_n a w ha m1 g1 e1 f1
  have RSb := fun w => sread_n b w hb m2 g2 e2 f2
  have KLa := fun w => low_n (a : Int) w
  have KLb := fun w => low_n (b : Int) w
  rw [low_n_m a ha] at KLa
  rw [low_n_m b hb] at KLb
  have KF : ∀ w, Tab0 w → 0 < w.heap.size → Hid (Calls Tryd.prog 32 #[.int .i64 149] w fun e w' => e = .returned (.tuple #[.int .i64 149, FVn]) ∧ Below w.heap.size w w') := fun w hT hz => fold_nb 149 w (by decide) (by decide) hT hz
  have RIa := fun w => iread_n (a % 4294967296) w (by omega) m1 g1 (by rw [Nat.mod_mod]; exact e1) (by rw [Nat.mod_mod]; exact f1)
  have RIb := fun w => iread_n (b % 4294967296) w (by omega) m2 g2 (by rw [Nat.mod_mod]; exact e2) (by rw [Nat.mod_mod]; exact f2)
  have ga : m1 ≤ 2139095040 → (if 2139095040 < m1 then false else g1) = g1 := fun h => if_neg (by omega)
  have gb : m2 ≤ 2139095040 → (if 2139095040 < m2 then false else g2) = g2 := fun h => if_neg (by omega)
  obtain ⟨k3, g3, x3, l3, h3, R, H1, H2, H3, hR⟩ := byE_n m1 m2 g1 g2 _ _ l1 l2 ga gb
  subst hR
  exact fun w hT hz => if2_149 _ _ _ _ _ _ _ _ _ _ _ _ _ _ _ _ _ _ _ _ _ _ _ _ _ w hT hz KF KLa KLb RIa RIb H1 H2
theorem v_163 (a b m1 m2 : Nat) (g1 g2 : Bool) (ha : a < 18446744073709551616) (hb : b < 18446744073709551616) (e1 : m1 = a % 18446744073709551616 % 9223372036854775808) (e2 : m2 = b % 18446744073709551616 % 9223372036854775808) (f1 : g1 = decide (9223372036854775808 ≤ a % 18446744073709551616)) (f2 : g2 = decide (9223372036854775808 ≤ b % 18446744073709551616)) : IF2 163 a b (byV_w m1 g1 m2 g2) := by
  have hA : a % 18446744073709551616 < 18446744073709551616 := Nat.mod_lt _ (by decide)
  have hB : b % 18446744073709551616 < 18446744073709551616 := Nat.mod_lt _ (by decide)
  have l1 : m1 < 9223372036854775808 := by omega
  have l2 : m2 < 9223372036854775808 := by omega
  have RSa := fun w => sread_w a w ha m1 g1 e1 f1
  have RSb := fun w => sread_w b w hb m2 g2 e2 f2
  have KLa := fun w => low_w (a : Int) w
  have KLb := fun w => low_w (b : Int) w
  rw [low_w_m a ha] at KLa
  rw [low_w_m b hb] at KLb
  have KF : ∀ w, Tab0 w → 0 < w.heap.size → Hid (Calls Tryd.prog 32 #[.int .i64 163] w fun e w' => e = .returned (.tuple #[.int .i64 149, FVw]) ∧ Below w.heap.size w w') := fun w hT hz => fold_wide 163 w (by decide) (by decide) hT hz
  have RIa := fun w => iread_w (a % 18446744073709551616) w (by omega) m1 g1 (by rw [Nat.mod_mod]; exact e1) (by rw [Nat.mod_mod]; exact f1)
  have RIb := fun w => iread_w (b % 18446744073709551616) w (by omega) m2 g2 (by rw [Nat.mod_mod]; exact e2) (by rw [Nat.mod_mod]; exact f2)
  have ga : m1 ≤ 9218868437227405312 → (if 9218868437227405312 < m1 then false else g1) = g1 := fun h => if_neg (by omega)
  have gb : m2 ≤ 9218868437227405312 → (if 9218868437227405312 < m2 then false else g2) = g2 := fun h => if_neg (by omega)
  obtain ⟨k3, g3, x3, l3, h3, R, H1, H2, H3, hR⟩ := byE_w m1 m2 g1 g2 _ _ l1 l2 ga gb
  subst hR
  exact fun w hT hz => if2_149 _ _ _ _ _ _ _ _ _ _ _ _ _ _ _ _ _ _ _ _ _ _ _ _ _ w hT hz KF KLa KLb RIa RIb H1 H2
theorem sgm_n (a m : Nat) (g : Bool) (ha : a < 4294967296) (e : m = a % 2147483648) (f : g = decide (2147483648 ≤ a)) : sg_n g + (m : Nat) = (a : Int) := by
  rw [f]; unfold sg_n
  by_cases h : 2147483648 ≤ a
  · rw [decide_eq_true h, if_pos rfl]; omega
  · rw [decide_eq_false h, if_neg (by decide)]; omega
theorem sgn_of_n (g : Bool) (r : Nat) (hr : r < 2147483648) : ∃ c : Nat, sg_n g + (r : Nat) = (c : Int) ∧ c < 4294967296 ∧ c % 2147483648 = r ∧ decide (2147483648 ≤ c) = g := by
  cases g
  · refine ⟨r, by simp [sg_n], by omega, by omega, decide_eq_false (by omega)⟩
  · refine ⟨2147483648 + r, by simp [sg_n], by omega, by omega, decide_eq_true (by omega)⟩
theorem xor_s_n (g : Bool) (r : Nat) (hr : r < 2147483648) : bits .xor .u64 (sg_n (!g) + (r : Nat)) 2147483648 = sg_n g + (r : Nat) := by
  have hx : ∀ c : Nat, c < 18446744073709551616 → bits .xor .u64 (c : Int) 2147483648 = ((c ^^^ 2147483648 : Nat) : Int) := fun c hc => bits_xor_u64_nat c 2147483648 hc (by decide)
  have hs : r ^^^ 2147483648 = r + 2147483648 := by
    have h1 : r ^^^ 2147483648 = r ||| 2147483648 := by
      apply Nat.eq_of_testBit_eq
      intro i
      rw [Nat.testBit_xor, Nat.testBit_or, show (2147483648 : Nat) = 2 ^ 31 by decide, Nat.testBit_two_pow]
      by_cases hi : 31 = i
      · subst hi
        rw [Nat.testBit_lt_two_pow (show r < 2 ^ 31 by rw [show (2 : Nat) ^ 31 = 2147483648 by decide]; exact hr)]; simp
      · simp [hi]
    have h2 := or_add' 1 r 31 (by rw [show (2 : Nat) ^ 31 = 2147483648 by decide]; exact hr)
    rw [show (2 : Nat) ^ 31 = 2147483648 by decide, Nat.one_mul] at h2
    rw [h1, h2]; omega
  cases g
  · have h := hx (2147483648 + r) (by omega)
    rw [show 2147483648 + r = r ^^^ 2147483648 by omega, Nat.xor_assoc, Nat.xor_self, Nat.xor_zero] at h
    rw [show sg_n (!false) + (r : Int) = ((r ^^^ 2147483648 : Nat) : Int) by rw [hs]; simp [sg_n]; omega, h]
    simp [sg_n]
  · have h := hx r (by omega)
    rw [hs] at h
    rw [show sg_n (!true) + (r : Int) = (r : Int) by simp [sg_n], h]
    simp [sg_n]; omega
theorem packE_n (a b : Nat) (ha : a < 4294967296) (hb : b < 4294967296) : ∃ S P x y : Int, IF2 146 a b S ∧ SF2 146 a b S ∧ IF2 146 b a S ∧ IF2 148 a b P ∧ SF2 148 a b P ∧ IF2 148 b a P ∧ IF2 147 a b x ∧ IF2 147 b a y ∧
    (0 ≤ x ∧ x ≤ 18446744073709551615) ∧ (decide (2139095040 < x % 2147483648) = true ∨ (decide (2139095040 < x % 2147483648) = false ∧ x % 2147483648 = 0) ∨ (decide (2139095040 < x % 2147483648) = false ∧ x % 2147483648 ≠ 0 ∧ bits .xor .u64 y 2147483648 = x)) ∧
    (decide (2139095040 < (a : Int) % 2147483648) = true ∨ decide (2139095040 < (b : Int) % 2147483648) = true → S = 2143289344 ∧ P = 2143289344) := by
  have ha' : a % 4294967296 = a := Nat.mod_eq_of_lt ha
  have hb' : b % 4294967296 = b := Nat.mod_eq_of_lt hb
  obtain ⟨A1, A2⟩ := v_146 a b _ _ _ _ (by omega) (by omega) rfl rfl rfl rfl
  have A3 := (v_146 b a _ _ _ _ (by omega) (by omega) rfl rfl rfl rfl).1
  obtain ⟨M1, M2⟩ := v_148 a b _ _ _ _ (by omega) (by omega) rfl rfl rfl rfl
  have M3 := (v_148 b a _ _ _ _ (by omega) (by omega) rfl rfl rfl rfl).1
  have D1 := v_147 a b _ _ _ _ (by omega) (by omega) rfl rfl rfl rfl
  have D2 := v_147 b a _ _ _ _ (by omega) (by omega) rfl rfl rfl rfl
  rw [ha', hb'] at A1 A2 A3 M1 M2 M3 D1 D2
  rw [plusV_comm_n _ _ _ _ (by omega) (by omega)] at A3
  rw [timesV_comm_n] at M3
  refine ⟨_, _, _, _, A1, A2, A3, M1, M2, M3, D1, D2, ?_⟩
  have hbd : ∀ z, (z = 2143289344 ∨ z = 0 ∨ ∃ (g : Bool) (r : Nat), r ≤ 2139095040 ∧ z = sg_n g + (r : Nat)) → 0 ≤ z ∧ z ≤ 18446744073709551615 := by
    rintro z (rfl | rfl | ⟨g, r, hr, rfl⟩)
    · omega
    · omega
    · cases g <;> simp [sg_n] <;> omega
  refine ⟨?_, ?_, ?_⟩
  · rcases plusV_anti_n (a % 2147483648) (b % 2147483648) (decide (2147483648 ≤ a)) (decide (2147483648 ≤ b)) with ⟨h, _⟩ | h | ⟨g, r, hr, h, _⟩
    · exact hbd _ (.inl h)
    · exact hbd _ (.inr (.inl h))
    · exact hbd _ (.inr (.inr ⟨g, r, hr, h⟩))
  · rcases plusV_anti_n (a % 2147483648) (b % 2147483648) (decide (2147483648 ≤ a)) (decide (2147483648 ≤ b)) with ⟨h, _⟩ | h | ⟨g, r, hr, h, h2⟩
    · left; rw [h]; decide
    · right; left; rw [h]; decide
    · have hm : (sg_n g + (r : Nat)) % 2147483648 = (r : Int) := by cases g <;> simp [sg_n] <;> omega
      rw [h, h2, hm]
      by_cases h0 : r = 0
      · right; left; subst h0; decide
      · right; right
        exact ⟨decide_eq_false (by omega), by omega, xor_s_n g r (by omega)⟩
  · intro h
    have h' : 2139095040 < a % 2147483648 ∨ 2139095040 < b % 2147483648 := by
      rcases h with h | h
      · left; have := of_decide_eq_true h; omega
      · right; have := of_decide_eq_true h; omega
    constructor
    · unfold plusV_n; rw [if_pos h']
    · unfold timesV_n; rw [if_pos (by omega)]
theorem packF_n (a b : Nat) (ha : a < 4294967296) (hb : b < 4294967296) (na : ¬ 2139095040 < a % 2147483648) (nb : ¬ 2139095040 < b % 2147483648) : ∃ c1 c2 f1 f2 : Nat, IF2 150 a b c1 ∧ IF2 151 a b c2 ∧ IF1 142 a f1 ∧ IF1 141 a f2 ∧ IF2 95 c1 c2 1 ∧ IF2 95 f1 a 1 ∧ IF2 96 f2 a 1 ∧ IF2 148 a 1065353216 a ∧ IF2 149 a 1065353216 a := by
  have ha' : a % 4294967296 = a := Nat.mod_eq_of_lt ha
  have hb' : b % 4294967296 = b := Nat.mod_eq_of_lt hb
  have one : ∀ z : Bool, z = true → ((if z then 1 else 0 : Int)) = 1 := fun z hz => by rw [hz]; rfl
  obtain ⟨c1, C1, C1o, C1l⟩ := v_150 a b (a % 2147483648) (b % 2147483648) (decide (2147483648 ≤ a)) (decide (2147483648 ≤ b)) (by omega) (by omega) (by rw [ha']) (by rw [hb']) (by rw [ha']) (by rw [hb']) na nb
  obtain ⟨c2, C2, C2o, C2l⟩ := v_151 a b (a % 2147483648) (b % 2147483648) (decide (2147483648 ≤ a)) (decide (2147483648 ≤ b)) (by omega) (by omega) (by rw [ha']) (by rw [hb']) (by rw [ha']) (by rw [hb']) na nb
  rw [ha', hb'] at C1o C2o
  have c1l : c1 < 4294967296 ∧ ¬ 2139095040 < c1 % 2147483648 := by rcases C1o with rfl | rfl <;> exact ⟨by assumption, by assumption⟩
  have c2l : c2 < 4294967296 ∧ ¬ 2139095040 < c2 % 2147483648 := by rcases C2o with rfl | rfl <;> exact ⟨by assumption, by assumption⟩
  obtain ⟨r1, F1, q1, q1a, q1b⟩ := v_142 a (a % 2147483648) (decide (2147483648 ≤ a)) (by omega) (by rw [ha']) (by rw [ha']) na
  obtain ⟨r2, F2, q2, q2a, q2b⟩ := v_141 a (a % 2147483648) (decide (2147483648 ≤ a)) (by omega) (by rw [ha']) (by rw [ha']) na
  obtain ⟨f1, e1, f1l, f1m, f1g⟩ := sgn_of_n (decide (2147483648 ≤ a)) r1 (by omega)
  obtain ⟨f2, e2, f2l, f2m, f2g⟩ := sgn_of_n (decide (2147483648 ≤ a)) r2 (by omega)
  rw [e1] at F1
  rw [e2] at F2
  have T1 := v_95 c1 c2 (c1 % 2147483648) (c2 % 2147483648) (decide (2147483648 ≤ c1)) (decide (2147483648 ≤ c2)) (by omega) (by omega) (by rw [Nat.mod_eq_of_lt c1l.1]) (by rw [Nat.mod_eq_of_lt c2l.1]) (by rw [Nat.mod_eq_of_lt c1l.1]) (by rw [Nat.mod_eq_of_lt c2l.1]) c1l.2 c2l.2
  have T2 := v_95 f1 a (f1 % 2147483648) (a % 2147483648) (decide (2147483648 ≤ f1)) (decide (2147483648 ≤ a)) (by omega) (by omega) (by rw [Nat.mod_eq_of_lt f1l]) (by rw [ha']) (by rw [Nat.mod_eq_of_lt f1l]) (by rw [ha']) (by omega) na
  have T3 := v_96 f2 a (f2 % 2147483648) (a % 2147483648) (decide (2147483648 ≤ f2)) (decide (2147483648 ≤ a)) (by omega) (by omega) (by rw [Nat.mod_eq_of_lt f2l]) (by rw [ha']) (by rw [Nat.mod_eq_of_lt f2l]) (by rw [ha']) (by omega) na
  rw [f1m, f1g] at T2
  rw [f2m, f2g] at T3
  rw [one _ (decide_eq_true (Int.le_trans C1l.1 C2l.1))] at T1
  rw [one _ (decide_eq_true (by
    unfold oI
    by_cases h : 2147483648 ≤ a
    · rw [decide_eq_true h] at q1b ⊢
      have := q1b rfl
      simp only [if_true]; omega
    · rw [decide_eq_false h] at q1a ⊢
      have := q1a rfl
      simp; omega))] at T2
  rw [one _ (decide_eq_true (by
    unfold oI
    by_cases h : 2147483648 ≤ a
    · rw [decide_eq_true h] at q2b ⊢
      have := q2b rfl
      simp only [if_true]; omega
    · rw [decide_eq_false h] at q2a ⊢
      have := q2a rfl
      simp; omega))] at T3
  have U1 := (v_148 a 1065353216 (a % 2147483648) 1065353216 (decide (2147483648 ≤ a)) false (by omega) (by decide) (by rw [ha']) (by decide) (by rw [ha']) (by decide)).1
  have U2 := v_149 a 1065353216 (a % 2147483648) 1065353216 (decide (2147483648 ≤ a)) false (by omega) (by decide) (by rw [ha']) (by decide) (by rw [ha']) (by decide)
  rw [timesV_one_n _ _ (by omega), sgm_n a _ _ ha rfl rfl] at U1
  rw [byV_one_n _ _ (by omega), sgm_n a _ _ ha rfl rfl] at U2
  exact ⟨c1, c2, f1, f2, C1, C2, F1, F2, T1, T2, T3, U1, U2⟩
theorem sgm_w (a m : Nat) (g : Bool) (ha : a < 18446744073709551616) (e : m = a % 9223372036854775808) (f : g = decide (9223372036854775808 ≤ a)) : sg_w g + (m : Nat) = (a : Int) := by
  rw [f]; unfold sg_w
  by_cases h : 9223372036854775808 ≤ a
  · rw [decide_eq_true h, if_pos rfl]; omega
  · rw [decide_eq_false h, if_neg (by decide)]; omega
theorem sgn_of_w (g : Bool) (r : Nat) (hr : r < 9223372036854775808) : ∃ c : Nat, sg_w g + (r : Nat) = (c : Int) ∧ c < 18446744073709551616 ∧ c % 9223372036854775808 = r ∧ decide (9223372036854775808 ≤ c) = g := by
  cases g
  · refine ⟨r, by simp [sg_w], by omega, by omega, decide_eq_false (by omega)⟩
  · refine ⟨9223372036854775808 + r, by simp [sg_w], by omega, by omega, decide_eq_true (by omega)⟩
theorem xor_s_w (g : Bool) (r : Nat) (hr : r < 9223372036854775808) : bits .xor .u64 (sg_w (!g) + (r : Nat)) 9223372036854775808 = sg_w g + (r : Nat) := by
  have hx : ∀ c : Nat, c < 18446744073709551616 → bits .xor .u64 (c : Int) 9223372036854775808 = ((c ^^^ 9223372036854775808 : Nat) : Int) := fun c hc => bits_xor_u64_nat c 9223372036854775808 hc (by decide)
  have hs : r ^^^ 9223372036854775808 = r + 9223372036854775808 := by
    have h1 : r ^^^ 9223372036854775808 = r ||| 9223372036854775808 := by
      apply Nat.eq_of_testBit_eq
      intro i
      rw [Nat.testBit_xor, Nat.testBit_or, show (9223372036854775808 : Nat) = 2 ^ 63 by decide, Nat.testBit_two_pow]
      by_cases hi : 63 = i
      · subst hi
        rw [Nat.testBit_lt_two_pow (show r < 2 ^ 63 by rw [show (2 : Nat) ^ 63 = 9223372036854775808 by decide]; exact hr)]; simp
      · simp [hi]
    have h2 := or_add' 1 r 63 (by rw [show (2 : Nat) ^ 63 = 9223372036854775808 by decide]; exact hr)
    rw [show (2 : Nat) ^ 63 = 9223372036854775808 by decide, Nat.one_mul] at h2
    rw [h1, h2]; omega
  cases g
  · have h := hx (9223372036854775808 + r) (by omega)
    rw [show 9223372036854775808 + r = r ^^^ 9223372036854775808 by omega, Nat.xor_assoc, Nat.xor_self, Nat.xor_zero] at h
    rw [show sg_w (!false) + (r : Int) = ((r ^^^ 9223372036854775808 : Nat) : Int) by rw [hs]; simp [sg_w]; omega, h]
    simp [sg_w]
  · have h := hx r (by omega)
    rw [hs] at h
    rw [show sg_w (!true) + (r : Int) = (r : Int) by simp [sg_w], h]
    simp [sg_w]; omega
theorem packE_w (a b : Nat) (ha : a < 18446744073709551616) (hb : b < 18446744073709551616) : ∃ S P x y : Int, IF2 160 a b S ∧ SF2 160 a b S ∧ IF2 160 b a S ∧ IF2 162 a b P ∧ SF2 162 a b P ∧ IF2 162 b a P ∧ IF2 161 a b x ∧ IF2 161 b a y ∧
    (0 ≤ x ∧ x ≤ 18446744073709551615) ∧ (decide (9218868437227405312 < x % 9223372036854775808) = true ∨ (decide (9218868437227405312 < x % 9223372036854775808) = false ∧ x % 9223372036854775808 = 0) ∨ (decide (9218868437227405312 < x % 9223372036854775808) = false ∧ x % 9223372036854775808 ≠ 0 ∧ bits .xor .u64 y 9223372036854775808 = x)) ∧
    (decide (9218868437227405312 < (a : Int) % 9223372036854775808) = true ∨ decide (9218868437227405312 < (b : Int) % 9223372036854775808) = true → S = 9221120237041090560 ∧ P = 9221120237041090560) := by
  have ha' : a % 18446744073709551616 = a := Nat.mod_eq_of_lt ha
  have hb' : b % 18446744073709551616 = b := Nat.mod_eq_of_lt hb
  obtain ⟨A1, A2⟩ := v_160 a b _ _ _ _ (by omega) (by omega) rfl rfl rfl rfl
  have A3 := (v_160 b a _ _ _ _ (by omega) (by omega) rfl rfl rfl rfl).1
  obtain ⟨M1, M2⟩ := v_162 a b _ _ _ _ (by omega) (by omega) rfl rfl rfl rfl
  have M3 := (v_162 b a _ _ _ _ (by omega) (by omega) rfl rfl rfl rfl).1
  have D1 := v_161 a b _ _ _ _ (by omega) (by omega) rfl rfl rfl rfl
  have D2 := v_161 b a _ _ _ _ (by omega) (by omega) rfl rfl rfl rfl
  rw [ha', hb'] at A1 A2 A3 M1 M2 M3 D1 D2
  rw [plusV_comm_w _ _ _ _ (by omega) (by omega)] at A3
  rw [timesV_comm_w] at M3
  refine ⟨_, _, _, _, A1, A2, A3, M1, M2, M3, D1, D2, ?_⟩
  have hbd : ∀ z, (z = 9221120237041090560 ∨ z = 0 ∨ ∃ (g : Bool) (r : Nat), r ≤ 9218868437227405312 ∧ z = sg_w g + (r : Nat)) → 0 ≤ z ∧ z ≤ 18446744073709551615 := by
    rintro z (rfl | rfl | ⟨g, r, hr, rfl⟩)
    · omega
    · omega
    · cases g <;> simp [sg_w] <;> omega
  refine ⟨?_, ?_, ?_⟩
  · rcases plusV_anti_w (a % 9223372036854775808) (b % 9223372036854775808) (decide (9223372036854775808 ≤ a)) (decide (9223372036854775808 ≤ b)) with ⟨h, _⟩ | h | ⟨g, r, hr, h, _⟩
    · exact hbd _ (.inl h)
    · exact hbd _ (.inr (.inl h))
    · exact hbd _ (.inr (.inr ⟨g, r, hr, h⟩))
  · rcases plusV_anti_w (a % 9223372036854775808) (b % 9223372036854775808) (decide (9223372036854775808 ≤ a)) (decide (9223372036854775808 ≤ b)) with ⟨h, _⟩ | h | ⟨g, r, hr, h, h2⟩
    · left; rw [h]; decide
    · right; left; rw [h]; decide
    · have hm : (sg_w g + (r : Nat)) % 9223372036854775808 = (r : Int) := by cases g <;> simp [sg_w] <;> omega
      rw [h, h2, hm]
      by_cases h0 : r = 0
      · right; left; subst h0; decide
      · right; right
        exact ⟨decide_eq_false (by omega), by omega, xor_s_w g r (by omega)⟩
  · intro h
    have h' : 9218868437227405312 < a % 9223372036854775808 ∨ 9218868437227405312 < b % 9223372036854775808 := by
      rcases h with h | h
      · left; have := of_decide_eq_true h; omega
      · right; have := of_decide_eq_true h; omega
    constructor
    · unfold plusV_w; rw [if_pos h']
    · unfold timesV_w; rw [if_pos (by omega)]
theorem packF_w (a b : Nat) (ha : a < 18446744073709551616) (hb : b < 18446744073709551616) (na : ¬ 9218868437227405312 < a % 9223372036854775808) (nb : ¬ 9218868437227405312 < b % 9223372036854775808) : ∃ c1 c2 f1 f2 : Nat, IF2 164 a b c1 ∧ IF2 165 a b c2 ∧ IF1 156 a f1 ∧ IF1 155 a f2 ∧ IF2 101 c1 c2 1 ∧ IF2 101 f1 a 1 ∧ IF2 102 f2 a 1 ∧ IF2 162 a 4607182418800017408 a ∧ IF2 163 a 4607182418800017408 a := by
  have ha' : a % 18446744073709551616 = a := Nat.mod_eq_of_lt ha
  have hb' : b % 18446744073709551616 = b := Nat.mod_eq_of_lt hb
  have one : ∀ z : Bool, z = true → ((if z then 1 else 0 : Int)) = 1 := fun z hz => by rw [hz]; rfl
  obtain ⟨c1, C1, C1o, C1l⟩ := v_164 a b (a % 9223372036854775808) (b % 9223372036854775808) (decide (9223372036854775808 ≤ a)) (decide (9223372036854775808 ≤ b)) (by omega) (by omega) (by rw [ha']) (by rw [hb']) (by rw [ha']) (by rw [hb']) na nb
  obtain ⟨c2, C2, C2o, C2l⟩ := v_165 a b (a % 9223372036854775808) (b % 9223372036854775808) (decide (9223372036854775808 ≤ a)) (decide (9223372036854775808 ≤ b)) (by omega) (by omega) (by rw [ha']) (by rw [hb']) (by rw [ha']) (by rw [hb']) na nb
  rw [ha', hb'] at C1o C2o
  have c1l : c1 < 18446744073709551616 ∧ ¬ 9218868437227405312 < c1 % 9223372036854775808 := by rcases C1o with rfl | rfl <;> exact ⟨by assumption, by assumption⟩
  have c2l : c2 < 18446744073709551616 ∧ ¬ 9218868437227405312 < c2 % 9223372036854775808 := by rcases C2o with rfl | rfl <;> exact ⟨by assumption, by assumption⟩
  obtain ⟨r1, F1, q1, q1a, q1b⟩ := v_156 a (a % 9223372036854775808) (decide (9223372036854775808 ≤ a)) (by omega) (by rw [ha']) (by rw [ha']) na
  obtain ⟨r2, F2, q2, q2a, q2b⟩ := v_155 a (a % 9223372036854775808) (decide (9223372036854775808 ≤ a)) (by omega) (by rw [ha']) (by rw [ha']) na
  obtain ⟨f1, e1, f1l, f1m, f1g⟩ := sgn_of_w (decide (9223372036854775808 ≤ a)) r1 (by omega)
  obtain ⟨f2, e2, f2l, f2m, f2g⟩ := sgn_of_w (decide (9223372036854775808 ≤ a)) r2 (by omega)
  rw [e1] at F1
  rw [e2] at F2
  have T1 := v_101 c1 c2 (c1 % 9223372036854775808) (c2 % 9223372036854775808) (decide (9223372036854775808 ≤ c1)) (decide (9223372036854775808 ≤ c2)) (by omega) (by omega) (by rw [Nat.mod_eq_of_lt c1l.1]) (by rw [Nat.mod_eq_of_lt c2l.1]) (by rw [Nat.mod_eq_of_lt c1l.1]) (by rw [Nat.mod_eq_of_lt c2l.1]) c1l.2 c2l.2
  have T2 := v_101 f1 a (f1 % 9223372036854775808) (a % 9223372036854775808) (decide (9223372036854775808 ≤ f1)) (decide (9223372036854775808 ≤ a)) (by omega) (by omega) (by rw [Nat.mod_eq_of_lt f1l]) (by rw [ha']) (by rw [Nat.mod_eq_of_lt f1l]) (by rw [ha']) (by omega) na
  have T3 := v_102 f2 a (f2 % 9223372036854775808) (a % 9223372036854775808) (decide (9223372036854775808 ≤ f2)) (decide (9223372036854775808 ≤ a)) (by omega) (by omega) (by rw [Nat.mod_eq_of_lt f2l]) (by rw [ha']) (by rw [Nat.mod_eq_of_lt f2l]) (by rw [ha']) (by omega) na
  rw [f1m, f1g] at T2
  rw [f2m, f2g] at T3
  rw [one _ (decide_eq_true (Int.le_trans C1l.1 C2l.1))] at T1
  rw [one _ (decide_eq_true (by
    unfold oI
    by_cases h : 9223372036854775808 ≤ a
    · rw [decide_eq_true h] at q1b ⊢
      have := q1b rfl
      simp only [if_true]; omega
    · rw [decide_eq_false h] at q1a ⊢
      have := q1a rfl
      simp; omega))] at T2
  rw [one _ (decide_eq_true (by
    unfold oI
    by_cases h : 9223372036854775808 ≤ a
    · rw [decide_eq_true h] at q2b ⊢
      have := q2b rfl
      simp only [if_true]; omega
    · rw [decide_eq_false h] at q2a ⊢
      have := q2a rfl
      simp; omega))] at T3
  have U1 := (v_162 a 4607182418800017408 (a % 9223372036854775808) 4607182418800017408 (decide (9223372036854775808 ≤ a)) false (by omega) (by decide) (by rw [ha']) (by decide) (by rw [ha']) (by decide)).1
  have U2 := v_163 a 4607182418800017408 (a % 9223372036854775808) 4607182418800017408 (decide (9223372036854775808 ≤ a)) false (by omega) (by decide) (by rw [ha']) (by decide) (by rw [ha']) (by decide)
  rw [timesV_one_w _ _ (by omega), sgm_w a _ _ ha rfl rfl] at U1
  rw [byV_one_w _ _ (by omega), sgm_w a _ _ ha rfl rfl] at U2
  exact ⟨c1, c2, f1, f2, C1, C2, F1, F2, T1, T2, T3, U1, U2⟩
end Go.Proofs.YthmppcfhbbjhlaaDoor
