import Derived.Test.YtfaajmhmcdoibaaGh
set_option linter.all false
set_option linter.unusedVariables false
namespace Go.Proofs.Ytfaajmhmcdoibaa.By
open Go.RowKit
set_option maxRecDepth 100000

theorem rokU_iff_nat : ∀ c : Nat, c < 128 → ∀ u : Nat, u < 8 → 1 ≤ u → rok false c u = decide ((c : Int) < P2 u) := by decide +kernel
theorem rokU_iff (c u : Int) (h0 : 0 ≤ c) (h1 : c < 128) (h2 : 1 ≤ u) (h3 : u ≤ 7) : rok false c u = decide (c < P2 u) := by
  obtain ⟨C, rfl⟩ := Int.eq_ofNat_of_zero_le h0
  obtain ⟨V, rfl⟩ := Int.eq_ofNat_of_zero_le (show 0 ≤ u by omega)
  exact rokU_iff_nat C (by omega) V (by omega) (by omega)
theorem rokS_iff_nat : ∀ c : Nat, c < 128 → ∀ u : Nat, u < 8 → 1 ≤ u → rok true (((c : Int) - 64) % 128) u = decide (-P2 ((u : Int) - 1) ≤ (c : Int) - 64 ∧ (c : Int) - 64 < P2 ((u : Int) - 1)) := by decide +kernel
theorem rokS_iff (y u : Int) (h0 : -64 ≤ y) (h1 : y ≤ 63) (h2 : 1 ≤ u) (h3 : u ≤ 7) : rok true (y % 128) u = decide (-P2 (u - 1) ≤ y ∧ y < P2 (u - 1)) := by
  obtain ⟨C, hC⟩ := Int.eq_ofNat_of_zero_le (show 0 ≤ y + 64 by omega)
  obtain ⟨V, rfl⟩ := Int.eq_ofNat_of_zero_le (show 0 ≤ u by omega)
  have := rokS_iff_nat C (by omega) V (by omega) (by omega)
  rw [show (C : Int) - 64 = y by omega] at this
  exact this

theorem P2_add (m n : Int) (hm : 0 ≤ m) (hn : 0 ≤ n) : P2 (m + n) = P2 n * P2 m := by
  unfold P2; rw [show (m + n).toNat = n.toNat + m.toNat by omega, Int.pow_add]
theorem P2_small {u : Int} (h : u ≤ 7) : P2 u ≤ 128 := by
  have := P2_le h; rw [show P2 7 = 128 by decide] at this; exact this
theorem P2_small6 {u : Int} (h : u ≤ 6) : P2 u ≤ 64 := by
  have := P2_le h; rw [show P2 6 = 64 by decide] at this; exact this

/-- The byte at a place, by what is left. -/
theorem at_drop {bs : List Int} {n : Nat} {c : Int} {t : List Int} (h : bs.drop n = c :: t) : n < bs.length ∧ bs.getD n 0 = c ∧ bs.drop (n + 1) = t := by
  have hl : n < bs.length := by
    have := congrArg List.length h
    simp at this; omega
  rw [List.drop_eq_getElem_cons hl] at h
  injection h with h1 h2
  exact ⟨hl, by simp [List.getD, hl, h1], h2⟩

theorem mul_lt_of {y q P acc : Int} (hP : 1 ≤ P) (h0 : 0 ≤ acc) (h1 : acc < P) : (y < q → acc + y * P < q * P) ∧ (q ≤ y → q * P ≤ acc + y * P) := by
  constructor
  · intro h
    have : (y + 1) * P ≤ q * P := Int.mul_le_mul_of_nonneg_right (by omega) (by omega)
    rw [Int.add_mul] at this
    omega
  · intro h
    have : q * P ≤ y * P := Int.mul_le_mul_of_nonneg_right h (by omega)
    omega

theorem split_mul (y P acc : Int) : acc + (y % 128) * P + (y / 128) * (128 * P) = acc + y * P := by
  have h : y * P = (128 * (y / 128) + y % 128) * P := by rw [Int.mul_ediv_add_emod]
  rw [h, Int.add_mul]
  have : (y / 128) * (128 * P) = 128 * (y / 128) * P := by
    rw [← Int.mul_assoc, Int.mul_comm (y / 128) 128]
  omega

theorem getU_last (bs : List Int) (p : Nat) (B : Int) (f k : Nat) (y acc : Int) (h1 : p + k < bs.length) (h2 : bs.getD (p + k) 0 = y) (hy : 0 ≤ y) (hy1 : y < 128) (hkB : 7 * (k : Int) < B) (ha0 : 0 ≤ acc) (ha1 : acc < P2 (7 * (k : Int))) :
    (acc + y * P2 (7 * (k : Int)) < P2 B → getR false bs p B (f + 1) k acc = (0, (acc + y * P2 (7 * (k : Int))) % 18446744073709551616, (p : Int) + k + (([y] : List Int).length : Int))) ∧
    (P2 B ≤ acc + y * P2 (7 * (k : Int)) → (getR false bs p B (f + 1) k acc).1 = 2 ∨ (getR false bs p B (f + 1) k acc).1 = 3) := by
  have hP := P2_pos (7 * (k : Int))
  have hB : P2 B = P2 (B - 7 * (k : Int)) * P2 (7 * (k : Int)) := by rw [← P2_add _ _ (by omega) (by omega)]; congr 1; omega
  have hml := mul_lt_of (y := y) (q := P2 (B - 7 * (k : Int))) hP ha0 ha1
  rw [← hB] at hml
  have hok : (B - 7 * (k : Int) ≤ 7 → rok false y (B - 7 * (k : Int)) = true) → getR false bs p B (f + 1) k acc = (0, (acc + y * P2 (7 * (k : Int))) % 18446744073709551616, (p : Int) + k + (([y] : List Int).length : Int)) := by
    intro h
    rw [getR_end (s := false) (f := f) (acc := acc) h1 (by rw [h2]; exact hy1) (by rw [h2]; exact h), h2, show y % 128 = y by omega]
    unfold fin
    rw [if_neg (by simp)]
    rfl
  by_cases hroom : B - 7 * (k : Int) ≤ 7
  · have hr := rokU_iff y (B - 7 * (k : Int)) hy hy1 (by omega) hroom
    by_cases hq : y < P2 (B - 7 * (k : Int))
    · exact ⟨fun _ => hok (fun _ => by rw [hr]; exact decide_eq_true hq), fun h => by have := hml.1 hq; omega⟩
    · have hb := getR_bits (s := false) (f := f) (acc := acc) h1 hroom (by rw [h2]; exact hy1) (by rw [h2, hr]; exact decide_eq_false hq)
      rw [hb]
      exact ⟨fun h => by have := hml.2 (by omega); omega, fun _ => .inr rfl⟩
  · refine ⟨fun _ => hok (fun h => absurd h hroom), fun h => ?_⟩
    have h7 : P2 7 ≤ P2 (B - 7 * (k : Int)) := P2_le (by omega)
    rw [show P2 7 = 128 by decide] at h7
    have := hml.1 (by omega)
    omega

theorem getU_gen (bs : List Int) (p : Nat) (B : Int) (rest : List Int) : ∀ (f' f k : Nat) (y acc : Int), bs.drop (p + k) = lebU f' y ++ rest → fitU f' y → 0 ≤ y → k + f' ≤ 9 → f' ≤ f → 7 * (k : Int) < B → 0 ≤ acc → acc < P2 (7 * (k : Int)) →
    (acc + y * P2 (7 * (k : Int)) < P2 B → getR false bs p B (f + 1) k acc = (0, (acc + y * P2 (7 * (k : Int))) % 18446744073709551616, (p : Int) + k + (lebU f' y).length)) ∧
    (P2 B ≤ acc + y * P2 (7 * (k : Int)) → (getR false bs p B (f + 1) k acc).1 = 2 ∨ (getR false bs p B (f + 1) k acc).1 = 3) := by
  intro f'
  induction f' with
  | zero =>
    intro f k y acc hd hf hy hk hff hkB ha0 ha1
    have hy1 := fitU_zero hf
    rw [lebU_small 0 y hy1] at hd ⊢
    obtain ⟨h1, h2, h3⟩ := at_drop hd
    exact getU_last bs p B f k y acc h1 h2 hy hy1 hkB ha0 ha1
  | succ f' ih =>
    intro f k y acc hd hf hy hk hff hkB ha0 ha1
    by_cases hy1 : y < 128
    · rw [lebU_small _ y hy1] at hd ⊢
      obtain ⟨h1, h2, h3⟩ := at_drop hd
      exact getU_last bs p B f k y acc h1 h2 hy hy1 hkB ha0 ha1
    · rw [lebU_step f' y (by omega)] at hd ⊢
      obtain ⟨h1, h2, h3⟩ := at_drop hd
      have hP := P2_pos (7 * (k : Int))
      by_cases hroom : 7 < B - 7 * (k : Int)
      · obtain ⟨f, rfl⟩ : ∃ g, f = g + 1 := ⟨f - 1, by omega⟩
        have hm := getR_more (s := false) (B := B) (f := f + 1) (acc := acc) h1 hroom (by rw [h2]; omega)
        rw [h2, show (y % 128 + 128) % 128 = y % 128 by omega] at hm
        have hs := acc_step acc y k ha0 ha1
        have e7 : P2 (7 * ((k + 1 : Nat) : Int)) = 128 * P2 (7 * (k : Int)) := by rw [← P2_7 _ (by omega), show 7 * ((k + 1 : Nat) : Int) = 7 * (k : Int) + 7 by omega]
        have := ih f (k + 1) (y / 128) (acc + y % 128 * P2 (7 * (k : Int))) (by exact h3) (fitU_step hf) (by omega) (by omega) (by omega) (by omega) hs.1 hs.2
        rw [e7, split_mul] at this
        rw [hm]
        refine ⟨fun h => ?_, this.2⟩
        rw [this.1 h]
        simp only [List.length_cons, Prod.mk.injEq, true_and]
        omega
      · have hl := getR_long (s := false) (B := B) (f := f) (acc := acc) h1 (by omega) (by rw [h2]; omega)
        rw [hl]
        have hq := P2_small (u := B - 7 * (k : Int)) (by omega)
        have hB : P2 B = P2 (B - 7 * (k : Int)) * P2 (7 * (k : Int)) := by rw [← P2_add _ _ (by omega) (by omega)]; congr 1; omega
        have := (mul_lt_of (y := y) (q := P2 (B - 7 * (k : Int))) hP ha0 ha1).2 (by omega)
        rw [← hB] at this
        exact ⟨fun h => by omega, fun _ => .inl rfl⟩
theorem getS_last (bs : List Int) (p : Nat) (B : Int) (f k : Nat) (y acc : Int) (h1 : p + k < bs.length) (h2 : bs.getD (p + k) 0 = y % 128) (hy : -64 ≤ y) (hy1 : y ≤ 63) (hkB : 7 * (k : Int) < B) (ha0 : 0 ≤ acc) (ha1 : acc < P2 (7 * (k : Int))) :
    ((-P2 (B - 1) ≤ acc + y * P2 (7 * (k : Int)) ∧ acc + y * P2 (7 * (k : Int)) < P2 (B - 1)) → getR true bs p B (f + 1) k acc = (0, (acc + y * P2 (7 * (k : Int))) % 18446744073709551616, (p : Int) + k + (([y % 128] : List Int).length : Int))) ∧
    (¬ (-P2 (B - 1) ≤ acc + y * P2 (7 * (k : Int)) ∧ acc + y * P2 (7 * (k : Int)) < P2 (B - 1)) → (getR true bs p B (f + 1) k acc).1 = 2 ∨ (getR true bs p B (f + 1) k acc).1 = 3) := by
  have hP := P2_pos (7 * (k : Int))
  have hB : P2 (B - 1) = P2 (B - 1 - 7 * (k : Int)) * P2 (7 * (k : Int)) := by rw [← P2_add _ _ (by omega) (by omega)]; congr 1; omega
  have hml := mul_lt_of (y := y) (q := P2 (B - 1 - 7 * (k : Int))) hP ha0 ha1
  have hmn := mul_lt_of (y := y) (q := -P2 (B - 1 - 7 * (k : Int))) hP ha0 ha1
  rw [Int.neg_mul, ← hB] at hmn
  rw [← hB] at hml
  have hok : (B - 7 * (k : Int) ≤ 7 → rok true (y % 128) (B - 7 * (k : Int)) = true) → getR true bs p B (f + 1) k acc = (0, (acc + y * P2 (7 * (k : Int))) % 18446744073709551616, (p : Int) + k + (([y % 128] : List Int).length : Int)) := by
    intro h
    rw [getR_end (s := true) (f := f) (acc := acc) h1 (by rw [h2]; omega) (by rw [h2]; exact h), h2, show y % 128 % 128 = y % 128 by omega]
    have e : fin true (acc + y % 128 * P2 (7 * (k : Int))) (y % 128) k = (acc + y * P2 (7 * (k : Int))) % 18446744073709551616 := by
      unfold fin
      by_cases hn : y < 0
      · rw [if_pos ⟨rfl, by omega⟩, show y % 128 = y + 128 by omega, Int.add_mul, P2_7 _ (by omega)]
        congr 1; omega
      · rw [if_neg (by omega), show y % 128 = y by omega]
    rw [e]
    rfl
  by_cases hroom : B - 7 * (k : Int) ≤ 7
  · have hr := rokS_iff y (B - 7 * (k : Int)) hy hy1 (by omega) hroom
    rw [show B - 7 * (k : Int) - 1 = B - 1 - 7 * (k : Int) by omega] at hr
    by_cases hq : -P2 (B - 1 - 7 * (k : Int)) ≤ y ∧ y < P2 (B - 1 - 7 * (k : Int))
    · exact ⟨fun _ => hok (fun _ => by rw [hr]; exact decide_eq_true hq), fun h => absurd ⟨hmn.2 hq.1, hml.1 hq.2⟩ h⟩
    · have hb := getR_bits (s := true) (f := f) (acc := acc) h1 hroom (by rw [h2]; omega) (by rw [h2, hr]; exact decide_eq_false hq)
      rw [hb]
      refine ⟨fun h => absurd (show -P2 (B - 1 - 7 * (k : Int)) ≤ y ∧ y < P2 (B - 1 - 7 * (k : Int)) from ?_) hq, fun _ => .inr rfl⟩
      constructor
      · by_cases g : -P2 (B - 1 - 7 * (k : Int)) ≤ y
        · exact g
        · have := hmn.1 (by omega); omega
      · by_cases g : y < P2 (B - 1 - 7 * (k : Int))
        · exact g
        · have := hml.2 (by omega); omega
  · refine ⟨fun _ => hok (fun h => absurd h hroom), fun h => ?_⟩
    have h7 : P2 6 ≤ P2 (B - 1 - 7 * (k : Int)) := P2_le (by omega)
    rw [show P2 6 = 64 by decide] at h7
    exact absurd ⟨hmn.2 (by omega), hml.1 (by omega)⟩ h

theorem getS_gen (bs : List Int) (p : Nat) (B : Int) (rest : List Int) : ∀ (f' f k : Nat) (y acc : Int), bs.drop (p + k) = lebS f' y ++ rest → fitS f' y → k + f' ≤ 9 → f' ≤ f → 7 * (k : Int) < B → 0 ≤ acc → acc < P2 (7 * (k : Int)) →
    ((-P2 (B - 1) ≤ acc + y * P2 (7 * (k : Int)) ∧ acc + y * P2 (7 * (k : Int)) < P2 (B - 1)) → getR true bs p B (f + 1) k acc = (0, (acc + y * P2 (7 * (k : Int))) % 18446744073709551616, (p : Int) + k + (lebS f' y).length)) ∧
    (¬ (-P2 (B - 1) ≤ acc + y * P2 (7 * (k : Int)) ∧ acc + y * P2 (7 * (k : Int)) < P2 (B - 1)) → (getR true bs p B (f + 1) k acc).1 = 2 ∨ (getR true bs p B (f + 1) k acc).1 = 3) := by
  intro f'
  induction f' with
  | zero =>
    intro f k y acc hd hf hk hff hkB ha0 ha1
    have hy1 := fitS_zero hf
    rw [lebS_small 0 y hy1.1 hy1.2] at hd ⊢
    obtain ⟨h1, h2, h3⟩ := at_drop hd
    exact getS_last bs p B f k y acc h1 h2 hy1.1 hy1.2 hkB ha0 ha1
  | succ f' ih =>
    intro f k y acc hd hf hk hff hkB ha0 ha1
    by_cases hy1 : -64 ≤ y ∧ y ≤ 63
    · rw [lebS_small _ y hy1.1 hy1.2] at hd ⊢
      obtain ⟨h1, h2, h3⟩ := at_drop hd
      exact getS_last bs p B f k y acc h1 h2 hy1.1 hy1.2 hkB ha0 ha1
    · rw [lebS_step f' y (by omega)] at hd ⊢
      obtain ⟨h1, h2, h3⟩ := at_drop hd
      have hP := P2_pos (7 * (k : Int))
      by_cases hroom : 7 < B - 7 * (k : Int)
      · obtain ⟨f, rfl⟩ : ∃ g, f = g + 1 := ⟨f - 1, by omega⟩
        have hm := getR_more (s := true) (B := B) (f := f + 1) (acc := acc) h1 hroom (by rw [h2]; omega)
        rw [h2, show (y % 128 + 128) % 128 = y % 128 by omega] at hm
        have hs := acc_step acc y k ha0 ha1
        have e7 : P2 (7 * ((k + 1 : Nat) : Int)) = 128 * P2 (7 * (k : Int)) := by rw [← P2_7 _ (by omega), show 7 * ((k + 1 : Nat) : Int) = 7 * (k : Int) + 7 by omega]
        have := ih f (k + 1) (y / 128) (acc + y % 128 * P2 (7 * (k : Int))) (by exact h3) (fitS_step hf) (by omega) (by omega) (by omega) hs.1 hs.2
        rw [e7, split_mul] at this
        rw [hm]
        refine ⟨fun h => ?_, this.2⟩
        rw [this.1 h]
        simp only [List.length_cons, Prod.mk.injEq, true_and]
        omega
      · have hl := getR_long (s := true) (B := B) (f := f) (acc := acc) h1 (by omega) (by rw [h2]; omega)
        rw [hl]
        have hq := P2_small6 (u := B - 1 - 7 * (k : Int)) (by omega)
        have hB : P2 (B - 1) = P2 (B - 1 - 7 * (k : Int)) * P2 (7 * (k : Int)) := by rw [← P2_add _ _ (by omega) (by omega)]; congr 1; omega
        have hml := mul_lt_of (y := y) (q := P2 (B - 1 - 7 * (k : Int))) hP ha0 ha1
        have hmn := mul_lt_of (y := y) (q := -P2 (B - 1 - 7 * (k : Int))) hP ha0 ha1
        rw [Int.neg_mul, ← hB] at hmn
        rw [← hB] at hml
        refine ⟨fun h => ?_, fun _ => .inl rfl⟩
        rcases (show y < -64 ∨ 63 < y by omega) with g | g
        · have := hmn.1 (by omega); omega
        · have := hml.2 (by omega); omega


end Go.Proofs.Ytfaajmhmcdoibaa.By
