import Derived.Test.YtnbplhlpcojlhaaGetM
namespace Go.Proofs.Ytnbplhlpcojlhaa
open Go.RowKit

theorem rokU_iff_nat : ∀ c : Nat, c < 128 → ∀ u : Nat, u < 8 → 1 ≤ u → rok false c u = decide ((c : Int) < P2 u) := by decide +kernel
theorem rokU_iff (c u : Int) (h0 : 0 ≤ c) (h1 : c < 128) (h2 : 1 ≤ u) (h3 : u ≤ 7) : rok false c u = decide (c < P2 u) := by
  obtain ⟨C, rfl⟩ := Int.eq_ofNat_of_zero_le h0
  obtain ⟨V, rfl⟩ := Int.eq_ofNat_of_zero_le (show 0 ≤ u by omega)
  exact rokU_iff_nat C (by omega) V (by omega) (by omega)
theorem rokS_iff_nat : ∀ c : Nat, c < 128 → ∀ u : Nat, u < 8 → 1 ≤ u → rok true (((c : Int) - 64) % 128) u = decide (-P2 ((u : Int) - 1) ≤ (c : Int) - 64 ∧ (c : Int) - 64 < P2 ((u : Int) - 1)) := by decide +kernel
theorem rokS_iff (y u : Int) (h0 : -64 ≤ y) (h1 : y ≤ 63) (h2 : 1 ≤ u) (h3 : u ≤ 7) : rok true (y % 128) u = decide (-P2 (u - 1) ≤ y ∧ y < P2 (u - 1)) := by
  obtain ⟨C, hC⟩ := Int.eq_ofNat_of_zero_le (show 0 ≤ y + 64 by omega)
  obtain ⟨V, rfl⟩ := Int.eq_ofNat_of_zero_le (show 0 ≤ u by omega)
  have := rokS_iff_nat C (by omega) V (by omega) (by omega)
  rw [show (C : Int) - 64 = y by omega] at this
  exact this

theorem P2_add (m n : Int) (hm : 0 ≤ m) (hn : 0 ≤ n) : P2 (m + n) = P2 n * P2 m := by
  unfold P2; rw [show (m + n).toNat = n.toNat + m.toNat by omega, Int.pow_add]
theorem P2_small {u : Int} (h : u ≤ 7) : P2 u ≤ 128 := by
  have := P2_le h; rw [show P2 7 = 128 by decide] at this; exact this
theorem P2_small6 {u : Int} (h : u ≤ 6) : P2 u ≤ 64 := by
  have := P2_le h; rw [show P2 6 = 64 by decide] at this; exact this

/-- The byte at a place, by what is left. -/
theorem at_drop {bs : List Int} {n : Nat} {c : Int} {t : List Int} (h : bs.drop n = c :: t) : n < bs.length ∧ bs.getD n 0 = c ∧ bs.drop (n + 1) = t := by
  have hl : n < bs.length := by
    have := congrArg List.length h
    simp at this; omega
  rw [List.drop_eq_getElem_cons hl] at h
  injection h with h1 h2
  exact ⟨hl, by simp [List.getD, hl, h1], h2⟩

theorem mul_lt_of {y q P acc : Int} (hP : 1 ≤ P) (h0 : 0 ≤ acc) (h1 : acc < P) : (y < q → acc + y * P < q * P) ∧ (q ≤ y → q * P ≤ acc + y * P) := by
  constructor
  · intro h
    have : (y + 1) * P ≤ q * P := Int.mul_le_mul_of_nonneg_right (by omega) (by omega)
    rw [Int.add_mul] at this
    omega
  · intro h
    have : q * P ≤ y * P := Int.mul_le_mul_of_nonneg_right h (by omega)
    omega

theorem split_mul (y P acc : Int) : acc + (y % 128) * P + (y / 128) * (128 * P) = acc + y * P := by
  have h : y * P = (128 * (y / 128) + y % 128) * P := by rw [Int.mul_ediv_add_emod]
  rw [h, Int.add_mul]
  have : (y / 128) * (128 * P) = 128 * (y / 128) * P := by
    rw [← Int.mul_assoc, Int.mul_comm (y / 128) 128]
  omega

theorem getU_last (bs : List Int) (p : Nat) (B : Int) (f k : Nat) (y acc : Int) (h1 : p + k < bs.length) (h2 : bs.getD (p + k) 0 = y) (hy : 0 ≤ y) (hy1 : y < 128) (hkB : 7 * (k : Int) < B) (ha0 : 0 ≤ acc) (ha1 : acc < P2 (7 * (k : Int))) :
    (acc + y * P2 (7 * (k : Int)) < P2 B → getR false bs p B (f + 1) k acc = (0, (acc + y * P2 (7 * (k : Int))) % 18446744073709551616, (p : Int) + k + (([y] : List Int).length : Int))) ∧
    (P2 B ≤ acc + y * P2 (7 * (k : Int)) → (getR false bs p B (f + 1) k acc).1 = 2 ∨ (getR false bs p B (f + 1) k acc).1 = 3) := by
  have hP := P2_pos (7 * (k : Int))
  have hB : P2 B = P2 (B - 7 * (k : Int)) * P2 (7 * (k : Int)) := by rw [← P2_add _ _ (by omega) (by omega)]; congr 1; omega
  have hml := mul_lt_of (y := y) (q := P2 (B - 7 * (k : Int))) hP ha0 ha1
  rw [← hB] at hml
  have hok : (B - 7 * (k : Int) ≤ 7 → rok false y (B - 7 * (k : Int)) = true) → getR false bs p B (f + 1) k acc = (0, (acc + y * P2 (7 * (k : Int))) % 18446744073709551616, (p : Int) + k + (([y] : List Int).length : Int)) := by
    intro h
    rw [getR_end (s := false) (f := f) (acc := acc) h1 (by rw [h2]; exact hy1) (by rw [h2]; exact h), h2, show y % 128 = y by omega]
    unfold fin
    rw [if_neg (by simp)]
    rfl
  by_cases hroom : B - 7 * (k : Int) ≤ 7
  · have hr := rokU_iff y (B - 7 * (k : Int)) hy hy1 (by omega) hroom
    by_cases hq : y < P2 (B - 7 * (k : Int))
    · exact ⟨fun _ => hok (fun _ => by rw [hr]; exact decide_eq_true hq), fun h => by have := hml.1 hq; omega⟩
    · have hb := getR_bits (s := false) (f := f) (acc := acc) h1 hroom (by rw [h2]; exact hy1) (by rw [h2, hr]; exact decide_eq_false hq)
      rw [hb]
      exact ⟨fun h => by have := hml.2 (by omega); omega, fun _ => .inr rfl⟩
  · refine ⟨fun _ => hok (fun h => absurd h hroom), fun h => ?_⟩
    have h7 : P2 7 ≤ P2 (B - 7 * (k : Int)) := P2_le (by omega)
    rw [show P2 7 = 128 by decide] at h7
    have := hml.1 (by omega)
    omega

theorem getU_gen (bs : List Int) (p : Nat) (B : Int) (rest : List Int) : ∀ (f' f k : Nat) (y acc : Int), bs.drop (p + k) = lebU f' y ++ rest → fitU f' y → 0 ≤ y → k + f' ≤ 9 → f' ≤ f → 7 * (k : Int) < B → 0 ≤ acc → acc < P2 (7 * (k : Int)) →
    (acc + y * P2 (7 * (k : Int)) < P2 B → getR false bs p B (f + 1) k acc = (0, (acc + y * P2 (7 * (k : Int))) % 18446744073709551616, (p : Int) + k + (lebU f' y).length)) ∧
    (P2 B ≤ acc + y * P2 (7 * (k : Int)) → (getR false bs p B (f + 1) k acc).1 = 2 ∨ (getR false bs p B (f + 1) k acc).1 = 3) := by
  intro f'
  induction f' with
  | zero =>
    intro f k y acc hd hf hy hk hff hkB ha0 ha1
    have hy1 := fitU_zero hf
    rw [lebU_small 0 y hy1] at hd ⊢
    obtain ⟨h1, h2, h3⟩ := at_drop hd
    exact getU_last bs p B f k y acc h1 h2 hy hy1 hkB ha0 ha1
  | succ f' ih =>
    intro f k y acc hd hf hy hk hff hkB ha0 ha1
    by_cases hy1 : y < 128
    · rw [lebU_small _ y hy1] at hd ⊢
      obtain ⟨h1, h2, h3⟩ := at_drop hd
      exact getU_last bs p B f k y acc h1 h2 hy hy1 hkB ha0 ha1
    · rw [lebU_step f' y (by omega)] at hd ⊢
      obtain ⟨h1, h2, h3⟩ := at_drop hd
      have hP := P2_pos (7 * (k : Int))
      by_cases hroom : 7 < B - 7 * (k : Int)
      · obtain ⟨f, rfl⟩ : ∃ g, f = g + 1 := ⟨f - 1, by omega⟩
        have hm := getR_more (s := false) (B := B) (f := f + 1) (acc := acc) h1 hroom (by rw [h2]; omega)
        rw [h2, show (y % 128 + 128) % 128 = y % 128 by omega] at hm
        have hs := acc_step acc y k ha0 ha1
        have e7 : P2 (7 * ((k + 1 : Nat) : Int)) = 128 * P2 (7 * (k : Int)) := by rw [← P2_7 _ (by omega), show 7 * ((k + 1 : Nat) : Int) = 7 * (k : Int) + 7 by omega]
        have := ih f (k + 1) (y / 128) (acc + y % 128 * P2 (7 * (k : Int))) (by exact h3) (fitU_step hf) (by omega) (by omega) (by omega) (by omega) hs.1 hs.2
        rw [e7, split_mul] at this
        rw [hm]
        refine ⟨fun h => ?_, this.2⟩
        rw [this.1 h]
        simp only [List.length_cons, Prod.mk.injEq, true_and]
        omega
      · have hl := getR_long (s := false) (B := B) (f := f) (acc := acc) h1 (by omega) (by rw [h2]; omega)
        rw [hl]
        have hq := P2_small (u := B - 7 * (k : Int)) (by omega)
        have hB : P2 B = P2 (B - 7 * (k : Int)) * P2 (7 * (k : Int)) := by rw [← P2_add _ _ (by omega) (by omega)]; congr 1; omega
        have := (mul_lt_of (y := y) (q := P2 (B - 7 * (k : Int))) hP ha0 ha1).2 (by omega)
        rw [← hB] at this
        exact ⟨fun h => by omega, fun _ => .inl rfl⟩
theorem getS_last (bs : List Int) (p : Nat) (B : Int) (f k : Nat) (y acc : Int) (h1 : p + k < bs.length) (h2 : bs.getD (p + k) 0 = y % 128) (hy : -64 ≤ y) (hy1 : y ≤ 63) (hkB : 7 * (k : Int) < B) (ha0 : 0 ≤ acc) (ha1 : acc < P2 (7 * (k : Int))) :
    ((-P2 (B - 1) ≤ acc + y * P2 (7 * (k : Int)) ∧ acc + y * P2 (7 * (k : Int)) < P2 (B - 1)) → getR true bs p B (f + 1) k acc = (0, (acc + y * P2 (7 * (k : Int))) % 18446744073709551616, (p : Int) + k + (([y % 128] : List Int).length : Int))) ∧
    (¬ (-P2 (B - 1) ≤ acc + y * P2 (7 * (k : Int)) ∧ acc + y * P2 (7 * (k : Int)) < P2 (B - 1)) → (getR true bs p B (f + 1) k acc).1 = 2 ∨ (getR true bs p B (f + 1) k acc).1 = 3) := by
  have hP := P2_pos (7 * (k : Int))
  have hB : P2 (B - 1) = P2 (B - 1 - 7 * (k : Int)) * P2 (7 * (k : Int)) := by rw [← P2_add _ _ (by omega) (by omega)]; congr 1; omega
  have hml := mul_lt_of (y := y) (q := P2 (B - 1 - 7 * (k : Int))) hP ha0 ha1
  have hmn := mul_lt_of (y := y) (q := -P2 (B - 1 - 7 * (k : Int))) hP ha0 ha1
  rw [Int.neg_mul, ← hB] at hmn
  rw [← hB] at hml
  have hok : (B - 7 * (k : Int) ≤ 7 → rok true (y % 128) (B - 7 * (k : Int)) = true) → getR true bs p B (f + 1) k acc = (0, (acc + y * P2 (7 * (k : Int))) % 18446744073709551616, (p : Int) + k + (([y % 128] : List Int).length : Int)) := by
    intro h
    rw [getR_end (s := true) (f := f) (acc := acc) h1 (by rw [h2]; omega) (by rw [h2]; exact h), h2, show y % 128 % 128 = y % 128 by omega]
    have e : fin true (acc + y % 128 * P2 (7 * (k : Int))) (y % 128) k = (acc + y * P2 (7 * (k : Int))) % 18446744073709551616 := by
      unfold fin
      by_cases hn : y < 0
      · rw [if_pos ⟨rfl, by omega⟩, show y % 128 = y + 128 by omega, Int.add_mul, P2_7 _ (by omega)]
        congr 1; omega
      · rw [if_neg (by omega), show y % 128 = y by omega]
    rw [e]
    rfl
  by_cases hroom : B - 7 * (k : Int) ≤ 7
  · have hr := rokS_iff y (B - 7 * (k : Int)) hy hy1 (by omega) hroom
    rw [show B - 7 * (k : Int) - 1 = B - 1 - 7 * (k : Int) by omega] at hr
    by_cases hq : -P2 (B - 1 - 7 * (k : Int)) ≤ y ∧ y < P2 (B - 1 - 7 * (k : Int))
    · exact ⟨fun _ => hok (fun _ => by rw [hr]; exact decide_eq_true hq), fun h => absurd ⟨hmn.2 hq.1, hml.1 hq.2⟩ h⟩
    · have hb := getR_bits (s := true) (f := f) (acc := acc) h1 hroom (by rw [h2]; omega) (by rw [h2, hr]; exact decide_eq_false hq)
      rw [hb]
      refine ⟨fun h => absurd (show -P2 (B - 1 - 7 * (k : Int)) ≤ y ∧ y < P2 (B - 1 - 7 * (k : Int)) from ?_) hq, fun _ => .inr rfl⟩
      constructor
      · by_cases g : -P2 (B - 1 - 7 * (k : Int)) ≤ y
        · exact g
        · have := hmn.1 (by omega); omega
      · by_cases g : y < P2 (B - 1 - 7 * (k : Int))
        · exact g
        · have := hml.2 (by omega); omega
  · refine ⟨fun _ => hok (fun h => absurd h hroom), fun h => ?_⟩
    have h7 : P2 6 ≤ P2 (B - 1 - 7 * (k : Int)) := P2_le (by omega)
    rw [show P2 6 = 64 by decide] at h7
    exact absurd ⟨hmn.2 (by omega), hml.1 (by omega)⟩ h

theorem getS_gen (bs : List Int) (p : Nat) (B : Int) (rest : List Int) : ∀ (f' f k : Nat) (y acc : Int), bs.drop (p + k) = lebS f' y ++ rest → fitS f' y → k + f' ≤ 9 → f' ≤ f → 7 * (k : Int) < B → 0 ≤ acc → acc < P2 (7 * (k : Int)) →
    ((-P2 (B - 1) ≤ acc + y * P2 (7 * (k : Int)) ∧ acc + y * P2 (7 * (k : Int)) < P2 (B - 1)) → getR true bs p B (f + 1) k acc = (0, (acc + y * P2 (7 * (k : Int))) % 18446744073709551616, (p : Int) + k + (lebS f' y).length)) ∧
    (¬ (-P2 (B - 1) ≤ acc + y * P2 (7 * (k : Int)) ∧ acc + y * P2 (7 * (k : Int)) < P2 (B - 1)) → (getR true bs p B (f + 1) k acc).1 = 2 ∨ (getR true bs p B (f + 1) k acc).1 = 3) := by
  intro f'
  induction f' with
  | zero =>
    intro f k y acc hd hf hk hff hkB ha0 ha1
    have hy1 := fitS_zero hf
    rw [lebS_small 0 y hy1.1 hy1.2] at hd ⊢
    obtain ⟨h1, h2, h3⟩ := at_drop hd
    exact getS_last bs p B f k y acc h1 h2 hy1.1 hy1.2 hkB ha0 ha1
  | succ f' ih =>
    intro f k y acc hd hf hk hff hkB ha0 ha1
    by_cases hy1 : -64 ≤ y ∧ y ≤ 63
    · rw [lebS_small _ y hy1.1 hy1.2] at hd ⊢
      obtain ⟨h1, h2, h3⟩ := at_drop hd
      exact getS_last bs p B f k y acc h1 h2 hy1.1 hy1.2 hkB ha0 ha1
    · rw [lebS_step f' y (by omega)] at hd ⊢
      obtain ⟨h1, h2, h3⟩ := at_drop hd
      have hP := P2_pos (7 * (k : Int))
      by_cases hroom : 7 < B - 7 * (k : Int)
      · obtain ⟨f, rfl⟩ : ∃ g, f = g + 1 := ⟨f - 1, by omega⟩
        have hm := getR_more (s := true) (B := B) (f := f + 1) (acc := acc) h1 hroom (by rw [h2]; omega)
        rw [h2, show (y % 128 + 128) % 128 = y % 128 by omega] at hm
        have hs := acc_step acc y k ha0 ha1
        have e7 : P2 (7 * ((k + 1 : Nat) : Int)) = 128 * P2 (7 * (k : Int)) := by rw [← P2_7 _ (by omega), show 7 * ((k + 1 : Nat) : Int) = 7 * (k : Int) + 7 by omega]
        have := ih f (k + 1) (y / 128) (acc + y % 128 * P2 (7 * (k : Int))) (by exact h3) (fitS_step hf) (by omega) (by omega) (by omega) hs.1 hs.2
        rw [e7, split_mul] at this
        rw [hm]
        refine ⟨fun h => ?_, this.2⟩
        rw [this.1 h]
        simp only [List.length_cons, Prod.mk.injEq, true_and]
        omega
      · have hl := getR_long (s := true) (B := B) (f := f) (acc := acc) h1 (by omega) (by rw [h2]; omega)
        rw [hl]
        have hq := P2_small6 (u := B - 1 - 7 * (k : Int)) (by omega)
        have hB : P2 (B - 1) = P2 (B - 1 - 7 * (k : Int)) * P2 (7 * (k : Int)) := by rw [← P2_add _ _ (by omega) (by omega)]; congr 1; omega
        have hml := mul_lt_of (y := y) (q := P2 (B - 1 - 7 * (k : Int))) hP ha0 ha1
        have hmn := mul_lt_of (y := y) (q := -P2 (B - 1 - 7 * (k : Int))) hP ha0 ha1
        rw [Int.neg_mul, ← hB] at hmn
        rw [← hB] at hml
        refine ⟨fun h => ?_, fun _ => .inl rfl⟩
        rcases (show y < -64 ∨ 63 < y by omega) with g | g
        · have := hmn.1 (by omega); omega
        · have := hml.2 (by omega); omega

/-- The writing made longer by one byte. -/
def lng : Nat → Int → List Int
  | 0, y => [y + 128, 0]
  | f + 1, y => if y < 128 then [y + 128, 0] else (y % 128 + 128) :: lng f (y / 128)

theorem lng_set (f : Nat) : ∀ y, lng f y = (lebU f y).set ((lebU f y).length - 1) ((lebU f y).getD ((lebU f y).length - 1) 0 + 128) ++ [0] := by
  induction f with
  | zero => intro y; simp [lng, lebU]
  | succ f ih =>
    intro y
    by_cases h : y < 128
    · simp [lng, lebU, h]
    · have hl := (lebU_len f (y / 128)).1
      simp only [lng, lebU, if_neg h, List.length_cons]
      obtain ⟨n, hn⟩ : ∃ n, (lebU f (y / 128)).length = n + 1 := ⟨(lebU f (y / 128)).length - 1, by omega⟩
      rw [ih, hn]
      simp

theorem lebU_lastb (f : Nat) : ∀ y, 0 ≤ y → fitU f y → 0 ≤ (lebU f y).getD ((lebU f y).length - 1) 0 ∧ (lebU f y).getD ((lebU f y).length - 1) 0 < 128 := by
  induction f with
  | zero => intro y h0 h; have := fitU_zero h; simp [lebU]; omega
  | succ f ih =>
    intro y h0 h
    by_cases hy : y < 128
    · simp [lebU, hy]; omega
    · have hl := (lebU_len f (y / 128)).1
      have := ih (y / 128) (by omega) (fitU_step h)
      simp only [lebU, if_neg hy, List.length_cons]
      obtain ⟨n, hn⟩ : ∃ n, (lebU f (y / 128)).length = n + 1 := ⟨(lebU f (y / 128)).length - 1, by omega⟩
      rw [hn] at this ⊢
      simpa using this

theorem getL_end (bs : List Int) (f k : Nat) (y acc : Int) (hd : bs.drop k = [y + 128, 0]) (hy : 0 ≤ y) (hy1 : y < 128) (hk : k ≤ 8) :
    getR false bs 0 64 (f + 1 + 1) k acc = (0, (acc + y * P2 (7 * (k : Int))) % 18446744073709551616, (k : Int) + 2) := by
  obtain ⟨h1, h2, h3⟩ := at_drop hd
  obtain ⟨g1, g2, g3⟩ := at_drop h3
  have hm := getR_more (s := false) (bs := bs) (B := 64) (p := 0) (k := k) (f := f + 1) (acc := acc) (by omega) (by omega) (by rw [Nat.zero_add, h2]; omega)
  rw [Nat.zero_add, h2, show (y + 128) % 128 = y by omega] at hm
  rw [hm, getR_end (s := false) (bs := bs) (p := 0) (by omega) (by rw [Nat.zero_add, g2]; omega) (by
    intro hr
    rw [Nat.zero_add, g2, show (64 : Int) - 7 * ((k + 1 : Nat) : Int) = 1 by omega]
    decide), Nat.zero_add, g2]
  unfold fin
  rw [if_neg (by simp)]
  simp only [Prod.mk.injEq, true_and]
  constructor
  · congr 1; omega
  · omega

theorem getL_gen (bs : List Int) : ∀ (f' f k : Nat) (y acc : Int), bs.drop k = lng f' y → fitU f' y → 0 ≤ y → k + (lebU f' y).length ≤ 9 → (lebU f' y).length ≤ f →
    getR false bs 0 64 (f + 1) k acc = (0, (acc + y * P2 (7 * (k : Int))) % 18446744073709551616, (k : Int) + (lebU f' y).length + 1) := by
  intro f'
  induction f' with
  | zero =>
    intro f k y acc hd hf hy hk hff
    have hy1 := fitU_zero hf
    simp only [lebU, List.length_cons, List.length_nil] at hk hff ⊢
    obtain ⟨f, rfl⟩ : ∃ g, f = g + 1 := ⟨f - 1, by omega⟩
    rw [getL_end bs f k y acc hd hy hy1 (by omega)]
    simp only [Prod.mk.injEq, true_and]; omega
  | succ f' ih =>
    intro f k y acc hd hf hy hk hff
    by_cases hy1 : y < 128
    · simp only [lng, if_pos hy1] at hd
      rw [lebU_small _ y hy1] at hk hff ⊢
      simp only [List.length_cons, List.length_nil] at hk hff ⊢
      obtain ⟨f, rfl⟩ : ∃ g, f = g + 1 := ⟨f - 1, by omega⟩
      rw [getL_end bs f k y acc hd hy hy1 (by omega)]
      simp only [Prod.mk.injEq, true_and]; omega
    · simp only [lng, if_neg hy1] at hd
      rw [lebU_step f' y (by omega)] at hk hff ⊢
      simp only [List.length_cons] at hk hff ⊢
      obtain ⟨h1, h2, h3⟩ := at_drop hd
      obtain ⟨f, rfl⟩ : ∃ g, f = g + 1 := ⟨f - 1, by omega⟩
      have hl := (lebU_len f' (y / 128)).1
      have hm := getR_more (s := false) (bs := bs) (B := 64) (p := 0) (k := k) (f := f + 1) (acc := acc) (by omega) (by omega) (by rw [Nat.zero_add, h2]; omega)
      rw [Nat.zero_add, h2, show (y % 128 + 128) % 128 = y % 128 by omega] at hm
      have e7 : P2 (7 * ((k + 1 : Nat) : Int)) = 128 * P2 (7 * (k : Int)) := by rw [← P2_7 _ (by omega), show 7 * ((k + 1 : Nat) : Int) = 7 * (k : Int) + 7 by omega]
      have := ih f (k + 1) (y / 128) (acc + y % 128 * P2 (7 * (k : Int))) h3 (fitU_step hf) (by omega) (by omega) (by omega)
      rw [e7, split_mul] at this
      rw [hm, this]
      simp only [Prod.mk.injEq, true_and]; omega

/-! What the law asks. -/
theorem P2_0 : P2 (7 * ((0 : Nat) : Int)) = 1 := by decide
theorem leb_a (x : Int) (h0 : 0 ≤ x) (h1 : x ≤ 18446744073709551615) : getA false (lebU 9 x ++ [7]) 0 64 = (0, x, ((lebU 9 x).length : Int)) := by
  unfold getA
  rw [if_pos ⟨by omega, by omega⟩]
  have := (getU_gen (lebU 9 x ++ [7]) 0 64 [7] 9 9 0 x 0 rfl (fitU_start h1) h0 (by omega) (by omega) (by omega) (by omega) (by rw [P2_0]; omega)).1 (by rw [P2_0, show P2 64 = 18446744073709551616 by decide]; omega)
  rw [P2_0] at this
  show getR false _ 0 64 (9 + 1) 0 0 = _
  rw [this]
  simp only [Prod.mk.injEq, true_and]; omega
theorem leb_b (y : Int) (h0 : -9223372036854775808 ≤ y) (h1 : y ≤ 9223372036854775807) : getA true (9 :: lebS 9 y) 1 64 = (0, y % 18446744073709551616, ((lebS 9 y).length : Int) + 1) := by
  unfold getA
  rw [if_pos ⟨by omega, by simp; omega⟩]
  have := (getS_gen (9 :: lebS 9 y) 1 64 [] 9 9 0 y 0 (by simp) (fitS_start h0 h1) (by omega) (by omega) (by omega) (by omega) (by rw [P2_0]; omega)).1 (by rw [P2_0, show P2 (64 - 1) = 9223372036854775808 by decide]; omega)
  rw [P2_0] at this
  show getR true _ 1 64 (9 + 1) 0 0 = _
  rw [this]
  simp only [Prod.mk.injEq, true_and]
  constructor
  · congr 1; omega
  · omega
theorem leb_c (x : Int) (h0 : 0 ≤ x) (h1 : x ≤ 18446744073709551615) : (x < 4294967296 → getA false (lebU 9 x) 0 32 = (0, x, ((lebU 9 x).length : Int))) ∧ (4294967296 ≤ x → (getA false (lebU 9 x) 0 32).1 = 2 ∨ (getA false (lebU 9 x) 0 32).1 = 3) := by
  unfold getA
  rw [if_pos ⟨by omega, by omega⟩]
  have := getU_gen (lebU 9 x) 0 32 [] 9 9 0 x 0 (by simp) (fitU_start h1) h0 (by omega) (by omega) (by omega) (by omega) (by rw [P2_0]; omega)
  rw [P2_0, show P2 32 = 4294967296 by decide] at this
  refine ⟨fun h => ?_, fun h => this.2 (by omega)⟩
  show getR false _ 0 32 (9 + 1) 0 0 = _
  rw [this.1 (by omega)]
  simp only [Prod.mk.injEq, true_and]; omega
theorem leb_d (y : Int) (h0 : -9223372036854775808 ≤ y) (h1 : y ≤ 9223372036854775807) : ((-2147483648 ≤ y ∧ y < 2147483648) → getA true (lebS 9 y) 0 32 = (0, y % 18446744073709551616, ((lebS 9 y).length : Int))) ∧ (¬ (-2147483648 ≤ y ∧ y < 2147483648) → (getA true (lebS 9 y) 0 32).1 = 2 ∨ (getA true (lebS 9 y) 0 32).1 = 3) := by
  unfold getA
  rw [if_pos ⟨by omega, by omega⟩]
  have := getS_gen (lebS 9 y) 0 32 [] 9 9 0 y 0 (by simp) (fitS_start h0 h1) (by omega) (by omega) (by omega) (by omega) (by rw [P2_0]; omega)
  rw [P2_0, show P2 (32 - 1) = 2147483648 by decide] at this
  refine ⟨fun h => ?_, fun h => this.2 (by omega)⟩
  show getR true _ 0 32 (9 + 1) 0 0 = _
  rw [this.1 (by omega)]
  simp only [Prod.mk.injEq, true_and]
  constructor
  · congr 1; omega
  · omega
theorem leb_e (x : Int) (h0 : 0 ≤ x) (h1 : x ≤ 18446744073709551615) (hl : (lebU 9 x).length < 10) : getA false (lng 9 x) 0 64 = (0, x, ((lebU 9 x).length : Int) + 1) := by
  unfold getA
  rw [if_pos ⟨by omega, by omega⟩]
  have := getL_gen (lng 9 x) 9 9 0 x 0 (by simp) (fitU_start h1) h0 (by omega) (by omega)
  rw [P2_0] at this
  show getR false _ 0 64 (9 + 1) 0 0 = _
  rw [this]
  simp only [Prod.mk.injEq, true_and]; omega
end Go.Proofs.Ytnbplhlpcojlhaa
