import Derived.Test.YtngepdhhdbhglaaGreatDoorYh
import Derived.Lib.Atoi
set_option linter.all false
set_option linter.unusedVariables false
namespace Go.Proofs.YtngepdhhdbhglaaGreatDoor
open Go.RowKit Go.Sort
/-! Decimal numerals. -/
theorem decFrom_cons (acc : Nat) (c : UInt8) (r : Wd) : Lib.decFrom acc (c :: r) = (Lib.digitVal c).bind fun d => Lib.decFrom (acc * 10 + d) r := by
  simp only [Lib.decFrom]
  cases Lib.digitVal c <;> rfl
theorem decFrom_snoc : ∀ (l : Wd) (acc : Nat) (b : UInt8), Lib.decFrom acc (l ++ [b]) = (Lib.decFrom acc l).bind fun n => (Lib.digitVal b).map fun d => n * 10 + d
  | [], acc, b => by
    rw [List.nil_append, decFrom_cons]
    cases Lib.digitVal b <;> simp [Lib.decFrom]
  | c :: l, acc, b => by
    rw [List.cons_append, decFrom_cons, decFrom_cons]
    cases h : Lib.digitVal c with
    | none => rfl
    | some d => exact decFrom_snoc l (acc * 10 + d) b
theorem digit_of (d : Nat) (h : d < 10) : Lib.digitVal (UInt8.ofNat (48 + d)) = some d := by
  have : ∀ i : Fin 10, Lib.digitVal (UInt8.ofNat (48 + i.val)) = some i.val := by decide
  exact this ⟨d, h⟩
theorem digit_back {b : UInt8} {d : Nat} (h : Lib.digitVal b = some d) : b = UInt8.ofNat (48 + d) ∧ d < 10 := by
  obtain ⟨h1, h2, h3⟩ := Lib.digitVal_eq h
  refine ⟨?_, by omega⟩
  rw [show 48 + d = b.toNat by omega]
  simp
theorem decD_dec (u : Nat) : Lib.decFrom 0 (Lib.decDigits u) = some u := by
  induction u using Nat.strongRecOn with
  | _ u ih =>
    rw [Lib.decDigits]
    split
    · rename_i h
      rw [decFrom_cons, digit_of u h]; simp [Lib.decFrom]
    · rename_i h
      rw [decFrom_snoc, ih (u / 10) (by omega), digit_of (u % 10) (by omega)]
      simp; omega
theorem decFrom_ge : ∀ (l : Wd) (acc n : Nat), Lib.decFrom acc l = some n → acc ≤ n
  | [], acc, n, h => by simp [Lib.decFrom] at h; omega
  | c :: l, acc, n, h => by
    rw [decFrom_cons] at h
    cases hd : Lib.digitVal c with
    | none => rw [hd] at h; cases h
    | some d =>
      rw [hd] at h
      have := decFrom_ge l (acc * 10 + d) n h
      omega
theorem dec_pos {c : UInt8} {r : Wd} {n : Nat} (h : Lib.decFrom 0 (c :: r) = some n) (hc : c ≠ 48) : 1 ≤ n := by
  rw [decFrom_cons] at h
  cases hd : Lib.digitVal c with
  | none => rw [hd] at h; cases h
  | some d =>
    rw [hd] at h
    have h1 := decFrom_ge r (0 * 10 + d) n h
    obtain ⟨e, h2⟩ := digit_back hd
    have : d ≠ 0 := by rintro rfl; exact hc e
    omega
theorem dec_canon (l : Wd) : ∀ (n : Nat), Lib.decFrom 0 l = some n → l ≠ [] → (l.length = 1 ∨ l.head? ≠ some 48) → Lib.decDigits n = l := by
  induction h : l.length using Nat.strongRecOn generalizing l with
  | _ k ih =>
    subst h
    intro n hn hne hc
    obtain ⟨l', b, rfl⟩ : ∃ l' b, l = l' ++ [b] := ⟨l.dropLast, l.getLast hne, (List.dropLast_concat_getLast hne).symm⟩
    rw [decFrom_snoc] at hn
    cases hd : Lib.digitVal b with
    | none => rw [hd] at hn; cases hp : Lib.decFrom 0 l' <;> rw [hp] at hn <;> cases hn
    | some d =>
      obtain ⟨eb, hd10⟩ := digit_back hd
      cases hp : Lib.decFrom 0 l' with
      | none => rw [hp] at hn; cases hn
      | some m =>
        rw [hp, hd] at hn
        simp at hn
        cases l' with
        | nil =>
          simp [Lib.decFrom] at hp
          subst hp
          rw [← hn, Lib.decDigits, dif_pos (by omega), eb]; simp
        | cons c r =>
          have hc' : c ≠ 48 := by
            rcases hc with hc | hc
            · simp at hc
            · intro e; subst e; simp at hc
          have hm := dec_pos hp hc'
          rw [← hn, Lib.decDigits, dif_neg (by omega), show (m * 10 + d) / 10 = m by omega, show (m * 10 + d) % 10 = d by omega, ← eb,
            ih (c :: r).length (by simp) (c :: r) rfl m hp (by simp) (.inr (by simpa using hc'))]
theorem decD_ne (u : Nat) : Lib.decDigits u ≠ [] := by
  rw [Lib.decDigits]
  split <;> simp
theorem decD_head (u : Nat) : (Lib.decDigits u).length = 1 ∨ (Lib.decDigits u).head? ≠ some 48 := by
  induction u using Nat.strongRecOn with
  | _ u ih =>
    rw [Lib.decDigits]
    split
    · exact .inl rfl
    · rename_i h
      right
      have hh : (Lib.decDigits (u / 10) ++ [UInt8.ofNat (48 + u % 10)]).head? = (Lib.decDigits (u / 10)).head? := by
        cases hd : Lib.decDigits (u / 10) with
        | nil => exact absurd hd (decD_ne _)
        | cons a b => rfl
      rw [hh]
      rcases ih (u / 10) (by omega) with h1 | h1
      · intro e
        cases hd : Lib.decDigits (u / 10) with
        | nil => exact decD_ne _ hd
        | cons a b =>
          rw [hd] at h1 e
          simp at h1 e
          subst h1 e
          have := decD_dec (u / 10)
          rw [hd] at this
          have e0 : Lib.decFrom 0 [48] = some 0 := by decide
          rw [e0] at this
          simp at this
          omega
      · exact h1
theorem parseM_ok (mx : Nat) (hx : mx ≤ 18446744073709551615) : ∀ (l : Wd) (acc n : Nat), Lib.decFrom acc l = some n → n ≤ mx → Lib.parseUintM mx acc l = .ok n
  | [], acc, n, h, hn => by simp [Lib.decFrom] at h; subst h; rfl
  | c :: l, acc, n, h, hn => by
    rw [decFrom_cons] at h
    cases hd : Lib.digitVal c with
    | none => rw [hd] at h; cases h
    | some d =>
      rw [hd] at h
      have h1 := decFrom_ge l (acc * 10 + d) n h
      have h2 := parseM_ok mx hx l (acc * 10 + d) n h hn
      obtain ⟨k1, k2, k3⟩ := Lib.digitVal_eq hd
      rw [Lib.parseUintM, if_pos ⟨k1, k2⟩, if_neg (by omega), ← k3, if_neg (by omega)]
      exact h2
theorem okP_itoa (v : Int) (h0 : -9223372036854775808 ≤ v) (h1 : v ≤ 9223372036854775807) : okP (Lib.itoa v) = some v := by
  have key : Lib.parseIntB 64 (Lib.itoa v) = .ok v := by
    by_cases hn : v < 0
    · have hp : Lib.parseUintB 64 (Lib.decDigits v.natAbs) = .ok v.natAbs := by
        unfold Lib.parseUintB
        rw [if_neg (decD_ne _)]
        exact parseM_ok _ (by decide) _ _ _ (decD_dec _) (by omega)
      unfold Lib.itoa
      rw [if_pos hn]
      unfold Lib.parseIntB
      simp only [show (45 : UInt8).toNat = 45 from rfl, or_true, if_true, hp]
      rw [if_neg (by simp), if_neg (by simp; omega)]
      congr 1
      omega
    · have hp : Lib.parseUintB 64 (Lib.decDigits v.toNat) = .ok v.toNat := by
        unfold Lib.parseUintB
        rw [if_neg (decD_ne _)]
        exact parseM_ok _ (by decide) _ _ _ (decD_dec _) (by omega)
      unfold Lib.itoa
      rw [if_neg hn]
      have hd := decD_dec v.toNat
      cases he : Lib.decDigits v.toNat with
      | nil => exact absurd he (decD_ne _)
      | cons c r =>
        rw [he] at hp hd
        rw [decFrom_cons] at hd
        cases hc : Lib.digitVal c with
        | none => rw [hc] at hd; cases hd
        | some d =>
          obtain ⟨k1, k2, k3⟩ := Lib.digitVal_eq hc
          unfold Lib.parseIntB
          simp only [show ¬ c.toNat = 43 by omega, show ¬ c.toNat = 45 by omega, or_self, if_false]
          rw [hp]
          show (if ¬False ∧ 2 ^ (64 - 1) ≤ v.toNat then Lib.NumEnd.range else if False ∧ 2 ^ (64 - 1) < v.toNat then Lib.NumEnd.range else Lib.NumEnd.ok (v.toNat : Int)) = _
          rw [if_neg (by simp; omega), if_neg (by simp)]
          congr 1
          omega
  simp [okP, key]
theorem nm_iff (lo hi : Int) (s : Wd) (v : Int) (h0 : -9223372036854775808 ≤ lo) (h1 : hi ≤ 9223372036854775807) : Nm lo hi s v ↔ (Lib.itoa v = s ∧ lo ≤ v ∧ v ≤ hi) := by
  constructor
  · rintro ⟨ha, hb⟩
    unfold okN at ha
    rw [hb] at ha
    simp at ha
    exact ⟨ha.2.2, ha.1, ha.2.1⟩
  · rintro ⟨rfl, ha, hb⟩
    have := okP_itoa v (by omega) (by omega)
    exact ⟨by unfold okN; rw [this]; simp [ha, hb], this⟩
theorem itoa_inj {u v : Int} (h : Lib.itoa u = Lib.itoa v) (hu0 : -9223372036854775808 ≤ u) (hu1 : u ≤ 9223372036854775807) (hv0 : -9223372036854775808 ≤ v) (hv1 : v ≤ 9223372036854775807) : u = v := by
  have h1 := okP_itoa u hu0 hu1
  rw [h, okP_itoa v hv0 hv1] at h1
  simpa using h1.symm
/-- What the specification reads of a number: at most `most` digits, a minus sign where it may. -/
def numM (most : Nat) (sg : Bool) (s : Wd) : Option Int :=
  let neg := sg && (decide (1 < s.length) && (s.head? == some 45))
  let d := if neg then s.tail else s
  if d.length < 1 ∨ most < d.length ∨ (d.head? = some 48 ∧ (1 < d.length ∨ neg = true)) then none
  else match Lib.decFrom 0 d with
    | none => none
    | some u => if neg then (if u ≤ 9223372036854775808 then some (-(u : Int)) else none) else (if u ≤ 9223372036854775807 then some (u : Int) else none)
theorem numM_some {most : Nat} {sg : Bool} {s : Wd} {v : Int} (h : numM most sg s = some v) : Lib.itoa v = s ∧ -9223372036854775808 ≤ v ∧ v ≤ 9223372036854775807 ∧ (sg = false → 0 ≤ v) := by
  unfold numM at h
  simp only at h
  cases hneg : (sg && (decide (1 < s.length) && (s.head? == some 45))) with
  | true =>
    simp only [hneg, if_true] at h
    split at h
    · cases h
    · rename_i hc
      cases hu : Lib.decFrom 0 s.tail with
      | none => rw [hu] at h; cases h
      | some u =>
        rw [hu] at h
        by_cases hle : u ≤ 9223372036854775808
        · simp only [hle, if_true, Option.some.injEq] at h
          subst h
          simp at hneg
          obtain ⟨rfl, h1, h2⟩ := hneg
          · cases s with
            | nil => simp at h2
            | cons c r =>
              simp at h2; subst h2
              simp only [List.tail_cons] at hu hc
              have hne : r ≠ [] := by rintro rfl; simp at h1
              have e := dec_canon r u hu hne (by
                by_cases hh : r.head? = some 48
                · exact absurd (.inr (.inr ⟨hh, .inr trivial⟩)) hc
                · exact .inr hh)
              have hu1 : 1 ≤ u := by
                cases r with
                | nil => exact absurd rfl hne
                | cons c r => exact dec_pos hu (by rintro rfl; exact hc (.inr (.inr ⟨rfl, .inr trivial⟩)))
              refine ⟨?_, by omega, by omega, fun h => by cases h⟩
              rw [Lib.itoa, if_pos (by omega), show (-(u : Int)).natAbs = u by omega, e]
        · simp [hle] at h
  | false =>
    simp only [hneg, Bool.false_eq_true, if_false] at h
    split at h
    · cases h
    · rename_i hc
      cases hu : Lib.decFrom 0 s with
      | none => rw [hu] at h; cases h
      | some u =>
        rw [hu] at h
        by_cases hle : u ≤ 9223372036854775807
        · simp only [hle, if_true, Option.some.injEq] at h
          subst h
          have hne : s ≠ [] := by rintro rfl; simp at hc
          have e := dec_canon s u hu hne (by
            by_cases hh : s.head? = some 48
            · left
              have hp := List.length_pos_iff.2 hne
              simp [hh] at hc
              omega
            · exact .inr hh)
          refine ⟨?_, by omega, by omega, fun _ => by omega⟩
          rw [Lib.itoa, if_neg (by omega), show ((u : Int)).toNat = u by omega, e]
        · simp [hle] at h
theorem nDigits_le : ∀ (k u : Nat), u < 10 ^ (k + 1) → Lib.nDigits u ≤ k + 1
  | 0, u, h => by rw [Lib.nDigits_small (by simpa using h)]; omega
  | k + 1, u, h => by
    by_cases h10 : u < 10
    · rw [Lib.nDigits_small h10]; omega
    · rw [Lib.nDigits_big h10]
      have := nDigits_le k (u / 10) (by rw [Nat.pow_succ] at h; omega)
      omega
theorem decD_head_digit (u : Nat) : (Lib.decDigits u).head? ≠ some 45 := by
  have hd := decD_dec u
  cases he : Lib.decDigits u with
  | nil => simp
  | cons c r =>
    rw [he, decFrom_cons] at hd
    simp
    rintro rfl
    have : Lib.digitVal 45 = none := by decide
    rw [this] at hd; cases hd
theorem numM_itoa {most : Nat} {sg : Bool} {v : Int} (h0 : -9223372036854775808 ≤ v) (h1 : v ≤ 9223372036854775807) (hs : sg = false → 0 ≤ v) (hm : v.natAbs < 10 ^ most) (hm1 : 1 ≤ most) : numM most sg (Lib.itoa v) = some v := by
  have hlen : (Lib.decDigits v.natAbs).length ≤ most := by
    rw [Lib.decDigits_length]
    obtain ⟨m, rfl⟩ : ∃ m, most = m + 1 := ⟨most - 1, by omega⟩
    exact nDigits_le m _ hm
  by_cases hn : v < 0
  · have hsg : sg = true := by cases sg with | true => rfl | false => have := hs rfl; omega
    subst hsg
    have e : Lib.itoa v = 45 :: Lib.decDigits v.natAbs := by rw [Lib.itoa, if_pos hn]
    rw [e]
    unfold numM
    have hne := decD_ne v.natAbs
    have hl : 0 < (Lib.decDigits v.natAbs).length := List.length_pos_iff.2 hne
    have hd := decD_dec v.natAbs
    have hh : (Lib.decDigits v.natAbs).head? ≠ some 48 := by
      rcases decD_head v.natAbs with hk | hk
      · intro e2
        cases he : Lib.decDigits v.natAbs with
        | nil => exact hne he
        | cons a b =>
          rw [he] at hk e2 hd
          simp at hk e2
          subst hk e2
          have e0 : Lib.decFrom 0 [48] = some 0 := by decide
          rw [e0] at hd
          simp at hd; omega
      · exact hk
    have hneg : (true && (decide (1 < (45 :: Lib.decDigits v.natAbs).length) && ((45 :: Lib.decDigits v.natAbs).head? == some 45))) = true := by simp; exact hl
    simp only [hneg, if_true, List.tail_cons, hd]
    rw [if_neg (by rintro (h | h | h); · omega
                   · omega
                   · exact hh h.1), if_pos (by omega)]
    congr 1; omega
  · have e : Lib.itoa v = Lib.decDigits v.natAbs := by rw [Lib.itoa, if_neg hn, show v.toNat = v.natAbs by omega]
    rw [e]
    unfold numM
    have hne := decD_ne v.natAbs
    have hl : 0 < (Lib.decDigits v.natAbs).length := List.length_pos_iff.2 hne
    have hd := decD_dec v.natAbs
    have hneg : (sg && (decide (1 < (Lib.decDigits v.natAbs).length) && ((Lib.decDigits v.natAbs).head? == some 45))) = false := by
      have := decD_head_digit v.natAbs
      simp [this]
    simp only [hneg, Bool.false_eq_true, if_false, hd]
    rw [if_neg (by
      rintro (h | h | ⟨h, h2 | h2⟩)
      · omega
      · omega
      · rcases decD_head v.natAbs with hk | hk
        · omega
        · exact hk h
      · cases h2), if_pos (by omega)]
    congr 1; omega
end Go.Proofs.YtngepdhhdbhglaaGreatDoor
