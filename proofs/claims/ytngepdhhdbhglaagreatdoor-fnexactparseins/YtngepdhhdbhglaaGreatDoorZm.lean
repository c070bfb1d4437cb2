import Derived.Test.YtngepdhhdbhglaaGreatDoorZn
import Derived.Test.YtngepdhhdbhglaaGreatDoorPrM
import Derived.Lib.AtoiErr
import Derived.Test.YtngepdhhdbhglaaGreatDoorYe
set_option linter.all false
set_option linter.unusedVariables false
namespace Go.Proofs.YtngepdhhdbhglaaGreatDoor
open Go.RowKit Go.Sort
set_option maxRecDepth 100000
attribute [-go_sem] run_index_string
theorem S_index (l : Wd) (k : Nat) (w : World) (h : k < l.length) : (Instr.index 9 (.string (S l)) (.int .i64 (k : Int))).run Tryz.prog w = .ok (.int .u8 ((l.getD k 0).toNat : Int)) w := by
  rw [run_index_string (w := w) (t := 9) (s := S l) (k := .i64) (i := (k : Int)) Tryz.underlying9, dif_pos ⟨by omega, by rw [S_size]; omega⟩]
  congr 4
  simp [S, List.getD, h]
  rfl
theorem S_index0 (c : UInt8) (r : Wd) (w : World) : (Instr.index 9 (.string (S (c :: r))) (.int .i64 0)).run Tryz.prog w = .ok (.int .u8 (c.toNat : Int)) w := S_index (c :: r) 0 w (by simp)
/-- The number behind its sign. -/
def numD (most : Nat) (neg : Bool) (d : Wd) : Option Int :=
  if d.length < 1 ∨ most < d.length ∨ (d.head? = some 48 ∧ (1 < d.length ∨ neg = true)) then none
  else match Lib.decFrom 0 d with
    | none => none
    | some u => if neg then (if u ≤ 9223372036854775808 then some (-(u : Int)) else none) else (if u ≤ 9223372036854775807 then some (u : Int) else none)
def NuP (o : Option Int) (w : World) (e : Ending) (w' : World) : Prop := w = w' ∧ ∃ x : Int, e = .returned (.tuple #[.int .i64 x, .bool o.isSome]) ∧ ∀ v, o = some v → x = v
theorem nup_none {w : World} {o : Option Int} (h : o = none) : NuP o w (.returned (.tuple #[.int .i64 0, .bool false])) w := ⟨rfl, 0, by rw [h]; rfl, fun v e => by rw [h] at e; cases e⟩
theorem u8_ne {c d : UInt8} (h : c ≠ d) : ((c.toNat : Int) == (d.toNat : Int)) = false := by
  simp
  intro e
  exact h (UInt8.toNat_inj.1 (by omega))
def NumC (most : Nat) (neg : Bool) (d : Wd) : Prop := ¬ (d.length < 1 ∨ most < d.length ∨ (d.head? = some 48 ∧ (1 < d.length ∨ neg = true)))
theorem num_end {most : Nat} {neg : Bool} {d : Wd} {u : Nat} (h : NumC most neg d) (hd : Lib.decFrom 0 d = some u) : numD most neg d = if neg then (if u ≤ 9223372036854775808 then some (-(u : Int)) else none) else (if u ≤ 9223372036854775807 then some (u : Int) else none) := by
  unfold numD; rw [if_neg h, hd]
theorem num_no {most : Nat} {neg : Bool} {d : Wd} (hd : Lib.decFrom 0 d = none) : numD most neg d = none := by
  unfold numD; rw [hd]; split <;> rfl
theorem p18 {k acc : Nat} (h : acc < 10 ^ k) (hk : k ≤ 18) : acc < 1000000000000000000 := Nat.lt_of_lt_of_le h (Nat.le_trans (Nat.pow_le_pow_right (by omega) hk) (by decide))
theorem p19 {k acc : Nat} (h : acc < 10 ^ k) (hk : k ≤ 19) : acc < 10000000000000000000 := Nat.lt_of_lt_of_le h (Nat.le_trans (Nat.pow_le_pow_right (by omega) hk) (by decide))
set_option maxHeartbeats 4000000 in
theorem sn1 (most : Nat) (s : Wd) (w : World) (hm : most ≤ 19) (hl : s.length ≤ 1099511627776) :
    Calls Tryz.prog 44 #[.string (S s), .int .i64 (most : Int), .bool false] w (NuP (numD most false s) w) := by
  have hz : (S s).size = s.length := S_size _
  by_cases h0 : s.length < 1
  · have HN := Hid.mk' (show numD most false s = none by unfold numD; exact if_pos (.inl h0))
    have i1 : (s.length : Int) < 1 := by omega
    go_enter Tryz.func44, Tryz.ntmps44
    go_wp2
    go_ret2
    exact nup_none HN.out
  by_cases h1 : most < s.length
  · have HN := Hid.mk' (show numD most false s = none by unfold numD; exact if_pos (.inr (.inl h1)))
    have i1 : ¬ (s.length : Int) < 1 := by omega
    have i2 : (most : Int) < (s.length : Int) := by omega
    go_enter Tryz.func44, Tryz.ntmps44
    go_wp2
    go_ret2
    exact nup_none HN.out
  have i1 : ¬ (s.length : Int) < 1 := by omega
  have i2 : ¬ (most : Int) < (s.length : Int) := by omega
  obtain ⟨c, r, hD⟩ : ∃ c r, s = c :: r := by
    cases s with
    | nil => simp at h0
    | cons c r => exact ⟨c, r, rfl⟩
  have hi0 := S_index0 c r w
  rw [← hD] at hi0
  have hhd : s.head? = some c := by rw [hD]; rfl
  have HD := Hid.mk' hD
  clear hD
  by_cases hc : c = 48
  · subst hc
    by_cases hlen : 1 < s.length
    · have HN := Hid.mk' (show numD most false s = none by unfold numD; exact if_pos (.inr (.inr ⟨hhd, .inl hlen⟩)))
      have i3 : (1 : Int) < (s.length : Int) := by omega
      go_enter Tryz.func44, Tryz.ntmps44
      go_wp2
      go_ret2
      exact nup_none HN.out
    · have i3 : ¬ (1 : Int) < (s.length : Int) := by omega
      have HC := Hid.mk' (show NumC most false s by rintro (h | h | ⟨_, h | h⟩) <;> first | omega | cases h)
      go_enter Tryz.func44, Tryz.ntmps44
      go_upto_region 9 with fail
      go_loop [10, 11] (fun vx vi => ∃ k acc : Nat, vx = .int .u64 (acc : Int) ∧ vi = .int .i64 (k : Int) ∧ k ≤ s.length ∧ Hid (acc < 10 ^ k ∧ Lib.decFrom 0 s = Lib.decFrom acc (s.drop k))) (fun _ vi => s.length - (intOf vi).toNat)
      case atStart => exact ⟨0, 0, rfl, rfl, by omega, by simp, rfl⟩
      case round =>
        obtain ⟨k, acc, rfl, rfl, hk, hh⟩ := hrel
        by_cases hkn : k < s.length
        · have hki : (k : Int) < (s.length : Int) := by omega
          have hix := S_index s k w hkn
          have hdrop : s.drop k = s[k]'hkn :: s.drop (k + 1) := List.drop_eq_getElem_cons hkn
          have hget : s.getD k 0 = s[k]'hkn := by simp [List.getD, List.getElem?_eq_getElem hkn]
          have h18 := p18 hh.out.1 (by omega)
          have hdec := hh.out.2
          rw [hdrop, decFrom_cons] at hdec
          rw [hget] at hix
          generalize s[k]'hkn = y at hix hdec
          have hy := y.toNat_lt
          cases hdv : Lib.digitVal y with
          | none =>
            rw [hdv] at hdec
            have HN := Hid.mk' (num_no (most := most) (neg := false) hdec)
            have hbad := Lib.digitVal_none hdv
            clear hdec hdrop hget hh hdv
            generalize y.toNat = yn at *
            by_cases h48 : yn < 48
            · have i1 : (yn : Int) < 48 := by omega
              go_wp2
              go_ret2
              exact nup_none HN.out
            · have i1 : ¬ (yn : Int) < 48 := by omega
              have i2 : (57 : Int) < (yn : Int) := by omega
              go_wp2
              go_ret2
              exact nup_none HN.out
          | some d =>
            rw [hdv] at hdec
            obtain ⟨e1, e2, e3⟩ := Lib.digitVal_eq hdv
            have HH : Hid (acc * 10 + d < 10 ^ (k + 1) ∧ Lib.decFrom 0 s = Lib.decFrom (acc * 10 + d) (s.drop (k + 1))) := ⟨by have := hh.out.1; rw [Nat.pow_succ]; omega, hdec⟩
            clear hdec hdrop hget hh hdv
            generalize y.toNat = yn at *
            have i1 : ¬ (yn : Int) < 48 := by omega
            have i2 : ¬ (57 : Int) < (yn : Int) := by omega
            have w1 : IntKind.u8.wrap ((yn : Int) - 48) = (d : Int) := by rw [IntKind.wrap_u8]; omega
            have w2 : IntKind.u64.wrap (d : Int) = (d : Int) := by rw [IntKind.wrap_u64]; omega
            have w3 : IntKind.u64.wrap (10 * (acc : Int)) = 10 * (acc : Int) := by rw [IntKind.wrap_u64]; omega
            have w4 : IntKind.u64.wrap (10 * (acc : Int) + (d : Int)) = 10 * (acc : Int) + (d : Int) := by rw [IntKind.wrap_u64]; omega
            have w5 : IntKind.i64.wrap ((k : Int) + 1) = (k : Int) + 1 := by rw [IntKind.wrap_i64]; omega
            go_wp2
            exact ⟨⟨k + 1, acc * 10 + d, (by congr 1; omega), (by first | rfl | (congr 1; omega)), by omega, HH⟩, by simp [intOf]; omega⟩
        · have ek : k = s.length := by omega
          subst ek
          have hdec := hh.out.2
          rw [List.drop_of_length_le (Nat.le_refl _)] at hdec
          have h19 := p19 hh.out.1 (by omega)
          have HE := Hid.mk' (num_end (neg := false) HC.out (show Lib.decFrom 0 s = some acc from hdec))
          have hki : ¬ (s.length : Int) < (s.length : Int) := by omega
          clear hdec hh hkn
          by_cases hle : acc ≤ 9223372036854775807
          · have i1 : (acc : Int) ≤ 9223372036854775807 := by omega
            have w1 : IntKind.i64.wrap (acc : Int) = (acc : Int) := by rw [IntKind.wrap_i64]; omega
            go_wp2
            go_ret2
            have hb : (numD most false s).isSome = true := by rw [HE.out]; simp [hle]
            exact ⟨rfl, (acc : Int), by rw [hb]; rfl, fun v hv => by rw [HE.out] at hv; simp [hle] at hv; rw [← hv]⟩
          · have i1 : ¬ (acc : Int) ≤ 9223372036854775807 := by omega
            go_wp2
            go_ret2
            have hb : (numD most false s).isSome = false := by rw [HE.out]; simp [hle]
            rw [NuP, hb]
            exact ⟨rfl, _, rfl, fun v hv => by rw [HE.out] at hv; simp [hle] at hv⟩
  · have h3 : ((c.toNat : Int) == 48) = false := u8_ne hc
    have HC := Hid.mk' (show NumC most false s by
      rintro (h | h | ⟨h, _⟩)
      · omega
      · omega
      · rw [hhd] at h; exact hc (by simpa using h))
    go_enter Tryz.func44, Tryz.ntmps44
    go_upto_region 9 with fail
    go_loop [10, 11] (fun vx vi => ∃ k acc : Nat, vx = .int .u64 (acc : Int) ∧ vi = .int .i64 (k : Int) ∧ k ≤ s.length ∧ Hid (acc < 10 ^ k ∧ Lib.decFrom 0 s = Lib.decFrom acc (s.drop k))) (fun _ vi => s.length - (intOf vi).toNat)
    case atStart => exact ⟨0, 0, rfl, rfl, by omega, by simp, rfl⟩
    case round =>
      obtain ⟨k, acc, rfl, rfl, hk, hh⟩ := hrel
      by_cases hkn : k < s.length
      · have hki : (k : Int) < (s.length : Int) := by omega
        have hix := S_index s k w hkn
        have hdrop : s.drop k = s[k]'hkn :: s.drop (k + 1) := List.drop_eq_getElem_cons hkn
        have hget : s.getD k 0 = s[k]'hkn := by simp [List.getD, List.getElem?_eq_getElem hkn]
        have h18 := p18 hh.out.1 (by omega)
        have hdec := hh.out.2
        rw [hdrop, decFrom_cons] at hdec
        rw [hget] at hix
        generalize s[k]'hkn = y at hix hdec
        have hy := y.toNat_lt
        cases hdv : Lib.digitVal y with
        | none =>
          rw [hdv] at hdec
          have HN := Hid.mk' (num_no (most := most) (neg := false) hdec)
          have hbad := Lib.digitVal_none hdv
          clear hdec hdrop hget hh hdv
          generalize y.toNat = yn at *
          by_cases h48 : yn < 48
          · have i1 : (yn : Int) < 48 := by omega
            go_wp2
            go_ret2
            exact nup_none HN.out
          · have i1 : ¬ (yn : Int) < 48 := by omega
            have i2 : (57 : Int) < (yn : Int) := by omega
            go_wp2
            go_ret2
            exact nup_none HN.out
        | some d =>
          rw [hdv] at hdec
          obtain ⟨e1, e2, e3⟩ := Lib.digitVal_eq hdv
          have HH : Hid (acc * 10 + d < 10 ^ (k + 1) ∧ Lib.decFrom 0 s = Lib.decFrom (acc * 10 + d) (s.drop (k + 1))) := ⟨by have := hh.out.1; rw [Nat.pow_succ]; omega, hdec⟩
          clear hdec hdrop hget hh hdv
          generalize y.toNat = yn at *
          have i1 : ¬ (yn : Int) < 48 := by omega
          have i2 : ¬ (57 : Int) < (yn : Int) := by omega
          have w1 : IntKind.u8.wrap ((yn : Int) - 48) = (d : Int) := by rw [IntKind.wrap_u8]; omega
          have w2 : IntKind.u64.wrap (d : Int) = (d : Int) := by rw [IntKind.wrap_u64]; omega
          have w3 : IntKind.u64.wrap (10 * (acc : Int)) = 10 * (acc : Int) := by rw [IntKind.wrap_u64]; omega
          have w4 : IntKind.u64.wrap (10 * (acc : Int) + (d : Int)) = 10 * (acc : Int) + (d : Int) := by rw [IntKind.wrap_u64]; omega
          have w5 : IntKind.i64.wrap ((k : Int) + 1) = (k : Int) + 1 := by rw [IntKind.wrap_i64]; omega
          go_wp2
          exact ⟨⟨k + 1, acc * 10 + d, (by congr 1; omega), (by first | rfl | (congr 1; omega)), by omega, HH⟩, by simp [intOf]; omega⟩
      · have ek : k = s.length := by omega
        subst ek
        have hdec := hh.out.2
        rw [List.drop_of_length_le (Nat.le_refl _)] at hdec
        have h19 := p19 hh.out.1 (by omega)
        have HE := Hid.mk' (num_end (neg := false) HC.out (show Lib.decFrom 0 s = some acc from hdec))
        have hki : ¬ (s.length : Int) < (s.length : Int) := by omega
        clear hdec hh hkn
        by_cases hle : acc ≤ 9223372036854775807
        · have i1 : (acc : Int) ≤ 9223372036854775807 := by omega
          have w1 : IntKind.i64.wrap (acc : Int) = (acc : Int) := by rw [IntKind.wrap_i64]; omega
          go_wp2
          go_ret2
          have hb : (numD most false s).isSome = true := by rw [HE.out]; simp [hle]
          exact ⟨rfl, (acc : Int), by rw [hb]; rfl, fun v hv => by rw [HE.out] at hv; simp [hle] at hv; rw [← hv]⟩
        · have i1 : ¬ (acc : Int) ≤ 9223372036854775807 := by omega
          go_wp2
          go_ret2
          have hb : (numD most false s).isSome = false := by rw [HE.out]; simp [hle]
          rw [NuP, hb]
          exact ⟨rfl, _, rfl, fun v hv => by rw [HE.out] at hv; simp [hle] at hv⟩
set_option maxHeartbeats 4000000 in
theorem sn2 (most : Nat) (s : Wd) (w : World) (hm : most ≤ 19) (hl : s.length ≤ 1099511627776) (hw : s.length ≤ 1) :
    Calls Tryz.prog 44 #[.string (S s), .int .i64 (most : Int), .bool true] w (NuP (numD most false s) w) := by
  have hz : (S s).size = s.length := S_size _
  have hw1 : ¬ (1 : Int) < (s.length : Int) := by omega
  by_cases h0 : s.length < 1
  · have HN := Hid.mk' (show numD most false s = none by unfold numD; exact if_pos (.inl h0))
    have i1 : (s.length : Int) < 1 := by omega
    go_enter Tryz.func44, Tryz.ntmps44
    go_wp2
    go_ret2
    exact nup_none HN.out
  by_cases h1 : most < s.length
  · have HN := Hid.mk' (show numD most false s = none by unfold numD; exact if_pos (.inr (.inl h1)))
    have i1 : ¬ (s.length : Int) < 1 := by omega
    have i2 : (most : Int) < (s.length : Int) := by omega
    go_enter Tryz.func44, Tryz.ntmps44
    go_wp2
    go_ret2
    exact nup_none HN.out
  have i1 : ¬ (s.length : Int) < 1 := by omega
  have i2 : ¬ (most : Int) < (s.length : Int) := by omega
  obtain ⟨c, r, hD⟩ : ∃ c r, s = c :: r := by
    cases s with
    | nil => simp at h0
    | cons c r => exact ⟨c, r, rfl⟩
  have hi0 := S_index0 c r w
  rw [← hD] at hi0
  have hhd : s.head? = some c := by rw [hD]; rfl
  have HD := Hid.mk' hD
  clear hD
  by_cases hc : c = 48
  · subst hc
    by_cases hlen : 1 < s.length
    · omega
    · have i3 : ¬ (1 : Int) < (s.length : Int) := by omega
      have HC := Hid.mk' (show NumC most false s by rintro (h | h | ⟨_, h | h⟩) <;> first | omega | cases h)
      go_enter Tryz.func44, Tryz.ntmps44
      go_upto_region 9 with fail
      go_loop [10, 11] (fun vx vi => ∃ k acc : Nat, vx = .int .u64 (acc : Int) ∧ vi = .int .i64 (k : Int) ∧ k ≤ s.length ∧ Hid (acc < 10 ^ k ∧ Lib.decFrom 0 s = Lib.decFrom acc (s.drop k))) (fun _ vi => s.length - (intOf vi).toNat)
      case atStart => exact ⟨0, 0, rfl, rfl, by omega, by simp, rfl⟩
      case round =>
        obtain ⟨k, acc, rfl, rfl, hk, hh⟩ := hrel
        by_cases hkn : k < s.length
        · have hki : (k : Int) < (s.length : Int) := by omega
          have hix := S_index s k w hkn
          have hdrop : s.drop k = s[k]'hkn :: s.drop (k + 1) := List.drop_eq_getElem_cons hkn
          have hget : s.getD k 0 = s[k]'hkn := by simp [List.getD, List.getElem?_eq_getElem hkn]
          have h18 := p18 hh.out.1 (by omega)
          have hdec := hh.out.2
          rw [hdrop, decFrom_cons] at hdec
          rw [hget] at hix
          generalize s[k]'hkn = y at hix hdec
          have hy := y.toNat_lt
          cases hdv : Lib.digitVal y with
          | none =>
            rw [hdv] at hdec
            have HN := Hid.mk' (num_no (most := most) (neg := false) hdec)
            have hbad := Lib.digitVal_none hdv
            clear hdec hdrop hget hh hdv
            generalize y.toNat = yn at *
            by_cases h48 : yn < 48
            · have i1 : (yn : Int) < 48 := by omega
              go_wp2
              go_ret2
              exact nup_none HN.out
            · have i1 : ¬ (yn : Int) < 48 := by omega
              have i2 : (57 : Int) < (yn : Int) := by omega
              go_wp2
              go_ret2
              exact nup_none HN.out
          | some d =>
            rw [hdv] at hdec
            obtain ⟨e1, e2, e3⟩ := Lib.digitVal_eq hdv
            have HH : Hid (acc * 10 + d < 10 ^ (k + 1) ∧ Lib.decFrom 0 s = Lib.decFrom (acc * 10 + d) (s.drop (k + 1))) := ⟨by have := hh.out.1; rw [Nat.pow_succ]; omega, hdec⟩
            clear hdec hdrop hget hh hdv
            generalize y.toNat = yn at *
            have i1 : ¬ (yn : Int) < 48 := by omega
            have i2 : ¬ (57 : Int) < (yn : Int) := by omega
            have w1 : IntKind.u8.wrap ((yn : Int) - 48) = (d : Int) := by rw [IntKind.wrap_u8]; omega
            have w2 : IntKind.u64.wrap (d : Int) = (d : Int) := by rw [IntKind.wrap_u64]; omega
            have w3 : IntKind.u64.wrap (10 * (acc : Int)) = 10 * (acc : Int) := by rw [IntKind.wrap_u64]; omega
            have w4 : IntKind.u64.wrap (10 * (acc : Int) + (d : Int)) = 10 * (acc : Int) + (d : Int) := by rw [IntKind.wrap_u64]; omega
            have w5 : IntKind.i64.wrap ((k : Int) + 1) = (k : Int) + 1 := by rw [IntKind.wrap_i64]; omega
            go_wp2
            exact ⟨⟨k + 1, acc * 10 + d, (by congr 1; omega), (by first | rfl | (congr 1; omega)), by omega, HH⟩, by simp [intOf]; omega⟩
        · have ek : k = s.length := by omega
          subst ek
          have hdec := hh.out.2
          rw [List.drop_of_length_le (Nat.le_refl _)] at hdec
          have h19 := p19 hh.out.1 (by omega)
          have HE := Hid.mk' (num_end (neg := false) HC.out (show Lib.decFrom 0 s = some acc from hdec))
          have hki : ¬ (s.length : Int) < (s.length : Int) := by omega
          clear hdec hh hkn
          by_cases hle : acc ≤ 9223372036854775807
          · have i1 : (acc : Int) ≤ 9223372036854775807 := by omega
            have w1 : IntKind.i64.wrap (acc : Int) = (acc : Int) := by rw [IntKind.wrap_i64]; omega
            go_wp2
            go_ret2
            have hb : (numD most false s).isSome = true := by rw [HE.out]; simp [hle]
            exact ⟨rfl, (acc : Int), by rw [hb]; rfl, fun v hv => by rw [HE.out] at hv; simp [hle] at hv; rw [← hv]⟩
          · have i1 : ¬ (acc : Int) ≤ 9223372036854775807 := by omega
            go_wp2
            go_ret2
            have hb : (numD most false s).isSome = false := by rw [HE.out]; simp [hle]
            rw [NuP, hb]
            exact ⟨rfl, _, rfl, fun v hv => by rw [HE.out] at hv; simp [hle] at hv⟩
  · have h3 : ((c.toNat : Int) == 48) = false := u8_ne hc
    have HC := Hid.mk' (show NumC most false s by
      rintro (h | h | ⟨h, _⟩)
      · omega
      · omega
      · rw [hhd] at h; exact hc (by simpa using h))
    go_enter Tryz.func44, Tryz.ntmps44
    go_upto_region 9 with fail
    go_loop [10, 11] (fun vx vi => ∃ k acc : Nat, vx = .int .u64 (acc : Int) ∧ vi = .int .i64 (k : Int) ∧ k ≤ s.length ∧ Hid (acc < 10 ^ k ∧ Lib.decFrom 0 s = Lib.decFrom acc (s.drop k))) (fun _ vi => s.length - (intOf vi).toNat)
    case atStart => exact ⟨0, 0, rfl, rfl, by omega, by simp, rfl⟩
    case round =>
      obtain ⟨k, acc, rfl, rfl, hk, hh⟩ := hrel
      by_cases hkn : k < s.length
      · have hki : (k : Int) < (s.length : Int) := by omega
        have hix := S_index s k w hkn
        have hdrop : s.drop k = s[k]'hkn :: s.drop (k + 1) := List.drop_eq_getElem_cons hkn
        have hget : s.getD k 0 = s[k]'hkn := by simp [List.getD, List.getElem?_eq_getElem hkn]
        have h18 := p18 hh.out.1 (by omega)
        have hdec := hh.out.2
        rw [hdrop, decFrom_cons] at hdec
        rw [hget] at hix
        generalize s[k]'hkn = y at hix hdec
        have hy := y.toNat_lt
        cases hdv : Lib.digitVal y with
        | none =>
          rw [hdv] at hdec
          have HN := Hid.mk' (num_no (most := most) (neg := false) hdec)
          have hbad := Lib.digitVal_none hdv
          clear hdec hdrop hget hh hdv
          generalize y.toNat = yn at *
          by_cases h48 : yn < 48
          · have i1 : (yn : Int) < 48 := by omega
            go_wp2
            go_ret2
            exact nup_none HN.out
          · have i1 : ¬ (yn : Int) < 48 := by omega
            have i2 : (57 : Int) < (yn : Int) := by omega
            go_wp2
            go_ret2
            exact nup_none HN.out
        | some d =>
          rw [hdv] at hdec
          obtain ⟨e1, e2, e3⟩ := Lib.digitVal_eq hdv
          have HH : Hid (acc * 10 + d < 10 ^ (k + 1) ∧ Lib.decFrom 0 s = Lib.decFrom (acc * 10 + d) (s.drop (k + 1))) := ⟨by have := hh.out.1; rw [Nat.pow_succ]; omega, hdec⟩
          clear hdec hdrop hget hh hdv
          generalize y.toNat = yn at *
          have i1 : ¬ (yn : Int) < 48 := by omega
          have i2 : ¬ (57 : Int) < (yn : Int) := by omega
          have w1 : IntKind.u8.wrap ((yn : Int) - 48) = (d : Int) := by rw [IntKind.wrap_u8]; omega
          have w2 : IntKind.u64.wrap (d : Int) = (d : Int) := by rw [IntKind.wrap_u64]; omega
          have w3 : IntKind.u64.wrap (10 * (acc : Int)) = 10 * (acc : Int) := by rw [IntKind.wrap_u64]; omega
          have w4 : IntKind.u64.wrap (10 * (acc : Int) + (d : Int)) = 10 * (acc : Int) + (d : Int) := by rw [IntKind.wrap_u64]; omega
          have w5 : IntKind.i64.wrap ((k : Int) + 1) = (k : Int) + 1 := by rw [IntKind.wrap_i64]; omega
          go_wp2
          exact ⟨⟨k + 1, acc * 10 + d, (by congr 1; omega), (by first | rfl | (congr 1; omega)), by omega, HH⟩, by simp [intOf]; omega⟩
      · have ek : k = s.length := by omega
        subst ek
        have hdec := hh.out.2
        rw [List.drop_of_length_le (Nat.le_refl _)] at hdec
        have h19 := p19 hh.out.1 (by omega)
        have HE := Hid.mk' (num_end (neg := false) HC.out (show Lib.decFrom 0 s = some acc from hdec))
        have hki : ¬ (s.length : Int) < (s.length : Int) := by omega
        clear hdec hh hkn
        by_cases hle : acc ≤ 9223372036854775807
        · have i1 : (acc : Int) ≤ 9223372036854775807 := by omega
          have w1 : IntKind.i64.wrap (acc : Int) = (acc : Int) := by rw [IntKind.wrap_i64]; omega
          go_wp2
          go_ret2
          have hb : (numD most false s).isSome = true := by rw [HE.out]; simp [hle]
          exact ⟨rfl, (acc : Int), by rw [hb]; rfl, fun v hv => by rw [HE.out] at hv; simp [hle] at hv; rw [← hv]⟩
        · have i1 : ¬ (acc : Int) ≤ 9223372036854775807 := by omega
          go_wp2
          go_ret2
          have hb : (numD most false s).isSome = false := by rw [HE.out]; simp [hle]
          rw [NuP, hb]
          exact ⟨rfl, _, rfl, fun v hv => by rw [HE.out] at hv; simp [hle] at hv⟩
set_option maxHeartbeats 4000000 in
theorem sn3 (most : Nat) (s : Wd) (w : World) (hm : most ≤ 19) (hl : s.length ≤ 1099511627776) (a : UInt8) (q : Wd) (e3 : s = a :: q) (hw : 1 < s.length) (ha : a ≠ 45) :
    Calls Tryz.prog 44 #[.string (S s), .int .i64 (most : Int), .bool true] w (NuP (numD most false s) w) := by
  have hz : (S s).size = s.length := S_size _
  have hw1 : (1 : Int) < (s.length : Int) := by omega
  have ha1 : ((a.toNat : Int) == 45) = false := u8_ne ha
  have hi0 := S_index0 a q w
  rw [← e3] at hi0
  have HE3 := Hid.mk' e3
  clear e3
  by_cases h0 : s.length < 1
  · omega
  by_cases h1 : most < s.length
  · have HN := Hid.mk' (show numD most false s = none by unfold numD; exact if_pos (.inr (.inl h1)))
    have i1 : ¬ (s.length : Int) < 1 := by omega
    have i2 : (most : Int) < (s.length : Int) := by omega
    go_enter Tryz.func44, Tryz.ntmps44
    go_wp2
    go_ret2
    exact nup_none HN.out
  have i1 : ¬ (s.length : Int) < 1 := by omega
  have i2 : ¬ (most : Int) < (s.length : Int) := by omega
  obtain ⟨c, r, hD⟩ : ∃ c r, s = c :: r := by
    cases s with
    | nil => simp at h0
    | cons c r => exact ⟨c, r, rfl⟩
  have e3 := HE3.out
  rw [e3] at hD
  cases hD
  have hhd : s.head? = some a := by rw [e3]; rfl
  have HD := Hid.mk' e3
  clear e3
  by_cases hc : a = 48
  · subst hc
    by_cases hlen : 1 < s.length
    · have HN := Hid.mk' (show numD most false s = none by unfold numD; exact if_pos (.inr (.inr ⟨hhd, .inl hlen⟩)))
      have i3 : (1 : Int) < (s.length : Int) := by omega
      go_enter Tryz.func44, Tryz.ntmps44
      go_wp2
      go_ret2
      exact nup_none HN.out
    · omega
  · have h3 : ((a.toNat : Int) == 48) = false := u8_ne hc
    have HC := Hid.mk' (show NumC most false s by
      rintro (h | h | ⟨h, _⟩)
      · omega
      · omega
      · rw [hhd] at h; exact hc (by simpa using h))
    go_enter Tryz.func44, Tryz.ntmps44
    go_upto_region 9 with fail
    go_loop [10, 11] (fun vx vi => ∃ k acc : Nat, vx = .int .u64 (acc : Int) ∧ vi = .int .i64 (k : Int) ∧ k ≤ s.length ∧ Hid (acc < 10 ^ k ∧ Lib.decFrom 0 s = Lib.decFrom acc (s.drop k))) (fun _ vi => s.length - (intOf vi).toNat)
    case atStart => exact ⟨0, 0, rfl, rfl, by omega, by simp, rfl⟩
    case round =>
      obtain ⟨k, acc, rfl, rfl, hk, hh⟩ := hrel
      by_cases hkn : k < s.length
      · have hki : (k : Int) < (s.length : Int) := by omega
        have hix := S_index s k w hkn
        have hdrop : s.drop k = s[k]'hkn :: s.drop (k + 1) := List.drop_eq_getElem_cons hkn
        have hget : s.getD k 0 = s[k]'hkn := by simp [List.getD, List.getElem?_eq_getElem hkn]
        have h18 := p18 hh.out.1 (by omega)
        have hdec := hh.out.2
        rw [hdrop, decFrom_cons] at hdec
        rw [hget] at hix
        generalize s[k]'hkn = y at hix hdec
        have hy := y.toNat_lt
        cases hdv : Lib.digitVal y with
        | none =>
          rw [hdv] at hdec
          have HN := Hid.mk' (num_no (most := most) (neg := false) hdec)
          have hbad := Lib.digitVal_none hdv
          clear hdec hdrop hget hh hdv
          generalize y.toNat = yn at *
          by_cases h48 : yn < 48
          · have i1 : (yn : Int) < 48 := by omega
            go_wp2
            go_ret2
            exact nup_none HN.out
          · have i1 : ¬ (yn : Int) < 48 := by omega
            have i2 : (57 : Int) < (yn : Int) := by omega
            go_wp2
            go_ret2
            exact nup_none HN.out
        | some d =>
          rw [hdv] at hdec
          obtain ⟨e1, e2, e3⟩ := Lib.digitVal_eq hdv
          have HH : Hid (acc * 10 + d < 10 ^ (k + 1) ∧ Lib.decFrom 0 s = Lib.decFrom (acc * 10 + d) (s.drop (k + 1))) := ⟨by have := hh.out.1; rw [Nat.pow_succ]; omega, hdec⟩
          clear hdec hdrop hget hh hdv
          generalize y.toNat = yn at *
          have i1 : ¬ (yn : Int) < 48 := by omega
          have i2 : ¬ (57 : Int) < (yn : Int) := by omega
          have w1 : IntKind.u8.wrap ((yn : Int) - 48) = (d : Int) := by rw [IntKind.wrap_u8]; omega
          have w2 : IntKind.u64.wrap (d : Int) = (d : Int) := by rw [IntKind.wrap_u64]; omega
          have w3 : IntKind.u64.wrap (10 * (acc : Int)) = 10 * (acc : Int) := by rw [IntKind.wrap_u64]; omega
          have w4 : IntKind.u64.wrap (10 * (acc : Int) + (d : Int)) = 10 * (acc : Int) + (d : Int) := by rw [IntKind.wrap_u64]; omega
          have w5 : IntKind.i64.wrap ((k : Int) + 1) = (k : Int) + 1 := by rw [IntKind.wrap_i64]; omega
          go_wp2
          exact ⟨⟨k + 1, acc * 10 + d, (by congr 1; omega), (by first | rfl | (congr 1; omega)), by omega, HH⟩, by simp [intOf]; omega⟩
      · have ek : k = s.length := by omega
        subst ek
        have hdec := hh.out.2
        rw [List.drop_of_length_le (Nat.le_refl _)] at hdec
        have h19 := p19 hh.out.1 (by omega)
        have HE := Hid.mk' (num_end (neg := false) HC.out (show Lib.decFrom 0 s = some acc from hdec))
        have hki : ¬ (s.length : Int) < (s.length : Int) := by omega
        clear hdec hh hkn
        by_cases hle : acc ≤ 9223372036854775807
        · have i1 : (acc : Int) ≤ 9223372036854775807 := by omega
          have w1 : IntKind.i64.wrap (acc : Int) = (acc : Int) := by rw [IntKind.wrap_i64]; omega
          go_wp2
          go_ret2
          have hb : (numD most false s).isSome = true := by rw [HE.out]; simp [hle]
          exact ⟨rfl, (acc : Int), by rw [hb]; rfl, fun v hv => by rw [HE.out] at hv; simp [hle] at hv; rw [← hv]⟩
        · have i1 : ¬ (acc : Int) ≤ 9223372036854775807 := by omega
          go_wp2
          go_ret2
          have hb : (numD most false s).isSome = false := by rw [HE.out]; simp [hle]
          rw [NuP, hb]
          exact ⟨rfl, _, rfl, fun v hv => by rw [HE.out] at hv; simp [hle] at hv⟩
set_option maxHeartbeats 4000000 in
theorem sn4 (most : Nat) (s : Wd) (w : World) (hm : most ≤ 19) (hl : (45 :: s).length ≤ 1099511627776) (hw : s ≠ []) :
    Calls Tryz.prog 44 #[.string (S (45 :: s)), .int .i64 (most : Int), .bool true] w (NuP (numD most true s) w) := by
  have hz : (S s).size = s.length := S_size _
  have hz' : (S (45 :: s)).size = s.length + 1 := by rw [S_size]; rfl
  have hw1 : (1 : Int) < (s.length : Int) + 1 := by have := List.length_pos_iff.2 hw; omega
  have hia : (Instr.index 9 (.string (S (45 :: s))) (.int .i64 0)).run Tryz.prog w = .ok (.int .u8 45) w := S_index0 45 s w
  have hxx : (S (45 :: s)).extract 1 (s.length + 1) = S s := by rw [show s.length + 1 = (45 :: s).length from rfl, S_from' (45 :: s) 1 _ rfl]; rfl
  by_cases h0 : s.length < 1
  · have HN := Hid.mk' (show numD most true s = none by unfold numD; exact if_pos (.inl h0))
    have i1 : (s.length : Int) < 1 := by omega
    go_enter Tryz.func44, Tryz.ntmps44
    go_wp2
    go_ret2
    exact nup_none HN.out
  by_cases h1 : most < s.length
  · have HN := Hid.mk' (show numD most true s = none by unfold numD; exact if_pos (.inr (.inl h1)))
    have i1 : ¬ (s.length : Int) < 1 := by omega
    have i2 : (most : Int) < (s.length : Int) := by omega
    go_enter Tryz.func44, Tryz.ntmps44
    go_wp2
    go_ret2
    exact nup_none HN.out
  have i1 : ¬ (s.length : Int) < 1 := by omega
  have i2 : ¬ (most : Int) < (s.length : Int) := by omega
  obtain ⟨c, r, hD⟩ : ∃ c r, s = c :: r := by
    cases s with
    | nil => simp at h0
    | cons c r => exact ⟨c, r, rfl⟩
  have hi0 := S_index0 c r w
  rw [← hD] at hi0
  have hhd : s.head? = some c := by rw [hD]; rfl
  have HD := Hid.mk' hD
  clear hD
  by_cases hc : c = 48
  · subst hc
    by_cases hlen : 1 < s.length
    · have HN := Hid.mk' (show numD most true s = none by unfold numD; exact if_pos (.inr (.inr ⟨hhd, .inl hlen⟩)))
      have i3 : (1 : Int) < (s.length : Int) := by omega
      go_enter Tryz.func44, Tryz.ntmps44
      go_wp2
      go_ret2
      exact nup_none HN.out
    · have HN := Hid.mk' (show numD most true s = none by unfold numD; exact if_pos (.inr (.inr ⟨hhd, .inr rfl⟩)))
      have i3 : ¬ (1 : Int) < (s.length : Int) := by omega
      go_enter Tryz.func44, Tryz.ntmps44
      go_wp2
      go_ret2
      exact nup_none HN.out
  · have h3 : ((c.toNat : Int) == 48) = false := u8_ne hc
    have HC := Hid.mk' (show NumC most true s by
      rintro (h | h | ⟨h, _⟩)
      · omega
      · omega
      · rw [hhd] at h; exact hc (by simpa using h))
    go_enter Tryz.func44, Tryz.ntmps44
    go_upto_region 9 with fail
    go_loop [10, 11] (fun vx vi => ∃ k acc : Nat, vx = .int .u64 (acc : Int) ∧ vi = .int .i64 (k : Int) ∧ k ≤ s.length ∧ Hid (acc < 10 ^ k ∧ Lib.decFrom 0 s = Lib.decFrom acc (s.drop k))) (fun _ vi => s.length - (intOf vi).toNat)
    case atStart => exact ⟨0, 0, rfl, rfl, by omega, by simp, rfl⟩
    case round =>
      obtain ⟨k, acc, rfl, rfl, hk, hh⟩ := hrel
      by_cases hkn : k < s.length
      · have hki : (k : Int) < (s.length : Int) := by omega
        have hix := S_index s k w hkn
        have hdrop : s.drop k = s[k]'hkn :: s.drop (k + 1) := List.drop_eq_getElem_cons hkn
        have hget : s.getD k 0 = s[k]'hkn := by simp [List.getD, List.getElem?_eq_getElem hkn]
        have h18 := p18 hh.out.1 (by omega)
        have hdec := hh.out.2
        rw [hdrop, decFrom_cons] at hdec
        rw [hget] at hix
        generalize s[k]'hkn = y at hix hdec
        have hy := y.toNat_lt
        cases hdv : Lib.digitVal y with
        | none =>
          rw [hdv] at hdec
          have HN := Hid.mk' (num_no (most := most) (neg := true) hdec)
          have hbad := Lib.digitVal_none hdv
          clear hdec hdrop hget hh hdv
          generalize y.toNat = yn at *
          by_cases h48 : yn < 48
          · have i1 : (yn : Int) < 48 := by omega
            go_wp2
            go_ret2
            exact nup_none HN.out
          · have i1 : ¬ (yn : Int) < 48 := by omega
            have i2 : (57 : Int) < (yn : Int) := by omega
            go_wp2
            go_ret2
            exact nup_none HN.out
        | some d =>
          rw [hdv] at hdec
          obtain ⟨e1, e2, e3⟩ := Lib.digitVal_eq hdv
          have HH : Hid (acc * 10 + d < 10 ^ (k + 1) ∧ Lib.decFrom 0 s = Lib.decFrom (acc * 10 + d) (s.drop (k + 1))) := ⟨by have := hh.out.1; rw [Nat.pow_succ]; omega, hdec⟩
          clear hdec hdrop hget hh hdv
          generalize y.toNat = yn at *
          have i1 : ¬ (yn : Int) < 48 := by omega
          have i2 : ¬ (57 : Int) < (yn : Int) := by omega
          have w1 : IntKind.u8.wrap ((yn : Int) - 48) = (d : Int) := by rw [IntKind.wrap_u8]; omega
          have w2 : IntKind.u64.wrap (d : Int) = (d : Int) := by rw [IntKind.wrap_u64]; omega
          have w3 : IntKind.u64.wrap (10 * (acc : Int)) = 10 * (acc : Int) := by rw [IntKind.wrap_u64]; omega
          have w4 : IntKind.u64.wrap (10 * (acc : Int) + (d : Int)) = 10 * (acc : Int) + (d : Int) := by rw [IntKind.wrap_u64]; omega
          have w5 : IntKind.i64.wrap ((k : Int) + 1) = (k : Int) + 1 := by rw [IntKind.wrap_i64]; omega
          go_wp2
          exact ⟨⟨k + 1, acc * 10 + d, (by congr 1; omega), (by first | rfl | (congr 1; omega)), by omega, HH⟩, by simp [intOf]; omega⟩
      · have ek : k = s.length := by omega
        subst ek
        have hdec := hh.out.2
        rw [List.drop_of_length_le (Nat.le_refl _)] at hdec
        have h19 := p19 hh.out.1 (by omega)
        have HE := Hid.mk' (num_end (neg := true) HC.out (show Lib.decFrom 0 s = some acc from hdec))
        have hki : ¬ (s.length : Int) < (s.length : Int) := by omega
        clear hdec hh hkn
        by_cases hle : acc ≤ 9223372036854775808
        · have i1 : (acc : Int) ≤ 9223372036854775808 := by omega
          have w1 : IntKind.i64.wrap (IntKind.u64.wrap (-(acc : Int))) = -(acc : Int) := by rw [IntKind.wrap_i64, IntKind.wrap_u64]; omega
          go_wp2
          go_ret2
          have hb : (numD most true s).isSome = true := by rw [HE.out]; simp [hle]
          exact ⟨rfl, -(acc : Int), by rw [hb]; rfl, fun v hv => by rw [HE.out] at hv; simp [hle] at hv; rw [← hv]⟩
        · have i1 : ¬ (acc : Int) ≤ 9223372036854775808 := by omega
          go_wp2
          go_ret2
          have hb : (numD most true s).isSome = false := by rw [HE.out]; simp [hle]
          rw [NuP, hb]
          exact ⟨rfl, _, rfl, fun v hv => by rw [HE.out] at hv; simp [hle] at hv⟩
theorem snum_c (most : Nat) (sg : Bool) (s : Wd) (w : World) (hm : most ≤ 19) (hl : s.length ≤ 1099511627776) :
    Calls Tryz.prog 44 #[.string (S s), .int .i64 (most : Int), .bool sg] w (NuP (numM most sg s) w) := by
  cases sg with
  | false => exact sn1 most s w hm hl
  | true =>
    by_cases h1 : s.length ≤ 1
    · have e : numM most true s = numD most false s := by
        have : (true && (decide (1 < s.length) && (s.head? == some 45))) = false := by simp; omega
        unfold numM numD; simp only [this]; rfl
      rw [e]; exact sn2 most s w hm hl h1
    · cases s with
      | nil => simp at h1
      | cons a q =>
        by_cases ha : a = 45
        · subst ha
          have hq : q ≠ [] := by rintro rfl; simp at h1
          have e : numM most true (45 :: q) = numD most true q := by
            have : (true && (decide (1 < (45 :: q).length) && ((45 :: q).head? == some 45))) = true := by simp; exact List.length_pos_iff.2 hq
            unfold numM numD; simp only [this]; rfl
          rw [e]; exact sn4 most q w hm hl hq
        · have e : numM most true (a :: q) = numD most false (a :: q) := by
            have : (true && (decide (1 < (a :: q).length) && ((a :: q).head? == some 45))) = false := by simp [ha]
            unfold numM numD; simp only [this]; rfl
          rw [e]; exact sn3 most (a :: q) w hm hl a q rfl (by omega) ha
end Go.Proofs.YtngepdhhdbhglaaGreatDoor
