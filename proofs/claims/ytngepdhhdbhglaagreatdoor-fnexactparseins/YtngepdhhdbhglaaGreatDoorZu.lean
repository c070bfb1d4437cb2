import Derived.Test.YtngepdhhdbhglaaGreatDoorZm
import Derived.Test.YtngepdhhdbhglaaGreatDoorYd
set_option linter.all false
set_option linter.unusedVariables false
namespace Go.Proofs.YtngepdhhdbhglaaGreatDoor
open Go.RowKit Go.Sort
set_option maxRecDepth 100000
attribute [-go_sem] run_index_string
theorem in_c (x lo hi : Int) (w : World) : Calls Tryz.prog 46 #[.int .i64 x, .int .i64 lo, .int .i64 hi] w fun e w' => e = .returned (.bool (decide (lo ≤ x) && decide (x ≤ hi))) ∧ w = w' := by
  by_cases h1 : lo ≤ x
  · by_cases h2 : x ≤ hi
    · go_enter Tryz.func46, Tryz.ntmps46
      go_wp2
      go_ret
      exact ⟨by simp [h1, h2], rfl⟩
    · go_enter Tryz.func46, Tryz.ntmps46
      go_wp2
      go_ret
      exact ⟨by simp [h1, h2], rfl⟩
  · go_enter Tryz.func46, Tryz.ntmps46
    go_wp2
    go_ret
    exact ⟨by rw [decide_eq_false (show ¬ lo ≤ x by omega)]; rfl, rfl⟩
theorem isU_c (x : Int) (w : World) : Calls Tryz.prog 65 #[.int .i64 x] w fun e w' => e = .returned (.bool (decide (0 ≤ x) && decide (x ≤ 4294967295))) ∧ w = w' := by
  have K := Hid.mk' (in_c x 0 4294967295 w)
  go_enter Tryz.func65, Tryz.ntmps65
  go_wp2_with fail
  refine K.out.mono ?_
  rintro e w1 ⟨rfl, rfl⟩
  go_wp2
  go_ret
  exact ⟨rfl, rfl⟩
theorem okN_num {lo hi : Int} {most : Nat} {sg : Bool} {s : Wd} (h0 : -9223372036854775808 ≤ lo) (h1 : hi ≤ 9223372036854775807) (hm : ∀ v, lo ≤ v → v ≤ hi → v.natAbs < 10 ^ most) (hm1 : 1 ≤ most) (hs : sg = false → 0 ≤ lo) :
    okN lo hi s = (match numM most sg s with | some v => decide (lo ≤ v) && decide (v ≤ hi) | none => false) ∧ ∀ v, numM most sg s = some v → okP s = some v := by
  cases hn : numM most sg s with
  | none =>
    refine ⟨?_, fun v e => by cases e⟩
    cases ho : okN lo hi s with
    | false => rfl
    | true =>
      exfalso
      unfold okN at ho
      cases hp : okP s with
      | none => rw [hp] at ho; cases ho
      | some v =>
        rw [hp] at ho
        simp at ho
        obtain ⟨a1, a2, a3⟩ := ho
        have := numM_itoa (most := most) (sg := sg) (v := v) (by omega) (by omega) (fun e => by have := hs e; omega) (hm v a1 a2) hm1
        rw [a3, hn] at this
        cases this
  | some v =>
    obtain ⟨e1, e2, e3, e4⟩ := numM_some hn
    have hp : okP s = some v := by rw [← e1]; exact okP_itoa v e2 e3
    refine ⟨?_, fun u e => by cases e; exact hp⟩
    unfold okN
    rw [hp]
    simp [e1]
set_option maxHeartbeats 1000000 in
theorem su32_c (s : Wd) (w : World) (hl : s.length ≤ 1099511627776) :
    Calls Tryz.prog 43 #[.string (S s)] w fun e w' => w = w' ∧ ∃ x : Int, e = .returned (.tuple #[.int .i64 x, .bool (okN 0 4294967295 s)]) ∧ (okN 0 4294967295 s = true → okP s = some x) := by
  have K := Hid.mk' (snum_c 10 false s w (by omega) hl)
  obtain ⟨h1, h2⟩ := okN_num (lo := 0) (hi := 4294967295) (most := 10) (sg := false) (s := s) (by omega) (by omega) (fun v a b => by omega) (by omega) (fun _ => by omega)
  rw [h1]
  generalize numM 10 false s = o at *
  cases o with
  | none =>
    clear h1 h2 hl
    go_enter Tryz.func43, Tryz.ntmps43
    go_wp2_with fail
    refine K.out.mono ?_
    rintro e w1 ⟨rfl, x, rfl, -⟩
    go_wp2
    go_ret2
    exact ⟨rfl, x, rfl, fun h => by cases h⟩
  | some v =>
    have hp := Hid.mk' (h2 v rfl)
    have KU := Hid.mk' (isU_c v w)
    clear h1 h2 hl
    go_enter Tryz.func43, Tryz.ntmps43
    go_wp2_with fail
    refine K.out.mono ?_
    rintro e w1 ⟨rfl, x, rfl, hx⟩
    have ex := hx v rfl
    subst ex
    clear hx
    go_wp2_with fail
    refine KU.out.mono ?_
    rintro e w1 ⟨rfl, rfl⟩
    go_wp2
    go_ret2
    exact ⟨rfl, x, rfl, fun _ => hp.out⟩
def tyOf (s : ByteArray) : Int := if s.size < 3 then 0 else
  if (s.extract 0 3).data.toList = [105, 51, 50] then 127 else if (s.extract 0 3).data.toList = [105, 54, 52] then 126 else if (s.extract 0 3).data.toList = [102, 51, 50] then 125 else if (s.extract 0 3).data.toList = [102, 54, 52] then 124 else 0
theorem typeOf_c (s : ByteArray) (w : World) : Calls Tryz.prog 42 #[.string s] w fun e w' => e = .returned (.int .i64 (tyOf s)) ∧ w = w' := by
  by_cases h : s.size < 3
  · have f1 : (s.size : Int) < 3 := by omega
    go_enter Tryz.func42, Tryz.ntmps42
    go_wp2
    go_ret
    exact ⟨by simp [tyOf, h], rfl⟩
  · have f1 : ¬ (s.size : Int) < 3 := by omega
    go_enter Tryz.func42, Tryz.ntmps42
    go_wp2
    all_goals
      go_ret
      refine ⟨?_, rfl⟩
      simp only [ByteArray.toList_eq, beq_iff_eq, beq_eq_false_iff_ne, ne_eq] at *
      simp_all [tyOf]
theorem tyOf_len {s : Wd} (h : s.length = 3) : tyOf (S s) = tyN s := by
  unfold tyOf tyN
  rw [if_neg (by rw [S_size]; omega), S_ext, S_toList, List.drop_zero, List.take_of_length_le (by omega)]
  rfl
theorem tyN_len {s : Wd} (h : s.length ≠ 3) : tyN s = 0 := by
  unfold tyN
  have k : ∀ i, (tyW i).length = 3 := fun i => by
    unfold tyW
    split
    · rfl
    · split
      · rfl
      · split <;> rfl
  rw [if_neg (fun e => h (by rw [e]; exact k 0)), if_neg (fun e => h (by rw [e]; exact k 1)), if_neg (fun e => h (by rw [e]; exact k 2)), if_neg (fun e => h (by rw [e]; exact k 3))]
theorem sty_c (s : Wd) (w : World) : Calls Tryz.prog 25 #[.string (S s)] w fun e w' => e = .returned (.tuple #[.int .i64 (tyN s), .bool (!(tyN s == 0))]) ∧ w = w' := by
  have hz : (S s).size = s.length := S_size s
  by_cases h : s.length = 3
  · have K := Hid.mk' (typeOf_c (S s) w)
    rw [tyOf_len h] at K
    have h1 : ((s.length : Int) == 3) = true := by simp; omega
    clear h
    generalize tyN s = t at *
    go_enter Tryz.func25, Tryz.ntmps25
    go_wp2_with fail
    refine K.out.mono ?_
    rintro e w1 ⟨rfl, rfl⟩
    go_wp2
    go_ret2
    exact ⟨rfl, rfl⟩
  · have e0 := tyN_len h
    have h1 : ((s.length : Int) == 3) = false := by simp; omega
    rw [e0]
    clear h e0
    go_enter Tryz.func25, Tryz.ntmps25
    go_wp2
    go_ret2
    exact ⟨rfl, rfl⟩
end Go.Proofs.YtngepdhhdbhglaaGreatDoor
