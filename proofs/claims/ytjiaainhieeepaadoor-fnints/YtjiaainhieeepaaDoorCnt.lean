import Derived.Test.YtjiaainhieeepaaDoorUn
import Derived.Test.YtjiaainhieeepaaDoorFold
set_option linter.unusedVariables false
namespace Go.Proofs.YtjiaainhieeepaaDoor
open Go.RowKit
theorem P2_nat (k : Nat) : P2 (k : Int) = ((2 ^ k : Nat) : Int) := by unfold P2; simp
theorem bit_at (X k : Nat) : (X : Int) / P2 (k : Int) % 2 = ((X / 2 ^ k % 2 : Nat) : Int) := by rw [P2_nat]; omega
theorem high_le (n k x : Nat) : highN n k x ≤ n := by
  induction k with
  | zero => exact Nat.le_refl _
  | succ k ih => simp only [highN]; split <;> omega
theorem low_le (n k x : Nat) (h : k ≤ n) : lowN n k x ≤ n := by
  induction k with
  | zero => exact Nat.le_refl _
  | succ k ih => simp only [lowN]; have := ih (by omega); split <;> omega
set_option maxHeartbeats 2000000 in
theorem count64 (X : Nat) (w : World) (hX : X < 18446744073709551616) :
    Calls Tryd.prog 13 #[.int .u64 X, .int .i64 64] w fun e w' => e = .returned (.tuple #[.int .u64 (highN 64 64 X), .int .u64 (lowN 64 64 X), .int .u64 (ones 64 X)]) ∧ w = w' := by
  have hXi : (X : Int) ≤ 18446744073709551615 := by omega
  go_enter Tryd.func13, Tryd.ntmps13
  go_wp2
  go_loop [7, 8, 9, 10] (fun h l c i => ∃ k : Nat, k ≤ 64 ∧ i = .int .i64 k ∧ h = .int .u64 (highN 64 k X) ∧ l = .int .u64 (lowN 64 k X) ∧ c = .int .u64 (ones k X)) (fun _ _ _ i => (64 - intOf i).toNat)
  case atStart => exact ⟨0, by omega, rfl, rfl, rfl, rfl⟩
  case round =>
    obtain ⟨k, hk, rfl, rfl, rfl, rfl⟩ := hrel
    have l1 := high_le 64 k X
    have l2 := low_le 64 k X hk
    have l3 := ones_le k X
    have hbit := bit_at X k
    have H1 : Hid (highN 64 (k + 1) X = if X / 2 ^ k % 2 = 1 then 64 - 1 - k else highN 64 k X) := rfl
    have H2 : Hid (lowN 64 (k + 1) X = if X / 2 ^ k % 2 = 1 ∧ lowN 64 k X = 64 then k else lowN 64 k X) := rfl
    have H3 : Hid (ones (k + 1) X = ones k X + X / 2 ^ k % 2) := rfl
    have HK : Hid (k = 64 → highN 64 k X = highN 64 64 X ∧ lowN 64 k X = lowN 64 64 X ∧ ones k X = ones 64 X) := by
      intro e; rw [e]; exact ⟨rfl, rfl, rfl⟩
    have hbb : X / 2 ^ k % 2 = 0 ∨ X / 2 ^ k % 2 = 1 := by omega
    generalize X / 2 ^ k % 2 = bt at *
    generalize highN 64 k X = hv at *
    generalize lowN 64 k X = lv at *
    generalize ones k X = cv at *
    have p0 := P2_pos (k : Int)
    by_cases hlt : k < 64
    · have hlt' : (k : Int) < 64 := by omega
      have p1 := P2_63 (n := (k : Int)) (by omega)
      have d0 : 0 ≤ (X : Int) / P2 (k : Int) := Int.ediv_nonneg (by omega) (by omega)
      have d1 : (X : Int) / P2 (k : Int) ≤ 18446744073709551615 := Int.le_trans (Int.ediv_le_self _ (by omega)) hXi
      rcases hbb with rfl | rfl
      · have hq : ((X : Int) / P2 (k : Int) % 2 == 1) = false := by rw [hbit]; rfl
        clear hbit
        go_wp2_with (go_at_call 27; refine (pow_any _ _ (by omega) (by omega)).mono ?_; rintro e w' ⟨rfl, rfl⟩)
        go_round
        case rel => exact ⟨k + 1, by omega, by go_num, by rw [H1.out, if_neg (by omega)], by rw [H2.out, if_neg (by omega)], by rw [H3.out]; rfl⟩
        case measure => simp [intOf]; omega
      · have hq : ((X : Int) / P2 (k : Int) % 2 == 1) = true := by rw [hbit]; rfl
        clear hbit
        by_cases hlv : lv = 64
        · subst hlv
          go_wp2_with (go_at_call 27; refine (pow_any _ _ (by omega) (by omega)).mono ?_; rintro e w' ⟨rfl, rfl⟩)
          go_round
          case rel => exact ⟨k + 1, by omega, by go_num, congrArg (Value.int .u64) (by have h := H1.out; simp at h; omega), congrArg (Value.int .u64) (by have h := H2.out; simp at h; omega), congrArg (Value.int .u64) (by have h := H3.out; omega)⟩
          case measure => simp [intOf]; omega
        · have hl' : ((lv : Int) == 64) = false := beq_eq_false_iff_ne.2 (by omega)
          go_wp2_with (go_at_call 27; refine (pow_any _ _ (by omega) (by omega)).mono ?_; rintro e w' ⟨rfl, rfl⟩)
          go_round
          case rel => exact ⟨k + 1, by omega, by go_num, congrArg (Value.int .u64) (by have h := H1.out; simp at h; omega), congrArg (Value.int .u64) (by have h := H2.out; simp [hlv] at h; omega), congrArg (Value.int .u64) (by have h := H3.out; omega)⟩
          case measure => simp [intOf]; omega
    · have hlt' : ¬ (k : Int) < 64 := by omega
      have G := Hid.mk' (HK.out (by omega))
      clear H1 H2 H3 HK hbit
      go_wp2
      exact bodyPost_ret (v := .tuple #[.int .u64 hv, .int .u64 lv, .int .u64 cv]) (by simp [results, Tryd.results13, go_sem]) rfl ⟨by rw [G.out.1, G.out.2.1, G.out.2.2], rfl⟩
set_option maxHeartbeats 2000000 in
theorem count32 (X : Nat) (w : World) (hX : X < 18446744073709551616) :
    Calls Tryd.prog 13 #[.int .u64 X, .int .i64 32] w fun e w' => e = .returned (.tuple #[.int .u64 (highN 32 32 X), .int .u64 (lowN 32 32 X), .int .u64 (ones 32 X)]) ∧ w = w' := by
  have hXi : (X : Int) ≤ 18446744073709551615 := by omega
  go_enter Tryd.func13, Tryd.ntmps13
  go_wp2
  go_loop [7, 8, 9, 10] (fun h l c i => ∃ k : Nat, k ≤ 32 ∧ i = .int .i64 k ∧ h = .int .u64 (highN 32 k X) ∧ l = .int .u64 (lowN 32 k X) ∧ c = .int .u64 (ones k X)) (fun _ _ _ i => (32 - intOf i).toNat)
  case atStart => exact ⟨0, by omega, rfl, rfl, rfl, rfl⟩
  case round =>
    obtain ⟨k, hk, rfl, rfl, rfl, rfl⟩ := hrel
    have l1 := high_le 32 k X
    have l2 := low_le 32 k X hk
    have l3 := ones_le k X
    have hbit := bit_at X k
    have H1 : Hid (highN 32 (k + 1) X = if X / 2 ^ k % 2 = 1 then 32 - 1 - k else highN 32 k X) := rfl
    have H2 : Hid (lowN 32 (k + 1) X = if X / 2 ^ k % 2 = 1 ∧ lowN 32 k X = 32 then k else lowN 32 k X) := rfl
    have H3 : Hid (ones (k + 1) X = ones k X + X / 2 ^ k % 2) := rfl
    have HK : Hid (k = 32 → highN 32 k X = highN 32 32 X ∧ lowN 32 k X = lowN 32 32 X ∧ ones k X = ones 32 X) := by
      intro e; rw [e]; exact ⟨rfl, rfl, rfl⟩
    have hbb : X / 2 ^ k % 2 = 0 ∨ X / 2 ^ k % 2 = 1 := by omega
    generalize X / 2 ^ k % 2 = bt at *
    generalize highN 32 k X = hv at *
    generalize lowN 32 k X = lv at *
    generalize ones k X = cv at *
    have p0 := P2_pos (k : Int)
    by_cases hlt : k < 32
    · have hlt' : (k : Int) < 32 := by omega
      have p1 := P2_63 (n := (k : Int)) (by omega)
      have d0 : 0 ≤ (X : Int) / P2 (k : Int) := Int.ediv_nonneg (by omega) (by omega)
      have d1 : (X : Int) / P2 (k : Int) ≤ 18446744073709551615 := Int.le_trans (Int.ediv_le_self _ (by omega)) hXi
      rcases hbb with rfl | rfl
      · have hq : ((X : Int) / P2 (k : Int) % 2 == 1) = false := by rw [hbit]; rfl
        clear hbit
        go_wp2_with (go_at_call 27; refine (pow_any _ _ (by omega) (by omega)).mono ?_; rintro e w' ⟨rfl, rfl⟩)
        go_round
        case rel => exact ⟨k + 1, by omega, by go_num, by rw [H1.out, if_neg (by omega)], by rw [H2.out, if_neg (by omega)], by rw [H3.out]; rfl⟩
        case measure => simp [intOf]; omega
      · have hq : ((X : Int) / P2 (k : Int) % 2 == 1) = true := by rw [hbit]; rfl
        clear hbit
        by_cases hlv : lv = 32
        · subst hlv
          go_wp2_with (go_at_call 27; refine (pow_any _ _ (by omega) (by omega)).mono ?_; rintro e w' ⟨rfl, rfl⟩)
          go_round
          case rel => exact ⟨k + 1, by omega, by go_num, congrArg (Value.int .u64) (by have h := H1.out; simp at h; omega), congrArg (Value.int .u64) (by have h := H2.out; simp at h; omega), congrArg (Value.int .u64) (by have h := H3.out; omega)⟩
          case measure => simp [intOf]; omega
        · have hl' : ((lv : Int) == 32) = false := beq_eq_false_iff_ne.2 (by omega)
          go_wp2_with (go_at_call 27; refine (pow_any _ _ (by omega) (by omega)).mono ?_; rintro e w' ⟨rfl, rfl⟩)
          go_round
          case rel => exact ⟨k + 1, by omega, by go_num, congrArg (Value.int .u64) (by have h := H1.out; simp at h; omega), congrArg (Value.int .u64) (by have h := H2.out; simp [hlv] at h; omega), congrArg (Value.int .u64) (by have h := H3.out; omega)⟩
          case measure => simp [intOf]; omega
    · have hlt' : ¬ (k : Int) < 32 := by omega
      have G := Hid.mk' (HK.out (by omega))
      clear H1 H2 H3 HK hbit
      go_wp2
      exact bodyPost_ret (v := .tuple #[.int .u64 hv, .int .u64 lv, .int .u64 cv]) (by simp [results, Tryd.results13, go_sem]) rfl ⟨by rw [G.out.1, G.out.2.1, G.out.2.2], rfl⟩
end Go.Proofs.YtjiaainhieeepaaDoor
