import Derived.Test.YtnbplhlpcojlhaaGetU
import Derived.Test.YtnbplhlpcojlhaaGetI
namespace Go.Proofs.Ytnbplhlpcojlhaa
open Go.RowKit

set_option maxHeartbeats 1000000 in
theorem lebGetU_any (a : Option Addr) (cap : Nat) (bs : List Int) (p b : Int) (w : World) (hl : bs.length ≤ 1099511627776) (ha : Has w a bs) (hB : AllB bs) :
    Calls Try.prog 35 #[.slice a bs.length cap, .int .i64 p, .int .i64 b] w fun e w' => e = .returned (RV (getA false bs p b)) ∧ Below w.heap.size w w' := by
  by_cases hp : 0 ≤ p ∧ p ≤ bs.length
  · obtain ⟨P, rfl⟩ := Int.eq_ofNat_of_zero_le hp.1
    have eA : getA false bs (P : Int) b = getR false bs P (normB b) 10 0 0 := by unfold getA; rw [if_pos hp, Int.toNat_natCast]
    rw [eA]
    rcases ha with hx | ⟨b1, o1, rfl, hc1⟩
    · subst hx
      have hP : P = 0 := by have := hp.2; simp at this; omega
      subst hP
      show Calls Try.prog 35 #[.slice a 0 cap, .int .i64 0, .int .i64 b] w fun e w' => e = .returned (RV (1, 0, 0)) ∧ Below w.heap.size w w'
      clear hl hB hp eA
      go_enter Try.func35, Try.ntmps35
      go_wp2
      all_goals
        refine wp_loop_rounds 1 ?_
        rw [rounds_succ]
        go_wp2
        exact bodyPost_ret (v := .agg #[.int .i64 1, .int .u64 0, .int .i64 0]) (by simp [results, Try.results35, go_sem]) rfl ⟨rfl, (Below.refl _ _).alloc (Nat.le_refl _) _⟩
    · exact lebGetU_row b1 o1 cap bs P b w hl (by omega) (normB b) rfl (normB_bd b).1 (normB_bd b).2 _ hc1 hB rfl
  · have eA : getA false bs p b = (1, 0, (bs.length : Int)) := by unfold getA; rw [if_neg hp]
    rw [eA]
    clear eA ha hB
    rcases (show p < 0 ∨ (0 ≤ p ∧ (bs.length : Int) < p) by omega) with h | ⟨h, h'⟩
    all_goals
      go_enter Try.func35, Try.ntmps35
      go_wp2
      all_goals
        exact bodyPost_ret (v := .agg #[.int .i64 1, .int .u64 0, .int .i64 bs.length]) (by simp [results, Try.results35, go_sem]) rfl ⟨rfl, (Below.refl _ _).alloc (Nat.le_refl _) _⟩

set_option maxHeartbeats 1000000 in
theorem lebGetS_any (a : Option Addr) (cap : Nat) (bs : List Int) (p b : Int) (w : World) (hl : bs.length ≤ 1099511627776) (ha : Has w a bs) (hB : AllB bs) :
    Calls Try.prog 36 #[.slice a bs.length cap, .int .i64 p, .int .i64 b] w fun e w' => e = .returned (RV (getA true bs p b)) ∧ Below w.heap.size w w' := by
  by_cases hp : 0 ≤ p ∧ p ≤ bs.length
  · obtain ⟨P, rfl⟩ := Int.eq_ofNat_of_zero_le hp.1
    have eA : getA true bs (P : Int) b = getR true bs P (normB b) 10 0 0 := by unfold getA; rw [if_pos hp, Int.toNat_natCast]
    rw [eA]
    rcases ha with hx | ⟨b1, o1, rfl, hc1⟩
    · subst hx
      have hP : P = 0 := by have := hp.2; simp at this; omega
      subst hP
      show Calls Try.prog 36 #[.slice a 0 cap, .int .i64 0, .int .i64 b] w fun e w' => e = .returned (RV (1, 0, 0)) ∧ Below w.heap.size w w'
      clear hl hB hp eA
      go_enter Try.func36, Try.ntmps36
      go_wp2
      all_goals
        refine wp_loop_rounds 1 ?_
        rw [rounds_succ]
        go_wp2
        exact bodyPost_ret (v := .agg #[.int .i64 1, .int .u64 0, .int .i64 0]) (by simp [results, Try.results36, go_sem]) rfl ⟨rfl, (Below.refl _ _).alloc (Nat.le_refl _) _⟩
    · exact lebGetS_row b1 o1 cap bs P b w hl (by omega) (normB b) rfl (normB_bd b).1 (normB_bd b).2 _ hc1 hB rfl
  · have eA : getA true bs p b = (1, 0, (bs.length : Int)) := by unfold getA; rw [if_neg hp]
    rw [eA]
    clear eA ha hB
    rcases (show p < 0 ∨ (0 ≤ p ∧ (bs.length : Int) < p) by omega) with h | ⟨h, h'⟩
    all_goals
      go_enter Try.func36, Try.ntmps36
      go_wp2
      all_goals
        exact bodyPost_ret (v := .agg #[.int .i64 1, .int .u64 0, .int .i64 bs.length]) (by simp [results, Try.results36, go_sem]) rfl ⟨rfl, (Below.refl _ _).alloc (Nat.le_refl _) _⟩

set_option maxHeartbeats 1000000 in
theorem specGet_any (s : Bool) (a : Option Addr) (cap : Nat) (bs : List Int) (p b : Int) (w : World) (hl : bs.length ≤ 1099511627776) (ha : Has w a bs) (hB : AllB bs) :
    Calls Try.prog 34 #[.slice a bs.length cap, .int .i64 p, .int .i64 b, .bool s] w fun e w' => e = .returned (RV (getA s bs p b)) ∧ Below w.heap.size w w' := by
  by_cases hp : 0 ≤ p ∧ p ≤ bs.length
  · obtain ⟨P, rfl⟩ := Int.eq_ofNat_of_zero_le hp.1
    have eA : getA s bs (P : Int) b = getR s bs P (normB b) 10 0 0 := by unfold getA; rw [if_pos hp, Int.toNat_natCast]
    rw [eA]
    rcases ha with hx | ⟨b1, o1, rfl, hc1⟩
    · subst hx
      have hP : P = 0 := by have := hp.2; simp at this; omega
      subst hP
      show Calls Try.prog 34 #[.slice a 0 cap, .int .i64 0, .int .i64 b, .bool s] w fun e w' => e = .returned (RV (1, 0, 0)) ∧ Below w.heap.size w w'
      clear hl hB hp eA
      by_cases hin : 1 ≤ b ∧ b ≤ 64
      · have hb0 := hin.1
        have hb1 := hin.2
        go_enter Try.func34, Try.ntmps34
        go_wp2_with fail
        refine (in_yes _ _ _ _ hb0 hb1).mono ?_
        rintro e w' ⟨rfl, rfl⟩
        go_wp2_with fail
        refine (in_yes _ _ _ _ (by omega) (by omega)).mono ?_
        rintro e w' ⟨rfl, rfl⟩
        clear hin
        go_wp2
        refine wp_loop_rounds 1 ?_
        rw [rounds_succ]
        go_wp2
        exact bodyPost_ret (v := .agg #[.int .i64 1, .int .u64 0, .int .i64 0]) (by simp [results, Try.results34, go_sem]) rfl ⟨rfl, (Below.refl _ _).alloc (Nat.le_refl _) _⟩
      · go_enter Try.func34, Try.ntmps34
        go_wp2_with fail
        refine (in_no _ _ _ _ hin).mono ?_
        rintro e w' ⟨rfl, rfl⟩
        go_wp2_with fail
        refine (in_yes _ _ _ _ (by omega) (by omega)).mono ?_
        rintro e w' ⟨rfl, rfl⟩
        clear hin
        go_wp2
        refine wp_loop_rounds 1 ?_
        rw [rounds_succ]
        go_wp2
        exact bodyPost_ret (v := .agg #[.int .i64 1, .int .u64 0, .int .i64 0]) (by simp [results, Try.results34, go_sem]) rfl ⟨rfl, (Below.refl _ _).alloc (Nat.le_refl _) _⟩
    · exact specGet_row s b1 o1 cap bs P b w hl (by omega) (normB b) rfl (normB_bd b).1 (normB_bd b).2 _ hc1 hB rfl
  · have eA : getA s bs p b = (1, 0, (bs.length : Int)) := by unfold getA; rw [if_neg hp]
    rw [eA]
    clear eA ha hB
    by_cases hin : 1 ≤ b ∧ b ≤ 64
    · have hb0 := hin.1
      have hb1 := hin.2
      go_enter Try.func34, Try.ntmps34
      go_wp2_with fail
      refine (in_yes _ _ _ _ hb0 hb1).mono ?_
      rintro e w' ⟨rfl, rfl⟩
      go_wp2_with fail
      refine (in_no _ _ _ _ hp).mono ?_
      rintro e w' ⟨rfl, rfl⟩
      clear hin hp
      go_wp2
      exact bodyPost_ret (v := .agg #[.int .i64 1, .int .u64 0, .int .i64 bs.length]) (by simp [results, Try.results34, go_sem]) rfl ⟨rfl, (Below.refl _ _).alloc (Nat.le_refl _) _⟩
    · go_enter Try.func34, Try.ntmps34
      go_wp2_with fail
      refine (in_no _ _ _ _ hin).mono ?_
      rintro e w' ⟨rfl, rfl⟩
      go_wp2_with fail
      refine (in_no _ _ _ _ hp).mono ?_
      rintro e w' ⟨rfl, rfl⟩
      clear hin hp
      go_wp2
      exact bodyPost_ret (v := .agg #[.int .i64 1, .int .u64 0, .int .i64 bs.length]) (by simp [results, Try.results34, go_sem]) rfl ⟨rfl, (Below.refl _ _).alloc (Nat.le_refl _) _⟩
end Go.Proofs.Ytnbplhlpcojlhaa
