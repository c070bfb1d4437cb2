import Derived.Test.YtfaajmhmcdoibaaGU
set_option linter.all false
set_option linter.unusedVariables false
namespace Go.Proofs.Ytfaajmhmcdoibaa.By
open Go.RowKit
set_option maxRecDepth 100000


set_option maxHeartbeats 1000000 in
theorem lebGetU_any (a : Option Addr) (cap : Nat) (bs : List Int) (p b : Int) (w : World) (hl : bs.length ≤ 1099511627776) (ha : Has w a bs) (hB : AllB bs) :
    Calls Try.prog 97 #[.slice a bs.length cap, .int .i64 p, .int .i64 b] w fun e w' => e = .returned (RV (getA false bs p b)) ∧ Below w.heap.size w w' := by
  by_cases hp : 0 ≤ p ∧ p ≤ bs.length
  · obtain ⟨P, rfl⟩ := Int.eq_ofNat_of_zero_le hp.1
    have eA : getA false bs (P : Int) b = getR false bs P (normB b) 10 0 0 := by unfold getA; rw [if_pos hp, Int.toNat_natCast]
    rw [eA]
    rcases ha with hx | ⟨b1, o1, rfl, hc1⟩
    · subst hx
      have hP : P = 0 := by have := hp.2; simp at this; omega
      subst hP
      show Calls Try.prog 97 #[.slice a 0 cap, .int .i64 0, .int .i64 b] w fun e w' => e = .returned (RV (1, 0, 0)) ∧ Below w.heap.size w w'
      clear hl hB hp eA
      go_enter Try.func97, Try.ntmps97
      go_wp2
      all_goals
        refine wp_loop_rounds 1 ?_
        rw [rounds_succ]
        go_wp2
        exact bodyPost_ret (v := .agg #[.int .i64 1, .int .u64 0, .int .i64 0]) (by simp [results, Try.results97, go_sem]) rfl ⟨rfl, (Below.refl _ _).alloc (Nat.le_refl _) _⟩
    · exact lebGetU_row b1 o1 cap bs P b w hl (by omega) (normB b) rfl (normB_bd b).1 (normB_bd b).2 _ hc1 hB rfl
  · have eA : getA false bs p b = (1, 0, (bs.length : Int)) := by unfold getA; rw [if_neg hp]
    rw [eA]
    clear eA ha hB
    rcases (show p < 0 ∨ (0 ≤ p ∧ (bs.length : Int) < p) by omega) with h | ⟨h, h'⟩
    all_goals
      go_enter Try.func97, Try.ntmps97
      go_wp2
      all_goals
        exact bodyPost_ret (v := .agg #[.int .i64 1, .int .u64 0, .int .i64 bs.length]) (by simp [results, Try.results97, go_sem]) rfl ⟨rfl, (Below.refl _ _).alloc (Nat.le_refl _) _⟩

set_option maxHeartbeats 1000000 in
theorem specGet_any (s : Bool) (a : Option Addr) (cap : Nat) (bs : List Int) (p b : Int) (w : World) (hl : bs.length ≤ 1099511627776) (ha : Has w a bs) (hB : AllB bs) :
    Calls Try.prog 56 #[.slice a bs.length cap, .int .i64 p, .int .i64 b, .bool s] w fun e w' => e = .returned (RV (getA s bs p b)) ∧ Below w.heap.size w w' := by
  by_cases hp : 0 ≤ p ∧ p ≤ bs.length
  · obtain ⟨P, rfl⟩ := Int.eq_ofNat_of_zero_le hp.1
    have eA : getA s bs (P : Int) b = getR s bs P (normB b) 10 0 0 := by unfold getA; rw [if_pos hp, Int.toNat_natCast]
    rw [eA]
    rcases ha with hx | ⟨b1, o1, rfl, hc1⟩
    · subst hx
      have hP : P = 0 := by have := hp.2; simp at this; omega
      subst hP
      show Calls Try.prog 56 #[.slice a 0 cap, .int .i64 0, .int .i64 b, .bool s] w fun e w' => e = .returned (RV (1, 0, 0)) ∧ Below w.heap.size w w'
      clear hl hB hp eA
      by_cases hin : 1 ≤ b ∧ b ≤ 64
      · have hb0 := hin.1
        have hb1 := hin.2
        go_enter Try.func56, Try.ntmps56
        go_wp2_with fail
        refine (in_yes _ _ _ _ hb0 hb1).mono ?_
        rintro e w' ⟨rfl, rfl⟩
        go_wp2_with fail
        refine (in_yes _ _ _ _ (by omega) (by omega)).mono ?_
        rintro e w' ⟨rfl, rfl⟩
        clear hin
        go_wp2
        refine wp_loop_rounds 1 ?_
        rw [rounds_succ]
        go_wp2
        exact bodyPost_ret (v := .agg #[.int .i64 1, .int .u64 0, .int .i64 0]) (by simp [results, Try.results56, go_sem]) rfl ⟨rfl, (Below.refl _ _).alloc (Nat.le_refl _) _⟩
      · go_enter Try.func56, Try.ntmps56
        go_wp2_with fail
        refine (in_no _ _ _ _ hin).mono ?_
        rintro e w' ⟨rfl, rfl⟩
        go_wp2_with fail
        refine (in_yes _ _ _ _ (by omega) (by omega)).mono ?_
        rintro e w' ⟨rfl, rfl⟩
        clear hin
        go_wp2
        refine wp_loop_rounds 1 ?_
        rw [rounds_succ]
        go_wp2
        exact bodyPost_ret (v := .agg #[.int .i64 1, .int .u64 0, .int .i64 0]) (by simp [results, Try.results56, go_sem]) rfl ⟨rfl, (Below.refl _ _).alloc (Nat.le_refl _) _⟩
    · exact specGet_row s b1 o1 cap bs P b w hl (by omega) (normB b) rfl (normB_bd b).1 (normB_bd b).2 _ hc1 hB rfl
  · have eA : getA s bs p b = (1, 0, (bs.length : Int)) := by unfold getA; rw [if_neg hp]
    rw [eA]
    clear eA ha hB
    by_cases hin : 1 ≤ b ∧ b ≤ 64
    · have hb0 := hin.1
      have hb1 := hin.2
      go_enter Try.func56, Try.ntmps56
      go_wp2_with fail
      refine (in_yes _ _ _ _ hb0 hb1).mono ?_
      rintro e w' ⟨rfl, rfl⟩
      go_wp2_with fail
      refine (in_no _ _ _ _ hp).mono ?_
      rintro e w' ⟨rfl, rfl⟩
      clear hin hp
      go_wp2
      exact bodyPost_ret (v := .agg #[.int .i64 1, .int .u64 0, .int .i64 bs.length]) (by simp [results, Try.results56, go_sem]) rfl ⟨rfl, (Below.refl _ _).alloc (Nat.le_refl _) _⟩
    · go_enter Try.func56, Try.ntmps56
      go_wp2_with fail
      refine (in_no _ _ _ _ hin).mono ?_
      rintro e w' ⟨rfl, rfl⟩
      go_wp2_with fail
      refine (in_no _ _ _ _ hp).mono ?_
      rintro e w' ⟨rfl, rfl⟩
      clear hin hp
      go_wp2
      exact bodyPost_ret (v := .agg #[.int .i64 1, .int .u64 0, .int .i64 bs.length]) (by simp [results, Try.results56, go_sem]) rfl ⟨rfl, (Below.refl _ _).alloc (Nat.le_refl _) _⟩



theorem bcell {W w1 : World} (hb : Below W.heap.size W w1) : (∀ b o, b < W.heap.size → w1.cell? ⟨b, o, none⟩ = W.cell? ⟨b, o, none⟩) ∧ (∀ b o, b < W.heap.size → w1.frozen? ⟨b, o, none⟩ = W.frozen? ⟨b, o, none⟩) :=
  ⟨fun b o h => hb.cell (p := ⟨b, o, none⟩) h, fun b o h => hb.frozen (p := ⟨b, o, none⟩) h⟩

theorem below_three {w w1 : World} {o : Obj} {x y z : Value} (hb : Below (w.alloc o).heap.size (w.alloc o) w1) :
    Below w.heap.size w (((w1.setCell ⟨w.heap.size, 0, none⟩ x).setCell ⟨w.heap.size, 1, none⟩ y).setCell ⟨w.heap.size, 2, none⟩ z) :=
  (((((Below.refl _ _).alloc (Nat.le_refl _) o).trans (hb.mono (by simp))).setCell (Nat.le_refl _) _).setCell (Nat.le_refl _) _).setCell (Nat.le_refl _) _

set_option maxHeartbeats 400000 in
theorem specGetU_any (a : Option Addr) (cap : Nat) (bs : List Int) (p b : Int) (w : World) (hl : bs.length ≤ 1099511627776) (ha : Has w a bs) (hB : AllB bs) :
    Calls Try.prog 47 #[.slice a bs.length cap, .int .i64 p, .int .i64 b] w fun e w' => e = .returned (RV (getA false bs p b)) ∧ Below w.heap.size w w' := by
  have C := specGet_any false a cap bs p b (w.alloc (Obj.cells #[Value.int .i64 0, Value.int .u64 0, Value.int .i64 0] 102)) hl (ha.below ((Below.refl _ _).alloc (Nat.le_refl _) _)) hB
  obtain ⟨⟨r1, r2, r3⟩, hR⟩ : ∃ r, r = getA false bs p b := ⟨_, rfl⟩
  rw [← hR] at C ⊢
  have HC := Hid.mk' C
  clear C hR ha hB hl
  go_enter Try.func47, Try.ntmps47
  go_wp2_with fail
  refine HC.out.mono ?_
  rintro e w1 ⟨rfl, hb⟩
  simp only [RV]
  obtain ⟨hc, hf⟩ := bcell hb
  have hz : w.heap.size < w1.heap.size := by have := hb.size; simp at this; omega
  clear HC
  go_wp2
  exact bodyPost_ret (v := .agg #[.int .i64 r1, .int .u64 r2, .int .i64 r3]) (by simp [results, Try.results47, go_sem, hc]) rfl ⟨rfl, below_three hb⟩

set_option maxHeartbeats 400000 in
theorem implGetU_any (a : Option Addr) (cap : Nat) (bs : List Int) (p b : Int) (w : World) (hl : bs.length ≤ 1099511627776) (ha : Has w a bs) (hB : AllB bs) :
    Calls Try.prog 96 #[.slice a bs.length cap, .int .i64 p, .int .i64 b] w fun e w' => e = .returned (RV (getA false bs p b)) ∧ Below w.heap.size w w' := by
  have C := lebGetU_any a cap bs p b (w.alloc (Obj.cells #[Value.int .i64 0, Value.int .u64 0, Value.int .i64 0] 102)) hl (ha.below ((Below.refl _ _).alloc (Nat.le_refl _) _)) hB
  obtain ⟨⟨r1, r2, r3⟩, hR⟩ : ∃ r, r = getA false bs p b := ⟨_, rfl⟩
  rw [← hR] at C ⊢
  have HC := Hid.mk' C
  clear C hR ha hB hl
  go_enter Try.func96, Try.ntmps96
  go_wp2_with fail
  refine HC.out.mono ?_
  rintro e w1 ⟨rfl, hb⟩
  simp only [RV]
  obtain ⟨hc, hf⟩ := bcell hb
  have hz : w.heap.size < w1.heap.size := by have := hb.size; simp at this; omega
  clear HC
  go_wp2
  exact bodyPost_ret (v := .agg #[.int .i64 r1, .int .u64 r2, .int .i64 r3]) (by simp [results, Try.results96, go_sem, hc]) rfl ⟨rfl, below_three hb⟩

end Go.Proofs.Ytfaajmhmcdoibaa.By
