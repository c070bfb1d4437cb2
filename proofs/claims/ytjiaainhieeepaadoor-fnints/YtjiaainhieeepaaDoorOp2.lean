import Derived.Test.YtjiaainhieeepaaDoorDo64
import Derived.Test.YtjiaainhieeepaaDoorDo32
set_option linter.unusedVariables false
namespace Go.Proofs.YtjiaainhieeepaaDoor
open Go.RowKit
theorem below_drewN {w w' : World} {B : Nat} (h : Below B w w') (n : Nat) : Below B w (w'.drewN n) := by
  induction n with
  | zero => exact h
  | succ n ih => exact ih.drew
theorem and_bd (n : Nat) (a b : Int) (ha0 : 0 ≤ a) (ha : a < 2 ^ n) (hb0 : 0 ≤ b) (hb : b < 2 ^ n) :
    ((a.toNat &&& b.toNat : Nat) : Int) < 2 ^ n ∧ ((a.toNat ||| b.toNat : Nat) : Int) < 2 ^ n ∧ ((a.toNat ^^^ b.toNat : Nat) : Int) < 2 ^ n := by
  have e : ((2 ^ n : Nat) : Int) = (2 : Int) ^ n := by simp
  have h1 : a.toNat < 2 ^ n := by omega
  have h2 : b.toNat < 2 ^ n := by omega
  have x1 := Nat.and_lt_two_pow a.toNat h2
  have x2 := Nat.or_lt_two_pow h1 h2
  have x3 := Nat.xor_lt_two_pow h1 h2
  omega
theorem binR_bd (wd : Bool) (k : Nat) (a b : Int) (ha0 : 0 ≤ a) (ha : a < Mo wd) (hb0 : 0 ≤ b) (hb : b < Mo wd) : 0 ≤ (binR wd k a b).2 ∧ (binR wd k a b).2 < Mo wd := by
  have hM : 0 < Mo wd := by cases wd <;> decide
  have hm : ∀ x, 0 ≤ x % Mo wd ∧ x % Mo wd < Mo wd := fun x => ⟨Int.emod_nonneg _ (by omega), Int.emod_lt_of_pos _ hM⟩
  have hz : ∀ t : Int, 0 ≤ ((t, (0 : Int))).2 ∧ ((t, (0 : Int))).2 < Mo wd := fun t => ⟨Int.le_refl 0, hM⟩
  have hA := and_bd (Nw wd) a b ha0 (by rw [← Mo_pow]; exact ha) hb0 (by rw [← Mo_pow]; exact hb)
  rw [← Mo_pow] at hA
  have hdiv : ∀ y : Int, 0 ≤ y → 0 ≤ a / y ∧ a / y < Mo wd := fun y h => ⟨Int.ediv_nonneg ha0 h, Int.lt_of_le_of_lt (Int.ediv_le_self _ ha0) ha⟩
  unfold binR
  split
  · exact hm _
  · exact hm _
  · exact hm _
  · split
    · exact hz _
    · split
      · exact hz _
      · exact hm _
  · split
    · exact hz _
    · exact hdiv b hb0
  · split
    · exact hz _
    · exact hm _
  · split
    · exact hz _
    · rename_i h
      exact ⟨Int.emod_nonneg _ h, Int.lt_trans (Int.emod_lt_of_pos _ (by omega)) hb⟩
  · exact ⟨by simp, hA.1⟩
  · exact ⟨by simp, hA.2.1⟩
  · exact ⟨by simp, hA.2.2⟩
  · exact hm _
  · exact hm _
  · exact hdiv _ (Int.le_of_lt (Int.pow_pos (by omega)))
  · exact rot_bd wd _ a ha0 ha
  · exact rot_bd wd _ a ha0 ha
theorem d64_0 (a b : Int) (w : World) (ha0 : 0 ≤ a) (ha : a ≤ 18446744073709551615) (hb0 : 0 ≤ b) (hb : b ≤ 18446744073709551615) : Calls Tryd.prog 23 #[.int .i64 106, .int .u64 a, .int .u64 b] w fun e w' => e = .returned (RV true (binR true 0 a b).1 (binR true 0 a b).2) ∧ Below w.heap.size w w' :=
  do64_plain 106 43 a b _ _ w (by decide) rfl (fun xs w => Tryd.call43 xs w) (fun W => (op64_0 a b W ha0 ha hb0 hb).mono fun e W' h => ⟨h.1, h.2 ▸ Below.refl _ _⟩)
theorem d64_1 (a b : Int) (w : World) (ha0 : 0 ≤ a) (ha : a ≤ 18446744073709551615) (hb0 : 0 ≤ b) (hb : b ≤ 18446744073709551615) : Calls Tryd.prog 23 #[.int .i64 107, .int .u64 a, .int .u64 b] w fun e w' => e = .returned (RV true (binR true 1 a b).1 (binR true 1 a b).2) ∧ Below w.heap.size w w' :=
  do64_plain 107 44 a b _ _ w (by decide) rfl (fun xs w => Tryd.call44 xs w) (fun W => (op64_1 a b W ha0 ha hb0 hb).mono fun e W' h => ⟨h.1, h.2 ▸ Below.refl _ _⟩)
theorem d64_2 (a b : Int) (w : World) (ha0 : 0 ≤ a) (ha : a ≤ 18446744073709551615) (hb0 : 0 ≤ b) (hb : b ≤ 18446744073709551615) : Calls Tryd.prog 23 #[.int .i64 108, .int .u64 a, .int .u64 b] w fun e w' => e = .returned (RV true (binR true 2 a b).1 (binR true 2 a b).2) ∧ Below w.heap.size w w' :=
  do64_plain 108 45 a b _ _ w (by decide) rfl (fun xs w => Tryd.call45 xs w) (fun W => (op64_2 a b W ha0 ha hb0 hb).mono fun e W' h => ⟨h.1, h.2 ▸ Below.refl _ _⟩)
theorem d64_3 (a b : Int) (w : World) (ha0 : 0 ≤ a) (ha : a ≤ 18446744073709551615) (hb0 : 0 ≤ b) (hb : b ≤ 18446744073709551615) : Calls Tryd.prog 23 #[.int .i64 109, .int .u64 a, .int .u64 b] w fun e w' => e = .returned (RV true (binR true 3 a b).1 (binR true 3 a b).2) ∧ Below w.heap.size w w' :=
  do64_plain 109 46 a b _ _ w (by decide) rfl (fun xs w => Tryd.call46 xs w) (fun W => (op64_3 a b W ha0 ha hb0 hb).mono fun e W' h => ⟨h.1, h.2 ▸ Below.refl _ _⟩)
theorem d64_4 (a b : Int) (w : World) (ha0 : 0 ≤ a) (ha : a ≤ 18446744073709551615) (hb0 : 0 ≤ b) (hb : b ≤ 18446744073709551615) : Calls Tryd.prog 23 #[.int .i64 110, .int .u64 a, .int .u64 b] w fun e w' => e = .returned (RV true (binR true 4 a b).1 (binR true 4 a b).2) ∧ Below w.heap.size w w' :=
  do64_plain 110 47 a b _ _ w (by decide) rfl (fun xs w => Tryd.call47 xs w) (fun W => (op64_4 a b W ha0 ha hb0 hb).mono fun e W' h => ⟨h.1, h.2 ▸ Below.refl _ _⟩)
theorem d64_5 (a b : Int) (w : World) (ha0 : 0 ≤ a) (ha : a ≤ 18446744073709551615) (hb0 : 0 ≤ b) (hb : b ≤ 18446744073709551615) : Calls Tryd.prog 23 #[.int .i64 111, .int .u64 a, .int .u64 b] w fun e w' => e = .returned (RV true (binR true 5 a b).1 (binR true 5 a b).2) ∧ Below w.heap.size w w' :=
  do64_plain 111 48 a b _ _ w (by decide) rfl (fun xs w => Tryd.call48 xs w) (fun W => (op64_5 a b W ha0 ha hb0 hb).mono fun e W' h => ⟨h.1, h.2 ▸ Below.refl _ _⟩)
theorem d64_6 (a b : Int) (w : World) (ha0 : 0 ≤ a) (ha : a ≤ 18446744073709551615) (hb0 : 0 ≤ b) (hb : b ≤ 18446744073709551615) : Calls Tryd.prog 23 #[.int .i64 112, .int .u64 a, .int .u64 b] w fun e w' => e = .returned (RV true (binR true 6 a b).1 (binR true 6 a b).2) ∧ Below w.heap.size w w' :=
  do64_plain 112 49 a b _ _ w (by decide) rfl (fun xs w => Tryd.call49 xs w) (fun W => (op64_6 a b W ha0 ha hb0 hb).mono fun e W' h => ⟨h.1, h.2 ▸ Below.refl _ _⟩)
theorem d64_7 (a b : Int) (w : World) (ha0 : 0 ≤ a) (ha : a ≤ 18446744073709551615) (hb0 : 0 ≤ b) (hb : b ≤ 18446744073709551615) : Calls Tryd.prog 23 #[.int .i64 113, .int .u64 a, .int .u64 b] w fun e w' => e = .returned (RV true (binR true 7 a b).1 (binR true 7 a b).2) ∧ Below w.heap.size w w' :=
  do64_plain 113 50 a b _ _ w (by decide) rfl (fun xs w => Tryd.call50 xs w) (fun W => (op64_7 a b W ha0 ha hb0 hb).mono fun e W' h => ⟨h.1, h.2 ▸ Below.refl _ _⟩)
theorem d64_8 (a b : Int) (w : World) (ha0 : 0 ≤ a) (ha : a ≤ 18446744073709551615) (hb0 : 0 ≤ b) (hb : b ≤ 18446744073709551615) : Calls Tryd.prog 23 #[.int .i64 114, .int .u64 a, .int .u64 b] w fun e w' => e = .returned (RV true (binR true 8 a b).1 (binR true 8 a b).2) ∧ Below w.heap.size w w' :=
  do64_plain 114 51 a b _ _ w (by decide) rfl (fun xs w => Tryd.call51 xs w) (fun W => (op64_8 a b W ha0 ha hb0 hb).mono fun e W' h => ⟨h.1, h.2 ▸ Below.refl _ _⟩)
theorem d64_9 (a b : Int) (w : World) (ha0 : 0 ≤ a) (ha : a ≤ 18446744073709551615) (hb0 : 0 ≤ b) (hb : b ≤ 18446744073709551615) : Calls Tryd.prog 23 #[.int .i64 115, .int .u64 a, .int .u64 b] w fun e w' => e = .returned (RV true (binR true 9 a b).1 (binR true 9 a b).2) ∧ Below w.heap.size w w' :=
  do64_plain 115 52 a b _ _ w (by decide) rfl (fun xs w => Tryd.call52 xs w) (fun W => (op64_9 a b W ha0 ha hb0 hb).mono fun e W' h => ⟨h.1, h.2 ▸ Below.refl _ _⟩)
theorem d64_10 (a b : Int) (w : World) (ha0 : 0 ≤ a) (ha : a ≤ 18446744073709551615) (hb0 : 0 ≤ b) (hb : b ≤ 18446744073709551615) : Calls Tryd.prog 23 #[.int .i64 116, .int .u64 a, .int .u64 b] w fun e w' => e = .returned (RV true (binR true 10 a b).1 (binR true 10 a b).2) ∧ Below w.heap.size w w' :=
  do64_cap 116 53 a b _ _ w (by decide) rfl (fun xs w => Tryd.call53 xs w) (fun W hg => (op64_10 a b _ W ha0 ha hb0 hb hg).mono fun e W' h => ⟨h.1, h.2 ▸ Below.refl _ _⟩)
theorem d64_11 (a b : Int) (w : World) (ha0 : 0 ≤ a) (ha : a ≤ 18446744073709551615) (hb0 : 0 ≤ b) (hb : b ≤ 18446744073709551615) : Calls Tryd.prog 23 #[.int .i64 117, .int .u64 a, .int .u64 b] w fun e w' => e = .returned (RV true (binR true 11 a b).1 (binR true 11 a b).2) ∧ Below w.heap.size w w' :=
  do64_cap 117 54 a b _ _ w (by decide) rfl (fun xs w => Tryd.call54 xs w) (fun W hg => (op64_11 a b _ W ha0 ha hb0 hb hg).mono fun e W' h => ⟨h.1, h.2 ▸ Below.refl _ _⟩)
theorem d64_12 (a b : Int) (w : World) (ha0 : 0 ≤ a) (ha : a ≤ 18446744073709551615) (hb0 : 0 ≤ b) (hb : b ≤ 18446744073709551615) : Calls Tryd.prog 23 #[.int .i64 118, .int .u64 a, .int .u64 b] w fun e w' => e = .returned (RV true (binR true 12 a b).1 (binR true 12 a b).2) ∧ Below w.heap.size w w' :=
  do64_cap 118 55 a b _ _ w (by decide) rfl (fun xs w => Tryd.call55 xs w) (fun W hg => (op64_12 a b _ W ha0 ha hb0 hb hg).mono fun e W' h => ⟨h.1, h.2 ▸ Below.refl _ _⟩)
theorem d64_13 (a b : Int) (w : World) (ha0 : 0 ≤ a) (ha : a ≤ 18446744073709551615) (hb0 : 0 ≤ b) (hb : b ≤ 18446744073709551615) : Calls Tryd.prog 23 #[.int .i64 119, .int .u64 a, .int .u64 b] w fun e w' => e = .returned (RV true (binR true 13 a b).1 (binR true 13 a b).2) ∧ Below w.heap.size w w' :=
  do64_plain 119 56 a b _ _ w (by decide) rfl (fun xs w => Tryd.call56 xs w) (fun W => (op64_13 a b W ha0 ha hb0 hb).mono fun e W' h => ⟨h.1, h.2 ▸ Below.refl _ _⟩)
theorem d64_14 (a b : Int) (w : World) (ha0 : 0 ≤ a) (ha : a ≤ 18446744073709551615) (hb0 : 0 ≤ b) (hb : b ≤ 18446744073709551615) : Calls Tryd.prog 23 #[.int .i64 120, .int .u64 a, .int .u64 b] w fun e w' => e = .returned (RV true (binR true 14 a b).1 (binR true 14 a b).2) ∧ Below w.heap.size w w' :=
  do64_cap 120 58 a b _ _ w (by decide) rfl (fun xs w => Tryd.call58 xs w) (fun W hg => (op64_14 a b _ W ha0 ha hb0 hb hg).mono fun e W' h => ⟨h.1, by obtain ⟨m, hm⟩ := h.2; rw [hm]; exact below_drewN (Below.refl _ _) m⟩)
theorem c64_0 (a b : Int) (w : World) : Calls Tryd.prog 23 #[.int .i64 70, .int .u64 a, .int .u64 b] w fun e w' => e = .returned (RV true 0 (fl (cmpB true 0 a b))) ∧ Below w.heap.size w w' :=
  do64_nil 70 a b true 0 _ w (by decide) rfl (fun W => cmp64_0 a b W)
theorem c64_1 (a b : Int) (w : World) : Calls Tryd.prog 23 #[.int .i64 71, .int .u64 a, .int .u64 b] w fun e w' => e = .returned (RV true 0 (fl (cmpB true 1 a b))) ∧ Below w.heap.size w w' :=
  do64_nil 71 a b true 0 _ w (by decide) rfl (fun W => cmp64_1 a b W)
theorem c64_2 (a b : Int) (w : World) : Calls Tryd.prog 23 #[.int .i64 72, .int .u64 a, .int .u64 b] w fun e w' => e = .returned (RV true 0 (fl (cmpB true 2 a b))) ∧ Below w.heap.size w w' :=
  do64_nil 72 a b true 0 _ w (by decide) rfl (fun W => cmp64_2 a b W)
theorem c64_3 (a b : Int) (w : World) : Calls Tryd.prog 23 #[.int .i64 73, .int .u64 a, .int .u64 b] w fun e w' => e = .returned (RV true 0 (fl (cmpB true 3 a b))) ∧ Below w.heap.size w w' :=
  do64_nil 73 a b true 0 _ w (by decide) rfl (fun W => cmp64_3 a b W)
theorem c64_4 (a b : Int) (w : World) : Calls Tryd.prog 23 #[.int .i64 74, .int .u64 a, .int .u64 b] w fun e w' => e = .returned (RV true 0 (fl (cmpB true 4 a b))) ∧ Below w.heap.size w w' :=
  do64_nil 74 a b true 0 _ w (by decide) rfl (fun W => cmp64_4 a b W)
theorem c64_5 (a b : Int) (w : World) : Calls Tryd.prog 23 #[.int .i64 75, .int .u64 a, .int .u64 b] w fun e w' => e = .returned (RV true 0 (fl (cmpB true 5 a b))) ∧ Below w.heap.size w w' :=
  do64_nil 75 a b true 0 _ w (by decide) rfl (fun W => cmp64_5 a b W)
theorem c64_6 (a b : Int) (w : World) : Calls Tryd.prog 23 #[.int .i64 76, .int .u64 a, .int .u64 b] w fun e w' => e = .returned (RV true 0 (fl (cmpB true 6 a b))) ∧ Below w.heap.size w w' :=
  do64_nil 76 a b true 0 _ w (by decide) rfl (fun W => cmp64_6 a b W)
theorem c64_7 (a b : Int) (w : World) : Calls Tryd.prog 23 #[.int .i64 77, .int .u64 a, .int .u64 b] w fun e w' => e = .returned (RV true 0 (fl (cmpB true 7 a b))) ∧ Below w.heap.size w w' :=
  do64_nil 77 a b true 0 _ w (by decide) rfl (fun W => cmp64_7 a b W)
theorem c64_8 (a b : Int) (w : World) : Calls Tryd.prog 23 #[.int .i64 78, .int .u64 a, .int .u64 b] w fun e w' => e = .returned (RV true 0 (fl (cmpB true 8 a b))) ∧ Below w.heap.size w w' :=
  do64_nil 78 a b true 0 _ w (by decide) rfl (fun W => cmp64_8 a b W)
theorem c64_9 (a b : Int) (w : World) : Calls Tryd.prog 23 #[.int .i64 79, .int .u64 a, .int .u64 b] w fun e w' => e = .returned (RV true 0 (fl (cmpB true 9 a b))) ∧ Below w.heap.size w w' :=
  do64_nil 79 a b true 0 _ w (by decide) rfl (fun W => cmp64_9 a b W)
theorem tDo64_nil (g p : Nat) (h : p < 106) : (tDo64 g)[p]? = some .nilFunc := by
  simp only [tDo64, List.getElem?_set]
  rw [if_neg (by omega), if_neg (by omega), if_neg (by omega), if_neg (by omega), if_neg (by omega), if_neg (by omega), if_neg (by omega), if_neg (by omega), if_neg (by omega), if_neg (by omega), if_neg (by omega), if_neg (by omega), if_neg (by omega), if_neg (by omega), if_neg (by omega), List.getElem?_replicate, if_pos (by omega)]
theorem n64 (p a b : Int) (w : World) (h : p < 70 ∨ (80 ≤ p ∧ p < 106) ∨ 121 ≤ p) : Calls Tryd.prog 23 #[.int .i64 p, .int .u64 a, .int .u64 b] w fun e w' => e = .returned (RV false 0 0) ∧ Below w.heap.size w w' := by
  by_cases h0 : p < 0
  · exact do64_lo p a b false 0 0 w h0 (fun W => cmp64_none p a b W (by omega))
  · by_cases h1 : 121 ≤ p
    · exact do64_hi p a b false 0 0 w h1 (fun W => cmp64_none p a b W (by omega))
    · obtain ⟨q, rfl⟩ := Int.eq_ofNat_of_zero_le (show 0 ≤ p by omega)
      exact do64_nil q a b false 0 0 w (by omega) (tDo64_nil _ q (by omega)) (fun W => cmp64_none _ a b W (by omega))
theorem d32_0 (a b : Int) (w : World) (ha0 : 0 ≤ a) (ha : a ≤ 4294967295) (hb0 : 0 ≤ b) (hb : b ≤ 4294967295) : Calls Tryd.prog 24 #[.int .i64 106, .int .u32 a, .int .u32 b] w fun e w' => e = .returned (RV true (binR false 0 a b).1 (binR false 0 a b).2) ∧ Below w.heap.size w w' :=
  do32_plain 106 61 a b _ _ w (by decide) rfl (fun xs w => Tryd.call61 xs w) (fun W => (op32_0 a b W ha0 ha hb0 hb).mono fun e W' h => ⟨h.1, h.2 ▸ Below.refl _ _⟩) (binR_bd false 0 a b ha0 (by simp only [Mo]; simp; omega) hb0 (by simp only [Mo]; simp; omega)).1 (by have := (binR_bd false 0 a b ha0 (by simp only [Mo]; simp; omega) hb0 (by simp only [Mo]; simp; omega)).2; simp only [Mo] at this; simp at this; omega)
theorem d32_1 (a b : Int) (w : World) (ha0 : 0 ≤ a) (ha : a ≤ 4294967295) (hb0 : 0 ≤ b) (hb : b ≤ 4294967295) : Calls Tryd.prog 24 #[.int .i64 107, .int .u32 a, .int .u32 b] w fun e w' => e = .returned (RV true (binR false 1 a b).1 (binR false 1 a b).2) ∧ Below w.heap.size w w' :=
  do32_plain 107 62 a b _ _ w (by decide) rfl (fun xs w => Tryd.call62 xs w) (fun W => (op32_1 a b W ha0 ha hb0 hb).mono fun e W' h => ⟨h.1, h.2 ▸ Below.refl _ _⟩) (binR_bd false 1 a b ha0 (by simp only [Mo]; simp; omega) hb0 (by simp only [Mo]; simp; omega)).1 (by have := (binR_bd false 1 a b ha0 (by simp only [Mo]; simp; omega) hb0 (by simp only [Mo]; simp; omega)).2; simp only [Mo] at this; simp at this; omega)
theorem d32_2 (a b : Int) (w : World) (ha0 : 0 ≤ a) (ha : a ≤ 4294967295) (hb0 : 0 ≤ b) (hb : b ≤ 4294967295) : Calls Tryd.prog 24 #[.int .i64 108, .int .u32 a, .int .u32 b] w fun e w' => e = .returned (RV true (binR false 2 a b).1 (binR false 2 a b).2) ∧ Below w.heap.size w w' :=
  do32_plain 108 63 a b _ _ w (by decide) rfl (fun xs w => Tryd.call63 xs w) (fun W => (op32_2 a b W ha0 ha hb0 hb).mono fun e W' h => ⟨h.1, h.2 ▸ Below.refl _ _⟩) (binR_bd false 2 a b ha0 (by simp only [Mo]; simp; omega) hb0 (by simp only [Mo]; simp; omega)).1 (by have := (binR_bd false 2 a b ha0 (by simp only [Mo]; simp; omega) hb0 (by simp only [Mo]; simp; omega)).2; simp only [Mo] at this; simp at this; omega)
theorem d32_3 (a b : Int) (w : World) (ha0 : 0 ≤ a) (ha : a ≤ 4294967295) (hb0 : 0 ≤ b) (hb : b ≤ 4294967295) : Calls Tryd.prog 24 #[.int .i64 109, .int .u32 a, .int .u32 b] w fun e w' => e = .returned (RV true (binR false 3 a b).1 (binR false 3 a b).2) ∧ Below w.heap.size w w' :=
  do32_plain 109 64 a b _ _ w (by decide) rfl (fun xs w => Tryd.call64 xs w) (fun W => (op32_3 a b W ha0 ha hb0 hb).mono fun e W' h => ⟨h.1, h.2 ▸ Below.refl _ _⟩) (binR_bd false 3 a b ha0 (by simp only [Mo]; simp; omega) hb0 (by simp only [Mo]; simp; omega)).1 (by have := (binR_bd false 3 a b ha0 (by simp only [Mo]; simp; omega) hb0 (by simp only [Mo]; simp; omega)).2; simp only [Mo] at this; simp at this; omega)
theorem d32_4 (a b : Int) (w : World) (ha0 : 0 ≤ a) (ha : a ≤ 4294967295) (hb0 : 0 ≤ b) (hb : b ≤ 4294967295) : Calls Tryd.prog 24 #[.int .i64 110, .int .u32 a, .int .u32 b] w fun e w' => e = .returned (RV true (binR false 4 a b).1 (binR false 4 a b).2) ∧ Below w.heap.size w w' :=
  do32_plain 110 65 a b _ _ w (by decide) rfl (fun xs w => Tryd.call65 xs w) (fun W => (op32_4 a b W ha0 ha hb0 hb).mono fun e W' h => ⟨h.1, h.2 ▸ Below.refl _ _⟩) (binR_bd false 4 a b ha0 (by simp only [Mo]; simp; omega) hb0 (by simp only [Mo]; simp; omega)).1 (by have := (binR_bd false 4 a b ha0 (by simp only [Mo]; simp; omega) hb0 (by simp only [Mo]; simp; omega)).2; simp only [Mo] at this; simp at this; omega)
theorem d32_5 (a b : Int) (w : World) (ha0 : 0 ≤ a) (ha : a ≤ 4294967295) (hb0 : 0 ≤ b) (hb : b ≤ 4294967295) : Calls Tryd.prog 24 #[.int .i64 111, .int .u32 a, .int .u32 b] w fun e w' => e = .returned (RV true (binR false 5 a b).1 (binR false 5 a b).2) ∧ Below w.heap.size w w' :=
  do32_plain 111 66 a b _ _ w (by decide) rfl (fun xs w => Tryd.call66 xs w) (fun W => (op32_5 a b W ha0 ha hb0 hb).mono fun e W' h => ⟨h.1, h.2 ▸ Below.refl _ _⟩) (binR_bd false 5 a b ha0 (by simp only [Mo]; simp; omega) hb0 (by simp only [Mo]; simp; omega)).1 (by have := (binR_bd false 5 a b ha0 (by simp only [Mo]; simp; omega) hb0 (by simp only [Mo]; simp; omega)).2; simp only [Mo] at this; simp at this; omega)
theorem d32_6 (a b : Int) (w : World) (ha0 : 0 ≤ a) (ha : a ≤ 4294967295) (hb0 : 0 ≤ b) (hb : b ≤ 4294967295) : Calls Tryd.prog 24 #[.int .i64 112, .int .u32 a, .int .u32 b] w fun e w' => e = .returned (RV true (binR false 6 a b).1 (binR false 6 a b).2) ∧ Below w.heap.size w w' :=
  do32_plain 112 67 a b _ _ w (by decide) rfl (fun xs w => Tryd.call67 xs w) (fun W => (op32_6 a b W ha0 ha hb0 hb).mono fun e W' h => ⟨h.1, h.2 ▸ Below.refl _ _⟩) (binR_bd false 6 a b ha0 (by simp only [Mo]; simp; omega) hb0 (by simp only [Mo]; simp; omega)).1 (by have := (binR_bd false 6 a b ha0 (by simp only [Mo]; simp; omega) hb0 (by simp only [Mo]; simp; omega)).2; simp only [Mo] at this; simp at this; omega)
theorem d32_7 (a b : Int) (w : World) (ha0 : 0 ≤ a) (ha : a ≤ 4294967295) (hb0 : 0 ≤ b) (hb : b ≤ 4294967295) : Calls Tryd.prog 24 #[.int .i64 113, .int .u32 a, .int .u32 b] w fun e w' => e = .returned (RV true (binR false 7 a b).1 (binR false 7 a b).2) ∧ Below w.heap.size w w' :=
  do32_plain 113 68 a b _ _ w (by decide) rfl (fun xs w => Tryd.call68 xs w) (fun W => (op32_7 a b W ha0 ha hb0 hb).mono fun e W' h => ⟨h.1, h.2 ▸ Below.refl _ _⟩) (binR_bd false 7 a b ha0 (by simp only [Mo]; simp; omega) hb0 (by simp only [Mo]; simp; omega)).1 (by have := (binR_bd false 7 a b ha0 (by simp only [Mo]; simp; omega) hb0 (by simp only [Mo]; simp; omega)).2; simp only [Mo] at this; simp at this; omega)
theorem d32_8 (a b : Int) (w : World) (ha0 : 0 ≤ a) (ha : a ≤ 4294967295) (hb0 : 0 ≤ b) (hb : b ≤ 4294967295) : Calls Tryd.prog 24 #[.int .i64 114, .int .u32 a, .int .u32 b] w fun e w' => e = .returned (RV true (binR false 8 a b).1 (binR false 8 a b).2) ∧ Below w.heap.size w w' :=
  do32_plain 114 69 a b _ _ w (by decide) rfl (fun xs w => Tryd.call69 xs w) (fun W => (op32_8 a b W ha0 ha hb0 hb).mono fun e W' h => ⟨h.1, h.2 ▸ Below.refl _ _⟩) (binR_bd false 8 a b ha0 (by simp only [Mo]; simp; omega) hb0 (by simp only [Mo]; simp; omega)).1 (by have := (binR_bd false 8 a b ha0 (by simp only [Mo]; simp; omega) hb0 (by simp only [Mo]; simp; omega)).2; simp only [Mo] at this; simp at this; omega)
theorem d32_9 (a b : Int) (w : World) (ha0 : 0 ≤ a) (ha : a ≤ 4294967295) (hb0 : 0 ≤ b) (hb : b ≤ 4294967295) : Calls Tryd.prog 24 #[.int .i64 115, .int .u32 a, .int .u32 b] w fun e w' => e = .returned (RV true (binR false 9 a b).1 (binR false 9 a b).2) ∧ Below w.heap.size w w' :=
  do32_plain 115 70 a b _ _ w (by decide) rfl (fun xs w => Tryd.call70 xs w) (fun W => (op32_9 a b W ha0 ha hb0 hb).mono fun e W' h => ⟨h.1, h.2 ▸ Below.refl _ _⟩) (binR_bd false 9 a b ha0 (by simp only [Mo]; simp; omega) hb0 (by simp only [Mo]; simp; omega)).1 (by have := (binR_bd false 9 a b ha0 (by simp only [Mo]; simp; omega) hb0 (by simp only [Mo]; simp; omega)).2; simp only [Mo] at this; simp at this; omega)
theorem d32_10 (a b : Int) (w : World) (ha0 : 0 ≤ a) (ha : a ≤ 4294967295) (hb0 : 0 ≤ b) (hb : b ≤ 4294967295) : Calls Tryd.prog 24 #[.int .i64 116, .int .u32 a, .int .u32 b] w fun e w' => e = .returned (RV true (binR false 10 a b).1 (binR false 10 a b).2) ∧ Below w.heap.size w w' :=
  do32_cap 116 71 a b _ _ w (by decide) rfl (fun xs w => Tryd.call71 xs w) (fun W hg => (op32_10 a b _ W ha0 ha hb0 hb hg).mono fun e W' h => ⟨h.1, h.2 ▸ Below.refl _ _⟩) (binR_bd false 10 a b ha0 (by simp only [Mo]; simp; omega) hb0 (by simp only [Mo]; simp; omega)).1 (by have := (binR_bd false 10 a b ha0 (by simp only [Mo]; simp; omega) hb0 (by simp only [Mo]; simp; omega)).2; simp only [Mo] at this; simp at this; omega)
theorem d32_11 (a b : Int) (w : World) (ha0 : 0 ≤ a) (ha : a ≤ 4294967295) (hb0 : 0 ≤ b) (hb : b ≤ 4294967295) : Calls Tryd.prog 24 #[.int .i64 117, .int .u32 a, .int .u32 b] w fun e w' => e = .returned (RV true (binR false 11 a b).1 (binR false 11 a b).2) ∧ Below w.heap.size w w' :=
  do32_cap 117 72 a b _ _ w (by decide) rfl (fun xs w => Tryd.call72 xs w) (fun W hg => (op32_11 a b _ W ha0 ha hb0 hb hg).mono fun e W' h => ⟨h.1, h.2 ▸ Below.refl _ _⟩) (binR_bd false 11 a b ha0 (by simp only [Mo]; simp; omega) hb0 (by simp only [Mo]; simp; omega)).1 (by have := (binR_bd false 11 a b ha0 (by simp only [Mo]; simp; omega) hb0 (by simp only [Mo]; simp; omega)).2; simp only [Mo] at this; simp at this; omega)
theorem d32_12 (a b : Int) (w : World) (ha0 : 0 ≤ a) (ha : a ≤ 4294967295) (hb0 : 0 ≤ b) (hb : b ≤ 4294967295) : Calls Tryd.prog 24 #[.int .i64 118, .int .u32 a, .int .u32 b] w fun e w' => e = .returned (RV true (binR false 12 a b).1 (binR false 12 a b).2) ∧ Below w.heap.size w w' :=
  do32_cap 118 73 a b _ _ w (by decide) rfl (fun xs w => Tryd.call73 xs w) (fun W hg => (op32_12 a b _ W ha0 ha hb0 hb hg).mono fun e W' h => ⟨h.1, h.2 ▸ Below.refl _ _⟩) (binR_bd false 12 a b ha0 (by simp only [Mo]; simp; omega) hb0 (by simp only [Mo]; simp; omega)).1 (by have := (binR_bd false 12 a b ha0 (by simp only [Mo]; simp; omega) hb0 (by simp only [Mo]; simp; omega)).2; simp only [Mo] at this; simp at this; omega)
theorem d32_13 (a b : Int) (w : World) (ha0 : 0 ≤ a) (ha : a ≤ 4294967295) (hb0 : 0 ≤ b) (hb : b ≤ 4294967295) : Calls Tryd.prog 24 #[.int .i64 119, .int .u32 a, .int .u32 b] w fun e w' => e = .returned (RV true (binR false 13 a b).1 (binR false 13 a b).2) ∧ Below w.heap.size w w' :=
  do32_plain 119 74 a b _ _ w (by decide) rfl (fun xs w => Tryd.call74 xs w) (fun W => (op32_13 a b W ha0 ha hb0 hb).mono fun e W' h => ⟨h.1, h.2 ▸ Below.refl _ _⟩) (binR_bd false 13 a b ha0 (by simp only [Mo]; simp; omega) hb0 (by simp only [Mo]; simp; omega)).1 (by have := (binR_bd false 13 a b ha0 (by simp only [Mo]; simp; omega) hb0 (by simp only [Mo]; simp; omega)).2; simp only [Mo] at this; simp at this; omega)
theorem d32_14 (a b : Int) (w : World) (ha0 : 0 ≤ a) (ha : a ≤ 4294967295) (hb0 : 0 ≤ b) (hb : b ≤ 4294967295) : Calls Tryd.prog 24 #[.int .i64 120, .int .u32 a, .int .u32 b] w fun e w' => e = .returned (RV true (binR false 14 a b).1 (binR false 14 a b).2) ∧ Below w.heap.size w w' :=
  do32_cap 120 76 a b _ _ w (by decide) rfl (fun xs w => Tryd.call76 xs w) (fun W hg => (op32_14 a b _ W ha0 ha hb0 hb hg).mono fun e W' h => ⟨h.1, by obtain ⟨m, hm⟩ := h.2; rw [hm]; exact below_drewN (Below.refl _ _) m⟩) (binR_bd false 14 a b ha0 (by simp only [Mo]; simp; omega) hb0 (by simp only [Mo]; simp; omega)).1 (by have := (binR_bd false 14 a b ha0 (by simp only [Mo]; simp; omega) hb0 (by simp only [Mo]; simp; omega)).2; simp only [Mo] at this; simp at this; omega)
theorem c32_0 (a b : Int) (w : World) : Calls Tryd.prog 24 #[.int .i64 70, .int .u32 a, .int .u32 b] w fun e w' => e = .returned (RV true 0 (fl (cmpB false 0 a b))) ∧ Below w.heap.size w w' :=
  do32_nil 70 a b true 0 _ w (by decide) rfl (fun W => cmp32_0 a b W)
theorem c32_1 (a b : Int) (w : World) : Calls Tryd.prog 24 #[.int .i64 71, .int .u32 a, .int .u32 b] w fun e w' => e = .returned (RV true 0 (fl (cmpB false 1 a b))) ∧ Below w.heap.size w w' :=
  do32_nil 71 a b true 0 _ w (by decide) rfl (fun W => cmp32_1 a b W)
theorem c32_2 (a b : Int) (w : World) : Calls Tryd.prog 24 #[.int .i64 72, .int .u32 a, .int .u32 b] w fun e w' => e = .returned (RV true 0 (fl (cmpB false 2 a b))) ∧ Below w.heap.size w w' :=
  do32_nil 72 a b true 0 _ w (by decide) rfl (fun W => cmp32_2 a b W)
theorem c32_3 (a b : Int) (w : World) : Calls Tryd.prog 24 #[.int .i64 73, .int .u32 a, .int .u32 b] w fun e w' => e = .returned (RV true 0 (fl (cmpB false 3 a b))) ∧ Below w.heap.size w w' :=
  do32_nil 73 a b true 0 _ w (by decide) rfl (fun W => cmp32_3 a b W)
theorem c32_4 (a b : Int) (w : World) : Calls Tryd.prog 24 #[.int .i64 74, .int .u32 a, .int .u32 b] w fun e w' => e = .returned (RV true 0 (fl (cmpB false 4 a b))) ∧ Below w.heap.size w w' :=
  do32_nil 74 a b true 0 _ w (by decide) rfl (fun W => cmp32_4 a b W)
theorem c32_5 (a b : Int) (w : World) : Calls Tryd.prog 24 #[.int .i64 75, .int .u32 a, .int .u32 b] w fun e w' => e = .returned (RV true 0 (fl (cmpB false 5 a b))) ∧ Below w.heap.size w w' :=
  do32_nil 75 a b true 0 _ w (by decide) rfl (fun W => cmp32_5 a b W)
theorem c32_6 (a b : Int) (w : World) : Calls Tryd.prog 24 #[.int .i64 76, .int .u32 a, .int .u32 b] w fun e w' => e = .returned (RV true 0 (fl (cmpB false 6 a b))) ∧ Below w.heap.size w w' :=
  do32_nil 76 a b true 0 _ w (by decide) rfl (fun W => cmp32_6 a b W)
theorem c32_7 (a b : Int) (w : World) : Calls Tryd.prog 24 #[.int .i64 77, .int .u32 a, .int .u32 b] w fun e w' => e = .returned (RV true 0 (fl (cmpB false 7 a b))) ∧ Below w.heap.size w w' :=
  do32_nil 77 a b true 0 _ w (by decide) rfl (fun W => cmp32_7 a b W)
theorem c32_8 (a b : Int) (w : World) : Calls Tryd.prog 24 #[.int .i64 78, .int .u32 a, .int .u32 b] w fun e w' => e = .returned (RV true 0 (fl (cmpB false 8 a b))) ∧ Below w.heap.size w w' :=
  do32_nil 78 a b true 0 _ w (by decide) rfl (fun W => cmp32_8 a b W)
theorem c32_9 (a b : Int) (w : World) : Calls Tryd.prog 24 #[.int .i64 79, .int .u32 a, .int .u32 b] w fun e w' => e = .returned (RV true 0 (fl (cmpB false 9 a b))) ∧ Below w.heap.size w w' :=
  do32_nil 79 a b true 0 _ w (by decide) rfl (fun W => cmp32_9 a b W)
theorem tDo32_nil (g p : Nat) (h : p < 106) : (tDo32 g)[p]? = some .nilFunc := by
  simp only [tDo32, List.getElem?_set]
  rw [if_neg (by omega), if_neg (by omega), if_neg (by omega), if_neg (by omega), if_neg (by omega), if_neg (by omega), if_neg (by omega), if_neg (by omega), if_neg (by omega), if_neg (by omega), if_neg (by omega), if_neg (by omega), if_neg (by omega), if_neg (by omega), if_neg (by omega), List.getElem?_replicate, if_pos (by omega)]
theorem n32 (p a b : Int) (w : World) (h : p < 70 ∨ (80 ≤ p ∧ p < 106) ∨ 121 ≤ p) : Calls Tryd.prog 24 #[.int .i64 p, .int .u32 a, .int .u32 b] w fun e w' => e = .returned (RV false 0 0) ∧ Below w.heap.size w w' := by
  by_cases h0 : p < 0
  · exact do32_lo p a b false 0 0 w h0 (fun W => cmp32_none p a b W (by omega))
  · by_cases h1 : 121 ≤ p
    · exact do32_hi p a b false 0 0 w h1 (fun W => cmp32_none p a b W (by omega))
    · obtain ⟨q, rfl⟩ := Int.eq_ofNat_of_zero_le (show 0 ≤ p by omega)
      exact do32_nil q a b false 0 0 w (by omega) (tDo32_nil _ q (by omega)) (fun W => cmp32_none _ a b W (by omega))
end Go.Proofs.YtjiaainhieeepaaDoor
