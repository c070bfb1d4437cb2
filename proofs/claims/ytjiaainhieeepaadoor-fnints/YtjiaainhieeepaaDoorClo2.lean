import Derived.Test.YtjiaainhieeepaaDoorClo
set_option linter.unusedVariables false
namespace Go.Proofs.YtjiaainhieeepaaDoor
open Go.RowKit
set_option maxHeartbeats 400000 in
theorem op64_10 (a b : Int) (g : Nat) (w : World) (ha0 : 0 ≤ a) (ha : a ≤ 18446744073709551615) (hb0 : 0 ≤ b) (hb : b ≤ 18446744073709551615) (hg : w.cell? ⟨g, 0, none⟩ = some (.int .u64 64)) :
    Calls Tryd.prog 53 #[.int .u64 a, .int .u64 b, .pointer (some ⟨g, 0, none⟩)] w fun e w' => e = .returned (.tuple #[.int .u64 (binR true 10 a b).2, .int .i64 (binR true 10 a b).1]) ∧ w = w' := by
  have e : binR true 10 a b = (0, IntKind.u64.wrap (a * 2 ^ (b % 64).toNat)) := by simp only [binR, Mo, Nn]; rw [IntKind.wrap_u64]; rfl
  rw [e]
  clear e
  go_enter Tryd.func53, Tryd.ntmps53
  go_wp2
  go_ret2
  exact ⟨rfl, rfl⟩
set_option maxHeartbeats 400000 in
theorem op64_11 (a b : Int) (g : Nat) (w : World) (ha0 : 0 ≤ a) (ha : a ≤ 18446744073709551615) (hb0 : 0 ≤ b) (hb : b ≤ 18446744073709551615) (hg : w.cell? ⟨g, 0, none⟩ = some (.int .u64 64)) :
    Calls Tryd.prog 54 #[.int .u64 a, .int .u64 b, .pointer (some ⟨g, 0, none⟩)] w fun e w' => e = .returned (.tuple #[.int .u64 (binR true 11 a b).2, .int .i64 (binR true 11 a b).1]) ∧ w = w' := by
  have e : binR true 11 a b = (0, IntKind.u64.wrap (wrap64 a / 2 ^ (b % 64).toNat)) := by simp only [binR, Mo, Nn, sg]; rw [IntKind.wrap_u64]; rfl
  rw [e]
  clear e
  go_enter Tryd.func54, Tryd.ntmps54
  go_wp2
  go_ret2
  exact ⟨rfl, rfl⟩
set_option maxHeartbeats 400000 in
theorem op64_12 (a b : Int) (g : Nat) (w : World) (ha0 : 0 ≤ a) (ha : a ≤ 18446744073709551615) (hb0 : 0 ≤ b) (hb : b ≤ 18446744073709551615) (hg : w.cell? ⟨g, 0, none⟩ = some (.int .u64 64)) :
    Calls Tryd.prog 55 #[.int .u64 a, .int .u64 b, .pointer (some ⟨g, 0, none⟩)] w fun e w' => e = .returned (.tuple #[.int .u64 (binR true 12 a b).2, .int .i64 (binR true 12 a b).1]) ∧ w = w' := by
  have e : binR true 12 a b = (0, a / 2 ^ (b % 64).toNat) := rfl
  rw [e]
  clear e
  go_enter Tryd.func55, Tryd.ntmps55
  go_wp2
  go_ret2
  exact ⟨rfl, rfl⟩
theorem turn_eq64 (a b : Int) (ha0 : 0 ≤ a) (ha : a ≤ 18446744073709551615) (hb0 : 0 ≤ b) (hb : b ≤ 18446744073709551615) : bits .or .u64 (IntKind.u64.wrap (a * 2 ^ (b % 64).toNat)) (a / 2 ^ (64 - b % 64).toNat) = rot true (b % 64).toNat a := by
  have hd0 : 0 ≤ a / 2 ^ (64 - b % 64).toNat := Int.ediv_nonneg ha0 (Int.le_of_lt (Int.pow_pos (by omega)))
  have hd1 : a / 2 ^ (64 - b % 64).toNat ≤ a := Int.ediv_le_self _ ha0
  have T := turn_closed true (b % 64).toNat a ha0 (by simp only [Mo]; simp; omega) (by simp only [Nw]; simp; omega)
  rw [show Nw true - (b % 64).toNat = (64 - b % 64).toNat by simp only [Nw]; simp; omega] at T
  simp only [Mo] at T
  rw [IntKind.wrap_u64]
  rw [u64_or _ _ (by omega) (by omega) hd0 (by omega)]
  exact T
set_option maxHeartbeats 400000 in
theorem turn64 (a b : Int) (w : World) (ha0 : 0 ≤ a) (ha : a ≤ 18446744073709551615) (hb0 : 0 ≤ b) (hb : b ≤ 18446744073709551615) :
    Calls Tryd.prog 57 #[.int .u64 a, .int .u64 b] w fun e w' => e = .returned (.int .u64 (rot true (b % 64).toNat a)) ∧ w = w' := by
  have T := turn_eq64 a b ha0 ha hb0 hb
  rw [← T]
  clear T
  go_enter Tryd.func57, Tryd.ntmps57
  go_wp2_with (go_at_call 42; refine (width64 _).mono ?_; rintro e w' ⟨rfl, rfl⟩)
  go_ret
  exact ⟨rfl, rfl⟩
set_option maxHeartbeats 400000 in
theorem op64_13 (a b : Int) (w : World) (ha0 : 0 ≤ a) (ha : a ≤ 18446744073709551615) (hb0 : 0 ≤ b) (hb : b ≤ 18446744073709551615) :
    Calls Tryd.prog 56 #[.int .u64 a, .int .u64 b] w fun e w' => e = .returned (.tuple #[.int .u64 (binR true 13 a b).2, .int .i64 (binR true 13 a b).1]) ∧ w = w' := by
  have e : binR true 13 a b = (0, rot true (b % 64).toNat a) := rfl
  rw [e]
  clear e
  go_enter Tryd.func56, Tryd.ntmps56
  go_wp2_with (go_at_call 57; refine (turn64 _ _ _ ha0 ha (by omega) (by omega)).mono ?_; rintro e w' ⟨rfl, rfl⟩)
  go_ret2
  exact ⟨rfl, rfl⟩
set_option maxHeartbeats 400000 in
theorem op64_14 (a b : Int) (g : Nat) (w : World) (ha0 : 0 ≤ a) (ha : a ≤ 18446744073709551615) (hb0 : 0 ≤ b) (hb : b ≤ 18446744073709551615) (hg : w.cell? ⟨g, 0, none⟩ = some (.int .u64 64)) :
    Calls Tryd.prog 58 #[.int .u64 a, .int .u64 b, .pointer (some ⟨g, 0, none⟩)] w fun e w' => e = .returned (.tuple #[.int .u64 (binR true 14 a b).2, .int .i64 (binR true 14 a b).1]) ∧ ∃ m, w' = w.drewN m := by
  have e : binR true 14 a b = (0, rot true ((64 - b % 64) % 64).toNat a) := rfl
  rw [e]
  clear e
  go_enter Tryd.func58, Tryd.ntmps58
  go_wp2
  go_quiet ((go_at_call 57; refine Calls.quiet_of_same ((turn64 _ _ _ ha0 ha (by omega) (by omega)).mono fun e w' h => ⟨h.1, h.2.symm⟩)))
  go_wp2
  go_ret2
  exact ⟨rfl, _, rfl⟩
set_option maxHeartbeats 400000 in
theorem op64_3z (a b : Int) (w : World) (ha0 : 0 ≤ a) (ha : a ≤ 18446744073709551615) (hb0 : 0 ≤ b) (hb : b ≤ 18446744073709551615) (hz : b = 0) :
    Calls Tryd.prog 46 #[.int .u64 a, .int .u64 b] w fun e w' => e = .returned (.tuple #[.int .u64 (binR true 3 a b).2, .int .i64 (binR true 3 a b).1]) ∧ w = w' := by
  have e : binR true 3 a b = (2, 0) := by subst hz; rfl
  rw [e]
  clear e
  subst hz
  go_enter Tryd.func46, Tryd.ntmps46
  go_wp2_with (go_at_call 42; refine (width64 _).mono ?_; rintro e w' ⟨rfl, rfl⟩)
  go_ret2
  exact ⟨rfl, rfl⟩
set_option maxHeartbeats 400000 in
theorem op64_3o (a b : Int) (w : World) (ha0 : 0 ≤ a) (ha : a ≤ 18446744073709551615) (hb0 : 0 ≤ b) (hb : b ≤ 18446744073709551615) (hz : b = 18446744073709551615) (hh : a = 9223372036854775808) :
    Calls Tryd.prog 46 #[.int .u64 a, .int .u64 b] w fun e w' => e = .returned (.tuple #[.int .u64 (binR true 3 a b).2, .int .i64 (binR true 3 a b).1]) ∧ w = w' := by
  have e : binR true 3 a b = (3, 0) := by subst hz hh; rfl
  rw [e]
  clear e
  subst hz hh
  go_enter Tryd.func46, Tryd.ntmps46
  go_wp2_with (go_at_call 42; refine (width64 _).mono ?_; rintro e w' ⟨rfl, rfl⟩)
  go_ret2
  exact ⟨rfl, rfl⟩
theorem quo_eq64 (y : Int) : y % Mo true = IntKind.u64.wrap (wrap64 y) := by
  simp only [Mo, wrap64, IntKind.wrap_u64]; simp <;> omega
set_option maxHeartbeats 400000 in
theorem op64_3n (a b : Int) (w : World) (ha0 : 0 ≤ a) (ha : a ≤ 18446744073709551615) (hb0 : 0 ≤ b) (hb : b ≤ 18446744073709551615) (hz : ¬ b = 0) (hh : ¬ a = 9223372036854775808) :
    Calls Tryd.prog 46 #[.int .u64 a, .int .u64 b] w fun e w' => e = .returned (.tuple #[.int .u64 (binR true 3 a b).2, .int .i64 (binR true 3 a b).1]) ∧ w = w' := by
  have e : binR true 3 a b = (0, IntKind.u64.wrap (wrap64 ((wrap64 a).tdiv (wrap64 b)))) := by simp only [binR]; rw [if_neg hz, if_neg (by simp only [hf, Mo]; simp; omega)]; exact congrArg (Prod.mk 0) (quo_eq64 _)
  rw [e]
  clear e
  have hz1 : (b == 0) = false := beq_eq_false_iff_ne.2 hz
  have hz2 : ¬ wrap64 b = 0 := by simp only [wrap64]; omega
  have hz3 : (wrap64 b == 0) = false := beq_eq_false_iff_ne.2 hz2
  have hh1 : (a == 9223372036854775808) = false := beq_eq_false_iff_ne.2 hh
  go_enter Tryd.func46, Tryd.ntmps46
  go_wp2_with (go_at_call 42; refine (width64 _).mono ?_; rintro e w' ⟨rfl, rfl⟩)
  go_ret2
  exact ⟨rfl, rfl⟩
set_option maxHeartbeats 400000 in
theorem op64_3m (a b : Int) (w : World) (ha0 : 0 ≤ a) (ha : a ≤ 18446744073709551615) (hb0 : 0 ≤ b) (hb : b ≤ 18446744073709551615) (hz : ¬ b = 0) (hh : a = 9223372036854775808) (hm : ¬ b = 18446744073709551615) :
    Calls Tryd.prog 46 #[.int .u64 a, .int .u64 b] w fun e w' => e = .returned (.tuple #[.int .u64 (binR true 3 a b).2, .int .i64 (binR true 3 a b).1]) ∧ w = w' := by
  have e : binR true 3 a b = (0, IntKind.u64.wrap (wrap64 ((wrap64 a).tdiv (wrap64 b)))) := by simp only [binR]; rw [if_neg hz, if_neg (by simp only [hf, Mo]; simp; omega)]; exact congrArg (Prod.mk 0) (quo_eq64 _)
  rw [e]
  clear e
  have hz1 : (b == 0) = false := beq_eq_false_iff_ne.2 hz
  have hz2 : ¬ wrap64 b = 0 := by simp only [wrap64]; omega
  have hz3 : (wrap64 b == 0) = false := beq_eq_false_iff_ne.2 hz2
  subst hh
  go_enter Tryd.func46, Tryd.ntmps46
  go_wp2_with (go_at_call 42; refine (width64 _).mono ?_; rintro e w' ⟨rfl, rfl⟩)
  all_goals first
    | (go_ret2; exact ⟨rfl, rfl⟩)
    | (exfalso
       have hc : (b == bits .xor .u64 (if IntKind.u64.signed = true then -1 else IntKind.u64.max) 0) = true := by assumption
       rw [show bits .xor .u64 (if IntKind.u64.signed = true then -1 else IntKind.u64.max) 0 = 18446744073709551615 by decide +kernel] at hc
       exact hm (eq_of_beq hc))
theorem op64_3 (a b : Int) (w : World) (ha0 : 0 ≤ a) (ha : a ≤ 18446744073709551615) (hb0 : 0 ≤ b) (hb : b ≤ 18446744073709551615) :
    Calls Tryd.prog 46 #[.int .u64 a, .int .u64 b] w fun e w' => e = .returned (.tuple #[.int .u64 (binR true 3 a b).2, .int .i64 (binR true 3 a b).1]) ∧ w = w' := by
  by_cases hz : b = 0
  · exact op64_3z a b w ha0 ha hb0 hb hz
  · by_cases hh : a = 9223372036854775808
    · by_cases hm : b = 18446744073709551615
      · exact op64_3o a b w ha0 ha hb0 hb hm hh
      · exact op64_3m a b w ha0 ha hb0 hb hz hh hm
    · exact op64_3n a b w ha0 ha hb0 hb hz hh
theorem op64_4 (a b : Int) (w : World) (ha0 : 0 ≤ a) (ha : a ≤ 18446744073709551615) (hb0 : 0 ≤ b) (hb : b ≤ 18446744073709551615) :
    Calls Tryd.prog 47 #[.int .u64 a, .int .u64 b] w fun e w' => e = .returned (.tuple #[.int .u64 (binR true 4 a b).2, .int .i64 (binR true 4 a b).1]) ∧ w = w' := by
  by_cases hz : b = 0
  · exact op64_4z a b w ha0 ha hb0 hb hz
  · exact op64_4n a b w ha0 ha hb0 hb hz
theorem op64_5 (a b : Int) (w : World) (ha0 : 0 ≤ a) (ha : a ≤ 18446744073709551615) (hb0 : 0 ≤ b) (hb : b ≤ 18446744073709551615) :
    Calls Tryd.prog 48 #[.int .u64 a, .int .u64 b] w fun e w' => e = .returned (.tuple #[.int .u64 (binR true 5 a b).2, .int .i64 (binR true 5 a b).1]) ∧ w = w' := by
  by_cases hz : b = 0
  · exact op64_5z a b w ha0 ha hb0 hb hz
  · exact op64_5n a b w ha0 ha hb0 hb hz
theorem op64_6 (a b : Int) (w : World) (ha0 : 0 ≤ a) (ha : a ≤ 18446744073709551615) (hb0 : 0 ≤ b) (hb : b ≤ 18446744073709551615) :
    Calls Tryd.prog 49 #[.int .u64 a, .int .u64 b] w fun e w' => e = .returned (.tuple #[.int .u64 (binR true 6 a b).2, .int .i64 (binR true 6 a b).1]) ∧ w = w' := by
  by_cases hz : b = 0
  · exact op64_6z a b w ha0 ha hb0 hb hz
  · exact op64_6n a b w ha0 ha hb0 hb hz
set_option maxHeartbeats 400000 in
theorem op32_10 (a b : Int) (g : Nat) (w : World) (ha0 : 0 ≤ a) (ha : a ≤ 4294967295) (hb0 : 0 ≤ b) (hb : b ≤ 4294967295) (hg : w.cell? ⟨g, 0, none⟩ = some (.int .u32 32)) :
    Calls Tryd.prog 71 #[.int .u32 a, .int .u32 b, .pointer (some ⟨g, 0, none⟩)] w fun e w' => e = .returned (.tuple #[.int .u32 (binR false 10 a b).2, .int .i64 (binR false 10 a b).1]) ∧ w = w' := by
  have e : binR false 10 a b = (0, (a * 2 ^ (b % 32).toNat) % 4294967296) := rfl
  rw [e]
  clear e
  go_enter Tryd.func71, Tryd.ntmps71
  go_wp2
  go_ret2
  exact ⟨rfl, rfl⟩
set_option maxHeartbeats 400000 in
theorem op32_11 (a b : Int) (g : Nat) (w : World) (ha0 : 0 ≤ a) (ha : a ≤ 4294967295) (hb0 : 0 ≤ b) (hb : b ≤ 4294967295) (hg : w.cell? ⟨g, 0, none⟩ = some (.int .u32 32)) :
    Calls Tryd.prog 72 #[.int .u32 a, .int .u32 b, .pointer (some ⟨g, 0, none⟩)] w fun e w' => e = .returned (.tuple #[.int .u32 (binR false 11 a b).2, .int .i64 (binR false 11 a b).1]) ∧ w = w' := by
  have e : binR false 11 a b = (0, (wrap32 a / 2 ^ (b % 32).toNat) % 4294967296) := rfl
  rw [e]
  clear e
  go_enter Tryd.func72, Tryd.ntmps72
  go_wp2
  go_ret2
  exact ⟨rfl, rfl⟩
set_option maxHeartbeats 400000 in
theorem op32_12 (a b : Int) (g : Nat) (w : World) (ha0 : 0 ≤ a) (ha : a ≤ 4294967295) (hb0 : 0 ≤ b) (hb : b ≤ 4294967295) (hg : w.cell? ⟨g, 0, none⟩ = some (.int .u32 32)) :
    Calls Tryd.prog 73 #[.int .u32 a, .int .u32 b, .pointer (some ⟨g, 0, none⟩)] w fun e w' => e = .returned (.tuple #[.int .u32 (binR false 12 a b).2, .int .i64 (binR false 12 a b).1]) ∧ w = w' := by
  have e : binR false 12 a b = (0, a / 2 ^ (b % 32).toNat) := rfl
  rw [e]
  clear e
  go_enter Tryd.func73, Tryd.ntmps73
  go_wp2
  go_ret2
  exact ⟨rfl, rfl⟩
theorem turn_eq32 (a b : Int) (ha0 : 0 ≤ a) (ha : a ≤ 4294967295) (hb0 : 0 ≤ b) (hb : b ≤ 4294967295) : bits .or .u32 ((a * 2 ^ (b % 32).toNat % 4294967296)) (a / 2 ^ (32 - b % 32).toNat) = rot false (b % 32).toNat a := by
  have hd0 : 0 ≤ a / 2 ^ (32 - b % 32).toNat := Int.ediv_nonneg ha0 (Int.le_of_lt (Int.pow_pos (by omega)))
  have hd1 : a / 2 ^ (32 - b % 32).toNat ≤ a := Int.ediv_le_self _ ha0
  have T := turn_closed false (b % 32).toNat a ha0 (by simp only [Mo]; simp; omega) (by simp only [Nw]; simp; omega)
  rw [show Nw false - (b % 32).toNat = (32 - b % 32).toNat by simp only [Nw]; simp; omega] at T
  simp only [Mo] at T
  skip
  rw [u32_or _ _ (by omega) (by omega) hd0 (by omega)]
  exact T
set_option maxHeartbeats 400000 in
theorem turn32 (a b : Int) (w : World) (ha0 : 0 ≤ a) (ha : a ≤ 4294967295) (hb0 : 0 ≤ b) (hb : b ≤ 4294967295) :
    Calls Tryd.prog 75 #[.int .u32 a, .int .u32 b] w fun e w' => e = .returned (.int .u32 (rot false (b % 32).toNat a)) ∧ w = w' := by
  have T := turn_eq32 a b ha0 ha hb0 hb
  rw [← T]
  clear T
  go_enter Tryd.func75, Tryd.ntmps75
  go_wp2_with (go_at_call 60; refine (width32 _).mono ?_; rintro e w' ⟨rfl, rfl⟩)
  go_ret
  exact ⟨rfl, rfl⟩
set_option maxHeartbeats 400000 in
theorem op32_13 (a b : Int) (w : World) (ha0 : 0 ≤ a) (ha : a ≤ 4294967295) (hb0 : 0 ≤ b) (hb : b ≤ 4294967295) :
    Calls Tryd.prog 74 #[.int .u32 a, .int .u32 b] w fun e w' => e = .returned (.tuple #[.int .u32 (binR false 13 a b).2, .int .i64 (binR false 13 a b).1]) ∧ w = w' := by
  have e : binR false 13 a b = (0, rot false (b % 32).toNat a) := rfl
  rw [e]
  clear e
  go_enter Tryd.func74, Tryd.ntmps74
  go_wp2_with (go_at_call 75; refine (turn32 _ _ _ ha0 ha (by omega) (by omega)).mono ?_; rintro e w' ⟨rfl, rfl⟩)
  go_ret2
  exact ⟨rfl, rfl⟩
set_option maxHeartbeats 400000 in
theorem op32_14 (a b : Int) (g : Nat) (w : World) (ha0 : 0 ≤ a) (ha : a ≤ 4294967295) (hb0 : 0 ≤ b) (hb : b ≤ 4294967295) (hg : w.cell? ⟨g, 0, none⟩ = some (.int .u32 32)) :
    Calls Tryd.prog 76 #[.int .u32 a, .int .u32 b, .pointer (some ⟨g, 0, none⟩)] w fun e w' => e = .returned (.tuple #[.int .u32 (binR false 14 a b).2, .int .i64 (binR false 14 a b).1]) ∧ ∃ m, w' = w.drewN m := by
  have e : binR false 14 a b = (0, rot false ((32 - b % 32) % 32).toNat a) := rfl
  rw [e]
  clear e
  go_enter Tryd.func76, Tryd.ntmps76
  go_wp2
  go_quiet ((go_at_call 75; refine Calls.quiet_of_same ((turn32 _ _ _ ha0 ha (by omega) (by omega)).mono fun e w' h => ⟨h.1, h.2.symm⟩)))
  go_wp2
  go_ret2
  exact ⟨rfl, _, rfl⟩
set_option maxHeartbeats 400000 in
theorem op32_3z (a b : Int) (w : World) (ha0 : 0 ≤ a) (ha : a ≤ 4294967295) (hb0 : 0 ≤ b) (hb : b ≤ 4294967295) (hz : b = 0) :
    Calls Tryd.prog 64 #[.int .u32 a, .int .u32 b] w fun e w' => e = .returned (.tuple #[.int .u32 (binR false 3 a b).2, .int .i64 (binR false 3 a b).1]) ∧ w = w' := by
  have e : binR false 3 a b = (2, 0) := by subst hz; rfl
  rw [e]
  clear e
  subst hz
  go_enter Tryd.func64, Tryd.ntmps64
  go_wp2_with (go_at_call 60; refine (width32 _).mono ?_; rintro e w' ⟨rfl, rfl⟩)
  go_ret2
  exact ⟨rfl, rfl⟩
set_option maxHeartbeats 400000 in
theorem op32_3o (a b : Int) (w : World) (ha0 : 0 ≤ a) (ha : a ≤ 4294967295) (hb0 : 0 ≤ b) (hb : b ≤ 4294967295) (hz : b = 4294967295) (hh : a = 2147483648) :
    Calls Tryd.prog 64 #[.int .u32 a, .int .u32 b] w fun e w' => e = .returned (.tuple #[.int .u32 (binR false 3 a b).2, .int .i64 (binR false 3 a b).1]) ∧ w = w' := by
  have e : binR false 3 a b = (3, 0) := by subst hz hh; rfl
  rw [e]
  clear e
  subst hz hh
  go_enter Tryd.func64, Tryd.ntmps64
  go_wp2_with (go_at_call 60; refine (width32 _).mono ?_; rintro e w' ⟨rfl, rfl⟩)
  go_ret2
  exact ⟨rfl, rfl⟩
theorem quo_eq32 (y : Int) : y % Mo false = (wrap32 y) % 4294967296 := by
  simp only [Mo, wrap32]; simp <;> omega
set_option maxHeartbeats 400000 in
theorem op32_3n (a b : Int) (w : World) (ha0 : 0 ≤ a) (ha : a ≤ 4294967295) (hb0 : 0 ≤ b) (hb : b ≤ 4294967295) (hz : ¬ b = 0) (hh : ¬ a = 2147483648) :
    Calls Tryd.prog 64 #[.int .u32 a, .int .u32 b] w fun e w' => e = .returned (.tuple #[.int .u32 (binR false 3 a b).2, .int .i64 (binR false 3 a b).1]) ∧ w = w' := by
  have e : binR false 3 a b = (0, (wrap32 ((wrap32 a).tdiv (wrap32 b))) % 4294967296) := by simp only [binR]; rw [if_neg hz, if_neg (by simp only [hf, Mo]; simp; omega)]; exact congrArg (Prod.mk 0) (quo_eq32 _)
  rw [e]
  clear e
  have hz1 : (b == 0) = false := beq_eq_false_iff_ne.2 hz
  have hz2 : ¬ wrap32 b = 0 := by simp only [wrap32]; omega
  have hz3 : (wrap32 b == 0) = false := beq_eq_false_iff_ne.2 hz2
  have hh1 : (a == 2147483648) = false := beq_eq_false_iff_ne.2 hh
  go_enter Tryd.func64, Tryd.ntmps64
  go_wp2_with (go_at_call 60; refine (width32 _).mono ?_; rintro e w' ⟨rfl, rfl⟩)
  go_ret2
  exact ⟨rfl, rfl⟩
set_option maxHeartbeats 400000 in
theorem op32_3m (a b : Int) (w : World) (ha0 : 0 ≤ a) (ha : a ≤ 4294967295) (hb0 : 0 ≤ b) (hb : b ≤ 4294967295) (hz : ¬ b = 0) (hh : a = 2147483648) (hm : ¬ b = 4294967295) :
    Calls Tryd.prog 64 #[.int .u32 a, .int .u32 b] w fun e w' => e = .returned (.tuple #[.int .u32 (binR false 3 a b).2, .int .i64 (binR false 3 a b).1]) ∧ w = w' := by
  have e : binR false 3 a b = (0, (wrap32 ((wrap32 a).tdiv (wrap32 b))) % 4294967296) := by simp only [binR]; rw [if_neg hz, if_neg (by simp only [hf, Mo]; simp; omega)]; exact congrArg (Prod.mk 0) (quo_eq32 _)
  rw [e]
  clear e
  have hz1 : (b == 0) = false := beq_eq_false_iff_ne.2 hz
  have hz2 : ¬ wrap32 b = 0 := by simp only [wrap32]; omega
  have hz3 : (wrap32 b == 0) = false := beq_eq_false_iff_ne.2 hz2
  subst hh
  go_enter Tryd.func64, Tryd.ntmps64
  go_wp2_with (go_at_call 60; refine (width32 _).mono ?_; rintro e w' ⟨rfl, rfl⟩)
  all_goals first
    | (go_ret2; exact ⟨rfl, rfl⟩)
    | (exfalso
       have hc : (b == bits .xor .u32 (if IntKind.u32.signed = true then -1 else IntKind.u32.max) 0) = true := by assumption
       rw [show bits .xor .u32 (if IntKind.u32.signed = true then -1 else IntKind.u32.max) 0 = 4294967295 by decide +kernel] at hc
       exact hm (eq_of_beq hc))
theorem op32_3 (a b : Int) (w : World) (ha0 : 0 ≤ a) (ha : a ≤ 4294967295) (hb0 : 0 ≤ b) (hb : b ≤ 4294967295) :
    Calls Tryd.prog 64 #[.int .u32 a, .int .u32 b] w fun e w' => e = .returned (.tuple #[.int .u32 (binR false 3 a b).2, .int .i64 (binR false 3 a b).1]) ∧ w = w' := by
  by_cases hz : b = 0
  · exact op32_3z a b w ha0 ha hb0 hb hz
  · by_cases hh : a = 2147483648
    · by_cases hm : b = 4294967295
      · exact op32_3o a b w ha0 ha hb0 hb hm hh
      · exact op32_3m a b w ha0 ha hb0 hb hz hh hm
    · exact op32_3n a b w ha0 ha hb0 hb hz hh
theorem op32_4 (a b : Int) (w : World) (ha0 : 0 ≤ a) (ha : a ≤ 4294967295) (hb0 : 0 ≤ b) (hb : b ≤ 4294967295) :
    Calls Tryd.prog 65 #[.int .u32 a, .int .u32 b] w fun e w' => e = .returned (.tuple #[.int .u32 (binR false 4 a b).2, .int .i64 (binR false 4 a b).1]) ∧ w = w' := by
  by_cases hz : b = 0
  · exact op32_4z a b w ha0 ha hb0 hb hz
  · exact op32_4n a b w ha0 ha hb0 hb hz
theorem op32_5 (a b : Int) (w : World) (ha0 : 0 ≤ a) (ha : a ≤ 4294967295) (hb0 : 0 ≤ b) (hb : b ≤ 4294967295) :
    Calls Tryd.prog 66 #[.int .u32 a, .int .u32 b] w fun e w' => e = .returned (.tuple #[.int .u32 (binR false 5 a b).2, .int .i64 (binR false 5 a b).1]) ∧ w = w' := by
  by_cases hz : b = 0
  · exact op32_5z a b w ha0 ha hb0 hb hz
  · exact op32_5n a b w ha0 ha hb0 hb hz
theorem op32_6 (a b : Int) (w : World) (ha0 : 0 ≤ a) (ha : a ≤ 4294967295) (hb0 : 0 ≤ b) (hb : b ≤ 4294967295) :
    Calls Tryd.prog 67 #[.int .u32 a, .int .u32 b] w fun e w' => e = .returned (.tuple #[.int .u32 (binR false 6 a b).2, .int .i64 (binR false 6 a b).1]) ∧ w = w' := by
  by_cases hz : b = 0
  · exact op32_6z a b w ha0 ha hb0 hb hz
  · exact op32_6n a b w ha0 ha hb0 hb hz
end Go.Proofs.YtjiaainhieeepaaDoor
