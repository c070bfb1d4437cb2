import Derived.Test.YtjiaainhieeepaaDoorLen
set_option linter.unusedVariables false
namespace Go.Proofs.YtjiaainhieeepaaDoor
open Go.RowKit
theorem width64 (w : World) : Calls Tryd.prog 42 #[] w fun e w' => e = .returned (.int .u64 64) ∧ w = w' := by
  go_enter Tryd.func42, Tryd.ntmps42
  go_wp2_with (go_at_call 81; refine (len64_any _ _ (by decide) (by decide)).mono ?_; rintro e w' ⟨rfl, rfl⟩)
  go_ret
  exact ⟨by simp; decide +kernel, rfl⟩
theorem cmpc64_0 (a b : Int) (w : World) : Calls Tryd.prog 85 #[.int .u64 a, .int .u64 b] w fun e w' => e = .returned (.bool (cmpB true 0 a b)) ∧ w = w' := by
  go_enter Tryd.func85, Tryd.ntmps85
  go_wp2
  go_ret
  exact ⟨rfl, rfl⟩
theorem cmpc64_1 (a b : Int) (w : World) : Calls Tryd.prog 86 #[.int .u64 a, .int .u64 b] w fun e w' => e = .returned (.bool (cmpB true 1 a b)) ∧ w = w' := by
  go_enter Tryd.func86, Tryd.ntmps86
  go_wp2
  go_ret
  exact ⟨rfl, rfl⟩
theorem cmpc64_2 (a b : Int) (w : World) : Calls Tryd.prog 87 #[.int .u64 a, .int .u64 b] w fun e w' => e = .returned (.bool (cmpB true 2 a b)) ∧ w = w' := by
  go_enter Tryd.func87, Tryd.ntmps87
  go_wp2
  go_ret
  exact ⟨rfl, rfl⟩
theorem cmpc64_3 (a b : Int) (w : World) : Calls Tryd.prog 88 #[.int .u64 a, .int .u64 b] w fun e w' => e = .returned (.bool (cmpB true 3 a b)) ∧ w = w' := by
  go_enter Tryd.func88, Tryd.ntmps88
  go_wp2
  go_ret
  exact ⟨rfl, rfl⟩
theorem cmpc64_4 (a b : Int) (w : World) : Calls Tryd.prog 89 #[.int .u64 a, .int .u64 b] w fun e w' => e = .returned (.bool (cmpB true 4 a b)) ∧ w = w' := by
  go_enter Tryd.func89, Tryd.ntmps89
  go_wp2
  go_ret
  exact ⟨rfl, rfl⟩
theorem cmpc64_5 (a b : Int) (w : World) : Calls Tryd.prog 90 #[.int .u64 a, .int .u64 b] w fun e w' => e = .returned (.bool (cmpB true 5 a b)) ∧ w = w' := by
  go_enter Tryd.func90, Tryd.ntmps90
  go_wp2
  go_ret
  exact ⟨rfl, rfl⟩
theorem cmpc64_6 (a b : Int) (w : World) : Calls Tryd.prog 91 #[.int .u64 a, .int .u64 b] w fun e w' => e = .returned (.bool (cmpB true 6 a b)) ∧ w = w' := by
  go_enter Tryd.func91, Tryd.ntmps91
  go_wp2
  go_ret
  exact ⟨rfl, rfl⟩
theorem cmpc64_7 (a b : Int) (w : World) : Calls Tryd.prog 92 #[.int .u64 a, .int .u64 b] w fun e w' => e = .returned (.bool (cmpB true 7 a b)) ∧ w = w' := by
  go_enter Tryd.func92, Tryd.ntmps92
  go_wp2
  go_ret
  exact ⟨rfl, rfl⟩
theorem cmpc64_8 (a b : Int) (w : World) : Calls Tryd.prog 93 #[.int .u64 a, .int .u64 b] w fun e w' => e = .returned (.bool (cmpB true 8 a b)) ∧ w = w' := by
  go_enter Tryd.func93, Tryd.ntmps93
  go_wp2
  go_ret
  exact ⟨rfl, rfl⟩
theorem cmpc64_9 (a b : Int) (w : World) : Calls Tryd.prog 94 #[.int .u64 a, .int .u64 b] w fun e w' => e = .returned (.bool (cmpB true 9 a b)) ∧ w = w' := by
  go_enter Tryd.func94, Tryd.ntmps94
  go_wp2
  go_ret
  exact ⟨rfl, rfl⟩
set_option maxHeartbeats 400000 in
theorem op64_0 (a b : Int) (w : World) (ha0 : 0 ≤ a) (ha : a ≤ 18446744073709551615) (hb0 : 0 ≤ b) (hb : b ≤ 18446744073709551615) :
    Calls Tryd.prog 43 #[.int .u64 a, .int .u64 b] w fun e w' => e = .returned (.tuple #[.int .u64 (binR true 0 a b).2, .int .i64 (binR true 0 a b).1]) ∧ w = w' := by
  have e : binR true 0 a b = (0, IntKind.u64.wrap (a + b)) := by simp only [binR, Mo]; rw [IntKind.wrap_u64]; rfl
  rw [e]
  clear e
  go_enter Tryd.func43, Tryd.ntmps43
  go_wp2
  go_ret2
  exact ⟨rfl, rfl⟩
set_option maxHeartbeats 400000 in
theorem op64_1 (a b : Int) (w : World) (ha0 : 0 ≤ a) (ha : a ≤ 18446744073709551615) (hb0 : 0 ≤ b) (hb : b ≤ 18446744073709551615) :
    Calls Tryd.prog 44 #[.int .u64 a, .int .u64 b] w fun e w' => e = .returned (.tuple #[.int .u64 (binR true 1 a b).2, .int .i64 (binR true 1 a b).1]) ∧ w = w' := by
  have e : binR true 1 a b = (0, IntKind.u64.wrap (a - b)) := by simp only [binR, Mo]; rw [IntKind.wrap_u64]; rfl
  rw [e]
  clear e
  go_enter Tryd.func44, Tryd.ntmps44
  go_wp2
  go_ret2
  exact ⟨rfl, rfl⟩
set_option maxHeartbeats 400000 in
theorem op64_2 (a b : Int) (w : World) (ha0 : 0 ≤ a) (ha : a ≤ 18446744073709551615) (hb0 : 0 ≤ b) (hb : b ≤ 18446744073709551615) :
    Calls Tryd.prog 45 #[.int .u64 a, .int .u64 b] w fun e w' => e = .returned (.tuple #[.int .u64 (binR true 2 a b).2, .int .i64 (binR true 2 a b).1]) ∧ w = w' := by
  have e : binR true 2 a b = (0, IntKind.u64.wrap (a * b)) := by simp only [binR, Mo]; rw [IntKind.wrap_u64]; rfl
  rw [e]
  clear e
  go_enter Tryd.func45, Tryd.ntmps45
  go_wp2
  go_ret2
  exact ⟨rfl, rfl⟩
set_option maxHeartbeats 400000 in
theorem op64_7 (a b : Int) (w : World) (ha0 : 0 ≤ a) (ha : a ≤ 18446744073709551615) (hb0 : 0 ≤ b) (hb : b ≤ 18446744073709551615) :
    Calls Tryd.prog 50 #[.int .u64 a, .int .u64 b] w fun e w' => e = .returned (.tuple #[.int .u64 (binR true 7 a b).2, .int .i64 (binR true 7 a b).1]) ∧ w = w' := by
  have e : binR true 7 a b = (0, bits .and .u64 a b) := by rw [u64_and a b ha0 (by omega) hb0 (by omega)]; rfl
  rw [e]
  clear e
  go_enter Tryd.func50, Tryd.ntmps50
  go_wp2
  go_ret2
  exact ⟨rfl, rfl⟩
set_option maxHeartbeats 400000 in
theorem op64_8 (a b : Int) (w : World) (ha0 : 0 ≤ a) (ha : a ≤ 18446744073709551615) (hb0 : 0 ≤ b) (hb : b ≤ 18446744073709551615) :
    Calls Tryd.prog 51 #[.int .u64 a, .int .u64 b] w fun e w' => e = .returned (.tuple #[.int .u64 (binR true 8 a b).2, .int .i64 (binR true 8 a b).1]) ∧ w = w' := by
  have e : binR true 8 a b = (0, bits .or .u64 a b) := by rw [u64_or a b ha0 (by omega) hb0 (by omega)]; rfl
  rw [e]
  clear e
  go_enter Tryd.func51, Tryd.ntmps51
  go_wp2
  go_ret2
  exact ⟨rfl, rfl⟩
set_option maxHeartbeats 400000 in
theorem op64_9 (a b : Int) (w : World) (ha0 : 0 ≤ a) (ha : a ≤ 18446744073709551615) (hb0 : 0 ≤ b) (hb : b ≤ 18446744073709551615) :
    Calls Tryd.prog 52 #[.int .u64 a, .int .u64 b] w fun e w' => e = .returned (.tuple #[.int .u64 (binR true 9 a b).2, .int .i64 (binR true 9 a b).1]) ∧ w = w' := by
  have e : binR true 9 a b = (0, bits .xor .u64 a b) := by rw [u64_xor a b ha0 (by omega) hb0 (by omega)]; rfl
  rw [e]
  clear e
  go_enter Tryd.func52, Tryd.ntmps52
  go_wp2
  go_ret2
  exact ⟨rfl, rfl⟩
set_option maxHeartbeats 400000 in
theorem op64_4z (a b : Int) (w : World) (ha0 : 0 ≤ a) (ha : a ≤ 18446744073709551615) (hb0 : 0 ≤ b) (hb : b ≤ 18446744073709551615) (hz : b = 0) :
    Calls Tryd.prog 47 #[.int .u64 a, .int .u64 b] w fun e w' => e = .returned (.tuple #[.int .u64 (binR true 4 a b).2, .int .i64 (binR true 4 a b).1]) ∧ w = w' := by
  have e : binR true 4 a b = (2, 0) := by subst hz; rfl
  rw [e]
  clear e
  subst hz
  go_enter Tryd.func47, Tryd.ntmps47
  go_wp2
  go_ret2
  exact ⟨rfl, rfl⟩
set_option maxHeartbeats 400000 in
theorem op64_4n (a b : Int) (w : World) (ha0 : 0 ≤ a) (ha : a ≤ 18446744073709551615) (hb0 : 0 ≤ b) (hb : b ≤ 18446744073709551615) (hz : ¬ b = 0) :
    Calls Tryd.prog 47 #[.int .u64 a, .int .u64 b] w fun e w' => e = .returned (.tuple #[.int .u64 (binR true 4 a b).2, .int .i64 (binR true 4 a b).1]) ∧ w = w' := by
  have e : binR true 4 a b = (0, a / b) := if_neg hz
  rw [e]
  clear e
  have hz1 : (b == 0) = false := beq_eq_false_iff_ne.2 hz
  go_enter Tryd.func47, Tryd.ntmps47
  go_wp2
  go_ret2
  exact ⟨rfl, rfl⟩
set_option maxHeartbeats 400000 in
theorem op64_6z (a b : Int) (w : World) (ha0 : 0 ≤ a) (ha : a ≤ 18446744073709551615) (hb0 : 0 ≤ b) (hb : b ≤ 18446744073709551615) (hz : b = 0) :
    Calls Tryd.prog 49 #[.int .u64 a, .int .u64 b] w fun e w' => e = .returned (.tuple #[.int .u64 (binR true 6 a b).2, .int .i64 (binR true 6 a b).1]) ∧ w = w' := by
  have e : binR true 6 a b = (2, 0) := by subst hz; rfl
  rw [e]
  clear e
  subst hz
  go_enter Tryd.func49, Tryd.ntmps49
  go_wp2
  go_ret2
  exact ⟨rfl, rfl⟩
set_option maxHeartbeats 400000 in
theorem op64_6n (a b : Int) (w : World) (ha0 : 0 ≤ a) (ha : a ≤ 18446744073709551615) (hb0 : 0 ≤ b) (hb : b ≤ 18446744073709551615) (hz : ¬ b = 0) :
    Calls Tryd.prog 49 #[.int .u64 a, .int .u64 b] w fun e w' => e = .returned (.tuple #[.int .u64 (binR true 6 a b).2, .int .i64 (binR true 6 a b).1]) ∧ w = w' := by
  have e : binR true 6 a b = (0, a % b) := if_neg hz
  rw [e]
  clear e
  have hz1 : (b == 0) = false := beq_eq_false_iff_ne.2 hz
  go_enter Tryd.func49, Tryd.ntmps49
  go_wp2
  go_ret2
  exact ⟨rfl, rfl⟩
set_option maxHeartbeats 400000 in
theorem op64_5z (a b : Int) (w : World) (ha0 : 0 ≤ a) (ha : a ≤ 18446744073709551615) (hb0 : 0 ≤ b) (hb : b ≤ 18446744073709551615) (hz : b = 0) :
    Calls Tryd.prog 48 #[.int .u64 a, .int .u64 b] w fun e w' => e = .returned (.tuple #[.int .u64 (binR true 5 a b).2, .int .i64 (binR true 5 a b).1]) ∧ w = w' := by
  have e : binR true 5 a b = (2, 0) := by subst hz; rfl
  rw [e]
  clear e
  subst hz
  go_enter Tryd.func48, Tryd.ntmps48
  go_wp2
  go_ret2
  exact ⟨rfl, rfl⟩
set_option maxHeartbeats 400000 in
theorem op64_5n (a b : Int) (w : World) (ha0 : 0 ≤ a) (ha : a ≤ 18446744073709551615) (hb0 : 0 ≤ b) (hb : b ≤ 18446744073709551615) (hz : ¬ b = 0) :
    Calls Tryd.prog 48 #[.int .u64 a, .int .u64 b] w fun e w' => e = .returned (.tuple #[.int .u64 (binR true 5 a b).2, .int .i64 (binR true 5 a b).1]) ∧ w = w' := by
  have e : binR true 5 a b = (0, IntKind.u64.wrap ((wrap64 a).tmod (wrap64 b))) := by simp only [binR]; rw [if_neg hz]; rw [IntKind.wrap_u64]; rfl
  rw [e]
  clear e
  have hz1 : (b == 0) = false := beq_eq_false_iff_ne.2 hz
  have hz2 : ¬ wrap64 b = 0 := by simp only [wrap64]; omega
  have hz3 : (wrap64 b == 0) = false := beq_eq_false_iff_ne.2 hz2
  go_enter Tryd.func48, Tryd.ntmps48
  go_wp2
  go_ret2
  exact ⟨rfl, rfl⟩
theorem width32 (w : World) : Calls Tryd.prog 60 #[] w fun e w' => e = .returned (.int .u32 32) ∧ w = w' := by
  go_enter Tryd.func60, Tryd.ntmps60
  go_wp2_with (go_at_call 81; refine (len64_any _ _ (by decide) (by decide)).mono ?_; rintro e w' ⟨rfl, rfl⟩)
  go_ret
  exact ⟨by simp; decide +kernel, rfl⟩
theorem cmpc32_0 (a b : Int) (w : World) : Calls Tryd.prog 95 #[.int .u32 a, .int .u32 b] w fun e w' => e = .returned (.bool (cmpB false 0 a b)) ∧ w = w' := by
  go_enter Tryd.func95, Tryd.ntmps95
  go_wp2
  go_ret
  exact ⟨rfl, rfl⟩
theorem cmpc32_1 (a b : Int) (w : World) : Calls Tryd.prog 96 #[.int .u32 a, .int .u32 b] w fun e w' => e = .returned (.bool (cmpB false 1 a b)) ∧ w = w' := by
  go_enter Tryd.func96, Tryd.ntmps96
  go_wp2
  go_ret
  exact ⟨rfl, rfl⟩
theorem cmpc32_2 (a b : Int) (w : World) : Calls Tryd.prog 97 #[.int .u32 a, .int .u32 b] w fun e w' => e = .returned (.bool (cmpB false 2 a b)) ∧ w = w' := by
  go_enter Tryd.func97, Tryd.ntmps97
  go_wp2
  go_ret
  exact ⟨rfl, rfl⟩
theorem cmpc32_3 (a b : Int) (w : World) : Calls Tryd.prog 98 #[.int .u32 a, .int .u32 b] w fun e w' => e = .returned (.bool (cmpB false 3 a b)) ∧ w = w' := by
  go_enter Tryd.func98, Tryd.ntmps98
  go_wp2
  go_ret
  exact ⟨rfl, rfl⟩
theorem cmpc32_4 (a b : Int) (w : World) : Calls Tryd.prog 99 #[.int .u32 a, .int .u32 b] w fun e w' => e = .returned (.bool (cmpB false 4 a b)) ∧ w = w' := by
  go_enter Tryd.func99, Tryd.ntmps99
  go_wp2
  go_ret
  exact ⟨rfl, rfl⟩
theorem cmpc32_5 (a b : Int) (w : World) : Calls Tryd.prog 100 #[.int .u32 a, .int .u32 b] w fun e w' => e = .returned (.bool (cmpB false 5 a b)) ∧ w = w' := by
  go_enter Tryd.func100, Tryd.ntmps100
  go_wp2
  go_ret
  exact ⟨rfl, rfl⟩
theorem cmpc32_6 (a b : Int) (w : World) : Calls Tryd.prog 101 #[.int .u32 a, .int .u32 b] w fun e w' => e = .returned (.bool (cmpB false 6 a b)) ∧ w = w' := by
  go_enter Tryd.func101, Tryd.ntmps101
  go_wp2
  go_ret
  exact ⟨rfl, rfl⟩
theorem cmpc32_7 (a b : Int) (w : World) : Calls Tryd.prog 102 #[.int .u32 a, .int .u32 b] w fun e w' => e = .returned (.bool (cmpB false 7 a b)) ∧ w = w' := by
  go_enter Tryd.func102, Tryd.ntmps102
  go_wp2
  go_ret
  exact ⟨rfl, rfl⟩
theorem cmpc32_8 (a b : Int) (w : World) : Calls Tryd.prog 103 #[.int .u32 a, .int .u32 b] w fun e w' => e = .returned (.bool (cmpB false 8 a b)) ∧ w = w' := by
  go_enter Tryd.func103, Tryd.ntmps103
  go_wp2
  go_ret
  exact ⟨rfl, rfl⟩
theorem cmpc32_9 (a b : Int) (w : World) : Calls Tryd.prog 104 #[.int .u32 a, .int .u32 b] w fun e w' => e = .returned (.bool (cmpB false 9 a b)) ∧ w = w' := by
  go_enter Tryd.func104, Tryd.ntmps104
  go_wp2
  go_ret
  exact ⟨rfl, rfl⟩
set_option maxHeartbeats 400000 in
theorem op32_0 (a b : Int) (w : World) (ha0 : 0 ≤ a) (ha : a ≤ 4294967295) (hb0 : 0 ≤ b) (hb : b ≤ 4294967295) :
    Calls Tryd.prog 61 #[.int .u32 a, .int .u32 b] w fun e w' => e = .returned (.tuple #[.int .u32 (binR false 0 a b).2, .int .i64 (binR false 0 a b).1]) ∧ w = w' := by
  have e : binR false 0 a b = (0, (a + b) % 4294967296) := rfl
  rw [e]
  clear e
  go_enter Tryd.func61, Tryd.ntmps61
  go_wp2
  go_ret2
  exact ⟨rfl, rfl⟩
set_option maxHeartbeats 400000 in
theorem op32_1 (a b : Int) (w : World) (ha0 : 0 ≤ a) (ha : a ≤ 4294967295) (hb0 : 0 ≤ b) (hb : b ≤ 4294967295) :
    Calls Tryd.prog 62 #[.int .u32 a, .int .u32 b] w fun e w' => e = .returned (.tuple #[.int .u32 (binR false 1 a b).2, .int .i64 (binR false 1 a b).1]) ∧ w = w' := by
  have e : binR false 1 a b = (0, (a - b) % 4294967296) := rfl
  rw [e]
  clear e
  go_enter Tryd.func62, Tryd.ntmps62
  go_wp2
  go_ret2
  exact ⟨rfl, rfl⟩
set_option maxHeartbeats 400000 in
theorem op32_2 (a b : Int) (w : World) (ha0 : 0 ≤ a) (ha : a ≤ 4294967295) (hb0 : 0 ≤ b) (hb : b ≤ 4294967295) :
    Calls Tryd.prog 63 #[.int .u32 a, .int .u32 b] w fun e w' => e = .returned (.tuple #[.int .u32 (binR false 2 a b).2, .int .i64 (binR false 2 a b).1]) ∧ w = w' := by
  have e : binR false 2 a b = (0, (a * b) % 4294967296) := rfl
  rw [e]
  clear e
  go_enter Tryd.func63, Tryd.ntmps63
  go_wp2
  go_ret2
  exact ⟨rfl, rfl⟩
set_option maxHeartbeats 400000 in
theorem op32_7 (a b : Int) (w : World) (ha0 : 0 ≤ a) (ha : a ≤ 4294967295) (hb0 : 0 ≤ b) (hb : b ≤ 4294967295) :
    Calls Tryd.prog 68 #[.int .u32 a, .int .u32 b] w fun e w' => e = .returned (.tuple #[.int .u32 (binR false 7 a b).2, .int .i64 (binR false 7 a b).1]) ∧ w = w' := by
  have e : binR false 7 a b = (0, bits .and .u32 a b) := by rw [u32_and a b ha0 (by omega) hb0 (by omega)]; rfl
  rw [e]
  clear e
  go_enter Tryd.func68, Tryd.ntmps68
  go_wp2
  go_ret2
  exact ⟨rfl, rfl⟩
set_option maxHeartbeats 400000 in
theorem op32_8 (a b : Int) (w : World) (ha0 : 0 ≤ a) (ha : a ≤ 4294967295) (hb0 : 0 ≤ b) (hb : b ≤ 4294967295) :
    Calls Tryd.prog 69 #[.int .u32 a, .int .u32 b] w fun e w' => e = .returned (.tuple #[.int .u32 (binR false 8 a b).2, .int .i64 (binR false 8 a b).1]) ∧ w = w' := by
  have e : binR false 8 a b = (0, bits .or .u32 a b) := by rw [u32_or a b ha0 (by omega) hb0 (by omega)]; rfl
  rw [e]
  clear e
  go_enter Tryd.func69, Tryd.ntmps69
  go_wp2
  go_ret2
  exact ⟨rfl, rfl⟩
set_option maxHeartbeats 400000 in
theorem op32_9 (a b : Int) (w : World) (ha0 : 0 ≤ a) (ha : a ≤ 4294967295) (hb0 : 0 ≤ b) (hb : b ≤ 4294967295) :
    Calls Tryd.prog 70 #[.int .u32 a, .int .u32 b] w fun e w' => e = .returned (.tuple #[.int .u32 (binR false 9 a b).2, .int .i64 (binR false 9 a b).1]) ∧ w = w' := by
  have e : binR false 9 a b = (0, bits .xor .u32 a b) := by rw [u32_xor a b ha0 (by omega) hb0 (by omega)]; rfl
  rw [e]
  clear e
  go_enter Tryd.func70, Tryd.ntmps70
  go_wp2
  go_ret2
  exact ⟨rfl, rfl⟩
set_option maxHeartbeats 400000 in
theorem op32_4z (a b : Int) (w : World) (ha0 : 0 ≤ a) (ha : a ≤ 4294967295) (hb0 : 0 ≤ b) (hb : b ≤ 4294967295) (hz : b = 0) :
    Calls Tryd.prog 65 #[.int .u32 a, .int .u32 b] w fun e w' => e = .returned (.tuple #[.int .u32 (binR false 4 a b).2, .int .i64 (binR false 4 a b).1]) ∧ w = w' := by
  have e : binR false 4 a b = (2, 0) := by subst hz; rfl
  rw [e]
  clear e
  subst hz
  go_enter Tryd.func65, Tryd.ntmps65
  go_wp2
  go_ret2
  exact ⟨rfl, rfl⟩
set_option maxHeartbeats 400000 in
theorem op32_4n (a b : Int) (w : World) (ha0 : 0 ≤ a) (ha : a ≤ 4294967295) (hb0 : 0 ≤ b) (hb : b ≤ 4294967295) (hz : ¬ b = 0) :
    Calls Tryd.prog 65 #[.int .u32 a, .int .u32 b] w fun e w' => e = .returned (.tuple #[.int .u32 (binR false 4 a b).2, .int .i64 (binR false 4 a b).1]) ∧ w = w' := by
  have e : binR false 4 a b = (0, a / b) := if_neg hz
  rw [e]
  clear e
  have hz1 : (b == 0) = false := beq_eq_false_iff_ne.2 hz
  go_enter Tryd.func65, Tryd.ntmps65
  go_wp2
  go_ret2
  exact ⟨rfl, rfl⟩
set_option maxHeartbeats 400000 in
theorem op32_6z (a b : Int) (w : World) (ha0 : 0 ≤ a) (ha : a ≤ 4294967295) (hb0 : 0 ≤ b) (hb : b ≤ 4294967295) (hz : b = 0) :
    Calls Tryd.prog 67 #[.int .u32 a, .int .u32 b] w fun e w' => e = .returned (.tuple #[.int .u32 (binR false 6 a b).2, .int .i64 (binR false 6 a b).1]) ∧ w = w' := by
  have e : binR false 6 a b = (2, 0) := by subst hz; rfl
  rw [e]
  clear e
  subst hz
  go_enter Tryd.func67, Tryd.ntmps67
  go_wp2
  go_ret2
  exact ⟨rfl, rfl⟩
set_option maxHeartbeats 400000 in
theorem op32_6n (a b : Int) (w : World) (ha0 : 0 ≤ a) (ha : a ≤ 4294967295) (hb0 : 0 ≤ b) (hb : b ≤ 4294967295) (hz : ¬ b = 0) :
    Calls Tryd.prog 67 #[.int .u32 a, .int .u32 b] w fun e w' => e = .returned (.tuple #[.int .u32 (binR false 6 a b).2, .int .i64 (binR false 6 a b).1]) ∧ w = w' := by
  have e : binR false 6 a b = (0, a % b) := if_neg hz
  rw [e]
  clear e
  have hz1 : (b == 0) = false := beq_eq_false_iff_ne.2 hz
  go_enter Tryd.func67, Tryd.ntmps67
  go_wp2
  go_ret2
  exact ⟨rfl, rfl⟩
set_option maxHeartbeats 400000 in
theorem op32_5z (a b : Int) (w : World) (ha0 : 0 ≤ a) (ha : a ≤ 4294967295) (hb0 : 0 ≤ b) (hb : b ≤ 4294967295) (hz : b = 0) :
    Calls Tryd.prog 66 #[.int .u32 a, .int .u32 b] w fun e w' => e = .returned (.tuple #[.int .u32 (binR false 5 a b).2, .int .i64 (binR false 5 a b).1]) ∧ w = w' := by
  have e : binR false 5 a b = (2, 0) := by subst hz; rfl
  rw [e]
  clear e
  subst hz
  go_enter Tryd.func66, Tryd.ntmps66
  go_wp2
  go_ret2
  exact ⟨rfl, rfl⟩
set_option maxHeartbeats 400000 in
theorem op32_5n (a b : Int) (w : World) (ha0 : 0 ≤ a) (ha : a ≤ 4294967295) (hb0 : 0 ≤ b) (hb : b ≤ 4294967295) (hz : ¬ b = 0) :
    Calls Tryd.prog 66 #[.int .u32 a, .int .u32 b] w fun e w' => e = .returned (.tuple #[.int .u32 (binR false 5 a b).2, .int .i64 (binR false 5 a b).1]) ∧ w = w' := by
  have e : binR false 5 a b = (0, ((wrap32 a).tmod (wrap32 b)) % 4294967296) := by simp only [binR]; rw [if_neg hz]; rfl
  rw [e]
  clear e
  have hz1 : (b == 0) = false := beq_eq_false_iff_ne.2 hz
  have hz2 : ¬ wrap32 b = 0 := by simp only [wrap32]; omega
  have hz3 : (wrap32 b == 0) = false := beq_eq_false_iff_ne.2 hz2
  go_enter Tryd.func66, Tryd.ntmps66
  go_wp2
  go_ret2
  exact ⟨rfl, rfl⟩
end Go.Proofs.YtjiaainhieeepaaDoor
