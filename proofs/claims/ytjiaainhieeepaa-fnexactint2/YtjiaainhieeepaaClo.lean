import Derived.Test.YtjiaainhieeepaaLen
set_option linter.unusedVariables false
namespace Go.Proofs.Ytjiaainhieeepaa
open Go.RowKit
theorem width64 (w : World) : Calls Try.prog 19 #[] w fun e w' => e = .returned (.int .u64 64) ∧ w = w' := by
  go_enter Try.func19, Try.ntmps19
  go_wp2_with (go_at_call 56; refine (len64_any _ _ (by decide) (by decide)).mono ?_; rintro e w' ⟨rfl, rfl⟩)
  go_ret
  exact ⟨by simp; decide +kernel, rfl⟩
theorem cmpc64_0 (a b : Int) (w : World) : Calls Try.prog 57 #[.int .u64 a, .int .u64 b] w fun e w' => e = .returned (.bool (cmpB true 0 a b)) ∧ w = w' := by
  go_enter Try.func57, Try.ntmps57
  go_wp2
  go_ret
  exact ⟨rfl, rfl⟩
theorem cmpc64_1 (a b : Int) (w : World) : Calls Try.prog 58 #[.int .u64 a, .int .u64 b] w fun e w' => e = .returned (.bool (cmpB true 1 a b)) ∧ w = w' := by
  go_enter Try.func58, Try.ntmps58
  go_wp2
  go_ret
  exact ⟨rfl, rfl⟩
theorem cmpc64_2 (a b : Int) (w : World) : Calls Try.prog 59 #[.int .u64 a, .int .u64 b] w fun e w' => e = .returned (.bool (cmpB true 2 a b)) ∧ w = w' := by
  go_enter Try.func59, Try.ntmps59
  go_wp2
  go_ret
  exact ⟨rfl, rfl⟩
theorem cmpc64_3 (a b : Int) (w : World) : Calls Try.prog 60 #[.int .u64 a, .int .u64 b] w fun e w' => e = .returned (.bool (cmpB true 3 a b)) ∧ w = w' := by
  go_enter Try.func60, Try.ntmps60
  go_wp2
  go_ret
  exact ⟨rfl, rfl⟩
theorem cmpc64_4 (a b : Int) (w : World) : Calls Try.prog 61 #[.int .u64 a, .int .u64 b] w fun e w' => e = .returned (.bool (cmpB true 4 a b)) ∧ w = w' := by
  go_enter Try.func61, Try.ntmps61
  go_wp2
  go_ret
  exact ⟨rfl, rfl⟩
theorem cmpc64_5 (a b : Int) (w : World) : Calls Try.prog 62 #[.int .u64 a, .int .u64 b] w fun e w' => e = .returned (.bool (cmpB true 5 a b)) ∧ w = w' := by
  go_enter Try.func62, Try.ntmps62
  go_wp2
  go_ret
  exact ⟨rfl, rfl⟩
theorem cmpc64_6 (a b : Int) (w : World) : Calls Try.prog 63 #[.int .u64 a, .int .u64 b] w fun e w' => e = .returned (.bool (cmpB true 6 a b)) ∧ w = w' := by
  go_enter Try.func63, Try.ntmps63
  go_wp2
  go_ret
  exact ⟨rfl, rfl⟩
theorem cmpc64_7 (a b : Int) (w : World) : Calls Try.prog 64 #[.int .u64 a, .int .u64 b] w fun e w' => e = .returned (.bool (cmpB true 7 a b)) ∧ w = w' := by
  go_enter Try.func64, Try.ntmps64
  go_wp2
  go_ret
  exact ⟨rfl, rfl⟩
theorem cmpc64_8 (a b : Int) (w : World) : Calls Try.prog 65 #[.int .u64 a, .int .u64 b] w fun e w' => e = .returned (.bool (cmpB true 8 a b)) ∧ w = w' := by
  go_enter Try.func65, Try.ntmps65
  go_wp2
  go_ret
  exact ⟨rfl, rfl⟩
theorem cmpc64_9 (a b : Int) (w : World) : Calls Try.prog 66 #[.int .u64 a, .int .u64 b] w fun e w' => e = .returned (.bool (cmpB true 9 a b)) ∧ w = w' := by
  go_enter Try.func66, Try.ntmps66
  go_wp2
  go_ret
  exact ⟨rfl, rfl⟩
set_option maxHeartbeats 400000 in
theorem op64_0 (a b : Int) (w : World) (ha0 : 0 ≤ a) (ha : a ≤ 18446744073709551615) (hb0 : 0 ≤ b) (hb : b ≤ 18446744073709551615) :
    Calls Try.prog 20 #[.int .u64 a, .int .u64 b] w fun e w' => e = .returned (.tuple #[.int .u64 (binR true 0 a b).2, .int .i64 (binR true 0 a b).1]) ∧ w = w' := by
  have e : binR true 0 a b = (0, IntKind.u64.wrap (a + b)) := by simp only [binR, Mo]; rw [IntKind.wrap_u64]; rfl
  rw [e]
  clear e
  go_enter Try.func20, Try.ntmps20
  go_wp2
  go_ret2
  exact ⟨rfl, rfl⟩
set_option maxHeartbeats 400000 in
theorem op64_1 (a b : Int) (w : World) (ha0 : 0 ≤ a) (ha : a ≤ 18446744073709551615) (hb0 : 0 ≤ b) (hb : b ≤ 18446744073709551615) :
    Calls Try.prog 21 #[.int .u64 a, .int .u64 b] w fun e w' => e = .returned (.tuple #[.int .u64 (binR true 1 a b).2, .int .i64 (binR true 1 a b).1]) ∧ w = w' := by
  have e : binR true 1 a b = (0, IntKind.u64.wrap (a - b)) := by simp only [binR, Mo]; rw [IntKind.wrap_u64]; rfl
  rw [e]
  clear e
  go_enter Try.func21, Try.ntmps21
  go_wp2
  go_ret2
  exact ⟨rfl, rfl⟩
set_option maxHeartbeats 400000 in
theorem op64_2 (a b : Int) (w : World) (ha0 : 0 ≤ a) (ha : a ≤ 18446744073709551615) (hb0 : 0 ≤ b) (hb : b ≤ 18446744073709551615) :
    Calls Try.prog 22 #[.int .u64 a, .int .u64 b] w fun e w' => e = .returned (.tuple #[.int .u64 (binR true 2 a b).2, .int .i64 (binR true 2 a b).1]) ∧ w = w' := by
  have e : binR true 2 a b = (0, IntKind.u64.wrap (a * b)) := by simp only [binR, Mo]; rw [IntKind.wrap_u64]; rfl
  rw [e]
  clear e
  go_enter Try.func22, Try.ntmps22
  go_wp2
  go_ret2
  exact ⟨rfl, rfl⟩
set_option maxHeartbeats 400000 in
theorem op64_7 (a b : Int) (w : World) (ha0 : 0 ≤ a) (ha : a ≤ 18446744073709551615) (hb0 : 0 ≤ b) (hb : b ≤ 18446744073709551615) :
    Calls Try.prog 27 #[.int .u64 a, .int .u64 b] w fun e w' => e = .returned (.tuple #[.int .u64 (binR true 7 a b).2, .int .i64 (binR true 7 a b).1]) ∧ w = w' := by
  have e : binR true 7 a b = (0, bits .and .u64 a b) := by rw [u64_and a b ha0 (by omega) hb0 (by omega)]; rfl
  rw [e]
  clear e
  go_enter Try.func27, Try.ntmps27
  go_wp2
  go_ret2
  exact ⟨rfl, rfl⟩
set_option maxHeartbeats 400000 in
theorem op64_8 (a b : Int) (w : World) (ha0 : 0 ≤ a) (ha : a ≤ 18446744073709551615) (hb0 : 0 ≤ b) (hb : b ≤ 18446744073709551615) :
    Calls Try.prog 28 #[.int .u64 a, .int .u64 b] w fun e w' => e = .returned (.tuple #[.int .u64 (binR true 8 a b).2, .int .i64 (binR true 8 a b).1]) ∧ w = w' := by
  have e : binR true 8 a b = (0, bits .or .u64 a b) := by rw [u64_or a b ha0 (by omega) hb0 (by omega)]; rfl
  rw [e]
  clear e
  go_enter Try.func28, Try.ntmps28
  go_wp2
  go_ret2
  exact ⟨rfl, rfl⟩
set_option maxHeartbeats 400000 in
theorem op64_9 (a b : Int) (w : World) (ha0 : 0 ≤ a) (ha : a ≤ 18446744073709551615) (hb0 : 0 ≤ b) (hb : b ≤ 18446744073709551615) :
    Calls Try.prog 29 #[.int .u64 a, .int .u64 b] w fun e w' => e = .returned (.tuple #[.int .u64 (binR true 9 a b).2, .int .i64 (binR true 9 a b).1]) ∧ w = w' := by
  have e : binR true 9 a b = (0, bits .xor .u64 a b) := by rw [u64_xor a b ha0 (by omega) hb0 (by omega)]; rfl
  rw [e]
  clear e
  go_enter Try.func29, Try.ntmps29
  go_wp2
  go_ret2
  exact ⟨rfl, rfl⟩
set_option maxHeartbeats 400000 in
theorem op64_4z (a b : Int) (w : World) (ha0 : 0 ≤ a) (ha : a ≤ 18446744073709551615) (hb0 : 0 ≤ b) (hb : b ≤ 18446744073709551615) (hz : b = 0) :
    Calls Try.prog 24 #[.int .u64 a, .int .u64 b] w fun e w' => e = .returned (.tuple #[.int .u64 (binR true 4 a b).2, .int .i64 (binR true 4 a b).1]) ∧ w = w' := by
  have e : binR true 4 a b = (2, 0) := by subst hz; rfl
  rw [e]
  clear e
  subst hz
  go_enter Try.func24, Try.ntmps24
  go_wp2
  go_ret2
  exact ⟨rfl, rfl⟩
set_option maxHeartbeats 400000 in
theorem op64_4n (a b : Int) (w : World) (ha0 : 0 ≤ a) (ha : a ≤ 18446744073709551615) (hb0 : 0 ≤ b) (hb : b ≤ 18446744073709551615) (hz : ¬ b = 0) :
    Calls Try.prog 24 #[.int .u64 a, .int .u64 b] w fun e w' => e = .returned (.tuple #[.int .u64 (binR true 4 a b).2, .int .i64 (binR true 4 a b).1]) ∧ w = w' := by
  have e : binR true 4 a b = (0, a / b) := if_neg hz
  rw [e]
  clear e
  have hz1 : (b == 0) = false := beq_eq_false_iff_ne.2 hz
  go_enter Try.func24, Try.ntmps24
  go_wp2
  go_ret2
  exact ⟨rfl, rfl⟩
set_option maxHeartbeats 400000 in
theorem op64_6z (a b : Int) (w : World) (ha0 : 0 ≤ a) (ha : a ≤ 18446744073709551615) (hb0 : 0 ≤ b) (hb : b ≤ 18446744073709551615) (hz : b = 0) :
    Calls Try.prog 26 #[.int .u64 a, .int .u64 b] w fun e w' => e = .returned (.tuple #[.int .u64 (binR true 6 a b).2, .int .i64 (binR true 6 a b).1]) ∧ w = w' := by
  have e : binR true 6 a b = (2, 0) := by subst hz; rfl
  rw [e]
  clear e
  subst hz
  go_enter Try.func26, Try.ntmps26
  go_wp2
  go_ret2
  exact ⟨rfl, rfl⟩
set_option maxHeartbeats 400000 in
theorem op64_6n (a b : Int) (w : World) (ha0 : 0 ≤ a) (ha : a ≤ 18446744073709551615) (hb0 : 0 ≤ b) (hb : b ≤ 18446744073709551615) (hz : ¬ b = 0) :
    Calls Try.prog 26 #[.int .u64 a, .int .u64 b] w fun e w' => e = .returned (.tuple #[.int .u64 (binR true 6 a b).2, .int .i64 (binR true 6 a b).1]) ∧ w = w' := by
  have e : binR true 6 a b = (0, a % b) := if_neg hz
  rw [e]
  clear e
  have hz1 : (b == 0) = false := beq_eq_false_iff_ne.2 hz
  go_enter Try.func26, Try.ntmps26
  go_wp2
  go_ret2
  exact ⟨rfl, rfl⟩
set_option maxHeartbeats 400000 in
theorem op64_5z (a b : Int) (w : World) (ha0 : 0 ≤ a) (ha : a ≤ 18446744073709551615) (hb0 : 0 ≤ b) (hb : b ≤ 18446744073709551615) (hz : b = 0) :
    Calls Try.prog 25 #[.int .u64 a, .int .u64 b] w fun e w' => e = .returned (.tuple #[.int .u64 (binR true 5 a b).2, .int .i64 (binR true 5 a b).1]) ∧ w = w' := by
  have e : binR true 5 a b = (2, 0) := by subst hz; rfl
  rw [e]
  clear e
  subst hz
  go_enter Try.func25, Try.ntmps25
  go_wp2
  go_ret2
  exact ⟨rfl, rfl⟩
set_option maxHeartbeats 400000 in
theorem op64_5n (a b : Int) (w : World) (ha0 : 0 ≤ a) (ha : a ≤ 18446744073709551615) (hb0 : 0 ≤ b) (hb : b ≤ 18446744073709551615) (hz : ¬ b = 0) :
    Calls Try.prog 25 #[.int .u64 a, .int .u64 b] w fun e w' => e = .returned (.tuple #[.int .u64 (binR true 5 a b).2, .int .i64 (binR true 5 a b).1]) ∧ w = w' := by
  have e : binR true 5 a b = (0, IntKind.u64.wrap ((wrap64 a).tmod (wrap64 b))) := by simp only [binR]; rw [if_neg hz]; rw [IntKind.wrap_u64]; rfl
  rw [e]
  clear e
  have hz1 : (b == 0) = false := beq_eq_false_iff_ne.2 hz
  have hz2 : ¬ wrap64 b = 0 := by simp only [wrap64]; omega
  have hz3 : (wrap64 b == 0) = false := beq_eq_false_iff_ne.2 hz2
  go_enter Try.func25, Try.ntmps25
  go_wp2
  go_ret2
  exact ⟨rfl, rfl⟩
theorem width32 (w : World) : Calls Try.prog 37 #[] w fun e w' => e = .returned (.int .u32 32) ∧ w = w' := by
  go_enter Try.func37, Try.ntmps37
  go_wp2_with (go_at_call 56; refine (len64_any _ _ (by decide) (by decide)).mono ?_; rintro e w' ⟨rfl, rfl⟩)
  go_ret
  exact ⟨by simp; decide +kernel, rfl⟩
theorem cmpc32_0 (a b : Int) (w : World) : Calls Try.prog 68 #[.int .u32 a, .int .u32 b] w fun e w' => e = .returned (.bool (cmpB false 0 a b)) ∧ w = w' := by
  go_enter Try.func68, Try.ntmps68
  go_wp2
  go_ret
  exact ⟨rfl, rfl⟩
theorem cmpc32_1 (a b : Int) (w : World) : Calls Try.prog 69 #[.int .u32 a, .int .u32 b] w fun e w' => e = .returned (.bool (cmpB false 1 a b)) ∧ w = w' := by
  go_enter Try.func69, Try.ntmps69
  go_wp2
  go_ret
  exact ⟨rfl, rfl⟩
theorem cmpc32_2 (a b : Int) (w : World) : Calls Try.prog 70 #[.int .u32 a, .int .u32 b] w fun e w' => e = .returned (.bool (cmpB false 2 a b)) ∧ w = w' := by
  go_enter Try.func70, Try.ntmps70
  go_wp2
  go_ret
  exact ⟨rfl, rfl⟩
theorem cmpc32_3 (a b : Int) (w : World) : Calls Try.prog 71 #[.int .u32 a, .int .u32 b] w fun e w' => e = .returned (.bool (cmpB false 3 a b)) ∧ w = w' := by
  go_enter Try.func71, Try.ntmps71
  go_wp2
  go_ret
  exact ⟨rfl, rfl⟩
theorem cmpc32_4 (a b : Int) (w : World) : Calls Try.prog 72 #[.int .u32 a, .int .u32 b] w fun e w' => e = .returned (.bool (cmpB false 4 a b)) ∧ w = w' := by
  go_enter Try.func72, Try.ntmps72
  go_wp2
  go_ret
  exact ⟨rfl, rfl⟩
theorem cmpc32_5 (a b : Int) (w : World) : Calls Try.prog 73 #[.int .u32 a, .int .u32 b] w fun e w' => e = .returned (.bool (cmpB false 5 a b)) ∧ w = w' := by
  go_enter Try.func73, Try.ntmps73
  go_wp2
  go_ret
  exact ⟨rfl, rfl⟩
theorem cmpc32_6 (a b : Int) (w : World) : Calls Try.prog 74 #[.int .u32 a, .int .u32 b] w fun e w' => e = .returned (.bool (cmpB false 6 a b)) ∧ w = w' := by
  go_enter Try.func74, Try.ntmps74
  go_wp2
  go_ret
  exact ⟨rfl, rfl⟩
theorem cmpc32_7 (a b : Int) (w : World) : Calls Try.prog 75 #[.int .u32 a, .int .u32 b] w fun e w' => e = .returned (.bool (cmpB false 7 a b)) ∧ w = w' := by
  go_enter Try.func75, Try.ntmps75
  go_wp2
  go_ret
  exact ⟨rfl, rfl⟩
theorem cmpc32_8 (a b : Int) (w : World) : Calls Try.prog 76 #[.int .u32 a, .int .u32 b] w fun e w' => e = .returned (.bool (cmpB false 8 a b)) ∧ w = w' := by
  go_enter Try.func76, Try.ntmps76
  go_wp2
  go_ret
  exact ⟨rfl, rfl⟩
theorem cmpc32_9 (a b : Int) (w : World) : Calls Try.prog 77 #[.int .u32 a, .int .u32 b] w fun e w' => e = .returned (.bool (cmpB false 9 a b)) ∧ w = w' := by
  go_enter Try.func77, Try.ntmps77
  go_wp2
  go_ret
  exact ⟨rfl, rfl⟩
set_option maxHeartbeats 400000 in
theorem op32_0 (a b : Int) (w : World) (ha0 : 0 ≤ a) (ha : a ≤ 4294967295) (hb0 : 0 ≤ b) (hb : b ≤ 4294967295) :
    Calls Try.prog 38 #[.int .u32 a, .int .u32 b] w fun e w' => e = .returned (.tuple #[.int .u32 (binR false 0 a b).2, .int .i64 (binR false 0 a b).1]) ∧ w = w' := by
  have e : binR false 0 a b = (0, (a + b) % 4294967296) := rfl
  rw [e]
  clear e
  go_enter Try.func38, Try.ntmps38
  go_wp2
  go_ret2
  exact ⟨rfl, rfl⟩
set_option maxHeartbeats 400000 in
theorem op32_1 (a b : Int) (w : World) (ha0 : 0 ≤ a) (ha : a ≤ 4294967295) (hb0 : 0 ≤ b) (hb : b ≤ 4294967295) :
    Calls Try.prog 39 #[.int .u32 a, .int .u32 b] w fun e w' => e = .returned (.tuple #[.int .u32 (binR false 1 a b).2, .int .i64 (binR false 1 a b).1]) ∧ w = w' := by
  have e : binR false 1 a b = (0, (a - b) % 4294967296) := rfl
  rw [e]
  clear e
  go_enter Try.func39, Try.ntmps39
  go_wp2
  go_ret2
  exact ⟨rfl, rfl⟩
set_option maxHeartbeats 400000 in
theorem op32_2 (a b : Int) (w : World) (ha0 : 0 ≤ a) (ha : a ≤ 4294967295) (hb0 : 0 ≤ b) (hb : b ≤ 4294967295) :
    Calls Try.prog 40 #[.int .u32 a, .int .u32 b] w fun e w' => e = .returned (.tuple #[.int .u32 (binR false 2 a b).2, .int .i64 (binR false 2 a b).1]) ∧ w = w' := by
  have e : binR false 2 a b = (0, (a * b) % 4294967296) := rfl
  rw [e]
  clear e
  go_enter Try.func40, Try.ntmps40
  go_wp2
  go_ret2
  exact ⟨rfl, rfl⟩
set_option maxHeartbeats 400000 in
theorem op32_7 (a b : Int) (w : World) (ha0 : 0 ≤ a) (ha : a ≤ 4294967295) (hb0 : 0 ≤ b) (hb : b ≤ 4294967295) :
    Calls Try.prog 45 #[.int .u32 a, .int .u32 b] w fun e w' => e = .returned (.tuple #[.int .u32 (binR false 7 a b).2, .int .i64 (binR false 7 a b).1]) ∧ w = w' := by
  have e : binR false 7 a b = (0, bits .and .u32 a b) := by rw [u32_and a b ha0 (by omega) hb0 (by omega)]; rfl
  rw [e]
  clear e
  go_enter Try.func45, Try.ntmps45
  go_wp2
  go_ret2
  exact ⟨rfl, rfl⟩
set_option maxHeartbeats 400000 in
theorem op32_8 (a b : Int) (w : World) (ha0 : 0 ≤ a) (ha : a ≤ 4294967295) (hb0 : 0 ≤ b) (hb : b ≤ 4294967295) :
    Calls Try.prog 46 #[.int .u32 a, .int .u32 b] w fun e w' => e = .returned (.tuple #[.int .u32 (binR false 8 a b).2, .int .i64 (binR false 8 a b).1]) ∧ w = w' := by
  have e : binR false 8 a b = (0, bits .or .u32 a b) := by rw [u32_or a b ha0 (by omega) hb0 (by omega)]; rfl
  rw [e]
  clear e
  go_enter Try.func46, Try.ntmps46
  go_wp2
  go_ret2
  exact ⟨rfl, rfl⟩
set_option maxHeartbeats 400000 in
theorem op32_9 (a b : Int) (w : World) (ha0 : 0 ≤ a) (ha : a ≤ 4294967295) (hb0 : 0 ≤ b) (hb : b ≤ 4294967295) :
    Calls Try.prog 47 #[.int .u32 a, .int .u32 b] w fun e w' => e = .returned (.tuple #[.int .u32 (binR false 9 a b).2, .int .i64 (binR false 9 a b).1]) ∧ w = w' := by
  have e : binR false 9 a b = (0, bits .xor .u32 a b) := by rw [u32_xor a b ha0 (by omega) hb0 (by omega)]; rfl
  rw [e]
  clear e
  go_enter Try.func47, Try.ntmps47
  go_wp2
  go_ret2
  exact ⟨rfl, rfl⟩
set_option maxHeartbeats 400000 in
theorem op32_4z (a b : Int) (w : World) (ha0 : 0 ≤ a) (ha : a ≤ 4294967295) (hb0 : 0 ≤ b) (hb : b ≤ 4294967295) (hz : b = 0) :
    Calls Try.prog 42 #[.int .u32 a, .int .u32 b] w fun e w' => e = .returned (.tuple #[.int .u32 (binR false 4 a b).2, .int .i64 (binR false 4 a b).1]) ∧ w = w' := by
  have e : binR false 4 a b = (2, 0) := by subst hz; rfl
  rw [e]
  clear e
  subst hz
  go_enter Try.func42, Try.ntmps42
  go_wp2
  go_ret2
  exact ⟨rfl, rfl⟩
set_option maxHeartbeats 400000 in
theorem op32_4n (a b : Int) (w : World) (ha0 : 0 ≤ a) (ha : a ≤ 4294967295) (hb0 : 0 ≤ b) (hb : b ≤ 4294967295) (hz : ¬ b = 0) :
    Calls Try.prog 42 #[.int .u32 a, .int .u32 b] w fun e w' => e = .returned (.tuple #[.int .u32 (binR false 4 a b).2, .int .i64 (binR false 4 a b).1]) ∧ w = w' := by
  have e : binR false 4 a b = (0, a / b) := if_neg hz
  rw [e]
  clear e
  have hz1 : (b == 0) = false := beq_eq_false_iff_ne.2 hz
  go_enter Try.func42, Try.ntmps42
  go_wp2
  go_ret2
  exact ⟨rfl, rfl⟩
set_option maxHeartbeats 400000 in
theorem op32_6z (a b : Int) (w : World) (ha0 : 0 ≤ a) (ha : a ≤ 4294967295) (hb0 : 0 ≤ b) (hb : b ≤ 4294967295) (hz : b = 0) :
    Calls Try.prog 44 #[.int .u32 a, .int .u32 b] w fun e w' => e = .returned (.tuple #[.int .u32 (binR false 6 a b).2, .int .i64 (binR false 6 a b).1]) ∧ w = w' := by
  have e : binR false 6 a b = (2, 0) := by subst hz; rfl
  rw [e]
  clear e
  subst hz
  go_enter Try.func44, Try.ntmps44
  go_wp2
  go_ret2
  exact ⟨rfl, rfl⟩
set_option maxHeartbeats 400000 in
theorem op32_6n (a b : Int) (w : World) (ha0 : 0 ≤ a) (ha : a ≤ 4294967295) (hb0 : 0 ≤ b) (hb : b ≤ 4294967295) (hz : ¬ b = 0) :
    Calls Try.prog 44 #[.int .u32 a, .int .u32 b] w fun e w' => e = .returned (.tuple #[.int .u32 (binR false 6 a b).2, .int .i64 (binR false 6 a b).1]) ∧ w = w' := by
  have e : binR false 6 a b = (0, a % b) := if_neg hz
  rw [e]
  clear e
  have hz1 : (b == 0) = false := beq_eq_false_iff_ne.2 hz
  go_enter Try.func44, Try.ntmps44
  go_wp2
  go_ret2
  exact ⟨rfl, rfl⟩
set_option maxHeartbeats 400000 in
theorem op32_5z (a b : Int) (w : World) (ha0 : 0 ≤ a) (ha : a ≤ 4294967295) (hb0 : 0 ≤ b) (hb : b ≤ 4294967295) (hz : b = 0) :
    Calls Try.prog 43 #[.int .u32 a, .int .u32 b] w fun e w' => e = .returned (.tuple #[.int .u32 (binR false 5 a b).2, .int .i64 (binR false 5 a b).1]) ∧ w = w' := by
  have e : binR false 5 a b = (2, 0) := by subst hz; rfl
  rw [e]
  clear e
  subst hz
  go_enter Try.func43, Try.ntmps43
  go_wp2
  go_ret2
  exact ⟨rfl, rfl⟩
set_option maxHeartbeats 400000 in
theorem op32_5n (a b : Int) (w : World) (ha0 : 0 ≤ a) (ha : a ≤ 4294967295) (hb0 : 0 ≤ b) (hb : b ≤ 4294967295) (hz : ¬ b = 0) :
    Calls Try.prog 43 #[.int .u32 a, .int .u32 b] w fun e w' => e = .returned (.tuple #[.int .u32 (binR false 5 a b).2, .int .i64 (binR false 5 a b).1]) ∧ w = w' := by
  have e : binR false 5 a b = (0, ((wrap32 a).tmod (wrap32 b)) % 4294967296) := by simp only [binR]; rw [if_neg hz]; rfl
  rw [e]
  clear e
  have hz1 : (b == 0) = false := beq_eq_false_iff_ne.2 hz
  have hz2 : ¬ wrap32 b = 0 := by simp only [wrap32]; omega
  have hz3 : (wrap32 b == 0) = false := beq_eq_false_iff_ne.2 hz2
  go_enter Try.func43, Try.ntmps43
  go_wp2
  go_ret2
  exact ⟨rfl, rfl⟩
end Go.Proofs.Ytjiaainhieeepaa
