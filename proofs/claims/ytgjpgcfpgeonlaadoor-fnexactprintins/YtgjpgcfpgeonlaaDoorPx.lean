import Derived.Test.YtgjpgcfpgeonlaaDoorPe
import Derived.Test.YtgjpgcfpgeonlaaDoorCut
set_option linter.all false
set_option linter.unusedVariables false
namespace Go.Proofs.YtgjpgcfpgeonlaaDoor
open Go.RowKit Go.Sort
set_option maxRecDepth 100000
def P2 (n : Int) : Int := 2 ^ n.toNat
theorem P2_pos (n : Int) : 1 ≤ P2 n := by unfold P2; have := Int.pow_pos (n := (2 : Int)) (m := n.toNat) (by omega); omega
theorem P2_succ (n : Int) (h : 0 ≤ n) : P2 (n + 1) = 2 * P2 n := by
  unfold P2; rw [show (n + 1).toNat = n.toNat + 1 by omega, Int.pow_succ]; omega
theorem P2_le {m n : Int} (h0 : m ≤ n) : P2 m ≤ P2 n := by
  unfold P2
  have h : 2 ^ m.toNat ≤ 2 ^ n.toNat := Nat.pow_le_pow_right (by omega) (by omega)
  have h' : ((2 ^ m.toNat : Nat) : Int) ≤ ((2 ^ n.toNat : Nat) : Int) := by omega
  simpa using h'
theorem P2_63 {n : Int} (h : n ≤ 63) : P2 n ≤ 9223372036854775808 := by
  have := P2_le h; rw [show P2 63 = 9223372036854775808 by decide] at this; exact this
theorem P2_62 {n : Int} (h : n ≤ 62) : P2 n ≤ 4611686018427387904 := by
  have := P2_le h; rw [show P2 62 = 4611686018427387904 by decide] at this; exact this
set_option maxHeartbeats 400000 in
theorem pow_any (n : Int) (w : World) (h0 : 0 ≤ n) (h1 : n ≤ 63) :
    Calls Tryd.prog 46 #[.int .i64 n] w fun e w' => e = .returned (.int .u64 (P2 n)) ∧ w = w' := by
  go_enter Tryd.func46, Tryd.ntmps46
  go_wp2
  go_loop [3, 4] (fun x i => ∃ k : Int, 0 ≤ k ∧ k ≤ n ∧ i = .int .i64 k ∧ x = .int .u64 (P2 k)) (fun _ i => (n - intOf i).toNat)
  case atStart => exact ⟨0, by omega, h0, rfl, rfl⟩
  case round =>
    obtain ⟨k, hk0, hk, rfl, rfl⟩ := hrel
    have hp := P2_pos k
    by_cases hlt : k < n
    · have hb := P2_62 (n := k) (by omega)
      have HS : Hid (P2 (k + 1) = 2 * P2 k) := P2_succ k hk0
      go_wp2
      go_round
      case rel => exact ⟨k + 1, by omega, by omega, rfl, by rw [HS.out, Int.mul_comm]⟩
      case measure => simp [intOf]; omega
    · have e : k = n := by omega
      subst e
      go_wp2
      go_ret
      exact ⟨rfl, rfl⟩

theorem low64 (x : Int) (w : World) : Calls Tryd.prog 45 #[.int .u64 x, .int .i64 64] w fun e w' => e = .returned (.int .u64 x) ∧ w = w' := by
  go_enter Tryd.func45, Tryd.ntmps45
  go_wp2
  go_ret
  exact ⟨rfl, rfl⟩
theorem low32 (x : Int) (w : World) (h0 : 0 ≤ x) (h1 : x ≤ 18446744073709551615) : Calls Tryd.prog 45 #[.int .u64 x, .int .i64 32] w fun e w' => e = .returned (.int .u64 (x % 4294967296)) ∧ w = w' := by
  have hp : P2 32 = 4294967296 := by decide
  go_enter Tryd.func45, Tryd.ntmps45
  go_wp2_with (go_at_call 46; refine (pow_any _ _ (by omega) (by omega)).mono ?_; rintro e w' ⟨rfl, rfl⟩)
  go_ret
  exact ⟨rfl, rfl⟩
theorem signed64 (x : Int) (w : World) (h0 : 0 ≤ x) (h1 : x ≤ 18446744073709551615) : Calls Tryd.prog 28 #[.int .u64 x, .int .i64 64] w fun e w' => e = .returned (.int .i64 (wrap64 x)) ∧ w = w' := by
  go_enter Tryd.func28, Tryd.ntmps28
  go_wp2_with (go_at_call 45; refine (low64 _ _).mono ?_; rintro e w' ⟨rfl, rfl⟩)
  go_ret
  exact ⟨rfl, rfl⟩
theorem signed32 (x : Int) (w : World) (h0 : 0 ≤ x) (h1 : x ≤ 4294967295) : Calls Tryd.prog 28 #[.int .u64 x, .int .i64 32] w fun e w' => e = .returned (.int .i64 (wrap32 x)) ∧ w = w' := by
  have hx : x % 4294967296 = x := by omega
  have hp : P2 32 = 4294967296 := by decide
  have hq : P2 31 = 2147483648 := by decide
  by_cases h : 2147483648 ≤ x
  · have e : wrap32 x = x - 4294967296 := by simp only [wrap32]; omega
    rw [e]
    clear e
    go_enter Tryd.func28, Tryd.ntmps28
    go_wp2_with (first | (go_at_call 45; refine (low32 _ _ (by omega) (by omega)).mono ?_; rintro e w' ⟨rfl, rfl⟩) | (go_at_call 46; refine (pow_any _ _ (by omega) (by omega)).mono ?_; rintro e w' ⟨rfl, rfl⟩))
    go_ret
    exact ⟨rfl, rfl⟩
  · have e : wrap32 x = x := by simp only [wrap32]; omega
    rw [e]
    clear e
    go_enter Tryd.func28, Tryd.ntmps28
    go_wp2_with (first | (go_at_call 45; refine (low32 _ _ (by omega) (by omega)).mono ?_; rintro e w' ⟨rfl, rfl⟩) | (go_at_call 46; refine (pow_any _ _ (by omega) (by omega)).mono ?_; rintro e w' ⟨rfl, rfl⟩))
    go_ret
    exact ⟨rfl, rfl⟩


end Go.Proofs.YtgjpgcfpgeonlaaDoor

