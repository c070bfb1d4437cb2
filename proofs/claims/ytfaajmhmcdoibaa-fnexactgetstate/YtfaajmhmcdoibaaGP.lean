import Derived.Test.YtfaajmhmcdoibaaGM
import Derived.Test.YtfaajmhmcdoibaaGh
set_option linter.all false
set_option linter.unusedVariables false
namespace Go.Proofs.Ytfaajmhmcdoibaa.By
open Go.RowKit
set_option maxRecDepth 100000
theorem Has.below {w w' : World} {a : Option Addr} {xs : List Int} (h : Has w a xs) (hb : Below w.heap.size w w') : Has w' a xs := By.Has.keep h hb


set_option maxHeartbeats 400000 in
theorem pow_any (n : Int) (w : World) (h0 : 0 ≤ n) (h1 : n ≤ 63) :
    Calls Try.prog 61 #[.int .i64 n] w fun e w' => e = .returned (.int .u64 (P2 n)) ∧ w = w' := by
  go_enter Try.func61, Try.ntmps61
  go_wp2
  go_loop [3, 4] (fun x i => ∃ k : Int, 0 ≤ k ∧ k ≤ n ∧ i = .int .i64 k ∧ x = .int .u64 (P2 k)) (fun _ i => (n - intOf i).toNat)
  case atStart => exact ⟨0, by omega, h0, rfl, rfl⟩
  case round =>
    obtain ⟨k, hk0, hk, rfl, rfl⟩ := hrel
    have hp := P2_pos k
    by_cases hlt : k < n
    · have hb := P2_62 (n := k) (by omega)
      have HS : Hid (P2 (k + 1) = 2 * P2 k) := P2_succ k hk0
      go_wp2
      go_round
      case rel => exact ⟨k + 1, by omega, by omega, rfl, by rw [HS.out, Int.mul_comm]⟩
      case measure => simp [intOf]; omega
    · have e : k = n := by omega
      subst e
      go_wp2
      go_ret
      exact ⟨rfl, rfl⟩

theorem in_yes (x lo hi : Int) (w : World) (h0 : lo ≤ x) (h1 : x ≤ hi) :
    Calls Try.prog 51 #[.int .i64 x, .int .i64 lo, .int .i64 hi] w fun e w' => e = .returned (.bool true) ∧ w = w' := by
  go_enter Try.func51, Try.ntmps51
  go_wp2
  go_ret
  exact ⟨rfl, rfl⟩
theorem in_no (x lo hi : Int) (w : World) (h : ¬ (lo ≤ x ∧ x ≤ hi)) :
    Calls Try.prog 51 #[.int .i64 x, .int .i64 lo, .int .i64 hi] w fun e w' => e = .returned (.bool false) ∧ w = w' := by
  by_cases h0 : lo ≤ x
  · have h1 : ¬ x ≤ hi := by omega
    clear h
    go_enter Try.func51, Try.ntmps51
    go_wp2
    go_ret
    exact ⟨rfl, rfl⟩
  · clear h
    go_enter Try.func51, Try.ntmps51
    go_wp2
    go_ret
    exact ⟨rfl, rfl⟩

set_option maxHeartbeats 400000 in
theorem rest_any (s : Bool) (c u : Int) (w : World) (hc0 : 0 ≤ c) (hc1 : c ≤ 255) (hu0 : 1 ≤ u) (hu1 : u ≤ 64) :
    Calls Try.prog 60 #[.int .u8 c, .int .i64 u, .bool s] w fun e w' => e = .returned (.bool (rok s c u)) ∧ w = w' := by
  by_cases h7 : 7 ≤ u
  · have e : rok s c u = true := by unfold rok; rw [if_pos h7]
    rw [e]
    clear e
    go_enter Try.func60, Try.ntmps60
    go_wp2
    go_ret
    exact ⟨rfl, rfl⟩
  · have hp := P2_pos u
    have hp1 := P2_pos (u - 1)
    have hp8 := P2_pos (8 - u)
    have hb8 := P2_62 (n := 8 - u) (by omega)
    cases s
    · have e : rok false c u = (c % 128 / P2 u == 0) := by unfold rok; rw [if_neg h7]; rfl
      rw [e]
      clear e
      go_enter Try.func60, Try.ntmps60
      go_wp2_with (go_at_call 61; refine (pow_any _ _ (by omega) (by omega)).mono ?_; rintro e w' ⟨rfl, rfl⟩)
      go_ret
      exact ⟨rfl, rfl⟩
    · have e : rok true c u = ((c % 128 / P2 (u - 1) == 0) || (c % 128 / P2 (u - 1) == P2 (8 - u) - 1)) := by unfold rok; rw [if_neg h7]; rfl
      rw [e]
      clear e
      cases hq : (c % 128 / P2 (u - 1) == 0)
      · go_enter Try.func60, Try.ntmps60
        go_wp2_with (go_at_call 61; refine (pow_any _ _ (by omega) (by omega)).mono ?_; rintro e w' ⟨rfl, rfl⟩)
        go_ret
        exact ⟨rfl, rfl⟩
      · go_enter Try.func60, Try.ntmps60
        go_wp2_with (go_at_call 61; refine (pow_any _ _ (by omega) (by omega)).mono ?_; rintro e w' ⟨rfl, rfl⟩)
        go_ret
        exact ⟨rfl, rfl⟩

set_option maxHeartbeats 400000 in
theorem lastU_any (c u : Int) (w : World) (hc0 : 0 ≤ c) (hc1 : c ≤ 255) (hu0 : 1 ≤ u) (hu1 : u ≤ 64) :
    Calls Try.prog 98 #[.int .u8 c, .int .i64 u] w fun e w' => e = .returned (.int .i64 (lastE false c u)) ∧ w = w' := by
  unfold lastE
  by_cases h7 : 7 < u
  · rw [if_pos h7]
    go_enter Try.func98, Try.ntmps98
    go_wp2
    go_ret
    exact ⟨rfl, rfl⟩
  · rw [if_neg h7]
    by_cases h8 : 128 ≤ c
    · rw [if_pos h8]
      go_enter Try.func98, Try.ntmps98
      go_wp2
      go_ret
      exact ⟨rfl, rfl⟩
    · rw [if_neg h8]
      have hr := rokU c u hc0 (by omega) hu0 (by omega)
      have h7c := cutU_7 c
      have hg0 : 0 ≤ cutU c 7 := by omega
      have hg1 : cutU c 7 ≤ 127 := by omega
      have H7 := Hid.mk' h7c
      clear h7c
      cases hq : rok false c u
      · rw [hq] at hr
        rw [if_neg (by simp)]
        clear hq
        go_enter Try.func98, Try.ntmps98
        go_wp2_with (go_at_call 89; refine (cutU_any _ _ _ (by omega) (by omega) (by omega) (by omega)).mono ?_; rintro e w' ⟨rfl, rfl⟩)
        go_ret
        exact ⟨rfl, rfl⟩
      · rw [hq] at hr
        rw [if_pos rfl]
        clear hq
        go_enter Try.func98, Try.ntmps98
        go_wp2_with (go_at_call 89; refine (cutU_any _ _ _ (by omega) (by omega) (by omega) (by omega)).mono ?_; rintro e w' ⟨rfl, rfl⟩)
        go_ret
        exact ⟨rfl, rfl⟩

end Go.Proofs.Ytfaajmhmcdoibaa.By
