import Derived.Test.YtfaajmhmcdoibaaMk12
set_option linter.all false
set_option linter.unusedVariables false
namespace Go.Proofs.Ytfaajmhmcdoibaa
open Go.RowKit Go.Sort
set_option maxRecDepth 100000
/-- Words and labels as they are marked. -/
def mkW (k : Int) (n : Nat) : List Int := (List.range n).map fun (i : Nat) => k + (i : Int)
theorem mkW_len (k : Int) (n : Nat) : (mkW k n).length = n := by simp [mkW]
theorem mkW_at (k : Int) (n i : Nat) (h : i < n) : (mkW k n).getD i 0 = k + (i : Int) := by simp [mkW, List.getD, h]
def mkL (k : Int) (n : Nat) : List Lab := (List.range n).map fun (i : Nat) => ⟨k + 4 * (i : Int), k + 4 * (i : Int) + 1, k + 4 * (i : Int) + 1 + 1, (k + 4 * (i : Int) + 1 + 1 + 1) % 3 == 0⟩
theorem mkL_len (k : Int) (n : Nat) : (mkL k n).length = n := by simp [mkL]
theorem mkL_at (k : Int) (n i : Nat) (h : i < n) : (mkL k n).getD i Lab.z = ⟨k + 4 * (i : Int), k + 4 * (i : Int) + 1, k + 4 * (i : Int) + 1 + 1, (k + 4 * (i : Int) + 1 + 1 + 1) % 3 == 0⟩ := by simp [mkL, List.getD, h]
set_option maxHeartbeats 2000000 in
theorem heldW_c (a : Option Addr) (c n : Nat) (k0 : Int) (w : World) (h0 : 0 ≤ k0) (h1 : k0 + n ≤ 1000000000) (hH : HI .u64 0 w a (mkW k0 n)) :
    Calls Try.prog 48 #[.slice a n c, .int .i64 k0] w fun e w' => e = .returned (.int .i64 (k0 + n)) ∧ w = w' := by
  have HH := Hid.mk' hH
  clear hH
  go_enter Try.func48, Try.ntmps48
  go_wp2
  go_loop [1, 5] (fun q i => ∃ k : Nat, k ≤ n ∧ i = .int .i64 k ∧ q = .int .i64 (k0 + k)) (fun _ i => n - (intOf i).toNat)
  case atStart => exact ⟨0, Nat.zero_le _, rfl, by simp⟩
  case round =>
    obtain ⟨k, hk, rfl, rfl⟩ := hrel
    by_cases hlt : k < n
    · have hki : (k : Int) < (n : Int) := by omega
      rcases HH.out with hx | ⟨b, o, ea, _, hc⟩
      · have := mkW_len k0 n; rw [hx] at this; simp at this; omega
      have d1 := hc k (by rw [mkW_len]; exact hlt)
      rw [mkW_at k0 n k hlt] at d1
      subst ea
      have hwu : IntKind.u64.wrap (k0 + k) = k0 + k := by rw [IntKind.wrap_u64]; omega
      have hw : IntKind.i64.wrap (k0 + k + 1) = k0 + k + 1 := by rw [IntKind.wrap_i64]; omega
      clear hc HH
      go_wp2
      go_round
      case rel => exact ⟨k + 1, by omega, by go_num, by go_num⟩
      case measure => simp [intOf]; omega
    · have e : k = n := by omega
      subst e
      go_wp2
      go_ret
      exact ⟨rfl, rfl⟩
end Go.Proofs.Ytfaajmhmcdoibaa

set_option linter.all false
set_option linter.unusedVariables false
namespace Go.Proofs.Ytfaajmhmcdoibaa
open Go.RowKit Go.Sort
set_option maxRecDepth 100000
set_option maxHeartbeats 4000000 in
theorem heldL_c (a : Option Addr) (c n : Nat) (k0 : Int) (w : World) (h0 : 0 ≤ k0) (h1 : k0 + 4 * n ≤ 1000000000) (hH : Lab.Ls 0 w a (mkL k0 n)) :
    Calls Try.prog 57 #[.slice a n c, .int .i64 k0] w fun e w' => e = .returned (.int .i64 (k0 + 4 * n)) ∧ w = w' := by
  have HH := Hid.mk' hH
  clear hH
  go_enter Try.func57, Try.ntmps57
  go_wp2
  go_loop [1, 5] (fun q i => ∃ k : Nat, k ≤ n ∧ i = .int .i64 k ∧ q = .int .i64 (k0 + 4 * k)) (fun _ i => n - (intOf i).toNat)
  case atStart => exact ⟨0, Nat.zero_le _, rfl, by simp⟩
  case round =>
    obtain ⟨k, hk, rfl, rfl⟩ := hrel
    by_cases hlt : k < n
    · have hki : (k : Int) < (n : Int) := by omega
      rcases HH.out with hx | ⟨b, o, ea, _, hc⟩
      · have := mkL_len k0 n; rw [hx] at this; simp at this; omega
      have d1 := hc k (by rw [mkL_len]; exact hlt)
      rw [mkL_at k0 n k hlt] at d1
      obtain ⟨⟨q0, q1, q2, q3⟩, -⟩ := d1
      subst ea
      dsimp only at q0 q1 q2 q3
      have hb0 : 0 ≤ k0 + 4 * (k : Int) := by omega
      have hb1 : k0 + 4 * (k : Int) + 4 ≤ 1000000000 := by omega
      have hkn : (k : Int) ≤ 1000000000 := by omega
      clear hc HH h0 h1
      cases h3 : ((k0 + 4 * (k : Int) + 1 + 1 + 1) % 3 == 0) with
      | true =>
        rw [h3] at q3
        go_wp2
        go_round
        case rel => exact ⟨k + 1, by omega, by go_num, by go_num⟩
        case measure => simp [intOf]; omega
      | false =>
        rw [h3] at q3
        go_wp2
        go_round
        case rel => exact ⟨k + 1, by omega, by go_num, by go_num⟩
        case measure => simp [intOf]; omega
    · have e : k = n := by omega
      subst e
      go_wp2
      go_ret
      exact ⟨rfl, rfl⟩
end Go.Proofs.Ytfaajmhmcdoibaa
