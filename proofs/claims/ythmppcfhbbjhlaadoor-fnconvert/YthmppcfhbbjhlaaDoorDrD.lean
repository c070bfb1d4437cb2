import Derived.Test.YthmppcfhbbjhlaaDoorCuD
set_option linter.all false
set_option linter.unusedVariables false
namespace Go.Proofs.YthmppcfhbbjhlaaDoor
open Go.RowKit
set_option maxHeartbeats 2000000 in
theorem drawU64_any (g : Nat) (a : Option Addr) (cap : Nat) (xs : List Int) (w : World) (hl : xs.length ≤ 1099511627776) (hB : AllB xs) (hC : Cur w g a cap xs) :
    Calls Tryd.prog 60 #[.pointer (some ⟨g, 0, none⟩)] w fun e w' => ∃ x : Int, e = .returned (.int .u64 x) ∧ 0 ≤ x ∧ x ≤ 18446744073709551615 ∧ Cur w' g a cap xs ∧ w.grownBy w' (some g) := by
  have CB := Hid.mk' (fun W n hC h1 h2 => below_any g a cap xs n W hl hB hC h1 h2)
  clear hB hl
  go_enter Tryd.func60, Tryd.ntmps60
  go_wp2_with fail
  refine (CB.out _ 8 hC (by omega) (by omega)).mono ?_
  rintro e w1 ⟨k, rfl, hk0, hk1, hC1, hg1⟩
  clear hC
  go_wp2_with fail
  refine (CB.out _ 256 hC1 (by omega) (by omega)).mono ?_
  rintro e w2 ⟨x, rfl, hx0, hx1, hC2, hg2⟩
  have hg2 := grown_trans hg1 hg2
  clear hC1 hg1
  go_wp2_with fail
  refine (CB.out _ 64 hC2 (by omega) (by omega)).mono ?_
  rintro e w3 ⟨n, rfl, hn0, hn1, hC3, hg3⟩
  have hg3 := grown_trans hg2 hg3
  clear hC2 hg2
  have hp := P2_pos n
  have hp63 := P2_63 (n := n) (by omega)
  rcases (show k = 0 ∨ k = 1 ∨ k = 2 ∨ k = 3 ∨ k = 4 ∨ k = 5 ∨ (6 ≤ k ∧ k ≤ 7) by omega) with rfl | rfl | rfl | rfl | rfl | rfl | ⟨hk6, hk7⟩
  · go_wp2
    go_ret
    exact ⟨_, rfl, by omega, by omega, hC3, hg3⟩
  · go_wp2_with (go_at_call 25; refine (pow_any _ _ (by omega) (by omega)).mono ?_; rintro e w' ⟨rfl, rfl⟩)
    go_ret
    exact ⟨_, rfl, by omega, by omega, hC3, hg3⟩
  · go_wp2_with (go_at_call 25; refine (pow_any _ _ (by omega) (by omega)).mono ?_; rintro e w' ⟨rfl, rfl⟩)
    go_ret
    exact ⟨_, rfl, by omega, by omega, hC3, hg3⟩
  · go_wp2
    go_ret
    exact ⟨_, rfl, (u64w _).1, (u64w _).2, hC3, hg3⟩
  · go_wp2_with (go_at_call 25; refine (pow_any _ _ (by omega) (by omega)).mono ?_; rintro e w' ⟨rfl, rfl⟩)
    go_ret
    exact ⟨_, rfl, by omega, by omega, hC3, hg3⟩
  · go_wp2
    go_ret
    exact ⟨_, rfl, by omega, by omega, hC3, hg3⟩
  · have e0 : (k == 0) = false := beq_eq_false_iff_ne.2 (by omega)
    have e1 : (k == 1) = false := beq_eq_false_iff_ne.2 (by omega)
    have e2 : (k == 2) = false := beq_eq_false_iff_ne.2 (by omega)
    have e3 : (k == 3) = false := beq_eq_false_iff_ne.2 (by omega)
    have e4 : (k == 4) = false := beq_eq_false_iff_ne.2 (by omega)
    have e5 : (k == 5) = false := beq_eq_false_iff_ne.2 (by omega)
    go_wp2
    go_loopw [6, 7] (fun ov iv wr => ∃ (i : Nat) (o : Int), i ≤ 7 ∧ iv = .int .i64 i ∧ ov = .int .u64 o ∧ 0 ≤ o ∧ o ≤ 18446744073709551615 ∧ Cur wr g a cap xs ∧ w.grownBy wr (some g)) (fun _ iv _ => 7 - (intOf iv).toNat)
    case atStart => exact ⟨0, x, by omega, rfl, rfl, by omega, by omega, hC3, hg3⟩
    case round =>
      clear hC3 hg3
      obtain ⟨i, o, hi, rfl, rfl, ho0, ho1, hC, hg⟩ := hrel
      by_cases hlt : i < 7
      · have hlti : (i : Int) < 7 := by omega
        go_wp2_with fail
        refine (CB.out _ 256 hC (by omega) (by omega)).mono ?_
        rintro e w4 ⟨y, rfl, hy0, hy1, hC4, hg4⟩
        have hg4 := grown_trans hg hg4
        clear hC hg
        go_wp2
        go_roundw
        case rel => exact ⟨i + 1, _, by omega, by go_num, rfl, (u64w _).1, (u64w _).2, hC4, hg4⟩
        case measure => simp [intOf]; omega
      · have hlti : ¬ (i : Int) < 7 := by omega
        go_wp2
        go_ret
        exact ⟨o, rfl, ho0, ho1, hC, hg⟩


theorem once_any (g : Nat) (a : Option Addr) (cap : Nat) (xs : List Int) (n : Int) (w : World) (hl : xs.length ≤ 1099511627776) (hB : AllB xs) (hC : Cur w g a cap xs) (hn : 1 ≤ n) (hn' : n ≤ 256) :
    Calls Tryd.prog 63 #[.pointer (some ⟨g, 0, none⟩), .int .i64 n] w fun e w' => ∃ r : Bool, e = .returned (.bool r) ∧ Cur w' g a cap xs ∧ w.grownBy w' (some g) := by
  have H := Hid.mk' (below_any g a cap xs n w hl hB hC hn hn')
  clear hC hB hl
  go_enter Tryd.func63, Tryd.ntmps63
  go_wp2_with fail
  refine H.out.mono ?_
  rintro e w1 ⟨k, rfl, hk0, hk1, hC1, hg1⟩
  clear H
  go_wp2
  go_ret
  exact ⟨_, rfl, hC1, hg1⟩

end Go.Proofs.YthmppcfhbbjhlaaDoor
