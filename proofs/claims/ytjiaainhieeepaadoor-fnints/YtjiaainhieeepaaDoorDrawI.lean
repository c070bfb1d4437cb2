import Derived.Test.YtjiaainhieeepaaDoorCur
set_option linter.unusedVariables false
namespace Go.Proofs.YtjiaainhieeepaaDoor
open Go.RowKit
set_option maxHeartbeats 2000000 in
theorem drawU64_any (g : Nat) (a : Option Addr) (cap : Nat) (xs : List Int) (w : World) (hl : xs.length ≤ 1099511627776) (hB : AllB xs) (hC : Cur w g a cap xs) :
    Calls Tryd.prog 41 #[.pointer (some ⟨g, 0, none⟩)] w fun e w' => ∃ x : Int, e = .returned (.int .u64 x) ∧ 0 ≤ x ∧ x ≤ 18446744073709551615 ∧ Cur w' g a cap xs ∧ w.grownBy w' (some g) := by
  have CB := Hid.mk' (fun W n hC h1 h2 => below_any g a cap xs n W hl hB hC h1 h2)
  clear hB hl
  go_enter Tryd.func41, Tryd.ntmps41
  go_wp2_with fail
  refine (CB.out _ 8 hC (by omega) (by omega)).mono ?_
  rintro e w1 ⟨k, rfl, hk0, hk1, hC1, hg1⟩
  clear hC
  go_wp2_with fail
  refine (CB.out _ 256 hC1 (by omega) (by omega)).mono ?_
  rintro e w2 ⟨x, rfl, hx0, hx1, hC2, hg2⟩
  have hg2 := grown_trans hg1 hg2
  clear hC1 hg1
  go_wp2_with fail
  refine (CB.out _ 64 hC2 (by omega) (by omega)).mono ?_
  rintro e w3 ⟨n, rfl, hn0, hn1, hC3, hg3⟩
  have hg3 := grown_trans hg2 hg3
  clear hC2 hg2
  have hp := P2_pos n
  have hp63 := P2_63 (n := n) (by omega)
  rcases (show k = 0 ∨ k = 1 ∨ k = 2 ∨ k = 3 ∨ k = 4 ∨ k = 5 ∨ (6 ≤ k ∧ k ≤ 7) by omega) with rfl | rfl | rfl | rfl | rfl | rfl | ⟨hk6, hk7⟩
  · go_wp2
    go_ret
    exact ⟨_, rfl, by omega, by omega, hC3, hg3⟩
  · go_wp2_with (go_at_call 27; refine (pow_any _ _ (by omega) (by omega)).mono ?_; rintro e w' ⟨rfl, rfl⟩)
    go_ret
    exact ⟨_, rfl, by omega, by omega, hC3, hg3⟩
  · go_wp2_with (go_at_call 27; refine (pow_any _ _ (by omega) (by omega)).mono ?_; rintro e w' ⟨rfl, rfl⟩)
    go_ret
    exact ⟨_, rfl, by omega, by omega, hC3, hg3⟩
  · go_wp2
    go_ret
    exact ⟨_, rfl, (u64w _).1, (u64w _).2, hC3, hg3⟩
  · go_wp2_with (go_at_call 27; refine (pow_any _ _ (by omega) (by omega)).mono ?_; rintro e w' ⟨rfl, rfl⟩)
    go_ret
    exact ⟨_, rfl, by omega, by omega, hC3, hg3⟩
  · go_wp2
    go_ret
    exact ⟨_, rfl, by omega, by omega, hC3, hg3⟩
  · have e0 : (k == 0) = false := beq_eq_false_iff_ne.2 (by omega)
    have e1 : (k == 1) = false := beq_eq_false_iff_ne.2 (by omega)
    have e2 : (k == 2) = false := beq_eq_false_iff_ne.2 (by omega)
    have e3 : (k == 3) = false := beq_eq_false_iff_ne.2 (by omega)
    have e4 : (k == 4) = false := beq_eq_false_iff_ne.2 (by omega)
    have e5 : (k == 5) = false := beq_eq_false_iff_ne.2 (by omega)
    go_wp2
    go_loopw [6, 7] (fun ov iv wr => ∃ (i : Nat) (o : Int), i ≤ 7 ∧ iv = .int .i64 i ∧ ov = .int .u64 o ∧ 0 ≤ o ∧ o ≤ 18446744073709551615 ∧ Cur wr g a cap xs ∧ w.grownBy wr (some g)) (fun _ iv _ => 7 - (intOf iv).toNat)
    case atStart => exact ⟨0, x, by omega, rfl, rfl, by omega, by omega, hC3, hg3⟩
    case round =>
      clear hC3 hg3
      obtain ⟨i, o, hi, rfl, rfl, ho0, ho1, hC, hg⟩ := hrel
      by_cases hlt : i < 7
      · have hlti : (i : Int) < 7 := by omega
        go_wp2_with fail
        refine (CB.out _ 256 hC (by omega) (by omega)).mono ?_
        rintro e w4 ⟨y, rfl, hy0, hy1, hC4, hg4⟩
        have hg4 := grown_trans hg hg4
        clear hC hg
        go_wp2
        go_roundw
        case rel => exact ⟨i + 1, _, by omega, by go_num, rfl, (u64w _).1, (u64w _).2, hC4, hg4⟩
        case measure => simp [intOf]; omega
      · have hlti : ¬ (i : Int) < 7 := by omega
        go_wp2
        go_ret
        exact ⟨o, rfl, ho0, ho1, hC, hg⟩


set_option maxHeartbeats 1000000 in
theorem draw2_any (g : Nat) (a : Option Addr) (cap : Nat) (xs : List Int) (w : World) (hl : xs.length ≤ 1099511627776) (hB : AllB xs) (hC : Cur w g a cap xs) :
    Calls Tryd.prog 21 #[.pointer (some ⟨g, 0, none⟩)] w fun e w' => ∃ x : Int, e = .returned (.int .u64 x) ∧ 0 ≤ x ∧ x ≤ 18446744073709551615 ∧ Cur w' g a cap xs ∧ w.grownBy w' (some g) := by
  have H := Hid.mk' (below_any g a cap xs 8 w hl hB hC (by omega) (by omega))
  have HD := Hid.mk' (fun W hC => drawU64_any g a cap xs W hl hB hC)
  clear hC hB hl
  go_enter Tryd.func21, Tryd.ntmps21
  go_wp2_with fail
  refine H.out.mono ?_
  rintro e w1 ⟨k, rfl, hk0, hk1, hC1, hg1⟩
  clear H
  rcases (show k = 0 ∨ k = 1 ∨ k = 2 ∨ k = 3 ∨ 4 ≤ k by omega) with rfl | rfl | rfl | rfl | hk4
  · go_wp2
    go_ret
    exact ⟨_, rfl, by omega, by omega, hC1, hg1⟩
  · go_wp2
    go_ret
    exact ⟨_, rfl, by omega, by omega, hC1, hg1⟩
  · go_wp2
    go_ret
    exact ⟨_, rfl, by omega, by omega, hC1, hg1⟩
  · go_wp2
    go_ret
    exact ⟨_, rfl, by omega, by omega, hC1, hg1⟩
  · have e0 : (k == 0) = false := beq_eq_false_iff_ne.2 (by omega)
    have e1 : (k == 1) = false := beq_eq_false_iff_ne.2 (by omega)
    have e2 : (k == 2) = false := beq_eq_false_iff_ne.2 (by omega)
    have e3 : (k == 3) = false := beq_eq_false_iff_ne.2 (by omega)
    go_wp2_with fail
    refine (HD.out _ hC1).mono ?_
    rintro e w2 ⟨x, rfl, hx0, hx1, hC2, hg2⟩
    go_wp2
    go_ret
    exact ⟨x, rfl, hx0, hx1, hC2, grown_trans hg1 hg2⟩

theorem once_any (g : Nat) (a : Option Addr) (cap : Nat) (xs : List Int) (n : Int) (w : World) (hl : xs.length ≤ 1099511627776) (hB : AllB xs) (hC : Cur w g a cap xs) (hn : 1 ≤ n) (hn' : n ≤ 256) :
    Calls Tryd.prog 22 #[.pointer (some ⟨g, 0, none⟩), .int .i64 n] w fun e w' => ∃ r : Bool, e = .returned (.bool r) ∧ Cur w' g a cap xs ∧ w.grownBy w' (some g) := by
  have H := Hid.mk' (below_any g a cap xs n w hl hB hC hn hn')
  clear hC hB hl
  go_enter Tryd.func22, Tryd.ntmps22
  go_wp2_with fail
  refine H.out.mono ?_
  rintro e w1 ⟨k, rfl, hk0, hk1, hC1, hg1⟩
  clear H
  go_wp2
  go_ret
  exact ⟨_, rfl, hC1, hg1⟩

set_option maxHeartbeats 1000000 in
theorem drawInt2_any (a : Option Addr) (cap : Nat) (xs : List Int) (w : World) (hl : xs.length ≤ 1099511627776) (hB : AllB xs) (ha : Has w a xs) :
    Calls Tryd.prog 8 #[.slice a xs.length cap] w fun e w' => ∃ op x y : Int, e = .returned (.tuple #[.int .i64 op, .int .u64 x, .int .u64 y]) ∧ 0 ≤ x ∧ x ≤ 18446744073709551615 ∧ 0 ≤ y ∧ y ≤ 18446744073709551615 ∧ Below w.heap.size w w' := by
  have HN := Hid.mk' (new_any a cap xs w hl hB ha)
  have HB := Hid.mk' (fun W n hC h1 h2 => below_any w.heap.size a cap xs n W hl hB hC h1 h2)
  have HD := Hid.mk' (fun W hC => draw2_any w.heap.size a cap xs W hl hB hC)
  have HO := Hid.mk' (fun W n hC h1 h2 => once_any w.heap.size a cap xs n W hl hB hC h1 h2)
  clear hB ha hl
  go_enter Tryd.func8, Tryd.ntmps8
  go_wp2_with fail
  refine HN.out.mono ?_
  rintro e w1 ⟨rfl, hC1, hb1, hz1⟩
  clear HN
  go_wp2_with fail
  refine (HB.out _ 69 hC1 (by omega) (by omega)).mono ?_
  rintro e w2 ⟨k, rfl, hk0, hk1, hC2, hg2⟩
  clear hC1
  go_wp2_with fail
  refine (HD.out _ hC2).mono ?_
  rintro e w3 ⟨x, rfl, hx0, hx1, hC3, hg3⟩
  have hg3 := grown_trans hg2 hg3
  clear hC2 hg2
  go_wp2_with fail
  refine (HD.out _ hC3).mono ?_
  rintro e w4 ⟨y, rfl, hy0, hy1, hC4, hg4⟩
  have hg4 := grown_trans hg3 hg4
  clear hC3 hg3
  go_wp2_with fail
  refine (HO.out _ 4 hC4 (by omega) (by omega)).mono ?_
  rintro e w5 ⟨r, rfl, hC5, hg5⟩
  have hg5 := grown_trans hg4 hg5
  clear hC4 hg4
  have fin : ∀ W, w1.grownBy W (some w.heap.size) → Below w.heap.size w W := fun W hg => hb1.grown hg hb1.size (fun k hk => by simp at hk; omega)
  have HF := Hid.mk' fin
  clear fin hb1
  cases r
  · go_wp2_with fail
    refine (HO.out _ 8 hC5 (by omega) (by omega)).mono ?_
    rintro e w6 ⟨r, rfl, hC6, hg6⟩
    have hg6 := grown_trans hg5 hg6
    clear hC5 hg5
    cases r
    · go_wp2
      exact bodyPost_ret (v := .tuple #[.int .i64 (70 + k), .int .u64 x, .int .u64 y]) (by simp [results, Tryd.results8, go_sem]) rfl ⟨_, x, y, rfl, hx0, hx1, hy0, hy1, HF.out _ hg6⟩
    · go_wp2
      exact bodyPost_ret (v := .tuple #[.int .i64 (70 + k), .int .u64 x, .int .u64 x]) (by simp [results, Tryd.results8, go_sem]) rfl ⟨_, x, x, rfl, hx0, hx1, hx0, hx1, HF.out _ hg6⟩
  · go_wp2_with fail
    refine (HB.out _ 70 hC5 (by omega) (by omega)).mono ?_
    rintro e w6 ⟨z, rfl, hz0, hz1', hC6, hg6⟩
    have hg6 := grown_trans hg5 hg6
    clear hC5 hg5
    go_wp2_with fail
    refine (HO.out _ 8 hC6 (by omega) (by omega)).mono ?_
    rintro e w7 ⟨r, rfl, hC7, hg7⟩
    have hg7 := grown_trans hg6 hg7
    clear hC6 hg6
    cases r
    · go_wp2
      exact bodyPost_ret (v := .tuple #[.int .i64 (70 + k), .int .u64 x, .int .u64 z]) (by simp [results, Tryd.results8, go_sem]) rfl ⟨_, x, z, rfl, hx0, hx1, by omega, by omega, HF.out _ hg7⟩
    · go_wp2
      exact bodyPost_ret (v := .tuple #[.int .i64 (70 + k), .int .u64 x, .int .u64 x]) (by simp [results, Tryd.results8, go_sem]) rfl ⟨_, x, x, rfl, hx0, hx1, hx0, hx1, HF.out _ hg7⟩
end Go.Proofs.YtjiaainhieeepaaDoor
