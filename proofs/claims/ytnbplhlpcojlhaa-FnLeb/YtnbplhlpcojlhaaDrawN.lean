import Derived.Test.YtnbplhlpcojlhaaCur
import Derived.Test.YtnbplhlpcojlhaaGetP
namespace Go.Proofs.Ytnbplhlpcojlhaa
open Go.RowKit

set_option maxHeartbeats 2000000 in
theorem drawU64_any (g : Nat) (a : Option Addr) (cap : Nat) (xs : List Int) (w : World) (hl : xs.length ≤ 1099511627776) (hB : AllB xs) (hC : Cur w g a cap xs) :
    Calls Try.prog 37 #[.pointer (some ⟨g, 0, none⟩)] w fun e w' => ∃ x : Int, e = .returned (.int .u64 x) ∧ 0 ≤ x ∧ x ≤ 18446744073709551615 ∧ w.grownBy w' (some g) := by
  have CB := Hid.mk' (fun W n hC h1 h2 => below_any g a cap xs n W hl hB hC h1 h2)
  clear hB hl
  go_enter Try.func37, Try.ntmps37
  go_wp2_with fail
  refine (CB.out _ 8 hC (by omega) (by omega)).mono ?_
  rintro e w1 ⟨k, rfl, hk0, hk1, hC1, hg1⟩
  clear hC
  go_wp2_with fail
  refine (CB.out _ 256 hC1 (by omega) (by omega)).mono ?_
  rintro e w2 ⟨x, rfl, hx0, hx1, hC2, hg2⟩
  have hg2 := grown_trans hg1 hg2
  clear hC1 hg1
  go_wp2_with fail
  refine (CB.out _ 64 hC2 (by omega) (by omega)).mono ?_
  rintro e w3 ⟨n, rfl, hn0, hn1, hC3, hg3⟩
  have hg3 := grown_trans hg2 hg3
  clear hC2 hg2
  have hp := P2_pos n
  have hp63 := P2_63 (n := n) (by omega)
  rcases (show k = 0 ∨ k = 1 ∨ k = 2 ∨ k = 3 ∨ k = 4 ∨ k = 5 ∨ (6 ≤ k ∧ k ≤ 7) by omega) with rfl | rfl | rfl | rfl | rfl | rfl | ⟨hk6, hk7⟩
  · go_wp2
    go_ret
    exact ⟨_, rfl, by omega, by omega, hg3⟩
  · go_wp2_with (go_at_call 43; refine (pow_any _ _ (by omega) (by omega)).mono ?_; rintro e w' ⟨rfl, rfl⟩)
    go_ret
    exact ⟨_, rfl, by omega, by omega, hg3⟩
  · go_wp2_with (go_at_call 43; refine (pow_any _ _ (by omega) (by omega)).mono ?_; rintro e w' ⟨rfl, rfl⟩)
    go_ret
    exact ⟨_, rfl, by omega, by omega, hg3⟩
  · go_wp2
    go_ret
    exact ⟨_, rfl, (u64w _).1, (u64w _).2.1, hg3⟩
  · go_wp2_with (go_at_call 43; refine (pow_any _ _ (by omega) (by omega)).mono ?_; rintro e w' ⟨rfl, rfl⟩)
    go_ret
    exact ⟨_, rfl, by omega, by omega, hg3⟩
  · go_wp2
    go_ret
    exact ⟨_, rfl, by omega, by omega, hg3⟩
  · have e0 : (k == 0) = false := beq_eq_false_iff_ne.2 (by omega)
    have e1 : (k == 1) = false := beq_eq_false_iff_ne.2 (by omega)
    have e2 : (k == 2) = false := beq_eq_false_iff_ne.2 (by omega)
    have e3 : (k == 3) = false := beq_eq_false_iff_ne.2 (by omega)
    have e4 : (k == 4) = false := beq_eq_false_iff_ne.2 (by omega)
    have e5 : (k == 5) = false := beq_eq_false_iff_ne.2 (by omega)
    go_wp2
    go_loopw [6, 7] (fun ov iv wr => ∃ (i : Nat) (o : Int), i ≤ 7 ∧ iv = .int .i64 i ∧ ov = .int .u64 o ∧ 0 ≤ o ∧ o ≤ 18446744073709551615 ∧ Cur wr g a cap xs ∧ w.grownBy wr (some g)) (fun _ iv _ => 7 - (intOf iv).toNat)
    case atStart => exact ⟨0, x, by omega, rfl, rfl, by omega, by omega, hC3, hg3⟩
    case round =>
      clear hC3 hg3
      obtain ⟨i, o, hi, rfl, rfl, ho0, ho1, hC, hg⟩ := hrel
      by_cases hlt : i < 7
      · have hlti : (i : Int) < 7 := by omega
        go_wp2_with fail
        refine (CB.out _ 256 hC (by omega) (by omega)).mono ?_
        rintro e w4 ⟨y, rfl, hy0, hy1, hC4, hg4⟩
        have hg4 := grown_trans hg hg4
        clear hC hg
        go_wp2
        go_roundw
        case rel => exact ⟨i + 1, _, by omega, by go_num, rfl, (u64w _).1, (u64w _).2.1, hC4, hg4⟩
        case measure => simp [intOf]; omega
      · have hlti : ¬ (i : Int) < 7 := by omega
        go_wp2
        go_ret
        exact ⟨o, rfl, ho0, ho1, hg⟩

theorem drawPutU_any (a : Option Addr) (cap : Nat) (xs : List Int) (w : World) (hl : xs.length ≤ 1099511627776) (hB : AllB xs) (ha : Has w a xs) :
    Calls Try.prog 26 #[.slice a xs.length cap] w fun e w' => ∃ x : Int, e = .returned (.int .u64 x) ∧ 0 ≤ x ∧ x ≤ 18446744073709551615 ∧ Below w.heap.size w w' := by
  have HN := Hid.mk' (new_any a cap xs w hl hB ha)
  have HD := Hid.mk' (fun W hC => drawU64_any w.heap.size a cap xs W hl hB hC)
  clear hB ha hl
  go_enter Try.func26, Try.ntmps26
  go_wp2_with fail
  refine HN.out.mono ?_
  rintro e w1 ⟨rfl, hC1, hb1, hz1⟩
  clear HN
  go_wp2_with fail
  refine (HD.out _ hC1).mono ?_
  rintro e w2 ⟨x, rfl, hx0, hx1, hg⟩
  go_wp2
  go_ret
  exact ⟨x, rfl, hx0, hx1, hb1.grown hg hb1.size (fun k hk => by simp at hk; omega)⟩

theorem drawPutS_any (a : Option Addr) (cap : Nat) (xs : List Int) (w : World) (hl : xs.length ≤ 1099511627776) (hB : AllB xs) (ha : Has w a xs) :
    Calls Try.prog 27 #[.slice a xs.length cap] w fun e w' => ∃ y : Int, e = .returned (.int .i64 y) ∧ -9223372036854775808 ≤ y ∧ y ≤ 9223372036854775807 ∧ Below w.heap.size w w' := by
  have HN := Hid.mk' (new_any a cap xs w hl hB ha)
  have HD := Hid.mk' (fun W hC => drawU64_any w.heap.size a cap xs W hl hB hC)
  clear hB ha hl
  go_enter Try.func27, Try.ntmps27
  go_wp2_with fail
  refine HN.out.mono ?_
  rintro e w1 ⟨rfl, hC1, hb1, hz1⟩
  clear HN
  go_wp2_with fail
  refine (HD.out _ hC1).mono ?_
  rintro e w2 ⟨x, rfl, hx0, hx1, hg⟩
  go_wp2
  go_ret
  refine ⟨wrap64 x, rfl, ?_, ?_, hb1.grown hg hb1.size (fun k hk => by simp at hk; omega)⟩
  · unfold wrap64; omega
  · unfold wrap64; omega
end Go.Proofs.Ytnbplhlpcojlhaa
