import Derived.Test.YthmppcfhbbjhlaaDoorCuD
set_option linter.all false
set_option linter.unusedVariables false
namespace Go.Proofs.YthmppcfhbbjhlaaDoor
open Go.RowKit
set_option maxRecDepth 100000
set_option maxHeartbeats 1000000 in
theorem lwAt_c (a : Option Addr) (cap : Nat) (xs : List Int) (i : Nat) (w : World) (hi : i ≤ 1000) (hl : xs.length ≤ 1099511627776) (hB : AllB xs) (ha : Has w a xs) :
    Calls Tryd.prog 21 #[.slice a xs.length cap, .int .i64 i] w fun e w' => ∃ x : Int, e = .returned (.int .i64 x) ∧ 0 ≤ x ∧ x ≤ 255 ∧ w = w' := by
  by_cases h : i < xs.length
  · rcases ha with e | ⟨b, o, rfl, hc⟩
    · subst e; simp at h
    have d := hc i h
    have hb := hB i
    have hii : (i : Int) < (xs.length : Int) := by omega
    obtain ⟨c, hcc⟩ : ∃ c, c = xs.getD i 0 := ⟨_, rfl⟩
    rw [← hcc] at d hb
    obtain ⟨hb0, hb1⟩ := hb
    clear hc hcc hB
    have hw : IntKind.i64.wrap c = c := by rw [IntKind.wrap_i64]; omega
    go_enter Tryd.func21, Tryd.ntmps21
    go_wp2
    go_ret
    exact ⟨c, rfl, hb0, hb1, rfl⟩
  · have hii : ¬ (i : Int) < (xs.length : Int) := by omega
    have hw1 : IntKind.i64.wrap ((i : Int) * 61) = (i : Int) * 61 := by rw [IntKind.wrap_i64]; omega
    have hw2 : IntKind.i64.wrap ((i : Int) * 61 + 29) = (i : Int) * 61 + 29 := by rw [IntKind.wrap_i64]; omega
    clear ha hB
    go_enter Tryd.func21, Tryd.ntmps21
    go_wp2
    go_ret
    refine ⟨_, rfl, ?_, ?_, rfl⟩
    · omega
    · omega
set_option maxHeartbeats 1000000 in
theorem lwWord_c (a : Option Addr) (cap : Nat) (xs : List Int) (w : World) (hl : xs.length ≤ 1099511627776) (hB : AllB xs) (ha : Has w a xs) :
    Calls Tryd.prog 16 #[.slice a xs.length cap, .int .i64 0] w fun e w' => ∃ x : Int, e = .returned (.int .u64 x) ∧ 0 ≤ x ∧ x ≤ 18446744073709551615 ∧ w = w' := by
  have KA := Hid.mk' (fun (i : Nat) (hi : i ≤ 1000) => lwAt_c a cap xs i w hi hl hB ha)
  clear hl hB ha
  go_enter Tryd.func16, Tryd.ntmps16
  go_wp2
  go_loop [5, 6] (fun q i => ∃ (k : Nat) (o : Int), k ≤ 8 ∧ i = .int .i64 k ∧ q = .int .u64 o ∧ 0 ≤ o ∧ o ≤ 18446744073709551615) (fun _ i => 8 - (intOf i).toNat)
  case atStart => exact ⟨0, 0, by omega, rfl, rfl, by omega, by omega⟩
  case round =>
    obtain ⟨k, o, hk, rfl, rfl, o0, o1⟩ := hrel
    by_cases hlt : k < 8
    · have hki : (k : Int) < 8 := by omega
      have hw : IntKind.i64.wrap (0 + (k : Int)) = (k : Int) := by rw [IntKind.wrap_i64]; omega
      have hw' : IntKind.i64.wrap (k : Int) = (k : Int) := by rw [IntKind.wrap_i64]; omega
      go_wp2_with fail
      refine (KA.out k (by omega)).mono ?_
      rintro e w1 ⟨x, rfl, x0, x1, rfl⟩
      go_wp2
      go_round
      case rel => exact ⟨k + 1, _, by omega, by go_num, rfl, (u64w _).1, (u64w _).2⟩
      case measure => simp [intOf]; omega
    · have hki : ¬ (k : Int) < 8 := by omega
      go_wp2
      go_ret
      exact ⟨o, rfl, o0, o1, rfl⟩
theorem lwNan_c (x : Int) (w : World) (h0 : 0 ≤ x) (h1 : x ≤ 18446744073709551615) :
    Calls Tryd.prog 17 #[.int .i64 0, .int .u64 x] w fun e w' => e = .returned (.bool (decide (2139095040 < x % 2147483648))) ∧ w = w' := by
  have hm : Int.tmod x 2147483648 = x % 2147483648 := Int.tmod_eq_emod_of_nonneg h0
  go_enter Tryd.func17, Tryd.ntmps17
  go_wp2
  go_ret
  exact ⟨by simp, rfl⟩
end Go.Proofs.YthmppcfhbbjhlaaDoor
