import Derived.Test.YtjiaainhieeepaaDoorPop
import Derived.Test.YtjiaainhieeepaaDoorClo
set_option linter.unusedVariables false
namespace Go.Proofs.YtjiaainhieeepaaDoor
open Go.RowKit
/-- The table of the library in its variable. -/
def Tab0 (w : World) : Prop := ∀ j, j < 64 → w.cell? ⟨0, j, none⟩ = some (.int .u8 (Lib.deBruijn64tab.getD j 0))
theorem Tab0.below {w w' : World} {B : Nat} (h : Tab0 w) (hb : Below B w w') (hB : 0 < B) : Tab0 w' := fun j hj => by rw [hb.cell (p := ⟨0, j, none⟩) hB]; exact h j hj

theorem tz_key (X : Nat) (hX : X < 18446744073709551616) (h0 : X ≠ 0) : ∃ i : Nat, i < 64 ∧
    IntKind.u64.wrap (bits .and .u64 (X : Int) (IntKind.u64.wrap (-(X : Int))) * 285870213051353865) / 288230376151711744 = (i : Int) ∧ Lib.deBruijn64tab.getD i 0 = Lib.ctz 64 X ∧ Lib.ctz 64 X < 64 := by
  obtain ⟨hlow, hk⟩ := Lib.lowest_bit 64 X h0 hX
  obtain ⟨hi, htab⟩ := Lib.deBruijn64_at _ hk
  refine ⟨_, hi, ?_, htab, hk⟩
  have e1 : IntKind.u64.wrap (-(X : Int)) = ((18446744073709551616 - X : Nat) : Int) := by rw [IntKind.wrap_u64]; omega
  rw [e1, u64_and_nat X _ hX (by omega), show (18446744073709551616 : Nat) - X = 2 ^ 64 - X from rfl, hlow, IntKind.wrap_u64]
  generalize 2 ^ Lib.ctz 64 X = Z
  omega

set_option maxHeartbeats 400000 in
theorem tz64_any (X : Nat) (w : World) (hX : X < 18446744073709551616) (hT : Tab0 w) :
    Calls Tryd.prog 82 #[.int .u64 X] w fun e w' => e = .returned (.int .i64 (Lib.ctz 64 X)) ∧ w = w' := by
  by_cases h0 : X = 0
  · subst h0
    go_enter Tryd.func82, Tryd.ntmps82
    go_wp2
    go_ret
    exact ⟨rfl, rfl⟩
  · obtain ⟨i, hi, key, htab, hk⟩ := tz_key X hX h0
    have hc := hT i hi
    rw [htab] at hc
    generalize Lib.ctz 64 X = c at *
    have hx0 : ((X : Int) == 0) = false := by simp; omega
    have hii : (i : Int) < 64 := by omega
    clear hT htab
    go_enter Tryd.func82, Tryd.ntmps82
    go_wp2_with (simp only [key])
    go_ret
    exact ⟨rfl, rfl⟩

theorem flag32_any (r : Bool) (w : World) : Calls Tryd.prog 84 #[.bool r] w fun e w' => e = .returned (.int .u32 (fl r)) ∧ w = w' := by
  cases r
  · go_enter Tryd.func84, Tryd.ntmps84
    go_wp2
    go_ret
    exact ⟨rfl, rfl⟩
  · go_enter Tryd.func84, Tryd.ntmps84
    go_wp2
    go_ret
    exact ⟨rfl, rfl⟩
set_option maxHeartbeats 400000 in
theorem eqz64 (X : Nat) (w : World) (hX : X < 18446744073709551616) :
    Calls Tryd.prog 28 #[.int .u64 X] w fun e w' => e = .returned (.int .u64 (fl ((X : Int) == 0))) ∧ w = w' := by
  go_enter Tryd.func28, Tryd.ntmps28
  go_wp2_with (go_at_call 80; refine (flag64_any _ _).mono ?_; rintro e w' ⟨rfl, rfl⟩)
  go_ret
  exact ⟨rfl, rfl⟩
set_option maxHeartbeats 400000 in
theorem clz64 (X : Nat) (w : World) (hX : X < 18446744073709551616) :
    Calls Tryd.prog 29 #[.int .u64 X] w fun e w' => e = .returned (.int .u64 (highN 64 64 X)) ∧ w = w' := by
  have hh := high_at 64 64 X (Nat.le_refl _) (by omega)
  rw [Nat.mod_eq_of_lt (show X < 2 ^ 64 from hX)] at hh
  have hb := Lib.bitLen_le X 64 (by omega) hX
  have e : (highN 64 64 X : Int) = 64 - (Lib.bitLen X : Int) := by omega
  rw [e]
  clear e hh
  have hXi : (X : Int) ≤ 18446744073709551615 := by omega
  have hbi : (Lib.bitLen X : Int) ≤ 64 := by omega
  go_enter Tryd.func29, Tryd.ntmps29
  go_wp2_with (first | (go_at_call 42; refine (width64 _).mono ?_; rintro e w' ⟨rfl, rfl⟩) | (go_at_call 81; refine (len64_any _ _ (by omega) (by omega)).mono ?_; rintro e w' ⟨rfl, rfl⟩))
  go_ret
  exact ⟨rfl, rfl⟩
set_option maxHeartbeats 400000 in
theorem ctz64 (X : Nat) (w : World) (hX : X < 18446744073709551616) (hT : Tab0 w) :
    Calls Tryd.prog 30 #[.int .u64 X] w fun e w' => e = .returned (.int .u64 (lowN 64 64 X)) ∧ w = w' := by
  have hl := low_ctz 64 X (by omega) hX
  have hc : Lib.ctz 64 X ≤ 64 := by
    by_cases h0 : X = 0
    · subst h0; decide
    · exact Nat.le_of_lt (Lib.lowest_bit 64 X h0 (by omega)).2
  have C := tz64_any X w (by omega) hT
  have hXi : (X : Int) ≤ 18446744073709551615 := by omega
  generalize Lib.ctz 64 X = c at *
  rw [hl]
  have HC := Hid.mk' C
  clear C hl hT
  have hci : (c : Int) ≤ 64 := by omega
  have e : ((min 64 c : Nat) : Int) = min 64 (c : Int) := by omega
  rw [e]
  clear e
  go_enter Tryd.func30, Tryd.ntmps30
  go_wp2_with (first | (go_at_call 42; refine (width64 _).mono ?_; rintro e w' ⟨rfl, rfl⟩) | (go_at_call 82; refine HC.out.mono ?_; rintro e w' ⟨rfl, rfl⟩))
  go_ret
  exact ⟨rfl, rfl⟩
set_option maxHeartbeats 400000 in
theorem pop64 (X : Nat) (w : World) (hX : X < 18446744073709551616) :
    Calls Tryd.prog 31 #[.int .u64 X] w fun e w' => e = .returned (.int .u64 (ones 64 X)) ∧ w = w' := by
  have hl := ones_le 64 X
  have e : ones 64 X = ones 64 X := rfl
  have C := fun w => pop64_any X w (by omega)
  rw [e] at C
  generalize ones 64 X = c at *
  have HC := Hid.mk' C
  clear C e
  have hXi : (X : Int) ≤ 18446744073709551615 := by omega
  have hci : (c : Int) ≤ 64 := by omega
  go_enter Tryd.func31, Tryd.ntmps31
  go_wp2_with (go_at_call 83; refine (HC.out _).mono ?_; rintro e w' ⟨rfl, rfl⟩)
  go_ret
  exact ⟨rfl, rfl⟩
set_option maxHeartbeats 400000 in
theorem eqz32 (X : Nat) (w : World) (hX : X < 4294967296) :
    Calls Tryd.prog 34 #[.int .u32 X] w fun e w' => e = .returned (.int .u32 (fl ((X : Int) == 0))) ∧ w = w' := by
  go_enter Tryd.func34, Tryd.ntmps34
  go_wp2_with (go_at_call 84; refine (flag32_any _ _).mono ?_; rintro e w' ⟨rfl, rfl⟩)
  go_ret
  exact ⟨rfl, rfl⟩
set_option maxHeartbeats 400000 in
theorem clz32 (X : Nat) (w : World) (hX : X < 4294967296) :
    Calls Tryd.prog 35 #[.int .u32 X] w fun e w' => e = .returned (.int .u32 (highN 32 32 X)) ∧ w = w' := by
  have hh := high_at 32 32 X (Nat.le_refl _) (by omega)
  rw [Nat.mod_eq_of_lt (show X < 2 ^ 32 from hX)] at hh
  have hb := Lib.bitLen_le X 32 (by omega) hX
  have e : (highN 32 32 X : Int) = 32 - (Lib.bitLen X : Int) := by omega
  rw [e]
  clear e hh
  have hXi : (X : Int) ≤ 4294967295 := by omega
  have hbi : (Lib.bitLen X : Int) ≤ 32 := by omega
  go_enter Tryd.func35, Tryd.ntmps35
  go_wp2_with (first | (go_at_call 60; refine (width32 _).mono ?_; rintro e w' ⟨rfl, rfl⟩) | (go_at_call 81; refine (len64_any _ _ (by omega) (by omega)).mono ?_; rintro e w' ⟨rfl, rfl⟩))
  go_ret
  exact ⟨rfl, rfl⟩
set_option maxHeartbeats 400000 in
theorem ctz32 (X : Nat) (w : World) (hX : X < 4294967296) (hT : Tab0 w) :
    Calls Tryd.prog 36 #[.int .u32 X] w fun e w' => e = .returned (.int .u32 (lowN 32 32 X)) ∧ w = w' := by
  have hl := low_ctz 32 X (by omega) hX
  have hc : Lib.ctz 64 X ≤ 64 := by
    by_cases h0 : X = 0
    · subst h0; decide
    · exact Nat.le_of_lt (Lib.lowest_bit 64 X h0 (by omega)).2
  have C := tz64_any X w (by omega) hT
  have hXi : (X : Int) ≤ 4294967295 := by omega
  generalize Lib.ctz 64 X = c at *
  rw [hl]
  have HC := Hid.mk' C
  clear C hl hT
  have hci : (c : Int) ≤ 64 := by omega
  have e : ((min 32 c : Nat) : Int) = min 32 (c : Int) := by omega
  rw [e]
  clear e
  go_enter Tryd.func36, Tryd.ntmps36
  go_wp2_with (first | (go_at_call 60; refine (width32 _).mono ?_; rintro e w' ⟨rfl, rfl⟩) | (go_at_call 82; refine HC.out.mono ?_; rintro e w' ⟨rfl, rfl⟩))
  go_ret
  exact ⟨rfl, rfl⟩
set_option maxHeartbeats 400000 in
theorem pop32 (X : Nat) (w : World) (hX : X < 4294967296) :
    Calls Tryd.prog 37 #[.int .u32 X] w fun e w' => e = .returned (.int .u32 (ones 32 X)) ∧ w = w' := by
  have hl := ones_le 32 X
  have e : ones 64 X = ones 32 X := ones_ext 32 32 X hX
  have C := fun w => pop64_any X w (by omega)
  rw [e] at C
  generalize ones 32 X = c at *
  have HC := Hid.mk' C
  clear C e
  have hXi : (X : Int) ≤ 4294967295 := by omega
  have hci : (c : Int) ≤ 32 := by omega
  go_enter Tryd.func37, Tryd.ntmps37
  go_wp2_with (go_at_call 83; refine (HC.out _).mono ?_; rintro e w' ⟨rfl, rfl⟩)
  go_ret
  exact ⟨rfl, rfl⟩
theorem lowU64 (X : Nat) (w : World) (hX : X < 18446744073709551616) : Calls Tryd.prog 32 #[.int .u64 X] w fun e w' => e = .returned (.int .u64 ((X : Int) % 4294967296)) ∧ w = w' := by
  go_enter Tryd.func32, Tryd.ntmps32
  go_wp2
  go_ret
  exact ⟨rfl, rfl⟩
theorem lowS64 (X : Nat) (w : World) (hX : X < 18446744073709551616) : Calls Tryd.prog 33 #[.int .u64 X] w fun e w' => e = .returned (.int .u64 (IntKind.u64.wrap (wrap32 X))) ∧ w = w' := by
  go_enter Tryd.func33, Tryd.ntmps33
  go_wp2
  go_ret
  exact ⟨rfl, rfl⟩
end Go.Proofs.YtjiaainhieeepaaDoor
