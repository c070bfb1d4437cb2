import Derived.Test.YthmppcfhbbjhlaaDoorMod
set_option linter.all false
set_option linter.unusedVariables false
namespace Go.Proofs.YthmppcfhbbjhlaaDoor
open Go.RowKit

def P2 (n : Int) : Int := 2 ^ n.toNat
theorem P2_pos (n : Int) : 1 ≤ P2 n := by unfold P2; have := Int.pow_pos (n := (2 : Int)) (m := n.toNat) (by omega); omega
theorem P2_succ (n : Int) (h : 0 ≤ n) : P2 (n + 1) = 2 * P2 n := by
  unfold P2; rw [show (n + 1).toNat = n.toNat + 1 by omega, Int.pow_succ]; omega
theorem P2_le {m n : Int} (h0 : m ≤ n) : P2 m ≤ P2 n := by
  unfold P2
  have h : 2 ^ m.toNat ≤ 2 ^ n.toNat := Nat.pow_le_pow_right (by omega) (by omega)
  have h' : ((2 ^ m.toNat : Nat) : Int) ≤ ((2 ^ n.toNat : Nat) : Int) := by omega
  simpa using h'
theorem P2_63 {n : Int} (h : n ≤ 63) : P2 n ≤ 9223372036854775808 := by
  have := P2_le h; rw [show P2 63 = 9223372036854775808 by decide] at this; exact this
theorem P2_62 {n : Int} (h : n ≤ 62) : P2 n ≤ 4611686018427387904 := by
  have := P2_le h; rw [show P2 62 = 4611686018427387904 by decide] at this; exact this
theorem u64w (y : Int) : 0 ≤ IntKind.u64.wrap y ∧ IntKind.u64.wrap y ≤ 18446744073709551615 := by
  rw [IntKind.wrap_u64]; omega

set_option maxHeartbeats 400000 in
theorem pow_any (n : Int) (w : World) (h0 : 0 ≤ n) (h1 : n ≤ 63) :
    Calls Tryd.prog 25 #[.int .i64 n] w fun e w' => e = .returned (.int .u64 (P2 n)) ∧ w = w' := by
  go_enter Tryd.func25, Tryd.ntmps25
  go_wp2
  go_loop [3, 4] (fun x i => ∃ k : Int, 0 ≤ k ∧ k ≤ n ∧ i = .int .i64 k ∧ x = .int .u64 (P2 k)) (fun _ i => (n - intOf i).toNat)
  case atStart => exact ⟨0, by omega, h0, rfl, rfl⟩
  case round =>
    obtain ⟨k, hk0, hk, rfl, rfl⟩ := hrel
    have hp := P2_pos k
    by_cases hlt : k < n
    · have hb := P2_62 (n := k) (by omega)
      have HS : Hid (P2 (k + 1) = 2 * P2 k) := P2_succ k hk0
      go_wp2
      go_round
      case rel => exact ⟨k + 1, by omega, by omega, rfl, by rw [HS.out, Int.mul_comm]⟩
      case measure => simp [intOf]; omega
    · have e : k = n := by omega
      subst e
      go_wp2
      go_ret
      exact ⟨rfl, rfl⟩

theorem low64 (x : Int) (w : World) : Calls Tryd.prog 23 #[.int .u64 x, .int .i64 64] w fun e w' => e = .returned (.int .u64 x) ∧ w = w' := by
  go_enter Tryd.func23, Tryd.ntmps23
  go_wp2
  go_ret
  exact ⟨rfl, rfl⟩
theorem low32 (x : Int) (w : World) (h0 : 0 ≤ x) (h1 : x ≤ 18446744073709551615) : Calls Tryd.prog 23 #[.int .u64 x, .int .i64 32] w fun e w' => e = .returned (.int .u64 (x % 4294967296)) ∧ w = w' := by
  have hp : P2 32 = 4294967296 := by decide
  go_enter Tryd.func23, Tryd.ntmps23
  go_wp2_with (go_at_call 25; refine (pow_any _ _ (by omega) (by omega)).mono ?_; rintro e w' ⟨rfl, rfl⟩)
  go_ret
  exact ⟨rfl, rfl⟩
theorem signed64 (x : Int) (w : World) (h0 : 0 ≤ x) (h1 : x ≤ 18446744073709551615) : Calls Tryd.prog 87 #[.int .u64 x, .int .i64 64] w fun e w' => e = .returned (.int .i64 (wrap64 x)) ∧ w = w' := by
  go_enter Tryd.func87, Tryd.ntmps87
  go_wp2_with (go_at_call 23; refine (low64 _ _).mono ?_; rintro e w' ⟨rfl, rfl⟩)
  go_ret
  exact ⟨rfl, rfl⟩
theorem signed32 (x : Int) (w : World) (h0 : 0 ≤ x) (h1 : x ≤ 4294967295) : Calls Tryd.prog 87 #[.int .u64 x, .int .i64 32] w fun e w' => e = .returned (.int .i64 (wrap32 x)) ∧ w = w' := by
  have hx : x % 4294967296 = x := by omega
  have hp : P2 32 = 4294967296 := by decide
  have hq : P2 31 = 2147483648 := by decide
  by_cases h : 2147483648 ≤ x
  · have e : wrap32 x = x - 4294967296 := by simp only [wrap32]; omega
    rw [e]
    clear e
    go_enter Tryd.func87, Tryd.ntmps87
    go_wp2_with (first | (go_at_call 23; refine (low32 _ _ (by omega) (by omega)).mono ?_; rintro e w' ⟨rfl, rfl⟩) | (go_at_call 25; refine (pow_any _ _ (by omega) (by omega)).mono ?_; rintro e w' ⟨rfl, rfl⟩))
    go_ret
    exact ⟨rfl, rfl⟩
  · have e : wrap32 x = x := by simp only [wrap32]; omega
    rw [e]
    clear e
    go_enter Tryd.func87, Tryd.ntmps87
    go_wp2_with (first | (go_at_call 23; refine (low32 _ _ (by omega) (by omega)).mono ?_; rintro e w' ⟨rfl, rfl⟩) | (go_at_call 25; refine (pow_any _ _ (by omega) (by omega)).mono ?_; rintro e w' ⟨rfl, rfl⟩))
    go_ret
    exact ⟨rfl, rfl⟩

theorem res_cells1 {w w1 : World} {t : TypeId} (hb : Below (w.alloc (.cells #[.bool false, .int .i64 0, .int .u64 0] t)).heap.size (w.alloc (.cells #[.bool false, .int .i64 0, .int .u64 0] t)) w1) :
    w1.cell? ⟨w.heap.size, 0, none⟩ = some (.bool false) ∧ w1.cell? ⟨w.heap.size, 1, none⟩ = some (.int .i64 0) ∧ w1.cell? ⟨w.heap.size, 2, none⟩ = some (.int .u64 0) ∧
    w1.frozen? ⟨w.heap.size, 0, none⟩ = false ∧ w1.frozen? ⟨w.heap.size, 1, none⟩ = false ∧ w1.frozen? ⟨w.heap.size, 2, none⟩ = false ∧ Below w.heap.size w w1 := by
  have hl : w.heap.size < (w.alloc (.cells #[.bool false, .int .i64 0, .int .u64 0] t)).heap.size := by simp
  refine ⟨?_, ?_, ?_, ?_, ?_, ?_, ?_⟩
  · rw [hb.cell (p := ⟨w.heap.size, 0, none⟩) hl]; exact cell_new rfl rfl
  · rw [hb.cell (p := ⟨w.heap.size, 1, none⟩) hl]; exact cell_new rfl rfl
  · rw [hb.cell (p := ⟨w.heap.size, 2, none⟩) hl]; exact cell_new rfl rfl
  · rw [hb.frozen (p := ⟨w.heap.size, 0, none⟩) hl]; exact World.frozen?_alloc_new w _ t _
  · rw [hb.frozen (p := ⟨w.heap.size, 1, none⟩) hl]; exact World.frozen?_alloc_new w _ t _
  · rw [hb.frozen (p := ⟨w.heap.size, 2, none⟩) hl]; exact World.frozen?_alloc_new w _ t _
  · exact Below.trans ((Below.refl _ _).alloc (Nat.le_refl _) _) (hb.mono (by omega))

theorem below_set3 {w w1 : World} {x y z : Value} (hb : Below w.heap.size w w1) : Below w.heap.size w (((w1.setCell ⟨w.heap.size, 0, none⟩ x).setCell ⟨w.heap.size, 1, none⟩ y).setCell ⟨w.heap.size, 2, none⟩ z) :=
  ((hb.setCell (Nat.le_refl _) _).setCell (Nat.le_refl _) _).setCell (Nat.le_refl _) _

theorem val_eq (x y : Int) (w : World) (h : x = y) : Calls Tryd.prog 27 #[.int .u64 x] w fun e w' => e = .returned (RV true 0 y) ∧ Below w.heap.size w w' := by
  subst h
  go_enter Tryd.func27, Tryd.ntmps27
  go_wp2
  exact bodyPost_ret (v := RV true 0 x) (by simp [results, Tryd.results27, go_sem]) rfl ⟨rfl, by repeat (first | exact Below.refl _ _ | refine Below.setCell ?_ (by simp) _ | refine Below.alloc ?_ (by simp) _)⟩
theorem trap_any (x : Int) (w : World) : Calls Tryd.prog 86 #[.int .i64 x] w fun e w' => e = .returned (RV true x 0) ∧ Below w.heap.size w w' := by
  go_enter Tryd.func86, Tryd.ntmps86
  go_wp2
  exact bodyPost_ret (v := RV true x 0) (by simp [results, Tryd.results86, go_sem]) rfl ⟨rfl, by repeat (first | exact Below.refl _ _ | refine Below.setCell ?_ (by simp) _ | refine Below.alloc ?_ (by simp) _)⟩
theorem bool_true (w : World) : Calls Tryd.prog 89 #[.bool true] w fun e w' => e = .returned (RV true 0 (fl true)) ∧ Below w.heap.size w w' := by
  go_enter Tryd.func89, Tryd.ntmps89
  go_wp2_with fail
  refine (val_eq _ (fl true) _ rfl).mono ?_
  rintro e w1 ⟨rfl, hb⟩
  obtain ⟨hc0, hc1, hc2, hf0, hf1, hf2, hb'⟩ := res_cells1 hb
  have HB := Hid.mk' hb'
  clear hb hb'
  go_wp2
  exact bodyPost_ret (v := RV true 0 (fl true)) (by simp [results, Tryd.results89, go_sem, hc0, hc1, hc2]) rfl ⟨rfl, below_set3 HB.out⟩
theorem bool_false (w : World) : Calls Tryd.prog 89 #[.bool false] w fun e w' => e = .returned (RV true 0 (fl false)) ∧ Below w.heap.size w w' := by
  go_enter Tryd.func89, Tryd.ntmps89
  go_wp2_with fail
  refine (val_eq _ (fl false) _ rfl).mono ?_
  rintro e w1 ⟨rfl, hb⟩
  obtain ⟨hc0, hc1, hc2, hf0, hf1, hf2, hb'⟩ := res_cells1 hb
  have HB := Hid.mk' hb'
  clear hb hb'
  go_wp2
  exact bodyPost_ret (v := RV true 0 (fl false)) (by simp [results, Tryd.results89, go_sem, hc0, hc1, hc2]) rfl ⟨rfl, below_set3 HB.out⟩
theorem bool_eq (x y : Bool) (w : World) (h : x = y) : Calls Tryd.prog 89 #[.bool x] w fun e w' => e = .returned (RV true 0 (fl y)) ∧ Below w.heap.size w w' := by
  subst h
  cases x
  · exact bool_false w
  · exact bool_true w
end Go.Proofs.YthmppcfhbbjhlaaDoor
