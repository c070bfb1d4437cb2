import Derived.Test.YtjiaainhieeepaaDoorMod
set_option linter.unusedVariables false
namespace Go.Proofs.YtjiaainhieeepaaDoor
open Go.RowKit

def P2 (n : Int) : Int := 2 ^ n.toNat
theorem P2_pos (n : Int) : 1 ≤ P2 n := by unfold P2; have := Int.pow_pos (n := (2 : Int)) (m := n.toNat) (by omega); omega
theorem P2_succ (n : Int) (h : 0 ≤ n) : P2 (n + 1) = 2 * P2 n := by
  unfold P2; rw [show (n + 1).toNat = n.toNat + 1 by omega, Int.pow_succ]; omega
theorem P2_le {m n : Int} (h0 : m ≤ n) : P2 m ≤ P2 n := by
  unfold P2
  have h : 2 ^ m.toNat ≤ 2 ^ n.toNat := Nat.pow_le_pow_right (by omega) (by omega)
  have h' : ((2 ^ m.toNat : Nat) : Int) ≤ ((2 ^ n.toNat : Nat) : Int) := by omega
  simpa using h'
theorem P2_63 {n : Int} (h : n ≤ 63) : P2 n ≤ 9223372036854775808 := by
  have := P2_le h; rw [show P2 63 = 9223372036854775808 by decide] at this; exact this
theorem P2_62 {n : Int} (h : n ≤ 62) : P2 n ≤ 4611686018427387904 := by
  have := P2_le h; rw [show P2 62 = 4611686018427387904 by decide] at this; exact this
theorem u64w (y : Int) : 0 ≤ IntKind.u64.wrap y ∧ IntKind.u64.wrap y ≤ 18446744073709551615 := by
  rw [IntKind.wrap_u64]; omega

set_option maxHeartbeats 400000 in
theorem pow_any (n : Int) (w : World) (h0 : 0 ≤ n) (h1 : n ≤ 63) :
    Calls Tryd.prog 27 #[.int .i64 n] w fun e w' => e = .returned (.int .u64 (P2 n)) ∧ w = w' := by
  go_enter Tryd.func27, Tryd.ntmps27
  go_wp2
  go_loop [3, 4] (fun x i => ∃ k : Int, 0 ≤ k ∧ k ≤ n ∧ i = .int .i64 k ∧ x = .int .u64 (P2 k)) (fun _ i => (n - intOf i).toNat)
  case atStart => exact ⟨0, by omega, h0, rfl, rfl⟩
  case round =>
    obtain ⟨k, hk0, hk, rfl, rfl⟩ := hrel
    have hp := P2_pos k
    by_cases hlt : k < n
    · have hb := P2_62 (n := k) (by omega)
      have HS : Hid (P2 (k + 1) = 2 * P2 k) := P2_succ k hk0
      go_wp2
      go_round
      case rel => exact ⟨k + 1, by omega, by omega, rfl, by rw [HS.out, Int.mul_comm]⟩
      case measure => simp [intOf]; omega
    · have e : k = n := by omega
      subst e
      go_wp2
      go_ret
      exact ⟨rfl, rfl⟩

theorem low64 (x : Int) (w : World) : Calls Tryd.prog 11 #[.int .u64 x, .int .i64 64] w fun e w' => e = .returned (.int .u64 x) ∧ w = w' := by
  go_enter Tryd.func11, Tryd.ntmps11
  go_wp2
  go_ret
  exact ⟨rfl, rfl⟩
theorem low32 (x : Int) (w : World) (h0 : 0 ≤ x) (h1 : x ≤ 18446744073709551615) : Calls Tryd.prog 11 #[.int .u64 x, .int .i64 32] w fun e w' => e = .returned (.int .u64 (x % 4294967296)) ∧ w = w' := by
  have hp : P2 32 = 4294967296 := by decide
  go_enter Tryd.func11, Tryd.ntmps11
  go_wp2_with (go_at_call 27; refine (pow_any _ _ (by omega) (by omega)).mono ?_; rintro e w' ⟨rfl, rfl⟩)
  go_ret
  exact ⟨rfl, rfl⟩
theorem signed64 (x : Int) (w : World) (h0 : 0 ≤ x) (h1 : x ≤ 18446744073709551615) : Calls Tryd.prog 15 #[.int .u64 x, .int .i64 64] w fun e w' => e = .returned (.int .i64 (wrap64 x)) ∧ w = w' := by
  go_enter Tryd.func15, Tryd.ntmps15
  go_wp2_with (go_at_call 11; refine (low64 _ _).mono ?_; rintro e w' ⟨rfl, rfl⟩)
  go_ret
  exact ⟨rfl, rfl⟩
theorem signed32 (x : Int) (w : World) (h0 : 0 ≤ x) (h1 : x ≤ 4294967295) : Calls Tryd.prog 15 #[.int .u64 x, .int .i64 32] w fun e w' => e = .returned (.int .i64 (wrap32 x)) ∧ w = w' := by
  have hx : x % 4294967296 = x := by omega
  have hp : P2 32 = 4294967296 := by decide
  have hq : P2 31 = 2147483648 := by decide
  by_cases h : 2147483648 ≤ x
  · have e : wrap32 x = x - 4294967296 := by simp only [wrap32]; omega
    rw [e]
    clear e
    go_enter Tryd.func15, Tryd.ntmps15
    go_wp2_with (first | (go_at_call 11; refine (low32 _ _ (by omega) (by omega)).mono ?_; rintro e w' ⟨rfl, rfl⟩) | (go_at_call 27; refine (pow_any _ _ (by omega) (by omega)).mono ?_; rintro e w' ⟨rfl, rfl⟩))
    go_ret
    exact ⟨rfl, rfl⟩
  · have e : wrap32 x = x := by simp only [wrap32]; omega
    rw [e]
    clear e
    go_enter Tryd.func15, Tryd.ntmps15
    go_wp2_with (first | (go_at_call 11; refine (low32 _ _ (by omega) (by omega)).mono ?_; rintro e w' ⟨rfl, rfl⟩) | (go_at_call 27; refine (pow_any _ _ (by omega) (by omega)).mono ?_; rintro e w' ⟨rfl, rfl⟩))
    go_ret
    exact ⟨rfl, rfl⟩

theorem res_cells1 {w w1 : World} {t : TypeId} (hb : Below (w.alloc (.cells #[.bool false, .int .i64 0, .int .u64 0] t)).heap.size (w.alloc (.cells #[.bool false, .int .i64 0, .int .u64 0] t)) w1) :
    w1.cell? ⟨w.heap.size, 0, none⟩ = some (.bool false) ∧ w1.cell? ⟨w.heap.size, 1, none⟩ = some (.int .i64 0) ∧ w1.cell? ⟨w.heap.size, 2, none⟩ = some (.int .u64 0) ∧
    w1.frozen? ⟨w.heap.size, 0, none⟩ = false ∧ w1.frozen? ⟨w.heap.size, 1, none⟩ = false ∧ w1.frozen? ⟨w.heap.size, 2, none⟩ = false ∧ Below w.heap.size w w1 := by
  have hl : w.heap.size < (w.alloc (.cells #[.bool false, .int .i64 0, .int .u64 0] t)).heap.size := by simp
  refine ⟨?_, ?_, ?_, ?_, ?_, ?_, ?_⟩
  · rw [hb.cell (p := ⟨w.heap.size, 0, none⟩) hl]; exact cell_new rfl rfl
  · rw [hb.cell (p := ⟨w.heap.size, 1, none⟩) hl]; exact cell_new rfl rfl
  · rw [hb.cell (p := ⟨w.heap.size, 2, none⟩) hl]; exact cell_new rfl rfl
  · rw [hb.frozen (p := ⟨w.heap.size, 0, none⟩) hl]; exact World.frozen?_alloc_new w _ t _
  · rw [hb.frozen (p := ⟨w.heap.size, 1, none⟩) hl]; exact World.frozen?_alloc_new w _ t _
  · rw [hb.frozen (p := ⟨w.heap.size, 2, none⟩) hl]; exact World.frozen?_alloc_new w _ t _
  · exact Below.trans ((Below.refl _ _).alloc (Nat.le_refl _) _) (hb.mono (by omega))

theorem below_set3 {w w1 : World} {x y z : Value} (hb : Below w.heap.size w w1) : Below w.heap.size w (((w1.setCell ⟨w.heap.size, 0, none⟩ x).setCell ⟨w.heap.size, 1, none⟩ y).setCell ⟨w.heap.size, 2, none⟩ z) :=
  ((hb.setCell (Nat.le_refl _) _).setCell (Nat.le_refl _) _).setCell (Nat.le_refl _) _

theorem val_eq (x y : Int) (w : World) (h : x = y) : Calls Tryd.prog 14 #[.int .u64 x] w fun e w' => e = .returned (RV true 0 y) ∧ Below w.heap.size w w' := by
  subst h
  go_enter Tryd.func14, Tryd.ntmps14
  go_wp2
  exact bodyPost_ret (v := RV true 0 x) (by simp [results, Tryd.results14, go_sem]) rfl ⟨rfl, by repeat (first | exact Below.refl _ _ | refine Below.setCell ?_ (by simp) _ | refine Below.alloc ?_ (by simp) _)⟩
theorem trap_any (x : Int) (w : World) : Calls Tryd.prog 105 #[.int .i64 x] w fun e w' => e = .returned (RV true x 0) ∧ Below w.heap.size w w' := by
  go_enter Tryd.func105, Tryd.ntmps105
  go_wp2
  exact bodyPost_ret (v := RV true x 0) (by simp [results, Tryd.results105, go_sem]) rfl ⟨rfl, by repeat (first | exact Below.refl _ _ | refine Below.setCell ?_ (by simp) _ | refine Below.alloc ?_ (by simp) _)⟩
theorem bool_true (w : World) : Calls Tryd.prog 12 #[.bool true] w fun e w' => e = .returned (RV true 0 (fl true)) ∧ Below w.heap.size w w' := by
  go_enter Tryd.func12, Tryd.ntmps12
  go_wp2_with fail
  refine (val_eq _ (fl true) _ rfl).mono ?_
  rintro e w1 ⟨rfl, hb⟩
  obtain ⟨hc0, hc1, hc2, hf0, hf1, hf2, hb'⟩ := res_cells1 hb
  have HB := Hid.mk' hb'
  clear hb hb'
  go_wp2
  exact bodyPost_ret (v := RV true 0 (fl true)) (by simp [results, Tryd.results12, go_sem, hc0, hc1, hc2]) rfl ⟨rfl, below_set3 HB.out⟩
theorem bool_false (w : World) : Calls Tryd.prog 12 #[.bool false] w fun e w' => e = .returned (RV true 0 (fl false)) ∧ Below w.heap.size w w' := by
  go_enter Tryd.func12, Tryd.ntmps12
  go_wp2_with fail
  refine (val_eq _ (fl false) _ rfl).mono ?_
  rintro e w1 ⟨rfl, hb⟩
  obtain ⟨hc0, hc1, hc2, hf0, hf1, hf2, hb'⟩ := res_cells1 hb
  have HB := Hid.mk' hb'
  clear hb hb'
  go_wp2
  exact bodyPost_ret (v := RV true 0 (fl false)) (by simp [results, Tryd.results12, go_sem, hc0, hc1, hc2]) rfl ⟨rfl, below_set3 HB.out⟩
theorem bool_eq (x y : Bool) (w : World) (h : x = y) : Calls Tryd.prog 12 #[.bool x] w fun e w' => e = .returned (RV true 0 (fl y)) ∧ Below w.heap.size w w' := by
  subst h
  cases x
  · exact bool_false w
  · exact bool_true w
set_option maxHeartbeats 1000000 in
theorem sturn64 (a s : Int) (w : World) (ha0 : 0 ≤ a) (ha : a ≤ 18446744073709551615) (hs0 : 0 ≤ s) (hs : s ≤ 64) :
    Calls Tryd.prog 79 #[.int .u64 a, .int .i64 s, .int .i64 64] w fun e w' => e = .returned (.int .u64 (rot true s.toNat a)) ∧ w = w' := by
  have hp : P2 63 = 9223372036854775808 := by decide
  have HR := Hid.mk' (fun k : Nat => rot_bd true k a ha0 (by simp only [Mo]; simp; omega))
  go_enter Tryd.func79, Tryd.ntmps79
  go_wp2
  go_loop [0, 7, 8] (fun x i t => ∃ k : Nat, (k : Int) ≤ s ∧ i = .int .i64 k ∧ x = .int .u64 (rot true k a)) (fun _ i _ => (s - intOf i).toNat)
  case atStart => exact ⟨0, by omega, rfl, rfl⟩
  case round =>
    obtain ⟨k, hk, rfl, rfl⟩ := hrel
    obtain ⟨r0, r1⟩ := HR.out k
    obtain ⟨y, hy⟩ : ∃ y, y = rot true k a := ⟨_, rfl⟩
    rw [← hy] at r0 r1
    have HY := Hid.mk' hy
    rw [← hy]
    clear hy
    have r2 : y ≤ 18446744073709551615 := by simp only [Mo] at r1; simp at r1; omega
    clear r1
    by_cases hlt : (k : Int) < s
    · have HS : Hid (rot true (k + 1) a = y * 2 % 18446744073709551616 + y / 9223372036854775808) := by rw [HY.out]; rfl
      have d0 : 0 ≤ y / 9223372036854775808 := by omega
      have d1 : y / 9223372036854775808 ≤ 1 := by omega
      go_wp2_with (first | (go_at_call 27; refine (pow_any _ _ (by omega) (by omega)).mono ?_; rintro e w' ⟨rfl, rfl⟩) | (go_at_call 11; refine (low64 _ _).mono ?_; rintro e w' ⟨rfl, rfl⟩))
      go_round
      case rel => exact ⟨k + 1, by omega, by go_num, congrArg (Value.int .u64) (by rw [HS.out]; simp only [IntKind.wrap_u64]; omega)⟩
      case measure => simp [intOf]; omega
    · have e : s = (k : Int) := by omega
      subst e
      have HY' := HY.out
      go_wp2
      go_ret
      exact ⟨rfl, rfl⟩
set_option maxHeartbeats 1000000 in
theorem sturn32 (a s : Int) (w : World) (ha0 : 0 ≤ a) (ha : a ≤ 4294967295) (hs0 : 0 ≤ s) (hs : s ≤ 32) :
    Calls Tryd.prog 79 #[.int .u64 a, .int .i64 s, .int .i64 32] w fun e w' => e = .returned (.int .u64 (rot false s.toNat a)) ∧ w = w' := by
  have hp : P2 31 = 2147483648 := by decide
  have HR := Hid.mk' (fun k : Nat => rot_bd false k a ha0 (by simp only [Mo]; simp; omega))
  go_enter Tryd.func79, Tryd.ntmps79
  go_wp2
  go_loop [0, 7, 8] (fun x i t => ∃ k : Nat, (k : Int) ≤ s ∧ i = .int .i64 k ∧ x = .int .u64 (rot false k a)) (fun _ i _ => (s - intOf i).toNat)
  case atStart => exact ⟨0, by omega, rfl, rfl⟩
  case round =>
    obtain ⟨k, hk, rfl, rfl⟩ := hrel
    obtain ⟨r0, r1⟩ := HR.out k
    obtain ⟨y, hy⟩ : ∃ y, y = rot false k a := ⟨_, rfl⟩
    rw [← hy] at r0 r1
    have HY := Hid.mk' hy
    rw [← hy]
    clear hy
    have r2 : y ≤ 4294967295 := by simp only [Mo] at r1; simp at r1; omega
    clear r1
    by_cases hlt : (k : Int) < s
    · have HS : Hid (rot false (k + 1) a = y * 2 % 4294967296 + y / 2147483648) := by rw [HY.out]; rfl
      have d0 : 0 ≤ y / 2147483648 := by omega
      have d1 : y / 2147483648 ≤ 1 := by omega
      go_wp2_with (first | (go_at_call 27; refine (pow_any _ _ (by omega) (by omega)).mono ?_; rintro e w' ⟨rfl, rfl⟩) | (go_at_call 11; refine (low32 _ _ (by first | omega | exact (u64w _).1) (by first | omega | exact (u64w _).2)).mono ?_; rintro e w' ⟨rfl, rfl⟩))
      go_round
      case rel => exact ⟨k + 1, by omega, by go_num, congrArg (Value.int .u64) (by rw [HS.out])⟩
      case measure => simp [intOf]; omega
    · have e : s = (k : Int) := by omega
      subst e
      have HY' := HY.out
      go_wp2
      go_ret
      exact ⟨rfl, rfl⟩
end Go.Proofs.YtjiaainhieeepaaDoor
