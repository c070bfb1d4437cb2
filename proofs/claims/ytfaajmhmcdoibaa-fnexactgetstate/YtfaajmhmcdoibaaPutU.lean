import Derived.Test.YtfaajmhmcdoibaaCut
set_option linter.all false
namespace Go.Proofs.Ytfaajmhmcdoibaa
open Go.RowKit
set_option maxHeartbeats 400000 in
theorem specPutU_any (x : Int) (w : World) (h0 : 0 ≤ x) (h1 : x ≤ 18446744073709551615) :
    Calls Try.prog 39 #[.int .u64 x] w fun e w' => ∃ v, e = .returned v ∧ w'.ownsRow w.heap.size 5 1 v (lebU 9 x).length (U (lebU 9 x)) ∧ Below w.heap.size w w' := by
  obtain ⟨i0, hi, hz0, hz1, hz2⟩ := info_parts Try.info5
  have hfit := fitU_start h1
  go_enter Try.func39, Try.ntmps39
  go_wp2
  go_loopw [0, 3] (fun xv v wr => ∃ (f : Nat) (y : Int) (pre : List Int), xv = .int .u64 y ∧ 0 ≤ y ∧ y ≤ 18446744073709551615 ∧ fitU f y ∧ pre.length + f ≤ 9 ∧ Hid (pre ++ lebU f y = lebU 9 x) ∧ wr.ownsRow w.heap.size 5 1 v pre.length (U pre) ∧ Below w.heap.size w wr)
    (fun xv _ _ => (intOf xv).toNat)
  case atStart =>
    exact ⟨9, x, [], rfl, h0, h1, hfit, by simp, rfl, World.ownsRow_lit w #[] 0 (Nat.le_refl _) (Nat.zero_le _) rfl, (Below.refl _ _).alloc (Nat.le_refl _) _⟩
  case round =>
    obtain ⟨f, y, pre, rfl, hy0, hy1, hf, hpl, HQ, hown, hbel⟩ := hrel
    have hsz := hbel.size
    by_cases hc : 128 ≤ y
    · go_wp2_with (first | (at_builtin; refine wpList_append_own _ rfl _ _ 27 rfl w.heap.size 5 i0 (.int .u8 0) 1 1 Try.underlying27 hi hz0 hz1 hz2 rfl (by decide) _ _ _ rfl (hown.alloc _) ⟨wr.heap.size, 0, none⟩ 1 1 [.int .u8 (y % 128 + 128)] rfl rfl (cell_one_new _ _ _) (oneB _) (by unfold maxLen; omega) (by omega) (by simp; omega) ?_; intro v' w1 hown' hgrow hnn))
      have hbel' := below_push hown hbel hsz hgrow
      have hown2 := owns_push hown'
      clear hown' hgrow hown hbel hsz hnn
      go_wp2
      go_roundw
      case rel =>
        cases f with
        | zero => have := fitU_zero hf; omega
        | succ f => exact ⟨f, y / 128, pre ++ [y % 128 + 128], rfl, by omega, by omega, fitU_step hf, by simp; omega, (by show _ = _; rw [← HQ.out, lebU_step f y (by omega)]; simp), hown2, hbel'⟩
      case measure => simp [intOf]; omega
    · go_wp2_with (first | (at_builtin; refine wpList_append_own _ rfl _ _ 27 rfl w.heap.size 5 i0 (.int .u8 0) 1 1 Try.underlying27 hi hz0 hz1 hz2 rfl (by decide) _ _ _ rfl (hown.alloc _) ⟨wr.heap.size, 0, none⟩ 1 1 [.int .u8 (y)] rfl rfl (cell_one_new _ _ _) (oneB _) (by unfold maxLen; omega) (by omega) (by simp; omega) ?_; intro v' w1 hown' hgrow hnn))
      have hbel' := below_push hown hbel hsz hgrow
      have hown2 := owns_push hown'
      have e : pre ++ [y] = lebU 9 x := by rw [← HQ.out, lebU_small f y (by omega)]
      rw [e] at hown2
      clear hown' hgrow hown hbel hsz hnn e
      go_wp2
      go_ret
      exact ⟨v', rfl, hown2, hbel'⟩

set_option maxHeartbeats 400000 in
theorem lebPutU_any (x : Int) (w : World) (h0 : 0 ≤ x) (h1 : x ≤ 18446744073709551615) :
    Calls Try.prog 88 #[.int .u64 x] w fun e w' => ∃ v, e = .returned v ∧ w'.ownsRow w.heap.size 5 1 v (lebU 9 x).length (U (lebU 9 x)) ∧ Below w.heap.size w w' := by
  obtain ⟨i0, hi, hz0, hz1, hz2⟩ := info_parts Try.info5
  have hfit := fitU_start h1
  go_enter Try.func88, Try.ntmps88
  go_wp2
  go_loopw [0, 3] (fun xv v wr => ∃ (f : Nat) (y : Int) (pre : List Int), xv = .int .u64 y ∧ 0 ≤ y ∧ y ≤ 18446744073709551615 ∧ fitU f y ∧ pre.length + f ≤ 9 ∧ Hid (pre ++ lebU f y = lebU 9 x) ∧ wr.ownsRow w.heap.size 5 1 v pre.length (U pre) ∧ Below w.heap.size w wr)
    (fun xv _ _ => (intOf xv).toNat)
  case atStart =>
    exact ⟨9, x, [], rfl, h0, h1, hfit, by simp, rfl, World.ownsRow_lit w #[] 0 (Nat.le_refl _) (Nat.zero_le _) rfl, (Below.refl _ _).alloc (Nat.le_refl _) _⟩
  case round =>
    obtain ⟨f, y, pre, rfl, hy0, hy1, hf, hpl, HQ, hown, hbel⟩ := hrel
    have hsz := hbel.size
    by_cases hc : 128 ≤ y
    · have hne : (cutU y 7 != y) = true := by rw [bne_iff_ne, cutU_7 y]; omega
      go_wp2_with (first | (go_at_call 89; refine (cutU_any _ _ _ (by omega) (by omega) (by omega) (by omega)).mono ?_; rintro e w' ⟨rfl, rfl⟩) | (at_builtin; refine wpList_append_own _ rfl _ _ 27 rfl w.heap.size 5 i0 (.int .u8 0) 1 1 Try.underlying27 hi hz0 hz1 hz2 rfl (by decide) _ _ _ rfl (hown.alloc _) ⟨wr.heap.size, 0, none⟩ 1 1 [.int .u8 (bits .or .u8 (y % 256) 128)] rfl rfl (cell_one_new _ _ _) (oneB _) (by unfold maxLen; omega) (by omega) (by simp; omega) ?_; intro v' w1 hown' hgrow hnn))
      have hbel' := below_push hown hbel hsz hgrow
      rw [or128] at hown'
      have hown2 := owns_push hown'
      clear hown' hgrow hown hbel hsz hnn
      go_wp2
      go_roundw
      case rel =>
        cases f with
        | zero => have := fitU_zero hf; omega
        | succ f => exact ⟨f, y / 128, pre ++ [y % 128 + 128], rfl, by omega, by omega, fitU_step hf, by simp; omega, (by show _ = _; rw [← HQ.out, lebU_step f y (by omega)]; simp), hown2, hbel'⟩
      case measure => simp [intOf]; omega
    · have hne : (cutU y 7 != y) = false := by rw [bne_eq_false_iff_eq, cutU_7 y]; omega
      go_wp2_with (first | (go_at_call 89; refine (cutU_any _ _ _ (by omega) (by omega) (by omega) (by omega)).mono ?_; rintro e w' ⟨rfl, rfl⟩) | (at_builtin; refine wpList_append_own _ rfl _ _ 27 rfl w.heap.size 5 i0 (.int .u8 0) 1 1 Try.underlying27 hi hz0 hz1 hz2 rfl (by decide) _ _ _ rfl (hown.alloc _) ⟨wr.heap.size, 0, none⟩ 1 1 [.int .u8 (bits .andNot .u8 y 128)] rfl rfl (cell_one_new _ _ _) (oneB _) (by unfold maxLen; omega) (by omega) (by simp; omega) ?_; intro v' w1 hown' hgrow hnn))
      have hbel' := below_push hown hbel hsz hgrow
      rw [andNot128' y hy0 (by omega)] at hown'
      have hown2 := owns_push hown'
      have e : pre ++ [y] = lebU 9 x := by rw [← HQ.out, lebU_small f y (by omega)]
      rw [e] at hown2
      clear hown' hgrow hown hbel hsz hnn e
      go_wp2
      go_ret
      exact ⟨v', rfl, hown2, hbel'⟩
end Go.Proofs.Ytfaajmhmcdoibaa
