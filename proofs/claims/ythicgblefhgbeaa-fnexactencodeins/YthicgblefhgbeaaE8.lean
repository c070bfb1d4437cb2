import Derived.Test.YthicgblefhgbeaaE7
set_option linter.all false
set_option linter.unusedVariables false
namespace Go.Proofs.Ythicgblefhgbeaa
open Go.RowKit Go.Sort
set_option maxRecDepth 100000
def P2 (n : Int) : Int := 2 ^ n.toNat
theorem P2_pos (n : Int) : 1 ≤ P2 n := by unfold P2; have := Int.pow_pos (n := (2 : Int)) (m := n.toNat) (by omega); omega
theorem P2_succ (n : Int) (h : 0 ≤ n) : P2 (n + 1) = 2 * P2 n := by
  unfold P2; rw [show (n + 1).toNat = n.toNat + 1 by omega, Int.pow_succ]; omega
theorem P2_le {m n : Int} (h0 : m ≤ n) : P2 m ≤ P2 n := by
  unfold P2
  have h : 2 ^ m.toNat ≤ 2 ^ n.toNat := Nat.pow_le_pow_right (by omega) (by omega)
  have h' : ((2 ^ m.toNat : Nat) : Int) ≤ ((2 ^ n.toNat : Nat) : Int) := by omega
  simpa using h'
theorem P2_63 {n : Int} (h : n ≤ 63) : P2 n ≤ 9223372036854775808 := by
  have := P2_le h; rw [show P2 63 = 9223372036854775808 by decide] at this; exact this
theorem P2_62 {n : Int} (h : n ≤ 62) : P2 n ≤ 4611686018427387904 := by
  have := P2_le h; rw [show P2 62 = 4611686018427387904 by decide] at this; exact this
set_option maxHeartbeats 400000 in
theorem pow_any (n : Int) (w : World) (h0 : 0 ≤ n) (h1 : n ≤ 63) :
    Calls Try.prog 85 #[.int .i64 n] w fun e w' => e = .returned (.int .u64 (P2 n)) ∧ w = w' := by
  go_enter Try.func85, Try.ntmps85
  go_wp2
  go_loop [3, 4] (fun x i => ∃ k : Int, 0 ≤ k ∧ k ≤ n ∧ i = .int .i64 k ∧ x = .int .u64 (P2 k)) (fun _ i => (n - intOf i).toNat)
  case atStart => exact ⟨0, by omega, h0, rfl, rfl⟩
  case round =>
    obtain ⟨k, hk0, hk, rfl, rfl⟩ := hrel
    have hp := P2_pos k
    by_cases hlt : k < n
    · have hb := P2_62 (n := k) (by omega)
      have HS : Hid (P2 (k + 1) = 2 * P2 k) := P2_succ k hk0
      go_wp2
      go_round
      case rel => exact ⟨k + 1, by omega, by omega, rfl, by rw [HS.out, Int.mul_comm]⟩
      case measure => simp [intOf]; omega
    · have e : k = n := by omega
      subst e
      go_wp2
      go_ret
      exact ⟨rfl, rfl⟩

theorem low64 (x : Int) (w : World) : Calls Try.prog 69 #[.int .u64 x, .int .i64 64] w fun e w' => e = .returned (.int .u64 x) ∧ w = w' := by
  go_enter Try.func69, Try.ntmps69
  go_wp2
  go_ret
  exact ⟨rfl, rfl⟩
theorem low32 (x : Int) (w : World) (h0 : 0 ≤ x) (h1 : x ≤ 18446744073709551615) : Calls Try.prog 69 #[.int .u64 x, .int .i64 32] w fun e w' => e = .returned (.int .u64 (x % 4294967296)) ∧ w = w' := by
  have hp : P2 32 = 4294967296 := by decide
  go_enter Try.func69, Try.ntmps69
  go_wp2_with (go_at_call 85; refine (pow_any _ _ (by omega) (by omega)).mono ?_; rintro e w' ⟨rfl, rfl⟩)
  go_ret
  exact ⟨rfl, rfl⟩
theorem signed64 (x : Int) (w : World) (h0 : 0 ≤ x) (h1 : x ≤ 18446744073709551615) : Calls Try.prog 57 #[.int .u64 x, .int .i64 64] w fun e w' => e = .returned (.int .i64 (wrap64 x)) ∧ w = w' := by
  go_enter Try.func57, Try.ntmps57
  go_wp2_with (go_at_call 69; refine (low64 _ _).mono ?_; rintro e w' ⟨rfl, rfl⟩)
  go_ret
  exact ⟨rfl, rfl⟩
theorem signed32 (x : Int) (w : World) (h0 : 0 ≤ x) (h1 : x ≤ 4294967295) : Calls Try.prog 57 #[.int .u64 x, .int .i64 32] w fun e w' => e = .returned (.int .i64 (wrap32 x)) ∧ w = w' := by
  have hx : x % 4294967296 = x := by omega
  have hp : P2 32 = 4294967296 := by decide
  have hq : P2 31 = 2147483648 := by decide
  by_cases h : 2147483648 ≤ x
  · have e : wrap32 x = x - 4294967296 := by simp only [wrap32]; omega
    rw [e]
    clear e
    go_enter Try.func57, Try.ntmps57
    go_wp2_with (first | (go_at_call 69; refine (low32 _ _ (by omega) (by omega)).mono ?_; rintro e w' ⟨rfl, rfl⟩) | (go_at_call 85; refine (pow_any _ _ (by omega) (by omega)).mono ?_; rintro e w' ⟨rfl, rfl⟩))
    go_ret
    exact ⟨rfl, rfl⟩
  · have e : wrap32 x = x := by simp only [wrap32]; omega
    rw [e]
    clear e
    go_enter Try.func57, Try.ntmps57
    go_wp2_with (first | (go_at_call 69; refine (low32 _ _ (by omega) (by omega)).mono ?_; rintro e w' ⟨rfl, rfl⟩) | (go_at_call 85; refine (pow_any _ _ (by omega) (by omega)).mono ?_; rintro e w' ⟨rfl, rfl⟩))
    go_ret
    exact ⟨rfl, rfl⟩


set_option maxHeartbeats 2000000 in
theorem snums_c (l : List Int) (la : Option Addr) (lc : Nat) (w : World) (hn : l.length ≤ 1048576) (hu : ∀ i, i < l.length → 0 ≤ l.getD i 0 ∧ l.getD i 0 ≤ 4294967295) (hH : Has w la l) :
    Calls Try.prog 55 #[.slice la l.length lc] w fun e w' => ∃ v, e = .returned v ∧ w'.ownsRow w.heap.size 5 1 v (lebU 9 l.length ++ nums l).length (U (lebU 9 l.length ++ nums l)) ∧ Below w.heap.size w w' := by
  obtain ⟨i0, hi, hz0, hz1, hz2⟩ := info_parts Try.info5
  have HU := Hid.mk' hu
  have HH := Hid.mk' hH
  have KL := Hid.mk' (specPutU_any l.length w (by omega) (by omega))
  have hll := (lebU_len 9 l.length).2
  generalize hQ : lebU 9 l.length = ys at *
  have hys : ys.length ≤ 10 := hll
  clear hu hH hQ hll
  go_enter Try.func55, Try.ntmps55
  go_wp2_with fail
  refine (KL.out).mono ?_
  rintro e w1 ⟨v1, rfl, ho1, hb1⟩
  have HW1 := Hid.mk' ho1
  have HB1 := Hid.mk' hb1
  clear ho1 hb1 KL
  go_wp2_with fail
  go_loopw [3, 4] (fun v i wr => ∃ k : Nat, k ≤ l.length ∧ i = .int .i64 k ∧ wr.ownsRow w.heap.size 5 1 v (ys ++ nums (l.take k)).length (U (ys ++ nums (l.take k))) ∧ Below w.heap.size w wr) (fun _ i _ => l.length - (intOf i).toNat)
  case atStart => exact ⟨0, Nat.zero_le _, rfl, by simpa [nums] using HW1.out, HB1.out⟩
  case round =>
    obtain ⟨k, hk, rfl, ho, hb⟩ := hrel
    clear HW1 HB1
    by_cases hlt : k < l.length
    · have hki : (k : Int) < (l.length : Int) := by omega
      rcases HH.out.keep hb with hx | ⟨b1, o1, ea, hc⟩
      · subst hx; simp at hlt
      have d := hc k hlt
      subst ea
      obtain ⟨u0, u1⟩ := HU.out k hlt
      have hs := nums_step l k hlt
      have hlk : (ys ++ nums (l.take k)).length ≤ 1099511627776 := by
        have := nums_take_len l k
        simp only [List.length_append]; omega
      generalize hy : l.getD k 0 = y at *
      have hwy : IntKind.u64.wrap y = y := by rw [IntKind.wrap_u64]; omega
      have KO := Hid.mk' (specPutU_any y wr u0 (by omega))
      have hyl := lebU_len 9 y
      generalize lebU 9 y = L at *
      generalize hpre : ys ++ nums (l.take k) = pre at *
      have hlU : (U L).length = L.length * 1 := by simp
      have HS : Hid (ys ++ nums (l.take (k + 1)) = pre ++ L) := by show _ = _; rw [hs, ← List.append_assoc, hpre]
      have HO := Hid.mk' ho
      have HB := Hid.mk' hb
      obtain ⟨hl0, hl1⟩ := hyl
      clear ho hb hc hs hy hpre HH HU
      go_wp2_with (first
        | (go_at_call 54
           refine (KO.out).mono ?_
           rintro e w2 ⟨v2, rfl, ho2, hb2⟩
           obtain ⟨g, gc, rfl, hg, hg'⟩ := By.own_split ho2 hl0
           have O2 := Hid.mk' (ownE_keep HO.out hb2 (Nat.le_refl _))
           have S2 := Hid.mk' (own_src ho2)
           have B2 := Hid.mk' (HB.out.trans (hb2.mono HB.out.size))
           clear ho2 hb2 hg hg' KO)
        | (at_builtin
           refine wpList_append_own _ rfl _ _ 34 rfl w.heap.size 5 i0 (.int .u8 0) 1 1 Try.underlying34 hi hz0 hz1 hz2 rfl (by decide) _ _ _ rfl O2.out ⟨g, 0, none⟩ L.length gc (U L) rfl hlU S2.out (oneU _) (by unfold maxLen; omega) (by omega) B2.out.size ?_
           intro v3 w3 own3 gr3 hnn
           have HO3 : Hid (w3.ownsRow w.heap.size 5 1 v3 (pre ++ L).length (U (pre ++ L))) := by show World.ownsRow _ _ _ _ _ _ _; simpa [U] using own3
           have HB3 := Hid.mk' (B2.out.grown gr3 B2.out.size (fun j hj => (O2.out.lt j hj).1))
           clear own3 gr3 hnn))
      go_roundw
      case rel => exact ⟨k + 1, by omega, by go_num, by rw [HS.out]; exact HO3.out, HB3.out⟩
      case measure => simp [intOf]; omega
    · have e : k = l.length := by omega
      subst e
      have HO := Hid.mk' ho
      have HB := Hid.mk' hb
      clear ho hb HH HU
      go_wp2
      go_ret
      refine ⟨_, rfl, ?_, HB.out⟩
      have h := HO.out
      rw [List.take_length] at h
      exact h
theorem div_step (v : Int) (k : Nat) : v / 2 ^ (8 * k) / 256 = v / 2 ^ (8 * (k + 1)) := by
  rw [Int.ediv_ediv_of_nonneg (by have := Int.pow_pos (n := (2 : Int)) (m := 8 * k) (by omega); omega)]
  rw [show 8 * (k + 1) = 8 * k + 8 by omega, Int.pow_add]
  rfl
theorem div_le (v : Int) (k : Nat) (h0 : 0 ≤ v) : 0 ≤ v / 2 ^ (8 * k) ∧ v / 2 ^ (8 * k) ≤ v := by
  have hp := Int.pow_pos (n := (2 : Int)) (m := 8 * k) (by omega)
  exact ⟨Int.ediv_nonneg h0 (by omega), Int.ediv_le_self _ h0⟩
set_option maxHeartbeats 2000000 in
theorem sfix_c (v : Int) (n : Nat) (w : World) (hn : n ≤ 8) (h0 : 0 ≤ v) (h1 : v ≤ 18446744073709551615) :
    Calls Try.prog 58 #[.int .u64 v, .int .i64 n] w fun e w' => ∃ u, e = .returned u ∧ w'.ownsRow w.heap.size 5 1 u (fx n v).length (U (fx n v)) ∧ Below w.heap.size w w' := by
  obtain ⟨i0, hi, hz0, hz1, hz2⟩ := info_parts Try.info5
  go_enter Try.func58, Try.ntmps58
  go_wp2
  go_loopw [0, 5, 6] (fun x u i wr => ∃ (k : Nat) (y : Int), k ≤ n ∧ i = .int .i64 k ∧ x = .int .u64 y ∧ 0 ≤ y ∧ y ≤ 18446744073709551615 ∧ Hid (y = v / 2 ^ (8 * k)) ∧ wr.ownsRow w.heap.size 5 1 u (fx k v).length (U (fx k v)) ∧ Below w.heap.size w wr) (fun _ _ i _ => n - (intOf i).toNat)
  case atStart => exact ⟨0, v, Nat.zero_le _, rfl, rfl, h0, h1, by show _ = _; simp, World.ownsRow_lit w #[] 0 (Nat.le_refl _) (Nat.zero_le _) rfl, (Below.refl _ _).alloc (Nat.le_refl _) _⟩
  case round =>
    obtain ⟨k, y, hk, rfl, rfl, hy0, hy1, HY, hown, hbel⟩ := hrel
    have hsz := hbel.size
    by_cases hlt : k < n
    · have hki : (k : Int) < (n : Int) := by omega
      have hlf : (fx k v).length ≤ 8 := by rw [fx_len]; omega
      have HF : Hid (fx (k + 1) v = fx k v ++ [y % 256]) := by show _ = _; rw [fx_succ, HY.out]
      have HD : Hid (y / 256 = v / 2 ^ (8 * (k + 1))) := by show _ = _; rw [HY.out, div_step]
      generalize fx k v = pre at *
      go_wp2_with (at_builtin; refine wpList_append_own _ rfl _ _ 34 rfl w.heap.size 5 i0 (.int .u8 0) 1 1 Try.underlying34 hi hz0 hz1 hz2 rfl (by decide) _ _ _ rfl (hown.alloc _) ⟨wr.heap.size, 0, none⟩ 1 1 [.int .u8 (y % 256)] rfl rfl (cell_one_new _ _ _) (oneB _) (by unfold maxLen; omega) (by omega) (by simp; omega) ?_; intro v' w1 hown' hgrow hnn; have hbel' := below_push hown hbel hsz hgrow; have hown2 := owns_push hown'; clear hown' hgrow hown hbel hsz hnn)
      go_roundw
      case rel => exact ⟨k + 1, y / 256, by omega, by go_num, rfl, by omega, by omega, HD.out, by rw [HF.out]; exact hown2, hbel'⟩
      case measure => simp [intOf]; omega
    · have e : k = n := by omega
      subst e
      go_wp2
      go_ret
      exact ⟨_, rfl, hown, hbel⟩
end Go.Proofs.Ythicgblefhgbeaa
