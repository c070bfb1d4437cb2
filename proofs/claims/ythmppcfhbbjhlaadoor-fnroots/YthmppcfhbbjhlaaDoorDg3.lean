import Derived.Test.YthmppcfhbbjhlaaDoorDg2
set_option linter.all false
namespace Go.Proofs.YthmppcfhbbjhlaaDoor
open Go.RowKit

theorem mod_next (x k : Nat) : x % 4294967296 ^ (k + 1) = x % 4294967296 ^ k + 4294967296 ^ k * (x / 4294967296 ^ k % 4294967296) := by
  rw [Nat.pow_succ, Nat.mod_mul]
theorem put_next (V K y : Nat) : V + K * (y % 4294967296) + y / 4294967296 * (K * 4294967296) = V + K * y := by
  have := left_step 0 0 0 y 0 K (by omega) y
  have e := Nat.mod_add_div y 4294967296
  have e2 : y / 4294967296 * (K * 4294967296) = K * (4294967296 * (y / 4294967296)) := by
    rw [Nat.mul_comm K 4294967296, Nat.mul_left_comm, ← Nat.mul_assoc, Nat.mul_comm K]
  rw [e2, Nat.add_assoc, ← Nat.mul_add, e]
theorem add_step {V c K x y p q k : Nat} (hK : K = 4294967296 ^ k) (h : V + c * K = x % K + y % K) (hp : p = x / K % 4294967296) (hq : q = y / K % 4294967296) :
    V + K * ((p + q + c) % 4294967296) + (p + q + c) / 4294967296 * (K * 4294967296) = x % 4294967296 ^ (k + 1) + y % 4294967296 ^ (k + 1) := by
  rw [put_next, mod_next, mod_next, ← hK, ← hp, ← hq, Nat.mul_add, Nat.mul_add, Nat.mul_comm K c]
  omega
theorem add_end {V c x y n : Nat} (hx : x < 4294967296 ^ n) (hy : y < 4294967296 ^ n) (h : V + c * 4294967296 ^ (n + 1) = x % 4294967296 ^ (n + 1) + y % 4294967296 ^ (n + 1)) : c = 0 := by
  by_cases hc : c = 0
  · exact hc
  · have h1 := Nat.mul_le_mul_right (4294967296 ^ (n + 1)) (show 1 ≤ c by omega)
    have h2 := Nat.mod_le x (4294967296 ^ (n + 1))
    have h3 := Nat.mod_le y (4294967296 ^ (n + 1))
    rw [Nat.pow_succ] at *
    omega

set_option maxHeartbeats 2000000 in
theorem addN_any (v u : Value) (x y : Nat) (w : World) (hx : bl x ≤ 10000) (hy : bl y ≤ 10000) (hX : SN w v x) (hY : SN w u y) :
    Calls Tryd.prog 69 #[v, u] w fun e w' => (∃ r, e = .returned r ∧ SN w' r (x + y)) ∧ Below w.heap.size w w' := by
  obtain ⟨i0, hi, hz0, hz1, hz2⟩ := info_parts info22
  have sx := dg_short (x := x) (by omega)
  have sy := dg_short (x := y) (by omega)
  have KX := fun wr k hk (hb : Below w.heap.size w wr) => Hid.mk' (at_nat v x k wr (by omega) (hX.below hb) hk)
  have KY := fun wr k hk (hb : Below w.heap.size w wr) => Hid.mk' (at_nat u y k wr (by omega) (hY.below hb) hk)
  have LX := Hid.mk' (dg_lt x)
  have LY := Hid.mk' (dg_lt y)
  obtain ⟨a, ca, rfl, hX⟩ := hX
  obtain ⟨b, cb, rfl, hY⟩ := hY
  clear hX hY hx hy
  generalize (dg x).length = la at *
  generalize (dg y).length = lb at *
  go_enter Tryd.func69, Tryd.ntmps69
  go_wp2
  go_loopw [5, 6, 7] (fun v cv iv wr => ∃ (k c : Nat) (pre : List Nat), iv = .int .i64 (k : Int) ∧ cv = .int .u64 (c : Int) ∧ c ≤ 1 ∧ pre.length = k ∧ k ≤ max la lb + 1 ∧ Hid (AllD pre) ∧ Hid (vl pre + c * 4294967296 ^ k = x % 4294967296 ^ k + y % 4294967296 ^ k) ∧ wr.ownsRow w.heap.size 22 1 v pre.length (UN pre) ∧ Below w.heap.size w wr) (fun _ _ iv _ => max la lb + 2 - (intOf iv).toNat)
  case atStart => exact ⟨0, 0, [], rfl, rfl, by omega, rfl, by omega, fun d hd => by simp at hd, by show _ = _; simp [vl, Nat.mod_one], World.ownsRow_lit w #[] 0 (Nat.le_refl _) (Nat.zero_le _) rfl, (Below.refl _ _).alloc (Nat.le_refl _) _⟩
  case round =>
    obtain ⟨k, c, pre, rfl, rfl, hc, rfl, hk, HA, HQ, hown, hbel⟩ := hrel
    have hsz := hbel.size
    have KXk := KX wr pre.length (by omega) hbel
    have KYk := KY wr pre.length (by omega) hbel
    have HS := Hid.mk' (add_step rfl HQ.out rfl rfl)
    have hp : x / 4294967296 ^ pre.length % 4294967296 < 4294967296 := Nat.mod_lt _ (by decide)
    have hq : y / 4294967296 ^ pre.length % 4294967296 < 4294967296 := Nat.mod_lt _ (by decide)
    have HZ : pre.length = max la lb + 1 → c = 0 := fun e => by
      have h := HQ.out
      rw [e] at h
      exact add_end (n := max la lb) (Nat.lt_of_lt_of_le LX.out (Nat.pow_le_pow_right (by decide) (by omega))) (Nat.lt_of_lt_of_le LY.out (Nat.pow_le_pow_right (by decide) (by omega))) h
    have HEND : la ≤ pre.length → lb ≤ pre.length → c = 0 → Hid (vl pre = x + y) := fun h1 h2 h3 => by
      have h := HQ.out
      rw [h3, Nat.mod_eq_of_lt (Nat.lt_of_lt_of_le LX.out (Nat.pow_le_pow_right (by decide) h1)), Nat.mod_eq_of_lt (Nat.lt_of_lt_of_le LY.out (Nat.pow_le_pow_right (by decide) h2))] at h
      show _ = _
      omega
    generalize x / 4294967296 ^ pre.length % 4294967296 = p at *
    generalize y / 4294967296 ^ pre.length % 4294967296 = q at *
    clear KX KY HQ LX LY
    by_cases h1 : pre.length < la
    · have t1 : (pre.length : Int) < (la : Int) := by omega
      clear HZ HEND
      go_wp2_with fail
      refine KXk.out.mono ?_
      rintro e w1 ⟨rfl, rfl⟩
      go_wp2_with fail
      refine KYk.out.mono ?_
      rintro e w1 ⟨rfl, rfl⟩
      have E1 : Hid (((p : Int) + q + c) % 4294967296 = (((p + q + c) % 4294967296 : Nat) : Int)) := by show _ = _; omega
      go_wp2_with (first | (at_builtin; refine wpList_append_own _ rfl _ _ 47 rfl w.heap.size 22 i0 (.int .u64 0) 1 8 Tryd.underlying47 hi hz0 hz1 hz2 rfl (by decide) _ _ _ rfl (hown.alloc _) ⟨wr.heap.size, 0, none⟩ 1 1 [.int .u64 (((p : Int) + q + c) % 4294967296)] rfl rfl (cell_one_new _ _ _) (oneU _) (by unfold maxLen; omega) (by omega) (by simp; omega) ?_; intro v' w1 hown' hgrow hnn))
      have hbel' := below_push hown hbel hsz hgrow
      rw [E1.out] at hown'
      have hown2 := owns_push hown'
      clear hown' hgrow hown hbel hsz hnn
      go_wp2
      go_roundw
      case rel =>
        refine ⟨pre.length + 1, (p + q + c) / 4294967296, pre ++ [(p + q + c) % 4294967296], by go_num, by go_num, by omega, by simp, by omega, allD_one HA.out (Nat.mod_lt _ (by decide)), ?_, hown2, hbel'⟩
        show _ = _
        rw [vl_one]
        have := HS.out
        rw [Nat.pow_succ]
        exact this
      case measure =>
        simp [intOf]; omega
    · have t1 : ¬ (pre.length : Int) < (la : Int) := by omega
      by_cases h2 : pre.length < lb
      · have t2 : (pre.length : Int) < (lb : Int) := by omega
        clear HZ HEND
        go_wp2_with fail
        refine KXk.out.mono ?_
        rintro e w1 ⟨rfl, rfl⟩
        go_wp2_with fail
        refine KYk.out.mono ?_
        rintro e w1 ⟨rfl, rfl⟩
        have E1 : Hid (((p : Int) + q + c) % 4294967296 = (((p + q + c) % 4294967296 : Nat) : Int)) := by show _ = _; omega
        go_wp2_with (first | (at_builtin; refine wpList_append_own _ rfl _ _ 47 rfl w.heap.size 22 i0 (.int .u64 0) 1 8 Tryd.underlying47 hi hz0 hz1 hz2 rfl (by decide) _ _ _ rfl (hown.alloc _) ⟨wr.heap.size, 0, none⟩ 1 1 [.int .u64 (((p : Int) + q + c) % 4294967296)] rfl rfl (cell_one_new _ _ _) (oneU _) (by unfold maxLen; omega) (by omega) (by simp; omega) ?_; intro v' w1 hown' hgrow hnn))
        have hbel' := below_push hown hbel hsz hgrow
        rw [E1.out] at hown'
        have hown2 := owns_push hown'
        clear hown' hgrow hown hbel hsz hnn
        go_wp2
        go_roundw
        case rel =>
          refine ⟨pre.length + 1, (p + q + c) / 4294967296, pre ++ [(p + q + c) % 4294967296], by go_num, by go_num, by omega, by simp, by omega, allD_one HA.out (Nat.mod_lt _ (by decide)), ?_, hown2, hbel'⟩
          show _ = _
          rw [vl_one]
          have := HS.out
          rw [Nat.pow_succ]
          exact this
        case measure =>
          simp [intOf]; omega
      · have t2 : ¬ (pre.length : Int) < (lb : Int) := by omega
        by_cases h3 : c = 0
        · subst h3
          have HE := HEND (by omega) (by omega) rfl
          have KT := Hid.mk' (trim_own wr (x + y) (by omega) hown HA.out HE.out)
          have HB := Hid.mk' hbel
          clear HEND HZ HE hown hbel HS KXk KYk
          go_wp2_with fail
          refine KT.out.mono ?_
          rintro e w1 ⟨⟨r, rfl, hr⟩, rfl⟩
          go_wp2
          go_ret
          exact ⟨⟨r, rfl, hr⟩, HB.out⟩
        · have HK2 : Hid (pre.length ≤ max la lb) := by
            by_cases e : pre.length = max la lb + 1
            · exact absurd (HZ e) h3
            · show _ ≤ _; omega
          obtain rfl : c = 1 := by omega
          clear HZ HEND h1 h2 h3
          go_wp2_with fail
          refine KXk.out.mono ?_
          rintro e w1 ⟨rfl, rfl⟩
          go_wp2_with fail
          refine KYk.out.mono ?_
          rintro e w1 ⟨rfl, rfl⟩
          have E1 : Hid (((p : Int) + q + 1) % 4294967296 = (((p + q + 1) % 4294967296 : Nat) : Int)) := by show _ = _; omega
          go_wp2_with (first | (at_builtin; refine wpList_append_own _ rfl _ _ 47 rfl w.heap.size 22 i0 (.int .u64 0) 1 8 Tryd.underlying47 hi hz0 hz1 hz2 rfl (by decide) _ _ _ rfl (hown.alloc _) ⟨wr.heap.size, 0, none⟩ 1 1 [.int .u64 (((p : Int) + q + 1) % 4294967296)] rfl rfl (cell_one_new _ _ _) (oneU _) (by unfold maxLen; omega) (by omega) (by simp; omega) ?_; intro v' w1 hown' hgrow hnn))
          have hbel' := below_push hown hbel hsz hgrow
          rw [E1.out] at hown'
          have hown2 := owns_push hown'
          clear hown' hgrow hown hbel hsz hnn
          go_wp2
          go_roundw
          case rel =>
            have hk2 := HK2.out
            refine ⟨pre.length + 1, (p + q + 1) / 4294967296, pre ++ [(p + q + 1) % 4294967296], by go_num, by go_num, by omega, by simp, by omega, allD_one HA.out (Nat.mod_lt _ (by decide)), ?_, hown2, hbel'⟩
            show _ = _
            rw [vl_one]
            have := HS.out
            rw [Nat.pow_succ]
            exact this
          case measure =>
            have hk2 := HK2.out
            simp [intOf]; omega
end Go.Proofs.YthmppcfhbbjhlaaDoor
