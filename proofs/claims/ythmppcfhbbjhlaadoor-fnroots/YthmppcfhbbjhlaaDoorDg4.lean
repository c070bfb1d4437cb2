import Derived.Test.YthmppcfhbbjhlaaDoorDg3
import Derived.WalkSmall
import Derived.Deep.CutRange
set_option linter.all false
namespace Go.Proofs.YthmppcfhbbjhlaaDoor
open Go.RowKit

theorem P2_nat (k : Nat) : P2 (k : Int) = ((2 ^ k : Nat) : Int) := by unfold P2; simp
theorem pow_nat (n : Nat) (w : World) (h1 : n ≤ 63) :
    Calls Tryd.prog 25 #[.int .i64 (n : Int)] w fun e w' => e = .returned (.int .u64 ((2 ^ n : Nat) : Int)) ∧ w' = w := by
  have h := pow_any n w (by omega) (by omega)
  rw [P2_nat] at h
  exact h.mono fun e w' h => ⟨h.1, h.2.symm⟩
theorem left_next (x i q r V c d y : Nat) (h : V + c * 4294967296 ^ (q + i) = x % 4294967296 ^ i * 2 ^ (32 * q + r)) (hd : d = x / 4294967296 ^ i % 4294967296) (hy : y = d * 2 ^ r + c) :
    V + 4294967296 ^ (q + i) * (y % 4294967296) + y / 4294967296 * 4294967296 ^ (q + i + 1) = x % 4294967296 ^ (i + 1) * 2 ^ (32 * q + r) := by
  rw [Nat.pow_succ, put_next, mod_next, ← hd, Nat.add_mul, hy, Nat.mul_add]
  have e : 4294967296 ^ (q + i) * (d * 2 ^ r) = 4294967296 ^ i * d * 2 ^ (32 * q + r) := by
    rw [Nat.pow_add, Nat.pow_add 2, ← pow32]
    generalize 4294967296 ^ q = Q
    generalize 4294967296 ^ i = I
    generalize 2 ^ r = R
    rw [Nat.mul_comm Q I, Nat.mul_assoc, Nat.mul_assoc]
    congr 1
    rw [Nat.mul_left_comm]
  rw [e, Nat.mul_comm (4294967296 ^ (q + i)) c]
  omega

set_option maxHeartbeats 4000000 in
theorem left_any (v : Value) (x n q r : Nat) (w : World) (hn : n ≤ 5000) (hnq : n = 32 * q + r) (hr : r < 32) (hx : bl x ≤ 5000) (hX : SN w v x) :
    Calls Tryd.prog 64 #[v, .int .i64 (n : Int)] w fun e w' => (∃ u, e = .returned u ∧ SN w' u (x * 2 ^ n)) ∧ Below w.heap.size w w' := by
  obtain ⟨i0, hi, hz0, hz1, hz2⟩ := info_parts info22
  have sx := dg_short (x := x) (by omega)
  obtain ⟨a, ca, rfl, hX⟩ := hX
  have LX := Hid.mk' (dg_lt x)
  have HC : Hid (∀ (wr : World) (i : Nat), i < (dg x).length → Below w.heap.size w wr → ∃ b off, a = some ⟨b, off, none⟩ ∧ wr.cell? ⟨b, off + i, none⟩ = some (.int .u64 ((x / 4294967296 ^ i % 4294967296 : Nat) : Int))) := by
    intro wr i hi' hb
    rcases hX.below hb with h | ⟨b, off, e, hc⟩
    · rw [h] at hi'; simp at hi'
    · exact ⟨b, off, e, by rw [hc i hi', dg_get]⟩
  have eq1 : (n : Int) / 32 = (q : Int) := by omega
  have er1 : (n : Int) % 32 = (r : Int) := by omega
  have eq2 : n / 32 = q := by omega
  have er2 : n % 32 = r := by omega
  have HN := Hid.mk' hnq
  have hq5 : q ≤ 200 := by omega
  have hpr : (2 : Nat) ^ r ≤ 2147483648 := pow_le (show r ≤ 31 by omega)
  have hpp := Nat.two_pow_pos r
  have KP := fun w => Hid.mk' (pow_nat r w (by omega))
  generalize hP : 2 ^ r = P at hpr hpp KP
  clear hX hx hnq
  generalize (dg x).length = L at *
  go_enter Tryd.func64, Tryd.ntmps64
  go_wp2
  go_loopw [5, 6] (fun v iv wr => ∃ k : Nat, k ≤ q ∧ iv = .int .i64 (k : Int) ∧ wr.ownsRow w.heap.size 22 1 v (List.replicate k 0).length (UN (List.replicate k 0)) ∧ Below w.heap.size w wr) (fun _ iv _ => q - (intOf iv).toNat)
  case atStart => exact ⟨0, by omega, rfl, World.ownsRow_lit w #[] 0 (Nat.le_refl _) (Nat.zero_le _) rfl, (Below.refl _ _).alloc (Nat.le_refl _) _⟩
  case round =>
    obtain ⟨k, hk, rfl, hown, hbel⟩ := hrel
    have hsz := hbel.size
    by_cases hlt : k < q
    · have t1 : (k : Int) < (q : Int) := by omega
      have hlen : (List.replicate k 0).length = k := by simp
      rw [hlen] at hown
      go_wp2_with (first | (at_builtin; refine wpList_append_own _ rfl _ _ 47 rfl w.heap.size 22 i0 (.int .u64 0) 1 8 Tryd.underlying47 hi hz0 hz1 hz2 rfl (by decide) _ _ _ rfl (hown.alloc _) ⟨wr.heap.size, 0, none⟩ 1 1 [.int .u64 (0)] rfl rfl (cell_one_new _ _ _) (oneU _) (by unfold maxLen; omega) (by omega) (by simp; omega) ?_; intro v' w1 hown' hgrow hnn))
      have hbel' := below_push hown hbel hsz hgrow
      have hown2 : w1.ownsRow w.heap.size 22 1 v' (List.replicate (k + 1) 0).length (UN (List.replicate (k + 1) 0)) := by
        rw [List.replicate_succ', List.length_append, hlen]
        simpa using hown'
      clear hown' hgrow hown hbel hsz hnn
      go_wp2
      go_roundw
      case rel => exact ⟨k + 1, by omega, by go_num, hown2, hbel'⟩
      case measure => simp [intOf]; omega
    · have t1 : ¬ (k : Int) < (q : Int) := by omega
      obtain rfl : k = q := by omega
      go_wp2
      go_loopw [5, 7, 8] (fun v cv iv wr => ∃ (i c : Nat) (pre : List Nat), iv = .int .i64 (i : Int) ∧ cv = .int .u64 (c : Int) ∧ c < P ∧ i ≤ L ∧ pre.length = k + i ∧ Hid (AllD pre) ∧ Hid (vl pre + c * 4294967296 ^ (k + i) = x % 4294967296 ^ i * 2 ^ (32 * k + r)) ∧ wr.ownsRow w.heap.size 22 1 v pre.length (UN pre) ∧ Below w.heap.size w wr) (fun _ _ iv _ => L - (intOf iv).toNat)
      case atStart => exact ⟨0, 0, _, rfl, rfl, hpp, Nat.zero_le _, by simp, allD_zeros k, by show _ = _; simp [vl_zeros, Nat.mod_one], hown, hbel⟩
      case round =>
        clear hown hbel hsz
        obtain ⟨i, c, pre, rfl, rfl, hc, hi', hl, HA, HQ, hown, hbel⟩ := hrel
        have hsz := hbel.size
        by_cases hlt : i < L
        · have t2 : (i : Int) < (L : Int) := by omega
          obtain ⟨b, off, rfl, hcell⟩ := HC.out wr i hlt hbel
          have HS := fun y hy => Hid.mk' (left_next x i k r (vl pre) c _ y HQ.out rfl hy)
          have hd : x / 4294967296 ^ i % 4294967296 < 4294967296 := Nat.mod_lt _ (by decide)
          generalize x / 4294967296 ^ i % 4294967296 = d at *
          have hm1 : d * P ≤ 4294967295 * P := Nat.mul_le_mul_right P (by omega)
          obtain ⟨y, hy⟩ : ∃ y : Nat, y = d * P + c := ⟨_, rfl⟩
          have hy1 : y < 4294967296 * P := by omega
          have HS := HS y (by rw [hP]; exact hy)
          have EY : (d : Int) * (P : Int) + (c : Int) = (y : Int) := by rw [hy]; simp
          have EM : IntKind.u64.wrap ((d : Int) * (P : Int)) = (d : Int) * (P : Int) := by
            have e : ((d * P : Nat) : Int) = (d : Int) * (P : Int) := by simp
            rw [IntKind.wrap_u64, ← e]; omega
          have EW : IntKind.u64.wrap (y : Int) = (y : Int) := by rw [IntKind.wrap_u64]; omega
          have HY := Hid.mk' hy
          clear hy
          go_upto_region 10 with fail
          go_quiet ((go_at_call 25; refine Calls.quiet_of_same (KP _).out))
          have hownq : (wr.drewN nq).ownsRow w.heap.size 22 1 u5 pre.length (UN pre) := hown
          have hbelq : Below w.heap.size w (wr.drewN nq) := below_drewN hbel nq
          clear hown hbel hsz hcell
          generalize wr.drewN nq = wq at *
          have hsz := hbelq.size
          have E1 : Hid ((y : Int) % 4294967296 = ((y % 4294967296 : Nat) : Int)) := by show _ = _; omega
          go_wp2_with (first | (at_builtin; refine wpList_append_own _ rfl _ _ 47 rfl w.heap.size 22 i0 (.int .u64 0) 1 8 Tryd.underlying47 hi hz0 hz1 hz2 rfl (by decide) _ _ _ rfl (hownq.alloc _) ⟨wq.heap.size, 0, none⟩ 1 1 [.int .u64 ((y : Int) % 4294967296)] rfl rfl (cell_one_new _ _ _) (oneU _) (by unfold maxLen; omega) (by omega) (by simp; omega) ?_; intro v' w1 hown' hgrow hnn))
          have hbel' := below_push hownq hbelq hsz hgrow
          rw [E1.out] at hown'
          have hown2 := owns_push hown'
          clear hown' hgrow hownq hbelq hsz hnn
          go_wp2
          go_roundw
          case rel =>
            have hy := HY.out
            refine ⟨i + 1, y / 4294967296, pre ++ [y % 4294967296], by go_num, by go_num, ?_, by omega, by simp; omega, allD_one HA.out (Nat.mod_lt _ (by decide)), ?_, hown2, hbel'⟩
            · rw [Nat.div_lt_iff_lt_mul (by decide), Nat.mul_comm]; exact hy1
            · show _ = _
              rw [vl_one, hl]
              have := HS.out
              rw [← Nat.add_assoc]
              exact this
          case measure => simp [intOf]; omega
        · have t2 : ¬ (i : Int) < (L : Int) := by omega
          obtain rfl : i = L := by omega
          have hP2 : P ≤ 4294967296 := by omega
          have HV : Hid (vl (pre ++ [c]) = x * 2 ^ n) := by
            show _ = _
            have h := HQ.out
            rw [Nat.mod_eq_of_lt LX.out, ← HN.out] at h
            rw [vl_one, hl, Nat.mul_comm _ c]
            exact h
          have HA2 := Hid.mk' (allD_one (d := c) HA.out (by omega))
          go_wp2_with (first | (at_builtin; refine wpList_append_own _ rfl _ _ 47 rfl w.heap.size 22 i0 (.int .u64 0) 1 8 Tryd.underlying47 hi hz0 hz1 hz2 rfl (by decide) _ _ _ rfl (hown.alloc _) ⟨wr.heap.size, 0, none⟩ 1 1 [.int .u64 ((c : Int))] rfl rfl (cell_one_new _ _ _) (oneU _) (by unfold maxLen; omega) (by omega) (by simp; omega) ?_; intro v' w1 hown' hgrow hnn))
          have hbel' := below_push hown hbel hsz hgrow
          have hown2 := owns_push hown'
          have KT := Hid.mk' (trim_own w1 (x * 2 ^ n) (by simp; omega) hown2 HA2.out HV.out)
          have HB := Hid.mk' hbel'
          clear hown' hgrow hown hbel hsz hnn hown2 hbel'
          go_wp2_with fail
          refine KT.out.mono ?_
          rintro e w2 ⟨⟨u, rfl, hu⟩, rfl⟩
          go_wp2
          go_ret
          exact ⟨⟨u, rfl, hu⟩, HB.out⟩
end Go.Proofs.YthmppcfhbbjhlaaDoor
