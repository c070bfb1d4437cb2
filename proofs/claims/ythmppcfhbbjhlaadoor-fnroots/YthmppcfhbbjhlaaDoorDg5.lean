import Derived.Test.YthmppcfhbbjhlaaDoorDg4
import Derived.Deep.RegionWith
set_option linter.all false
namespace Go.Proofs.YthmppcfhbbjhlaaDoor
open Go.RowKit

theorem right_dig (Y r P R : Nat) (hP : P = 2 ^ r) (hR : R = 2 ^ (32 - r)) (hr : r < 32) :
    (Y % 4294967296 / P + Y / 4294967296 % 4294967296 % P * R) % 4294967296 = Y / P % 4294967296 ∧ Y % 4294967296 / P + Y / 4294967296 % 4294967296 % P * R < 8589934592 := by
  have hPR : P * R = 4294967296 := by rw [hP, hR, ← Nat.pow_add]; rw [show r + (32 - r) = 32 by omega]
  have hp : 0 < P := by rw [hP]; exact Nat.two_pow_pos r
  have hr0 : 0 < R := by rw [hR]; exact Nat.two_pow_pos _
  have e1 : Y / 4294967296 % 4294967296 % P = Y / 4294967296 % P := by
    rw [← hPR, Nat.mod_mul_right_mod]
  rw [e1]
  have hY : Y = Y % 4294967296 + 4294967296 * (Y / 4294967296) := (Nat.mod_add_div Y 4294967296).symm
  have hlo : Y % 4294967296 < 4294967296 := Nat.mod_lt _ (by decide)
  generalize Y % 4294967296 = lo at *
  generalize Y / 4294967296 = h at *
  have h1 : Y / P = lo / P + R * h := by
    rw [hY, ← hPR, Nat.mul_assoc, Nat.add_mul_div_left _ _ hp]
  have h2 := Nat.mod_add_div h P
  have h3 : lo / P + R * h = (lo / P + h % P * R) + 4294967296 * (h / P) := by
    rw [← hPR]
    have e : R * h = R * (h % P) + R * (P * (h / P)) := by rw [← Nat.mul_add, h2]
    have e2 : P * R * (h / P) = R * (P * (h / P)) := by rw [Nat.mul_comm P R, Nat.mul_assoc]
    rw [e, e2, Nat.mul_comm R (h % P)]; omega
  have hq1 : lo / P < R := by rw [Nat.div_lt_iff_lt_mul hp, Nat.mul_comm, hPR]; exact hlo
  have hq2 : h % P < P := Nat.mod_lt _ hp
  have hq3 := Nat.mul_le_mul_right R (show h % P + 1 ≤ P by omega)
  rw [Nat.add_mul, hPR] at hq3
  refine ⟨?_, by omega⟩
  rw [h1, h3, Nat.add_mul_mod_self_left]
theorem right_at (x n q r j : Nat) (hn : n = 32 * q + r) : x / 4294967296 ^ (q + j) / 2 ^ r = x / 2 ^ n / 4294967296 ^ j := by
  rw [Nat.div_div_eq_div_mul, Nat.div_div_eq_div_mul, hn, Nat.pow_add, Nat.pow_add, ← pow32]
  congr 1
  generalize 4294967296 ^ q = Q
  generalize 4294967296 ^ j = J
  generalize 2 ^ r = R
  rw [Nat.mul_assoc, Nat.mul_assoc, Nat.mul_comm J R]
theorem lost_next (x k : Nat) : (decide (x % 4294967296 ^ k ≠ 0) || decide (x / 4294967296 ^ k % 4294967296 ≠ 0)) = decide (x % 4294967296 ^ (k + 1) ≠ 0) := by
  rw [mod_next, Bool.eq_iff_iff]
  have hK : 0 < 4294967296 ^ k := Nat.pow_pos (by decide)
  generalize x / 4294967296 ^ k % 4294967296 = d
  generalize x % 4294967296 ^ k = m
  generalize 4294967296 ^ k = K at *
  simp only [Bool.or_eq_true, decide_eq_true_eq]
  by_cases hd : d = 0
  · subst hd; simp
  · have : 0 < K * d := Nat.mul_pos hK (by omega)
    constructor
    · intro _; omega
    · intro _; right; exact hd
theorem lost_end (x n q r L k : Nat) (hn : n = 32 * q + r) (hL : x < 4294967296 ^ L) (hk : k = min q L) :
    (decide (x % 4294967296 ^ k ≠ 0) || decide (x / 4294967296 ^ q % 4294967296 % 2 ^ r ≠ 0)) = decide (x % 2 ^ n ≠ 0) ∨ 32 ≤ r := by
  by_cases hr : 32 ≤ r
  · exact .inr hr
  left
  have e0 : x % 4294967296 ^ k = x % 4294967296 ^ q := by
    by_cases hq : q ≤ L
    · rw [hk, Nat.min_eq_left hq]
    · rw [hk, Nat.min_eq_right (by omega), Nat.mod_eq_of_lt hL, Nat.mod_eq_of_lt (Nat.lt_of_lt_of_le hL (Nat.pow_le_pow_right (by decide) (by omega)))]
  have e1 : x / 4294967296 ^ q % 4294967296 % 2 ^ r = x / 4294967296 ^ q % 2 ^ r := by
    have : 4294967296 = 2 ^ r * 2 ^ (32 - r) := by rw [← Nat.pow_add, show r + (32 - r) = 32 by omega]
    rw [this, ← this]
    conv => lhs; rw [show (4294967296 : Nat) = 2 ^ r * 2 ^ (32 - r) from this]
    rw [Nat.mod_mul_right_mod, ← this]
  have e2 : x % 2 ^ n = x % 4294967296 ^ q + 4294967296 ^ q * (x / 4294967296 ^ q % 2 ^ r) := by
    rw [hn, Nat.pow_add, ← pow32, Nat.mod_mul]
  rw [e0, e1, e2, Bool.eq_iff_iff]
  have hK : 0 < 4294967296 ^ q := Nat.pow_pos (by decide)
  generalize x / 4294967296 ^ q % 2 ^ r = d
  generalize x % 4294967296 ^ q = m
  generalize 4294967296 ^ q = K at *
  simp only [Bool.or_eq_true, decide_eq_true_eq]
  by_cases hd : d = 0
  · subst hd; simp
  · have : 0 < K * d := Nat.mul_pos hK (by omega)
    constructor
    · intro _; omega
    · intro _; right; exact hd

set_option maxHeartbeats 4000000 in
theorem right_any (v : Value) (x n q r : Nat) (w : World) (hn : n ≤ 5000) (hnq : n = 32 * q + r) (hr : r < 32) (hx : bl x ≤ 5000) (hX : SN w v x) :
    Calls Tryd.prog 73 #[v, .int .i64 (n : Int)] w fun e w' => (∃ u, e = .returned (.tuple #[u, .bool (decide (x % 2 ^ n ≠ 0))]) ∧ SN w' u (x / 2 ^ n)) ∧ Below w.heap.size w w' := by
  obtain ⟨i0, hi, hz0, hz1, hz2⟩ := info_parts info22
  have sx := dg_short (x := x) (by omega)
  have KA := fun wr k hk (hb : Below w.heap.size w wr) => Hid.mk' (at_nat v x k wr (by omega) (hX.below hb) hk)
  obtain ⟨a, ca, rfl, hX⟩ := hX
  have LX := Hid.mk' (dg_lt x)
  have HC : Hid (∀ (wr : World) (i : Nat), i < (dg x).length → Below w.heap.size w wr → ∃ b off, a = some ⟨b, off, none⟩ ∧ wr.cell? ⟨b, off + i, none⟩ = some (.int .u64 ((x / 4294967296 ^ i % 4294967296 : Nat) : Int))) := by
    intro wr i hi' hb
    rcases hX.below hb with h | ⟨b, off, e, hc⟩
    · rw [h] at hi'; simp at hi'
    · exact ⟨b, off, e, by rw [hc i hi', dg_get]⟩
  have eq1 : (n : Int) / 32 = (q : Int) := by omega
  have er1 : (n : Int) % 32 = (r : Int) := by omega
  have eq2 : n / 32 = q := by omega
  have er2 : n % 32 = r := by omega
  have HN := Hid.mk' hnq
  have hq5 : q ≤ 200 := by omega
  have hpr : (2 : Nat) ^ r ≤ 2147483648 := pow_le (show r ≤ 31 by omega)
  have hpp := Nat.two_pow_pos r
  have hRr : (2 : Nat) ^ (32 - r) ≤ 4294967296 := pow_le (show 32 - r ≤ 32 by omega)
  have hRp := Nat.two_pow_pos (32 - r)
  have KP := fun w => Hid.mk' (pow_nat r w (by omega))
  have KR := fun w => Hid.mk' (pow_nat (32 - r) w (by omega))
  have e32 : ((32 - r : Nat) : Int) = 32 - (r : Int) := by omega
  obtain ⟨r2, hr2⟩ : ∃ r2 : Int, 32 - (r : Int) = r2 := ⟨_, rfl⟩
  rw [e32, hr2] at KR
  generalize hP : 2 ^ r = P at hpr hpp KP
  generalize hR : 2 ^ (32 - r) = R at hRr hRp KR
  have hP0 : (P : Int) ≠ 0 := by omega
  clear hX hx hnq e32
  generalize (dg x).length = L at *
  have HW0 : Hid (Below w.heap.size w w) := Below.refl _ _
  go_enter Tryd.func73, Tryd.ntmps73
  go_wp2
  go_loop [6, 7] (fun lv iv => ∃ k : Nat, k ≤ q ∧ k ≤ L ∧ iv = .int .i64 (k : Int) ∧ ∃ b : Bool, lv = .bool b ∧ Hid (b = decide (x % 4294967296 ^ k ≠ 0))) (fun _ iv => q - (intOf iv).toNat)
  case atStart => exact ⟨0, by omega, by omega, rfl, false, rfl, by show _ = _; simp [Nat.mod_one]⟩
  case round =>
    obtain ⟨k, hkq, hkL, rfl, b0, rfl, HB0⟩ := hrel
    by_cases hlt : k < q ∧ k < L
    · obtain ⟨h1, h2⟩ := hlt
      have t1 : (k : Int) < (q : Int) := by omega
      have t2 : (k : Int) < (L : Int) := by omega
      obtain ⟨b, off, rfl, hcell⟩ := HC.out w k h2 HW0.out
      have HL := Hid.mk' (lost_next x k)
      generalize x / 4294967296 ^ k % 4294967296 = d at *
      clear KA HC KP KR
      cases b0
      · obtain ⟨z, hz⟩ : ∃ z : Bool, ((d : Int) != 0) = z := ⟨_, rfl⟩
        go_wp2
        go_round
        case rel =>
          refine ⟨k + 1, by omega, by omega, by go_num, _, rfl, ?_⟩
          show _ = _
          rw [← HL.out, ← HB0.out, Bool.false_or]
          first | (rw [← hz, Bool.eq_iff_iff]; simp; try omega) | (rw [Bool.eq_iff_iff]; simp; try omega)
        case measure => simp [intOf]; omega
      · go_wp2
        go_round
        case rel =>
          refine ⟨k + 1, by omega, by omega, by go_num, _, rfl, ?_⟩
          show _ = _
          rw [← HL.out, ← HB0.out, Bool.true_or]
        case measure => simp [intOf]; omega
    · have hkm : k = min q L := by omega
      have HEnd := Hid.mk' ((lost_end x n q r L k HN.out LX.out hkm).resolve_right (by omega))
      rw [← HB0.out] at HEnd
      have KAq := KA w q (by omega) HW0.out
      rw [hP] at HEnd
      have hlt2 : ¬ k < q ∨ ¬ k < L := by omega
      clear hkm hlt
      clear HB0
      generalize x / 4294967296 ^ q % 4294967296 = dq at *
      obtain ⟨lw, hlw⟩ : ∃ lw : Nat, lw = dq % P := ⟨_, rfl⟩
      by_cases h1 : k < q
      · obtain rfl : L = k := by omega
        have t1 : (L : Int) < (q : Int) := by omega
        have EL : (dq : Int) % (P : Int) = (lw : Int) := by rw [hlw]; simp
        have HLW := Hid.mk' hlw
        clear hlw
        go_wp2_with fail
        refine KAq.out.mono ?_
        rintro e w1 ⟨rfl, rfl⟩
        go_wp2_with fail
        refine ((KP _).out.mono fun e w' h => ⟨h.1, h.2.symm⟩ : Calls Tryd.prog 25 _ _ fun e w' => e = _ ∧ _ = w').mono ?_
        rintro e w1 ⟨rfl, rfl⟩
        go_wp2
        go_loopw [9, 10] (fun v iv wr => ∃ (m : Nat) (pre : List Nat), iv = .int .i64 (m : Int) ∧ q ≤ m ∧ m ≤ max q L ∧ pre.length + q = m ∧ Hid (AllD pre) ∧ Hid (vl pre = x / 2 ^ n % 4294967296 ^ pre.length) ∧ wr.ownsRow w.heap.size 22 1 v pre.length (UN pre) ∧ Below w.heap.size w wr) (fun _ iv _ => max q L - (intOf iv).toNat)
        case atStart => exact ⟨q, [], rfl, Nat.le_refl _, by omega, by simp, fun d hd => by simp at hd, by show _ = _; simp [vl, Nat.mod_one], World.ownsRow_lit w #[] 0 (Nat.le_refl _) (Nat.zero_le _) rfl, (Below.refl _ _).alloc (Nat.le_refl _) _⟩
        case round =>
          obtain ⟨m, pre, rfl, hqm, hmL, hl, HA, HQ, hown, hbel⟩ := hrel
          have hsz := hbel.size
          by_cases hlt : m < L
          · exfalso; omega
          · have t2 : ¬ (m : Int) < (L : Int) := by omega
            have HV : Hid (vl pre = x / 2 ^ n) := by
              show _ = _
              rw [HQ.out, Nat.mod_eq_of_lt]
              rw [Nat.div_lt_iff_lt_mul (Nat.two_pow_pos n)]
              have h1 : x < 4294967296 ^ (pre.length + q) := Nat.lt_of_lt_of_le LX.out (Nat.pow_le_pow_right (by decide) (by omega))
              have h2 : 4294967296 ^ (pre.length + q) ≤ 4294967296 ^ pre.length * 2 ^ n := by
                rw [Nat.pow_add, pow32 q]
                exact Nat.mul_le_mul_left _ (pow_le (by have := HN.out; omega))
              omega
            have KT := Hid.mk' (trim_own wr (x / 2 ^ n) (by omega) hown HA.out HV.out)
            have HB := Hid.mk' hbel
            clear hown hbel hsz KA HC KP KR
            cases b0
            · obtain ⟨z, hz⟩ : ∃ z : Bool, ((lw : Int) != 0) = z := ⟨_, rfl⟩
              go_wp2_with fail
              refine KT.out.mono ?_
              rintro e w2 ⟨⟨u, rfl, hu⟩, rfl⟩
              go_wp2
              go_ret2
              refine ⟨⟨u, ?_, hu⟩, HB.out⟩
              rw [← HEnd.out, Bool.false_or]
              refine congrArg (fun b => Ending.returned (Value.tuple #[u, Value.bool b])) ?_
              have h9 := HLW.out
              rw [← h9]
              first | (rw [← hz, Bool.eq_iff_iff]; simp; try omega) | (rw [Bool.eq_iff_iff]; simp; try omega)
            · go_wp2_with fail
              refine KT.out.mono ?_
              rintro e w2 ⟨⟨u, rfl, hu⟩, rfl⟩
              go_wp2
              go_ret2
              refine ⟨⟨u, ?_, hu⟩, HB.out⟩
              rw [← HEnd.out, Bool.true_or]
              rfl
      · obtain rfl : q = k := by omega
        have EL : (dq : Int) % (P : Int) = (lw : Int) := by rw [hlw]; simp
        have HLW := Hid.mk' hlw
        clear hlw
        go_wp2_with fail
        refine KAq.out.mono ?_
        rintro e w1 ⟨rfl, rfl⟩
        go_wp2_with fail
        refine ((KP _).out.mono fun e w' h => ⟨h.1, h.2.symm⟩ : Calls Tryd.prog 25 _ _ fun e w' => e = _ ∧ _ = w').mono ?_
        rintro e w1 ⟨rfl, rfl⟩
        go_wp2
        go_loopw [9, 10] (fun v iv wr => ∃ (m : Nat) (pre : List Nat), iv = .int .i64 (m : Int) ∧ q ≤ m ∧ m ≤ max q L ∧ pre.length + q = m ∧ Hid (AllD pre) ∧ Hid (vl pre = x / 2 ^ n % 4294967296 ^ pre.length) ∧ wr.ownsRow w.heap.size 22 1 v pre.length (UN pre) ∧ Below w.heap.size w wr) (fun _ iv _ => max q L - (intOf iv).toNat)
        case atStart => exact ⟨q, [], rfl, Nat.le_refl _, by omega, by simp, fun d hd => by simp at hd, by show _ = _; simp [vl, Nat.mod_one], World.ownsRow_lit w #[] 0 (Nat.le_refl _) (Nat.zero_le _) rfl, (Below.refl _ _).alloc (Nat.le_refl _) _⟩
        case round =>
          obtain ⟨m, pre, rfl, hqm, hmL, hl, HA, HQ, hown, hbel⟩ := hrel
          have hsz := hbel.size
          by_cases hlt : m < L
          · have t2 : (m : Int) < (L : Int) := by omega
            obtain ⟨b, off, rfl, hcell⟩ := HC.out wr m hlt hbel
            have KA1 : ∀ k, Hid (Calls Tryd.prog 74 #[.slice (some ⟨b, off, none⟩) L ca, .int .i64 ((m : Int) + 1)] (wr.drewN k) fun e w' => e = .returned (.int .u64 ((x / 4294967296 ^ (m + 1) % 4294967296 : Nat) : Int)) ∧ w' = wr.drewN k) := fun k => by
              have h := (KA (wr.drewN k) (m + 1) (by omega) (below_drewN hbel k)).out
              have e : ((m + 1 : Nat) : Int) = (m : Int) + 1 := by omega
              rw [e] at h
              exact h.mono fun e w' h => ⟨h.1, h.2.symm⟩
            have hdig := right_dig (x / 4294967296 ^ m) r P R hP.symm hR.symm hr
            have e1 : x / 4294967296 ^ m / 4294967296 = x / 4294967296 ^ (m + 1) := by rw [Nat.pow_succ, Nat.div_div_eq_div_mul]
            have e2 : x / 4294967296 ^ m / P = x / 2 ^ n / 4294967296 ^ pre.length := by
              rw [← hP, ← right_at x n q r pre.length HN.out, Nat.add_comm, hl]
            rw [e1, e2] at hdig
            obtain ⟨hdig, hbd⟩ := hdig
            have HD := Hid.mk' hdig
            clear e1 e2 hdig KA
            have hd0 : x / 4294967296 ^ m % 4294967296 < 4294967296 := Nat.mod_lt _ (by decide)
            have hd1 : x / 4294967296 ^ (m + 1) % 4294967296 < 4294967296 := Nat.mod_lt _ (by decide)
            generalize x / 4294967296 ^ m % 4294967296 = d0 at *
            generalize x / 4294967296 ^ (m + 1) % 4294967296 = d1 at *
            obtain ⟨y, hy⟩ : ∃ y : Nat, y = d0 / P + d1 % P * R := ⟨_, rfl⟩
            rw [← hy] at HD hbd
            have EY : (d0 : Int) / (P : Int) + (d1 : Int) % (P : Int) * (R : Int) = (y : Int) := by rw [hy]; simp
            have EM : IntKind.u64.wrap ((d1 : Int) % (P : Int) * (R : Int)) = (d1 : Int) % (P : Int) * (R : Int) := by
              obtain ⟨z, hz⟩ : ∃ z : Nat, z = d1 % P * R := ⟨_, rfl⟩
              have e : (z : Int) = (d1 : Int) % (P : Int) * (R : Int) := by rw [hz]; simp
              have hzl : z ≤ y := by rw [hy, hz]; exact Nat.le_add_left _ _
              rw [IntKind.wrap_u64, ← e]; omega
            have ED : IntKind.u64.wrap ((d0 : Int) / (P : Int)) = (d0 : Int) / (P : Int) := by
              obtain ⟨z, hz⟩ : ∃ z : Nat, z = d0 / P := ⟨_, rfl⟩
              have e : (z : Int) = (d0 : Int) / (P : Int) := by rw [hz]; simp
              have hzl : z ≤ d0 := by rw [hz]; exact Nat.div_le_self _ _
              rw [IntKind.wrap_u64, ← e]; omega
            have EW : IntKind.u64.wrap (y : Int) = (y : Int) := by rw [IntKind.wrap_u64]; omega
            have HY := Hid.mk' hy
            clear hy
            go_upto_region 11 with fail
            go_quiet ((first | (go_at_call_of 25 (Value.int IntKind.i64 (r : Int)); refine Calls.quiet_of_same (KP _).out) | (go_at_call_of 25 (Value.int IntKind.i64 r2); refine Calls.quiet_of_same (KR _).out) | (go_at_call 74; refine Calls.quiet_of_same (KA1 _).out)))
            have hownq : (wr.drewN nq).ownsRow w.heap.size 22 1 u9 pre.length (UN pre) := hown
            have hbelq : Below w.heap.size w (wr.drewN nq) := below_drewN hbel nq
            clear hown hbel hsz hcell KA1 hP hR EY EM EW ED hr2 KR KP HC HEnd EL er1 er2 eq1 eq2
            generalize wr.drewN nq = wq at *
            have hsz := hbelq.size
            have E1 : Hid ((y : Int) % 4294967296 = ((y % 4294967296 : Nat) : Int)) := by show _ = _; omega
            go_wp2_with (first | (at_builtin; refine wpList_append_own _ rfl _ _ 47 rfl w.heap.size 22 i0 (.int .u64 0) 1 8 Tryd.underlying47 hi hz0 hz1 hz2 rfl (by decide) _ _ _ rfl (hownq.alloc _) ⟨wq.heap.size, 0, none⟩ 1 1 [.int .u64 ((y : Int) % 4294967296)] rfl rfl (cell_one_new _ _ _) (oneU _) (by unfold maxLen; omega) (by omega) (by simp; omega) ?_; intro v' w1 hown' hgrow hnn))
            have hbel' := below_push hownq hbelq hsz hgrow
            rw [E1.out] at hown'
            have hown2 := owns_push hown'
            clear hown' hgrow hownq hbelq hsz hnn
            go_wp2
            go_roundw
            case rel =>
              refine ⟨m + 1, pre ++ [y % 4294967296], by go_num, by omega, by omega, by simp; omega, allD_one HA.out (Nat.mod_lt _ (by decide)), ?_, hown2, hbel'⟩
              show _ = _
              rw [vl_one, List.length_append, List.length_singleton, mod_next, ← HQ.out, ← HD.out]
            case measure => simp [intOf]; omega
          · have t2 : ¬ (m : Int) < (L : Int) := by omega
            have HV : Hid (vl pre = x / 2 ^ n) := by
              show _ = _
              rw [HQ.out, Nat.mod_eq_of_lt]
              rw [Nat.div_lt_iff_lt_mul (Nat.two_pow_pos n)]
              have h1 : x < 4294967296 ^ (pre.length + q) := Nat.lt_of_lt_of_le LX.out (Nat.pow_le_pow_right (by decide) (by omega))
              have h2 : 4294967296 ^ (pre.length + q) ≤ 4294967296 ^ pre.length * 2 ^ n := by
                rw [Nat.pow_add, pow32 q]
                exact Nat.mul_le_mul_left _ (pow_le (by have := HN.out; omega))
              omega
            have KT := Hid.mk' (trim_own wr (x / 2 ^ n) (by omega) hown HA.out HV.out)
            have HB := Hid.mk' hbel
            clear hown hbel hsz KA HC KP KR
            cases b0
            · obtain ⟨z, hz⟩ : ∃ z : Bool, ((lw : Int) != 0) = z := ⟨_, rfl⟩
              go_wp2_with fail
              refine KT.out.mono ?_
              rintro e w2 ⟨⟨u, rfl, hu⟩, rfl⟩
              go_wp2
              go_ret2
              refine ⟨⟨u, ?_, hu⟩, HB.out⟩
              rw [← HEnd.out, Bool.false_or]
              refine congrArg (fun b => Ending.returned (Value.tuple #[u, Value.bool b])) ?_
              have h9 := HLW.out
              rw [← h9]
              first | (rw [← hz, Bool.eq_iff_iff]; simp; try omega) | (rw [Bool.eq_iff_iff]; simp; try omega)
            · go_wp2_with fail
              refine KT.out.mono ?_
              rintro e w2 ⟨⟨u, rfl, hu⟩, rfl⟩
              go_wp2
              go_ret2
              refine ⟨⟨u, ?_, hu⟩, HB.out⟩
              rw [← HEnd.out, Bool.true_or]
              rfl
end Go.Proofs.YthmppcfhbbjhlaaDoor
