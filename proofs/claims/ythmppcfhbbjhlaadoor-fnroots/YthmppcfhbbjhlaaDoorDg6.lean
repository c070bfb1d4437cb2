import Derived.Test.YthmppcfhbbjhlaaDoorDg5
set_option linter.all false
namespace Go.Proofs.YthmppcfhbbjhlaaDoor
open Go.RowKit

theorem mul_next (Y i k V c d q y : Nat) (h : V + c * 4294967296 ^ (i + k) = Y % 4294967296 ^ k * d * 4294967296 ^ i) (hq : q = Y / 4294967296 ^ k % 4294967296) (hy : y = d * q + c) :
    V + 4294967296 ^ (i + k) * (y % 4294967296) + y / 4294967296 * 4294967296 ^ (i + k + 1) = Y % 4294967296 ^ (k + 1) * d * 4294967296 ^ i := by
  rw [Nat.pow_succ, put_next, mod_next, ← hq, Nat.add_mul, Nat.add_mul, hy, Nat.mul_add]
  have e : 4294967296 ^ (i + k) * (d * q) = 4294967296 ^ k * q * d * 4294967296 ^ i := by
    rw [Nat.pow_add]
    generalize 4294967296 ^ i = I
    generalize 4294967296 ^ k = K
    rw [Nat.mul_comm I K, Nat.mul_assoc, Nat.mul_assoc, Nat.mul_assoc]
    congr 1
    rw [Nat.mul_comm I (d * q), Nat.mul_comm d q, Nat.mul_assoc]
  rw [e, Nat.mul_comm (4294967296 ^ (i + k)) c]
  omega
theorem mul_row (x y i d : Nat) (hd : d = x / 4294967296 ^ i % 4294967296) : x % 4294967296 ^ i * y + y * d * 4294967296 ^ i = x % 4294967296 ^ (i + 1) * y := by
  rw [mod_next, ← hd, Nat.add_mul]
  congr 1
  rw [Nat.mul_comm (4294967296 ^ i) d, Nat.mul_comm y d, Nat.mul_assoc, Nat.mul_comm y, Nat.mul_assoc]
theorem bl_mul2 (x y : Nat) : bl (x * y) ≤ bl x + bl y := by
  apply bl_le
  rw [Nat.pow_add]
  have h1 := bl_lt x
  have h2 := bl_lt y
  exact Nat.lt_of_le_of_lt (Nat.mul_le_mul_left x (Nat.le_of_lt h2)) (Nat.mul_lt_mul_of_pos_right h1 (Nat.two_pow_pos _))

set_option maxHeartbeats 8000000 in
set_option maxRecDepth 100000 in
theorem mulN_any (v u : Value) (x y : Nat) (w : World) (hx : bl x ≤ 2000) (hy : bl y ≤ 2000) (hX : SN w v x) (hY : SN w u y) :
    Calls Tryd.prog 71 #[v, u] w fun e w' => (∃ r, e = .returned r ∧ SN w' r (x * y)) ∧ Below w.heap.size w w' := by
  obtain ⟨i0, hi, hz0, hz1, hz2⟩ := info_parts info22
  have sx := dg_short (x := x) (by omega)
  have sy := dg_short (x := y) (by omega)
  obtain ⟨a, ca, rfl, hX⟩ := hX
  obtain ⟨b, cb, rfl, hY⟩ := hY
  have LX := Hid.mk' (dg_lt x)
  have LY := Hid.mk' (dg_lt y)
  have HCX : Hid (∀ (wr : World) (i : Nat), i < (dg x).length → Below w.heap.size w wr → ∃ g off, a = some ⟨g, off, none⟩ ∧ wr.cell? ⟨g, off + i, none⟩ = some (.int .u64 ((x / 4294967296 ^ i % 4294967296 : Nat) : Int))) := by
    intro wr i hi' hb
    rcases hX.below hb with h | ⟨g, off, e, hc⟩
    · rw [h] at hi'; simp at hi'
    · exact ⟨g, off, e, by rw [hc i hi', dg_get]⟩
  have HCY : Hid (∀ (wr : World) (i : Nat), i < (dg y).length → Below w.heap.size w wr → ∃ g off, b = some ⟨g, off, none⟩ ∧ wr.cell? ⟨g, off + i, none⟩ = some (.int .u64 ((y / 4294967296 ^ i % 4294967296 : Nat) : Int))) := by
    intro wr i hi' hb
    rcases hY.below hb with h | ⟨g, off, e, hc⟩
    · rw [h] at hi'; simp at hi'
    · exact ⟨g, off, e, by rw [hc i hi', dg_get]⟩
  have KA : Hid (∀ (i : Nat) (d : Nat) (wr : World) (p q : Value), i < (dg x).length → d < 4294967296 → d = x / 4294967296 ^ i % 4294967296 → SN wr p (x % 4294967296 ^ i * y) → SN wr q (y * d * 4294967296 ^ i) →
      Calls Tryd.prog 69 #[p, q] wr fun e w' => (∃ r, e = .returned r ∧ SN w' r (x % 4294967296 ^ (i + 1) * y)) ∧ Below wr.heap.size wr w') := by
    intro i d wr p q hi' hd hd' hp hq
    have h1 : bl (x % 4294967296 ^ i * y) ≤ 10000 := by
      have h2 := bl_mul2 (x % 4294967296 ^ i) y
      have h3 := bl_mono (Nat.mod_le x (4294967296 ^ i))
      omega
    have h2 : bl (y * d * 4294967296 ^ i) ≤ 10000 := by
      have h4 := bl_mul2 (y * d) (4294967296 ^ i)
      have h5 := bl_mul2 y d
      have h6 := bl_le (k := 32) (x := d) hd
      have h7 := bl_mono (dg_ge hi')
      omega
    have h := addN_any p q _ _ wr h1 h2 hp hq
    rw [mul_row x y i d hd'] at h
    exact h
  clear hX hY hx hy
  generalize (dg x).length = la at *
  generalize (dg y).length = lb at *
  go_enter Tryd.func71, Tryd.ntmps71
  go_wp2
  go_loopw [5, 6] (fun ov iv wr => ∃ i : Nat, i ≤ la ∧ iv = .int .i64 (i : Int) ∧ SN wr ov (x % 4294967296 ^ i * y) ∧ Below w.heap.size w wr) (fun _ iv _ => la - (intOf iv).toNat)
  case atStart =>
    refine ⟨0, by omega, rfl, ?_, (Below.refl _ _).alloc (Nat.le_refl _) _⟩
    rw [Nat.pow_zero, Nat.mod_one, Nat.zero_mul]
    exact ⟨_, _, by rw [dg_zero]; rfl, .inl (by rw [dg_zero])⟩
  case round =>
    obtain ⟨i, hil, rfl, hov, hbel⟩ := hrel
    by_cases hlt : i < la
    · have t1 : (i : Int) < (la : Int) := by omega
      have hsz0 := hbel.size
      have HOV := Hid.mk' hov
      have HBE := Hid.mk' hbel
      clear hov hbel
      obtain ⟨wo, rfl⟩ : ∃ wo, wo = wr := ⟨wr, rfl⟩
      go_wp2
      go_loopw [7, 8] (fun v kv wk => ∃ k : Nat, k ≤ i ∧ kv = .int .i64 (k : Int) ∧ wk.ownsRow wo.heap.size 22 1 v (List.replicate k 0).length (UN (List.replicate k 0)) ∧ Below wo.heap.size wo wk) (fun _ kv _ => i - (intOf kv).toNat)
      case atStart => exact ⟨0, by omega, rfl, World.ownsRow_lit wo #[] 0 (Nat.le_refl _) (Nat.zero_le _) rfl, (Below.refl _ _).alloc (Nat.le_refl _) _⟩
      case round =>
        obtain ⟨k, hk, rfl, hown, hbel⟩ := hrel
        have hsz := hbel.size
        by_cases hlt2 : k < i
        · have t2 : (k : Int) < (i : Int) := by omega
          have hlen : (List.replicate k 0).length = k := by simp
          rw [hlen] at hown
          go_wp2_with (first | (at_builtin; refine wpList_append_own _ rfl _ _ 47 rfl wo.heap.size 22 i0 (.int .u64 0) 1 8 Tryd.underlying47 hi hz0 hz1 hz2 rfl (by decide) _ _ _ rfl (hown.alloc _) ⟨wr.heap.size, 0, none⟩ 1 1 [.int .u64 (0)] rfl rfl (cell_one_new _ _ _) (oneU _) (by unfold maxLen; omega) (by omega) (by simp; omega) ?_; intro v' w1 hown' hgrow hnn))
          have hbel' := below_push hown hbel hsz hgrow
          have hown2 : w1.ownsRow wo.heap.size 22 1 v' (List.replicate (k + 1) 0).length (UN (List.replicate (k + 1) 0)) := by
            rw [List.replicate_succ', List.length_append, hlen]
            simpa using hown'
          clear hown' hgrow hown hbel hsz hnn
          go_wp2
          go_roundw
          case rel => exact ⟨k + 1, by omega, by go_num, hown2, hbel'⟩
          case measure => simp [intOf]; omega
        · obtain rfl : k = i := by omega
          have hd : x / 4294967296 ^ k % 4294967296 < 4294967296 := Nat.mod_lt _ (by decide)
          obtain ⟨d, hdd⟩ : ∃ d, d = x / 4294967296 ^ k % 4294967296 := ⟨_, rfl⟩
          have HDD := Hid.mk' hdd
          have HCX2 : Hid (∀ (wq : World), Below w.heap.size w wq → ∃ g off, a = some ⟨g, off, none⟩ ∧ wq.cell? ⟨g, off + k, none⟩ = some (.int .u64 (d : Int))) := fun wq hq => by
            rw [hdd]; exact HCX.out wq k hlt hq
          rw [← hdd] at hd
          clear hdd
          go_wp2
          go_loopw [7, 9, 10] (fun v cv jv wk => ∃ (j c : Nat) (pre : List Nat), jv = .int .i64 (j : Int) ∧ cv = .int .u64 (c : Int) ∧ c < 4294967296 ∧ j ≤ lb ∧ pre.length = k + j ∧ Hid (AllD pre) ∧ Hid (vl pre + c * 4294967296 ^ (k + j) = y % 4294967296 ^ j * d * 4294967296 ^ k) ∧ wk.ownsRow wo.heap.size 22 1 v pre.length (UN pre) ∧ Below wo.heap.size wo wk) (fun _ _ jv _ => lb - (intOf jv).toNat)
          case atStart => exact ⟨0, 0, _, rfl, rfl, by omega, Nat.zero_le _, by simp, allD_zeros k, by show _ = _; simp [vl_zeros, Nat.mod_one], hown, hbel⟩
          case round =>
            clear hown hbel hsz
            obtain ⟨j, c, pre, rfl, rfl, hc, hj, hl, HA, HQ, hown, hbel⟩ := hrel
            have hsz := hbel.size
            by_cases hlt3 : j < lb
            · have t3 : (j : Int) < (lb : Int) := by omega
              have hbw := HBE.out.trans (hbel.mono HBE.out.size)
              obtain ⟨ga, oa, rfl, hcx⟩ := HCX2.out wr hbw
              obtain ⟨gb, ob, rfl, hcy⟩ := HCY.out wr j hlt3 hbw
              have HS := fun z hz => Hid.mk' (mul_next y k j (vl pre) c d _ z HQ.out rfl hz)
              have hq : y / 4294967296 ^ j % 4294967296 < 4294967296 := Nat.mod_lt _ (by decide)
              generalize y / 4294967296 ^ j % 4294967296 = q at *
              have hm1 : d * q ≤ 4294967295 * 4294967295 := Nat.mul_le_mul (by omega) (by omega)
              obtain ⟨z, hz⟩ : ∃ z : Nat, z = d * q + c := ⟨_, rfl⟩
              have hzl : z < 18446744073709551616 := by omega
              have HS := HS z hz
              have EY : (d : Int) * (q : Int) + (c : Int) = (z : Int) := by rw [hz]; simp
              have EM : IntKind.u64.wrap ((d : Int) * (q : Int)) = (d : Int) * (q : Int) := by
                have e : ((d * q : Nat) : Int) = (d : Int) * (q : Int) := by simp
                rw [IntKind.wrap_u64, ← e]; omega
              have EW : IntKind.u64.wrap (z : Int) = (z : Int) := by rw [IntKind.wrap_u64]; omega
              have HZ := Hid.mk' hz
              have hka : (k : Int) < (la : Int) := t1
              clear hz hbw
              go_upto_region 14 with fail
              go_quiet (fail)
              have hownq : (wr.drewN nq).ownsRow wo.heap.size 22 1 u7 pre.length (UN pre) := hown
              have hbelq : Below wo.heap.size wo (wr.drewN nq) := below_drewN hbel nq
              clear hown hbel hsz hcx hcy
              generalize wr.drewN nq = wq at *
              have hsz := hbelq.size
              have E1 : Hid ((z : Int) % 4294967296 = ((z % 4294967296 : Nat) : Int)) := by show _ = _; omega
              clear EY EM
              go_wp2_with (first | (at_builtin; refine wpList_append_own _ rfl _ _ 47 rfl wo.heap.size 22 i0 (.int .u64 0) 1 8 Tryd.underlying47 hi hz0 hz1 hz2 rfl (by decide) _ _ _ rfl (hownq.alloc _) ⟨wq.heap.size, 0, none⟩ 1 1 [.int .u64 ((z : Int) % 4294967296)] rfl rfl (cell_one_new _ _ _) (oneU _) (by unfold maxLen; omega) (by omega) (by simp; omega) ?_; intro v' w1 hown' hgrow hnn))
              have hbel' := below_push hownq hbelq hsz hgrow
              rw [E1.out] at hown'
              have hown2 := owns_push hown'
              clear hown' hgrow hownq hbelq hsz hnn
              go_wp2
              go_roundw
              case rel =>
                refine ⟨j + 1, z / 4294967296, pre ++ [z % 4294967296], by go_num, by go_num, by omega, by omega, by simp; omega, allD_one HA.out (Nat.mod_lt _ (by decide)), ?_, hown2, hbel'⟩
                show _ = _
                rw [vl_one, hl]
                have := HS.out
                rw [← Nat.add_assoc]
                exact this
              case measure => simp [intOf]; omega
            · have t3 : ¬ (j : Int) < (lb : Int) := by omega
              obtain rfl : j = lb := by omega
              have HV : Hid (vl (pre ++ [c]) = y * d * 4294967296 ^ k) := by
                show _ = _
                have h := HQ.out
                rw [Nat.mod_eq_of_lt LY.out] at h
                rw [vl_one, hl, Nat.mul_comm _ c]
                exact h
              have HA2 := Hid.mk' (allD_one (d := c) HA.out hc)
              go_wp2_with (first | (at_builtin; refine wpList_append_own _ rfl _ _ 47 rfl wo.heap.size 22 i0 (.int .u64 0) 1 8 Tryd.underlying47 hi hz0 hz1 hz2 rfl (by decide) _ _ _ rfl (hown.alloc _) ⟨wr.heap.size, 0, none⟩ 1 1 [.int .u64 ((c : Int))] rfl rfl (cell_one_new _ _ _) (oneU _) (by unfold maxLen; omega) (by omega) (by simp; omega) ?_; intro v' w1 hown' hgrow hnn))
              have hbel' := below_push hown hbel hsz hgrow
              have hown2 := owns_push hown'
              have KT := Hid.mk' (trim_own w1 (y * d * 4294967296 ^ k) (by simp; omega) hown2 HA2.out HV.out)
              have HB := Hid.mk' hbel'
              clear hown' hgrow hown hbel hsz hnn hown2 hbel'
              go_wp2_with fail
              refine KT.out.mono ?_
              rintro e w2 ⟨⟨t, rfl, ht⟩, rfl⟩
              have KAD := Hid.mk' (KA.out k d w1 u5 t hlt hd HDD.out (HOV.out.below HB.out) ht)
              clear ht KT
              go_wp2_with fail
              refine KAD.out.mono ?_
              rintro e w3 ⟨⟨r, rfl, hr⟩, hb3⟩
              have HR := Hid.mk' hr
              have HB3 := Hid.mk' ((HBE.out.trans (HB.out.mono HBE.out.size)).trans (hb3.mono (Nat.le_trans HBE.out.size HB.out.size)))
              clear hr hb3 KAD HOV HB
              go_wp2
              go_roundw
              case rel => exact ⟨k + 1, by omega, by go_num, HR.out, HB3.out⟩
              case measure => simp [intOf]; omega
    · have t1 : ¬ (i : Int) < (la : Int) := by omega
      obtain rfl : i = la := by omega
      rw [Nat.mod_eq_of_lt LX.out] at hov
      have HOV := Hid.mk' hov
      have HBE := Hid.mk' hbel
      clear hov hbel
      go_wp2
      go_ret
      exact ⟨⟨_, rfl, HOV.out⟩, HBE.out⟩
end Go.Proofs.YthmppcfhbbjhlaaDoor
