import Derived.Test.YthmppcfhbbjhlaaDoorCut
import Derived.Shelf.Bits.Mul64
set_option linter.all false
namespace Go.Proofs.YthmppcfhbbjhlaaDoor
open Go.RowKit Go.Sort

set_option maxHeartbeats 1000000 in
theorem less_hi (a0 a1 b0 b1 : Int) (w : World) (h : (a1 != b1) = true) :
    Calls Tryd.prog 81 #[WV a0 a1, WV b0 b1] w fun e w' => e = .returned (.bool (decide (a1 < b1))) ∧ Below w.heap.size w w' := by
  go_enter Tryd.func81, Tryd.ntmps81
  go_wp2
  go_ret
  exact ⟨rfl, by repeat (first | exact Below.refl _ _ | refine Below.setCell ?_ (by simp) _ | refine Below.alloc ?_ (by first | (simp; done) | (simp; omega)) _ | refine Below.drew ?_)⟩
set_option maxHeartbeats 1000000 in
theorem less_lo (a0 a1 b0 : Int) (w : World) :
    Calls Tryd.prog 81 #[WV a0 a1, WV b0 a1] w fun e w' => e = .returned (.bool (decide (a0 < b0))) ∧ Below w.heap.size w w' := by
  go_enter Tryd.func81, Tryd.ntmps81
  go_wp2
  go_ret
  exact ⟨rfl, by repeat (first | exact Below.refl _ _ | refine Below.setCell ?_ (by simp) _ | refine Below.alloc ?_ (by first | (simp; done) | (simp; omega)) _ | refine Below.drew ?_)⟩
theorem less_any (s t : Nat) (w : World) :
    Calls Tryd.prog 81 #[W2 s, W2 t] w fun e w' => e = .returned (.bool (decide (s < t))) ∧ Below w.heap.size w w' := by
  have e1 := Nat.mod_add_div s 18446744073709551616
  have e2 := Nat.mod_add_div t 18446744073709551616
  have l1 : s % 18446744073709551616 < 18446744073709551616 := Nat.mod_lt _ (by decide)
  have l2 : t % 18446744073709551616 < 18446744073709551616 := Nat.mod_lt _ (by decide)
  by_cases h : s / 18446744073709551616 = t / 18446744073709551616
  · have hk := less_lo ((s % 18446744073709551616 : Nat) : Int) ((s / 18446744073709551616 : Nat) : Int) ((t % 18446744073709551616 : Nat) : Int) w
    have e : W2 t = WV ((t % 18446744073709551616 : Nat) : Int) ((s / 18446744073709551616 : Nat) : Int) := by rw [W2, h]
    rw [e]
    refine hk.mono ?_
    rintro e w' ⟨rfl, hb⟩
    refine ⟨?_, hb⟩
    refine congrArg (fun b => Ending.returned (Value.bool b)) ?_
    rw [decide_eq_decide]; omega
  · refine (less_hi _ _ _ _ w (by rw [bne_iff_ne]; omega)).mono ?_
    rintro e w' ⟨rfl, hb⟩
    refine ⟨?_, hb⟩
    refine congrArg (fun b => Ending.returned (Value.bool b)) ?_
    rw [decide_eq_decide]; omega
theorem mark_any (b : Bool) (s : Nat) (w : World) :
    Calls Tryd.prog 83 #[W2 s, .bool b] w fun e w' => e = .returned (W2 (if b then s + (1 - s % 2) else s)) ∧ Below w.heap.size w w' := by
  cases b
  · exact mark_false _ _ w
  · refine (mark_true _ _ w).mono ?_
    rintro e w' ⟨rfl, hb⟩
    refine ⟨?_, hb⟩
    have h := bits_or_u64_nat (s % 18446744073709551616) 1 (Nat.mod_lt _ (by decide)) (by decide)
    rw [or_one, show ((1 : Nat) : Int) = 1 from rfl] at h
    rw [h]
    have e1 : (s + (1 - s % 2)) % 18446744073709551616 = s % 18446744073709551616 + (1 - s % 18446744073709551616 % 2) := by omega
    have e2 : (s + (1 - s % 2)) / 18446744073709551616 = s / 18446744073709551616 := by omega
    simp only [if_true]
    rw [W2, e1, e2]

set_option maxHeartbeats 1000000 in
theorem mul64_any (x y : Nat) (hx : x < 18446744073709551616) (hy : y < 18446744073709551616) (w : World) :
    Calls Tryd.prog 95 #[.int .u64 x, .int .u64 y] w fun e w' => e = .returned (.tuple #[.int .u64 ((x * y / 18446744073709551616 : Nat) : Int), .int .u64 ((x * y % 18446744073709551616 : Nat) : Int)]) ∧ w = w' := by
  obtain ⟨bd, bt, bw, hhi⟩ := Lib.mul64_hi x y hx hy
  have ba := Lib.half_mul_le (a := x / 4294967296) (b := y / 4294967296) (by omega) (by omega)
  have bb := Lib.half_mul_le (a := x / 4294967296) (b := y % 4294967296) (by omega) (by omega)
  have bc := Lib.half_mul_le (a := x % 4294967296) (b := y / 4294967296) (by omega) (by omega)
  go_enter Tryd.func95, Tryd.ntmps95
  go_wp2
  simp only [Mul64.maskN x hx, Mul64.maskN y hy, Mul64.divN, Mul64.mulN, Mul64.addN, Mul64.wrapN _ bd, Mul64.wrapN _ (Nat.lt_of_le_of_lt bb (by decide)), Mul64.wrapN _ bt, Mul64.maskN _ bt, Mul64.wrapN _ (Nat.lt_of_le_of_lt bc (by decide)), Mul64.wrapN _ bw, Mul64.wrapN _ (Nat.lt_of_le_of_lt ba (by decide)), Mul64.wrapM (x * y)]
  rw [Mul64.wrapN _ (by omega), Mul64.addN, Mul64.wrapN _ (by omega), hhi]
  go_ret2
  exact ⟨rfl, rfl⟩

set_option maxHeartbeats 1000000 in
theorem square_key (x h l : Int) (w : World) (K : ∀ w, Hid (Calls Tryd.prog 95 #[.int .u64 x, .int .u64 x] w fun e w' => e = .returned (.tuple #[.int .u64 h, .int .u64 l]) ∧ w = w')) :
    Calls Tryd.prog 82 #[.int .u64 x] w fun e w' => e = .returned (WV l h) ∧ Below w.heap.size w w' := by
  go_enter Tryd.func82, Tryd.ntmps82
  go_wp2_with fail
  refine (K _).out.mono ?_
  rintro e w1 ⟨rfl, rfl⟩
  go_wp2
  exact bodyPost_ret (v := WV l h) (by simp [results, Tryd.results82, go_sem]) rfl ⟨rfl, by repeat (first | exact Below.refl _ _ | refine Below.setCell ?_ (by simp) _ | refine Below.alloc ?_ (by first | (simp; done) | (simp; omega)) _ | refine Below.drew ?_)⟩
theorem square_any (x : Nat) (w : World) (hx : x < 18446744073709551616) :
    Calls Tryd.prog 82 #[.int .u64 x] w fun e w' => e = .returned (W2 (x * x)) ∧ Below w.heap.size w w' :=
  square_key x _ _ w (fun w => mul64_any x x hx hx w)

set_option maxHeartbeats 2000000 in
theorem lift_key (k : Int) (g : Bool) (x lo hi len L u0 u1 : Int) (w : World) (h0 : 0 ≤ len - L) (h1 : len - L ≤ 128) (hx : -10000 ≤ x) (hx' : x ≤ 10000) (hl : len ≤ 128) (hl0 : 0 ≤ L)
    (KL : ∀ w, Hid (Calls Tryd.prog 103 #[WV lo hi] w fun e w' => e = .returned (.int .i64 L) ∧ Below w.heap.size w w'))
    (KU : ∀ w, Hid (Calls Tryd.prog 104 #[WV lo hi, .int .i64 (len - L)] w fun e w' => e = .returned (WV u0 u1) ∧ Below w.heap.size w w')) :
    Calls Tryd.prog 80 #[NV k g x lo hi, .int .i64 len] w fun e w' => e = .returned (NV k g (x - (len - L)) u0 u1) ∧ Below w.heap.size w w' := by
  go_enter Tryd.func80, Tryd.ntmps80
  go_wp2_with fail
  refine (KL _).out.mono ?_
  rintro e w1 ⟨rfl, hb⟩
  have cn := Hid.mk' (c5_new.past.keep hb)
  have cr := Hid.mk' (c5_mid.keep hb)
  have HB1 := Hid.mk' (((Below.refl w.heap.size w).alloc (Nat.le_refl _) _).alloc (by simp) _ |>.trans (hb.mono (by simp; omega)))
  obtain ⟨⟨c0, c1, c2, c3, c4⟩, -⟩ := cn.out
  clear hb
  go_wp2_with fail
  refine (KU _).out.mono ?_
  rintro e w2 ⟨rfl, hb⟩
  have cn2 := Hid.mk' (cn.out.keep hb)
  have cr2 := Hid.mk' (cr.out.keep hb)
  have HB2 := Hid.mk' (HB1.out.trans (hb.mono HB1.out.size))
  clear hb cn cr HB1 c0 c1 c2 c3 c4
  obtain ⟨⟨c0, c1, c2, c3, c4⟩, f0, f1, f2, f3, f4⟩ := cn2.out
  go_upto_region 4 with fail
  refine wp_gen (fun wz => C5 wz w.heap.size (.int .i64 k) (.bool g) (.int .i64 (x - (len - L))) (.int .u64 u0) (.int .u64 u1) ∧ C5 wz (w.heap.size + 1) (.int .i64 0) (.bool false) (.int .i64 0) (.int .u64 0) (.int .u64 0) ∧ Below w.heap.size w wz) ⟨cn2.out.set3.set4.set2, ((cr2.out.far (by omega)).far (by omega)).far (by omega), ((HB2.out.setCell (Nat.le_refl _) _).setCell (Nat.le_refl _) _).setCell (Nat.le_refl _) _⟩ ?_
  clear cn2 cr2 HB2 c0 c1 c2 c3 c4 f0 f1 f2 f3 f4 KL KU
  rintro wz ⟨⟨⟨c0, c1, c2, c3, c4⟩, -⟩, ⟨⟨r0, r1, r2, r3, r4⟩, v0, v1, v2, v3, v4⟩, hz⟩
  go_wp2
  exact bodyPost_ret (v := NV k g (x - (len - L)) u0 u1) (by simp [results, Tryd.results80, go_sem, r0, r1, r2, r3, r4]) rfl ⟨rfl, by repeat (first | exact hz | refine Below.setCell ?_ (by first | (simp; done) | (simp; omega) | omega) _)⟩
theorem lift_any (k : Int) (g : Bool) (x len : Int) (s : Nat) (w : World) (hs : s < 340282366920938463463374607431768211456) (h0 : s ≠ 0) (hl : (bl s : Int) ≤ len) (hl' : len ≤ 128) (hx : -5000 ≤ x) (hx' : x ≤ 5000) :
    Calls Tryd.prog 80 #[N2 k g x s, .int .i64 len] w fun e w' => e = .returned (N2 k g (x - (len - bl s)) (s * 2 ^ (len - bl s).toNat)) ∧ Below w.heap.size w w' := by
  have hU := fun w => up_any s (len - bl s) w (by omega) (by omega)
  have hlt : s * 2 ^ (len - bl s).toNat < 340282366920938463463374607431768211456 := by
    have h1 := bl_lt (s * 2 ^ (len - bl s).toNat)
    rw [bl_mul h0] at h1
    have h2 := pow_le (show bl s + (len - bl s).toNat ≤ 128 by omega)
    rw [← M128_pow] at h2
    omega
  rw [Nat.mod_eq_of_lt hlt] at hU
  exact lift_key k g x _ _ len (bl s) _ _ w (by omega) (by omega) (by omega) (by omega) hl' (by omega) (fun w => length_any s w hs) hU
end Go.Proofs.YthmppcfhbbjhlaaDoor
