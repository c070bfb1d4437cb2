import Derived.Test.YthmppcfhbbjhlaaDoorRd
import Derived.Test.YthmppcfhbbjhlaaDoorNm
set_option linter.all false
namespace Go.Proofs.YthmppcfhbbjhlaaDoor
open Go.RowKit Go.Sort

/-- The whole number next to s by 2^x. -/
def wh (mode : Int) (g : Bool) (s : Nat) (x : Int) : Nat :=
  if 0 ≤ x then s * 2 ^ x.toNat else
  s / 2 ^ (-x).toNat + if goes mode g (decide (s / 2 ^ ((-x).toNat - 1) % 2 = 1)) (decide (s % 2 ^ ((-x).toNat - 1) ≠ 0)) (decide (s / 2 ^ (-x).toNat % 2 = 1)) then 1 else 0
def modeOf (way : Int) : Int := if way = 0 then 1 else if way = 1 then 2 else if way = 2 then 3 else 0

set_option maxHeartbeats 4000000 in
set_option maxRecDepth 100000 in
theorem whole_pos (k : Int) (g : Bool) (v : Value) (s : Nat) (x way : Int) (w : World) (hs : bl s ≤ 4000) (hx0 : 0 ≤ x) (hx1 : x ≤ 4000) (hS : SN w v s) :
    Calls Tryd.prog 31 #[SV k g v x, .int .i64 way] w fun e w' => (∃ u, e = .returned u ∧ SN w' u (s * 2 ^ x.toNat)) ∧ Below w.heap.size w w' := by
  have K := fun w h => Hid.mk' (left_int v s x w hx0 (by omega) (by omega) h)
  have HS := Hid.mk' hS
  clear hS
  go_enter Tryd.func31, Tryd.ntmps31
  go_wp2_with fail
  refine (K _ (HS.out.below ((Below.refl _ _).alloc (Nat.le_refl _) _))).out.mono ?_
  rintro e w1 ⟨⟨u, rfl, hu⟩, hb⟩
  have HU := Hid.mk' hu
  have HB := Hid.mk' (below_box hb)
  clear hu hb
  go_wp2
  go_ret
  exact ⟨⟨u, rfl, HU.out⟩, HB.out⟩

set_option maxHeartbeats 8000000 in
set_option maxRecDepth 100000 in
theorem whole_neg_0 (k : Int) (g : Bool) (v : Value) (s : Nat) (x : Int) (w : World) (hs : bl s ≤ 4000) (hx0 : x < 0) (hx1 : -4000 ≤ x) (hS : SN w v s) :
    Calls Tryd.prog 31 #[SV k g v x, .int .i64 0] w fun e w' => (∃ u, e = .returned u ∧ SN w' u (wh 1 g s x)) ∧ Below w.heap.size w w' := by
  have KR := fun w h => right_int v s (-x - 1) w (by omega) (by omega) (by omega) h
  have eQ : wh 1 g s x = s / 2 ^ (-x - 1).toNat / 2 ^ (1 : Int).toNat + if goes 1 g (decide (s / 2 ^ (-x - 1).toNat % 2 = 1)) (decide (s % 2 ^ (-x - 1).toNat ≠ 0)) (decide (s / 2 ^ (-x - 1).toNat / 2 ^ (1 : Int).toNat % 2 = 1)) then 1 else 0 := by
    unfold wh
    rw [if_neg (by omega)]
    have e1 : (-x).toNat - 1 = (-x - 1).toNat := by omega
    have e2 : s / 2 ^ (-x).toNat = s / 2 ^ (-x - 1).toNat / 2 ^ (1 : Int).toNat := by
      rw [Nat.div_div_eq_div_mul, ← Nat.pow_add]; congr 2; omega
    rw [e1, e2]
  have hbA := bl_div_le s (-x - 1).toNat
  generalize s / 2 ^ (-x - 1).toNat = A at *
  obtain ⟨lost, hlost⟩ : ∃ b, b = decide (s % 2 ^ (-x - 1).toNat ≠ 0) := ⟨_, rfl⟩
  rw [← hlost] at KR eQ
  have K0 := fun w u h => Hid.mk' (at_zero u A w (by omega) h)
  have K1 := fun w u h => Hid.mk' (right_int u A 1 w (by omega) (by omega) (by omega) h)
  have hp := par_bool A
  have ht0 : 0 ≤ ((A % 4294967296 : Nat) : Int) := by omega
  have ht1 : ((A % 4294967296 : Nat) : Int) ≤ 4294967295 := by omega
  obtain ⟨up, hup⟩ : ∃ b, b = decide (A % 2 = 1) := ⟨_, rfl⟩
  rw [← hup] at hp eQ
  generalize ((A % 4294967296 : Nat) : Int) = t at *
  obtain ⟨lo2, hlo2⟩ : ∃ b, b = decide (A % 2 ^ (1 : Int).toNat ≠ 0) := ⟨_, rfl⟩
  rw [← hlo2] at K1
  have hbH := bl_div_le A (1 : Int).toNat
  generalize A / 2 ^ (1 : Int).toNat = H at *
  have K2 := fun w u h => Hid.mk' (at_zero u H w (by omega) h)
  have hp2 := par_bool H
  have ht2 : 0 ≤ ((H % 4294967296 : Nat) : Int) := by omega
  have ht3 : ((H % 4294967296 : Nat) : Int) ≤ 4294967295 := by omega
  obtain ⟨odd, hodd⟩ : ∃ b, b = decide (H % 2 = 1) := ⟨_, rfl⟩
  rw [← hodd] at hp2 eQ
  generalize ((H % 4294967296 : Nat) : Int) = t2 at *
  have KA := fun w u z h hz => Hid.mk' (addN_any u z H 1 w (by omega) (by rw [show bl 1 = 1 by decide]; omega) h hz)
  have HE := Hid.mk' eQ
  have HKR := Hid.mk' KR
  have HS := Hid.mk' hS
  clear eQ KR hup hlost hodd hlo2 hS
  go_enter Tryd.func31, Tryd.ntmps31
  go_wp2_with fail
  refine (HKR.out _ (HS.out.below ((Below.refl _ _).alloc (Nat.le_refl _) _))).mono ?_
  rintro e w3 ⟨⟨u, rfl, hu⟩, hb3⟩
  have K0 := K0 w3 u hu
  have K1 := K1 w3 u hu
  have HB3 := Hid.mk' (below_box hb3)
  have HC3 := Hid.mk' (c4_new.keep hb3)
  clear hu hb3 HKR
  go_wp2_with fail
  refine K0.out.mono ?_
  rintro e w' ⟨rfl, rfl⟩
  go_wp2_with fail
  refine K1.out.mono ?_
  rintro e w4 ⟨⟨u2, rfl, hu2⟩, hb4⟩
  have K2 := K2 w4 u2 hu2
  have HB4 := Hid.mk' (HB3.out.trans (hb4.mono HB3.out.size))
  obtain ⟨c0, c1, c2, c3⟩ := HC3.out.keep hb4
  have HU2 := Hid.mk' hu2
  have KA2 := Hid.mk' (KA (w4.alloc (.cells #[.int .u64 1] 22)) u2 _ (hu2.below ((Below.refl _ _).alloc (Nat.le_refl _) _)) sn_one).out
  clear hu2 hb4 HB3 HC3 K0 K1 KA HS
  cases g <;> cases up <;> cases lost
  · skip
    go_wp2
    go_ret
    exact ⟨⟨u2, rfl, by rw [HE.out]; exact HU2.out⟩, HB4.out⟩
  · skip
    go_wp2_with fail
    refine KA2.out.mono ?_
    rintro e w5 ⟨⟨u3, rfl, hu3⟩, hb5⟩
    have HB5 := Hid.mk' ((HB4.out.alloc HB4.out.size _).trans (hb5.mono (Nat.le_trans HB4.out.size (by simp))))
    have HU3 := Hid.mk' hu3
    clear hu3 hb5
    go_wp2
    go_ret
    exact ⟨⟨u3, rfl, by rw [HE.out]; exact HU3.out⟩, HB5.out⟩
  · skip
    go_wp2_with fail
    refine KA2.out.mono ?_
    rintro e w5 ⟨⟨u3, rfl, hu3⟩, hb5⟩
    have HB5 := Hid.mk' ((HB4.out.alloc HB4.out.size _).trans (hb5.mono (Nat.le_trans HB4.out.size (by simp))))
    have HU3 := Hid.mk' hu3
    clear hu3 hb5
    go_wp2
    go_ret
    exact ⟨⟨u3, rfl, by rw [HE.out]; exact HU3.out⟩, HB5.out⟩
  · skip
    go_wp2_with fail
    refine KA2.out.mono ?_
    rintro e w5 ⟨⟨u3, rfl, hu3⟩, hb5⟩
    have HB5 := Hid.mk' ((HB4.out.alloc HB4.out.size _).trans (hb5.mono (Nat.le_trans HB4.out.size (by simp))))
    have HU3 := Hid.mk' hu3
    clear hu3 hb5
    go_wp2
    go_ret
    exact ⟨⟨u3, rfl, by rw [HE.out]; exact HU3.out⟩, HB5.out⟩
  · skip
    go_wp2
    go_ret
    exact ⟨⟨u2, rfl, by rw [HE.out]; exact HU2.out⟩, HB4.out⟩
  · skip
    go_wp2
    go_ret
    exact ⟨⟨u2, rfl, by rw [HE.out]; exact HU2.out⟩, HB4.out⟩
  · skip
    go_wp2
    go_ret
    exact ⟨⟨u2, rfl, by rw [HE.out]; exact HU2.out⟩, HB4.out⟩
  · skip
    go_wp2
    go_ret
    exact ⟨⟨u2, rfl, by rw [HE.out]; exact HU2.out⟩, HB4.out⟩
set_option maxHeartbeats 8000000 in
set_option maxRecDepth 100000 in
theorem whole_neg_1 (k : Int) (g : Bool) (v : Value) (s : Nat) (x : Int) (w : World) (hs : bl s ≤ 4000) (hx0 : x < 0) (hx1 : -4000 ≤ x) (hS : SN w v s) :
    Calls Tryd.prog 31 #[SV k g v x, .int .i64 1] w fun e w' => (∃ u, e = .returned u ∧ SN w' u (wh 2 g s x)) ∧ Below w.heap.size w w' := by
  have KR := fun w h => right_int v s (-x - 1) w (by omega) (by omega) (by omega) h
  have eQ : wh 2 g s x = s / 2 ^ (-x - 1).toNat / 2 ^ (1 : Int).toNat + if goes 2 g (decide (s / 2 ^ (-x - 1).toNat % 2 = 1)) (decide (s % 2 ^ (-x - 1).toNat ≠ 0)) (decide (s / 2 ^ (-x - 1).toNat / 2 ^ (1 : Int).toNat % 2 = 1)) then 1 else 0 := by
    unfold wh
    rw [if_neg (by omega)]
    have e1 : (-x).toNat - 1 = (-x - 1).toNat := by omega
    have e2 : s / 2 ^ (-x).toNat = s / 2 ^ (-x - 1).toNat / 2 ^ (1 : Int).toNat := by
      rw [Nat.div_div_eq_div_mul, ← Nat.pow_add]; congr 2; omega
    rw [e1, e2]
  have hbA := bl_div_le s (-x - 1).toNat
  generalize s / 2 ^ (-x - 1).toNat = A at *
  obtain ⟨lost, hlost⟩ : ∃ b, b = decide (s % 2 ^ (-x - 1).toNat ≠ 0) := ⟨_, rfl⟩
  rw [← hlost] at KR eQ
  have K0 := fun w u h => Hid.mk' (at_zero u A w (by omega) h)
  have K1 := fun w u h => Hid.mk' (right_int u A 1 w (by omega) (by omega) (by omega) h)
  have hp := par_bool A
  have ht0 : 0 ≤ ((A % 4294967296 : Nat) : Int) := by omega
  have ht1 : ((A % 4294967296 : Nat) : Int) ≤ 4294967295 := by omega
  obtain ⟨up, hup⟩ : ∃ b, b = decide (A % 2 = 1) := ⟨_, rfl⟩
  rw [← hup] at hp eQ
  generalize ((A % 4294967296 : Nat) : Int) = t at *
  obtain ⟨lo2, hlo2⟩ : ∃ b, b = decide (A % 2 ^ (1 : Int).toNat ≠ 0) := ⟨_, rfl⟩
  rw [← hlo2] at K1
  have hbH := bl_div_le A (1 : Int).toNat
  generalize A / 2 ^ (1 : Int).toNat = H at *
  have K2 := fun w u h => Hid.mk' (at_zero u H w (by omega) h)
  have hp2 := par_bool H
  have ht2 : 0 ≤ ((H % 4294967296 : Nat) : Int) := by omega
  have ht3 : ((H % 4294967296 : Nat) : Int) ≤ 4294967295 := by omega
  obtain ⟨odd, hodd⟩ : ∃ b, b = decide (H % 2 = 1) := ⟨_, rfl⟩
  rw [← hodd] at hp2 eQ
  generalize ((H % 4294967296 : Nat) : Int) = t2 at *
  have KA := fun w u z h hz => Hid.mk' (addN_any u z H 1 w (by omega) (by rw [show bl 1 = 1 by decide]; omega) h hz)
  have HE := Hid.mk' eQ
  have HKR := Hid.mk' KR
  have HS := Hid.mk' hS
  clear eQ KR hup hlost hodd hlo2 hS
  go_enter Tryd.func31, Tryd.ntmps31
  go_wp2_with fail
  refine (HKR.out _ (HS.out.below ((Below.refl _ _).alloc (Nat.le_refl _) _))).mono ?_
  rintro e w3 ⟨⟨u, rfl, hu⟩, hb3⟩
  have K0 := K0 w3 u hu
  have K1 := K1 w3 u hu
  have HB3 := Hid.mk' (below_box hb3)
  have HC3 := Hid.mk' (c4_new.keep hb3)
  clear hu hb3 HKR
  go_wp2_with fail
  refine K0.out.mono ?_
  rintro e w' ⟨rfl, rfl⟩
  go_wp2_with fail
  refine K1.out.mono ?_
  rintro e w4 ⟨⟨u2, rfl, hu2⟩, hb4⟩
  have K2 := K2 w4 u2 hu2
  have HB4 := Hid.mk' (HB3.out.trans (hb4.mono HB3.out.size))
  obtain ⟨c0, c1, c2, c3⟩ := HC3.out.keep hb4
  have HU2 := Hid.mk' hu2
  have KA2 := Hid.mk' (KA (w4.alloc (.cells #[.int .u64 1] 22)) u2 _ (hu2.below ((Below.refl _ _).alloc (Nat.le_refl _) _)) sn_one).out
  clear hu2 hb4 HB3 HC3 K0 K1 KA HS
  cases g <;> cases up <;> cases lost
  · skip
    go_wp2
    go_ret
    exact ⟨⟨u2, rfl, by rw [HE.out]; exact HU2.out⟩, HB4.out⟩
  · skip
    go_wp2
    go_ret
    exact ⟨⟨u2, rfl, by rw [HE.out]; exact HU2.out⟩, HB4.out⟩
  · skip
    go_wp2
    go_ret
    exact ⟨⟨u2, rfl, by rw [HE.out]; exact HU2.out⟩, HB4.out⟩
  · skip
    go_wp2
    go_ret
    exact ⟨⟨u2, rfl, by rw [HE.out]; exact HU2.out⟩, HB4.out⟩
  · skip
    go_wp2
    go_ret
    exact ⟨⟨u2, rfl, by rw [HE.out]; exact HU2.out⟩, HB4.out⟩
  · skip
    go_wp2_with fail
    refine KA2.out.mono ?_
    rintro e w5 ⟨⟨u3, rfl, hu3⟩, hb5⟩
    have HB5 := Hid.mk' ((HB4.out.alloc HB4.out.size _).trans (hb5.mono (Nat.le_trans HB4.out.size (by simp))))
    have HU3 := Hid.mk' hu3
    clear hu3 hb5
    go_wp2
    go_ret
    exact ⟨⟨u3, rfl, by rw [HE.out]; exact HU3.out⟩, HB5.out⟩
  · skip
    go_wp2_with fail
    refine KA2.out.mono ?_
    rintro e w5 ⟨⟨u3, rfl, hu3⟩, hb5⟩
    have HB5 := Hid.mk' ((HB4.out.alloc HB4.out.size _).trans (hb5.mono (Nat.le_trans HB4.out.size (by simp))))
    have HU3 := Hid.mk' hu3
    clear hu3 hb5
    go_wp2
    go_ret
    exact ⟨⟨u3, rfl, by rw [HE.out]; exact HU3.out⟩, HB5.out⟩
  · skip
    go_wp2_with fail
    refine KA2.out.mono ?_
    rintro e w5 ⟨⟨u3, rfl, hu3⟩, hb5⟩
    have HB5 := Hid.mk' ((HB4.out.alloc HB4.out.size _).trans (hb5.mono (Nat.le_trans HB4.out.size (by simp))))
    have HU3 := Hid.mk' hu3
    clear hu3 hb5
    go_wp2
    go_ret
    exact ⟨⟨u3, rfl, by rw [HE.out]; exact HU3.out⟩, HB5.out⟩
set_option maxHeartbeats 8000000 in
set_option maxRecDepth 100000 in
theorem whole_neg_2 (k : Int) (g : Bool) (v : Value) (s : Nat) (x : Int) (w : World) (hs : bl s ≤ 4000) (hx0 : x < 0) (hx1 : -4000 ≤ x) (hS : SN w v s) :
    Calls Tryd.prog 31 #[SV k g v x, .int .i64 2] w fun e w' => (∃ u, e = .returned u ∧ SN w' u (wh 3 g s x)) ∧ Below w.heap.size w w' := by
  have KR := fun w h => right_int v s (-x - 1) w (by omega) (by omega) (by omega) h
  have eQ : wh 3 g s x = s / 2 ^ (-x - 1).toNat / 2 ^ (1 : Int).toNat + if goes 3 g (decide (s / 2 ^ (-x - 1).toNat % 2 = 1)) (decide (s % 2 ^ (-x - 1).toNat ≠ 0)) (decide (s / 2 ^ (-x - 1).toNat / 2 ^ (1 : Int).toNat % 2 = 1)) then 1 else 0 := by
    unfold wh
    rw [if_neg (by omega)]
    have e1 : (-x).toNat - 1 = (-x - 1).toNat := by omega
    have e2 : s / 2 ^ (-x).toNat = s / 2 ^ (-x - 1).toNat / 2 ^ (1 : Int).toNat := by
      rw [Nat.div_div_eq_div_mul, ← Nat.pow_add]; congr 2; omega
    rw [e1, e2]
  have hbA := bl_div_le s (-x - 1).toNat
  generalize s / 2 ^ (-x - 1).toNat = A at *
  obtain ⟨lost, hlost⟩ : ∃ b, b = decide (s % 2 ^ (-x - 1).toNat ≠ 0) := ⟨_, rfl⟩
  rw [← hlost] at KR eQ
  have K0 := fun w u h => Hid.mk' (at_zero u A w (by omega) h)
  have K1 := fun w u h => Hid.mk' (right_int u A 1 w (by omega) (by omega) (by omega) h)
  have hp := par_bool A
  have ht0 : 0 ≤ ((A % 4294967296 : Nat) : Int) := by omega
  have ht1 : ((A % 4294967296 : Nat) : Int) ≤ 4294967295 := by omega
  obtain ⟨up, hup⟩ : ∃ b, b = decide (A % 2 = 1) := ⟨_, rfl⟩
  rw [← hup] at hp eQ
  generalize ((A % 4294967296 : Nat) : Int) = t at *
  obtain ⟨lo2, hlo2⟩ : ∃ b, b = decide (A % 2 ^ (1 : Int).toNat ≠ 0) := ⟨_, rfl⟩
  rw [← hlo2] at K1
  have hbH := bl_div_le A (1 : Int).toNat
  generalize A / 2 ^ (1 : Int).toNat = H at *
  have K2 := fun w u h => Hid.mk' (at_zero u H w (by omega) h)
  have hp2 := par_bool H
  have ht2 : 0 ≤ ((H % 4294967296 : Nat) : Int) := by omega
  have ht3 : ((H % 4294967296 : Nat) : Int) ≤ 4294967295 := by omega
  obtain ⟨odd, hodd⟩ : ∃ b, b = decide (H % 2 = 1) := ⟨_, rfl⟩
  rw [← hodd] at hp2 eQ
  generalize ((H % 4294967296 : Nat) : Int) = t2 at *
  have KA := fun w u z h hz => Hid.mk' (addN_any u z H 1 w (by omega) (by rw [show bl 1 = 1 by decide]; omega) h hz)
  have HE := Hid.mk' eQ
  have HKR := Hid.mk' KR
  have HS := Hid.mk' hS
  clear eQ KR hup hlost hodd hlo2 hS
  go_enter Tryd.func31, Tryd.ntmps31
  go_wp2_with fail
  refine (HKR.out _ (HS.out.below ((Below.refl _ _).alloc (Nat.le_refl _) _))).mono ?_
  rintro e w3 ⟨⟨u, rfl, hu⟩, hb3⟩
  have K0 := K0 w3 u hu
  have K1 := K1 w3 u hu
  have HB3 := Hid.mk' (below_box hb3)
  have HC3 := Hid.mk' (c4_new.keep hb3)
  clear hu hb3 HKR
  go_wp2_with fail
  refine K0.out.mono ?_
  rintro e w' ⟨rfl, rfl⟩
  go_wp2_with fail
  refine K1.out.mono ?_
  rintro e w4 ⟨⟨u2, rfl, hu2⟩, hb4⟩
  have K2 := K2 w4 u2 hu2
  have HB4 := Hid.mk' (HB3.out.trans (hb4.mono HB3.out.size))
  obtain ⟨c0, c1, c2, c3⟩ := HC3.out.keep hb4
  have HU2 := Hid.mk' hu2
  have KA2 := Hid.mk' (KA (w4.alloc (.cells #[.int .u64 1] 22)) u2 _ (hu2.below ((Below.refl _ _).alloc (Nat.le_refl _) _)) sn_one).out
  clear hu2 hb4 HB3 HC3 K0 K1 KA HS
  go_wp2
  go_ret
  exact ⟨⟨u2, rfl, by rw [HE.out]; exact HU2.out⟩, HB4.out⟩
set_option maxHeartbeats 8000000 in
set_option maxRecDepth 100000 in
theorem whole_neg_3 (k : Int) (g : Bool) (v : Value) (s : Nat) (x : Int) (w : World) (hs : bl s ≤ 4000) (hx0 : x < 0) (hx1 : -4000 ≤ x) (hS : SN w v s) :
    Calls Tryd.prog 31 #[SV k g v x, .int .i64 3] w fun e w' => (∃ u, e = .returned u ∧ SN w' u (wh 0 g s x)) ∧ Below w.heap.size w w' := by
  have KR := fun w h => right_int v s (-x - 1) w (by omega) (by omega) (by omega) h
  have eQ : wh 0 g s x = s / 2 ^ (-x - 1).toNat / 2 ^ (1 : Int).toNat + if goes 0 g (decide (s / 2 ^ (-x - 1).toNat % 2 = 1)) (decide (s % 2 ^ (-x - 1).toNat ≠ 0)) (decide (s / 2 ^ (-x - 1).toNat / 2 ^ (1 : Int).toNat % 2 = 1)) then 1 else 0 := by
    unfold wh
    rw [if_neg (by omega)]
    have e1 : (-x).toNat - 1 = (-x - 1).toNat := by omega
    have e2 : s / 2 ^ (-x).toNat = s / 2 ^ (-x - 1).toNat / 2 ^ (1 : Int).toNat := by
      rw [Nat.div_div_eq_div_mul, ← Nat.pow_add]; congr 2; omega
    rw [e1, e2]
  have hbA := bl_div_le s (-x - 1).toNat
  generalize s / 2 ^ (-x - 1).toNat = A at *
  obtain ⟨lost, hlost⟩ : ∃ b, b = decide (s % 2 ^ (-x - 1).toNat ≠ 0) := ⟨_, rfl⟩
  rw [← hlost] at KR eQ
  have K0 := fun w u h => Hid.mk' (at_zero u A w (by omega) h)
  have K1 := fun w u h => Hid.mk' (right_int u A 1 w (by omega) (by omega) (by omega) h)
  have hp := par_bool A
  have ht0 : 0 ≤ ((A % 4294967296 : Nat) : Int) := by omega
  have ht1 : ((A % 4294967296 : Nat) : Int) ≤ 4294967295 := by omega
  obtain ⟨up, hup⟩ : ∃ b, b = decide (A % 2 = 1) := ⟨_, rfl⟩
  rw [← hup] at hp eQ
  generalize ((A % 4294967296 : Nat) : Int) = t at *
  obtain ⟨lo2, hlo2⟩ : ∃ b, b = decide (A % 2 ^ (1 : Int).toNat ≠ 0) := ⟨_, rfl⟩
  rw [← hlo2] at K1
  have hbH := bl_div_le A (1 : Int).toNat
  generalize A / 2 ^ (1 : Int).toNat = H at *
  have K2 := fun w u h => Hid.mk' (at_zero u H w (by omega) h)
  have hp2 := par_bool H
  have ht2 : 0 ≤ ((H % 4294967296 : Nat) : Int) := by omega
  have ht3 : ((H % 4294967296 : Nat) : Int) ≤ 4294967295 := by omega
  obtain ⟨odd, hodd⟩ : ∃ b, b = decide (H % 2 = 1) := ⟨_, rfl⟩
  rw [← hodd] at hp2 eQ
  generalize ((H % 4294967296 : Nat) : Int) = t2 at *
  have KA := fun w u z h hz => Hid.mk' (addN_any u z H 1 w (by omega) (by rw [show bl 1 = 1 by decide]; omega) h hz)
  have HE := Hid.mk' eQ
  have HKR := Hid.mk' KR
  have HS := Hid.mk' hS
  clear eQ KR hup hlost hodd hlo2 hS
  go_enter Tryd.func31, Tryd.ntmps31
  go_wp2_with fail
  refine (HKR.out _ (HS.out.below ((Below.refl _ _).alloc (Nat.le_refl _) _))).mono ?_
  rintro e w3 ⟨⟨u, rfl, hu⟩, hb3⟩
  have K0 := K0 w3 u hu
  have K1 := K1 w3 u hu
  have HB3 := Hid.mk' (below_box hb3)
  have HC3 := Hid.mk' (c4_new.keep hb3)
  clear hu hb3 HKR
  go_wp2_with fail
  refine K0.out.mono ?_
  rintro e w' ⟨rfl, rfl⟩
  go_wp2_with fail
  refine K1.out.mono ?_
  rintro e w4 ⟨⟨u2, rfl, hu2⟩, hb4⟩
  have K2 := K2 w4 u2 hu2
  have HB4 := Hid.mk' (HB3.out.trans (hb4.mono HB3.out.size))
  obtain ⟨c0, c1, c2, c3⟩ := HC3.out.keep hb4
  have HU2 := Hid.mk' hu2
  have KA2 := Hid.mk' (KA (w4.alloc (.cells #[.int .u64 1] 22)) u2 _ (hu2.below ((Below.refl _ _).alloc (Nat.le_refl _) _)) sn_one).out
  clear hu2 hb4 HB3 HC3 K0 K1 KA HS
  cases up
  · skip
    go_wp2
    go_ret
    exact ⟨⟨u2, rfl, by rw [HE.out]; exact HU2.out⟩, HB4.out⟩
  · cases lost
    · cases odd
      · skip
        go_wp2_with fail
        refine K2.out.mono ?_
        rintro e w' ⟨rfl, rfl⟩
        go_wp2
        go_ret
        exact ⟨⟨u2, rfl, by rw [HE.out]; exact HU2.out⟩, HB4.out⟩
      · skip
        go_wp2_with fail
        refine K2.out.mono ?_
        rintro e w' ⟨rfl, rfl⟩
        go_wp2_with fail
        refine KA2.out.mono ?_
        rintro e w5 ⟨⟨u3, rfl, hu3⟩, hb5⟩
        have HB5 := Hid.mk' ((HB4.out.alloc HB4.out.size _).trans (hb5.mono (Nat.le_trans HB4.out.size (by simp))))
        have HU3 := Hid.mk' hu3
        clear hu3 hb5
        go_wp2
        go_ret
        exact ⟨⟨u3, rfl, by rw [HE.out]; exact HU3.out⟩, HB5.out⟩
    · skip
      go_wp2_with fail
      refine KA2.out.mono ?_
      rintro e w5 ⟨⟨u3, rfl, hu3⟩, hb5⟩
      have HB5 := Hid.mk' ((HB4.out.alloc HB4.out.size _).trans (hb5.mono (Nat.le_trans HB4.out.size (by simp))))
      have HU3 := Hid.mk' hu3
      clear hu3 hb5
      go_wp2
      go_ret
      exact ⟨⟨u3, rfl, by rw [HE.out]; exact HU3.out⟩, HB5.out⟩
end Go.Proofs.YthmppcfhbbjhlaaDoor
