import Derived.Test.YthmppcfhbbjhlaaDoorRt
import Derived.Test.YthmppcfhbbjhlaaDoorXm
import Derived.Test.YthmppcfhbbjhlaaDoorIw
import Derived.Test.YthmppcfhbbjhlaaDoorXs
import Derived.Deep.RegionHeld3
set_option linter.all false
namespace Go.Proofs.YthmppcfhbbjhlaaDoor
open Go.RowKit Go.Sort

theorem undrewA {w w6 : World} {o : Obj} (h : Below (w.alloc o).drew.heap.size (w.alloc o).drew w6) : Below w.heap.size w w6 :=
  below_box (show Below (w.alloc o).heap.size (w.alloc o) w6 from undrew h)
theorem c2_drewA {w w6 : World} {a b : Value} {t : TypeId} (h : Below (w.alloc (.cells #[a, b] t)).drew.heap.size (w.alloc (.cells #[a, b] t)).drew w6) : C2 w6 w.heap.size a b :=
  c2_new.keep (show Below (w.alloc (.cells #[a, b] t)).heap.size (w.alloc (.cells #[a, b] t)) w6 from undrew h)
theorem C2.set01 {w : World} {g : Nat} {a b a' b' : Value} (h : C2 w g a b) : C2 ((w.setCell ⟨g, 0, none⟩ a').setCell ⟨g, 1, none⟩ b') g a' b' := by
  obtain ⟨⟨h0, h1⟩, f0, f1⟩ := h
  refine ⟨⟨set_off (set_same h0) (by decide), set_same (set_off h1 (by decide))⟩, ?_, ?_⟩
  · rw [World.frozen?_setCell, World.frozen?_setCell]; exact f0
  · rw [World.frozen?_setCell, World.frozen?_setCell]; exact f1
theorem or_bit (R j : Nat) (hR : R % 2 ^ (j + 1) = 0) (hl : R + 2 ^ (j + 1) ≤ 18446744073709551616) : bits .or .u64 (R : Int) ((2 ^ j : Nat) : Int) = ((R + 2 ^ j : Nat) : Int) := by
  have hp : 2 ^ (j + 1) = 2 * 2 ^ j := by rw [Nat.pow_succ, Nat.mul_comm]
  have hj := Nat.two_pow_pos j
  rw [bits_or_u64_nat R (2 ^ j) (by omega) (by omega)]
  have e := Nat.mod_add_div R (2 ^ (j + 1))
  have h := or_add (R / 2 ^ (j + 1)) (2 ^ j) (j + 1) (by omega)
  rw [Nat.mul_comm (R / 2 ^ (j + 1)), show 2 ^ (j + 1) * (R / 2 ^ (j + 1)) = R by omega] at h
  rw [h]
theorem mod_half (R j : Nat) (h : R % 2 ^ (j + 1) = 0) : R % 2 ^ j = 0 ∧ (R + 2 ^ j) % 2 ^ j = 0 := by
  have hp : 2 ^ (j + 1) = 2 ^ j * 2 := by rw [Nat.pow_succ]
  have h1 : R % 2 ^ j = 0 := by
    rw [hp] at h
    have := Nat.mod_mul_right_mod R (2 ^ j) 2
    rw [h, Nat.zero_mod] at this
    exact this.symm
  exact ⟨h1, by rw [Nat.add_mod_right]; exact h1⟩

end Go.Proofs.YthmppcfhbbjhlaaDoor
namespace Go.Proofs.YthmppcfhbbjhlaaDoor
open Go.RowKit Go.Sort

set_option maxHeartbeats 8000000 in
set_option maxRecDepth 100000 in
theorem sroot_w_0 (v : Value) (x h : Int) (s : Nat) (w : World) (hs : bl s ≤ 60) (h0 : s ≠ 0) (hx0 : -1100 ≤ x) (hx1 : x ≤ 1000) (hS : SN w v s) (hh : x - 110 = 2 * h) :
    Calls Tryd.prog 28 #[FSw, SV 0 false v x] w fun e w' => (∃ r : Nat, IsR (s * 2 ^ 110) r ∧ e = .returned (.int .u64 ((rnd 53 11 (-1074) r h (decide (r * r ≠ s * 2 ^ 110)) : Nat) : Int))) ∧ Below w.heap.size w w' := by
  have KD : Int.tdiv (2 * h) 2 = h := Int.mul_tdiv_cancel_left h (by decide)
  have KW : Hid (IntKind.i64.wrap ((IntKind.i64.wrap (2 * h)).tdiv 2) = h) := by
    have e1 : IntKind.i64.wrap (2 * h) = 2 * h := by rw [IntKind.wrap_i64]; omega
    show _ = _
    rw [e1, KD, IntKind.wrap_i64]; omega
  have KE : Int.tmod (2 * h) 2 = 0 := by rw [Int.mul_tmod_right]
  have KO : (Int.tmod (x - 110) 2 != 0) = false := by rw [hh, KE]; rfl
  have KZ := fun w h => Hid.mk' (szero_key 0 false v x s w (by omega) h)
  rw [show (decide ((0 : Int) = 0) && decide (s = 0)) = false by simp [h0]] at KZ
  have KL := fun w h => Hid.mk' (left_int v s 110 w (by omega) (by omega) (by omega) h)
  rw [show (110 : Int).toNat = 110 by decide] at KL
  obtain ⟨X, hX⟩ : ∃ X, X = s * 2 ^ 110 := ⟨_, rfl⟩
  rw [← hX] at KL ⊢
  have hXb : bl X = bl s + 110 := by rw [hX]; exact bl_mul h0 110
  have hX0 : 1 ≤ bl s := bl_pos h0
  have HXL := Hid.mk' (bl_lt X)
  have KB := fun u w h => Hid.mk' (bits_any u X w (by omega) h)
  obtain ⟨nb, hnb⟩ : ∃ nb : Nat, nb = bl X := ⟨_, rfl⟩
  rw [← hnb] at KB HXL hXb
  have hnb1 : nb ≤ 180 := by omega
  have hblX : bl X ≤ 180 := by omega
  have HS := Hid.mk' hS
  clear hX hnb hS
  have KA1 := Hid.mk' (fun (j : Nat) (hj : j ≤ 100) (w' : World) => left_int (.slice (some ⟨w'.heap.size, 0, none⟩) 1 1) 1 (j : Int) (w'.alloc (.cells #[.int .u64 1] 22)) (by omega) (by omega) (by rw [show bl 1 = 1 by decide]; omega) sn_one)
  have HFIN := Hid.mk' (fun (r : Nat) (hr : IsR X r) (w' : World) (rv : Value) (hb : bl r ≤ 200) (hS : SN w' rv r) => round_w false (decide (r * r ≠ X)) r h rv w' (by omega) (by omega) (by omega) hS)
  go_enter Tryd.func28, Tryd.ntmps28
  go_wp2_with fail
  refine (KZ _ (HS.out.below (((Below.refl _ _).alloc (Nat.le_refl _) _).alloc (by simp) _))).out.mono ?_
  rintro e w1 ⟨rfl, hb⟩
  have CF := Hid.mk' (c3_new.past.keep hb)
  have CN := Hid.mk' ((d4_mid (a := .int .i64 0) (b := .bool false) (c := v) (d := .int .i64 x)).1.keep hb)
  have HB := Hid.mk' (below2 hb)
  clear hb KZ
  obtain ⟨q0, q1, q2⟩ := CF.out
  obtain ⟨c0, c1, c2, c3⟩ := CN.out
  go_wp2_with fail
  refine (KL _ (HS.out.below HB.out)).out.mono ?_
  rintro e w2 ⟨⟨u, rfl, hu⟩, hb⟩
  have CF2 := Hid.mk' (CF.out.keep hb)
  have CN2 := Hid.mk' (CN.out.keep hb)
  have HB2 := Hid.mk' (HB.out.trans (hb.mono HB.out.size))
  have HU := Hid.mk' hu
  clear hb hu KL CF CN HB q0 q1 q2 c0 c1 c2 c3
  go_wp2_with fail
  refine (KB u _ (HU.out.below ((Below.refl _ _).alloc (Nat.le_refl _) _))).out.mono ?_
  rintro e w3 ⟨rfl, rfl⟩
  clear KB
  have eI : (nb : Int) / 2 = ((nb / 2 : Nat) : Int) := by omega
  go_wp2
  go_loopw [7, 8] (fun rv iv wr => ∃ (k r : Nat), iv = .int .i64 ((k : Int) - 1) ∧ k ≤ nb / 2 + 2 ∧ SN wr rv r ∧ Hid (r * r ≤ X ∧ X < (r + 2 ^ k) * (r + 2 ^ k)) ∧ SN wr u X ∧ C3 wr w.heap.size (.int .i64 53) (.int .i64 11) (.int .i64 (-1074)) ∧ C4 wr (w.heap.size + 1) (.int .i64 0) (.bool false) v (.int .i64 x) ∧ Below w.heap.size w wr) (fun _ iv _ => (intOf iv + 1).toNat)
  case atStart =>
    refine ⟨nb / 2 + 2, 0, by first | rfl | (refine congrArg (Value.int .i64) ?_; omega), Nat.le_refl _, sn_nil, ⟨by omega, ?_⟩, HU.out.below ((Below.refl _ _).alloc (Nat.le_refl _) _), CF2.out.past, CN2.out.past, HB2.out.alloc HB2.out.size _⟩
    rw [Nat.zero_add, ← Nat.pow_add]
    exact Nat.lt_of_lt_of_le HXL.out (pow_le (by omega))
  case round =>
    clear CF2 CN2 HB2 HU
    obtain ⟨k, r, rfl, hk, hr, HQ, hu, cf, cn, hb⟩ := hrel
    have hbr : bl r ≤ 200 := by
      have h1 := HQ.out.1
      have h2 : bl (r * r) ≤ nb := bl_le (Nat.lt_of_le_of_lt h1 HXL.out)
      by_cases hz : r = 0
      · subst hz; simp [bl_zero]
      · have h3 : r ≤ r * r := Nat.le_mul_of_pos_left r (by omega)
        have h4 := bl_mono h3
        omega
    have HRv := Hid.mk' hr
    have HUv := Hid.mk' hu
    have CF := Hid.mk' cf
    have CN := Hid.mk' cn
    have HB := Hid.mk' hb
    obtain ⟨q0, q1, q2⟩ := id cf
    obtain ⟨c0, c1, c2, c3⟩ := id cn
    clear hr hu cf cn hb
    cases k with
    | zero =>
      have e0 : ((0 : Nat) : Int) - 1 = -1 := by omega
      rw [e0]
      have HI : Hid (IsR X r) := by
        have h1 := HQ.out
        rw [Nat.pow_zero] at h1
        exact h1
      have hbrr := bl_mul2 r r
      have K1 := fun (w' : World) p hp => Hid.mk' (mulN_any p p r r w' (by omega) (by omega) hp hp)
      have K2 := fun (w' : World) p hp hq => Hid.mk' (compare_any p u (r * r) X w' (by omega) (by omega) hp hq)
      have hcz : (cmpI (r * r) X != 0) = decide (r * r ≠ X) := by
        rw [Bool.eq_iff_iff]
        unfold cmpI
        simp only [bne_iff_ne, decide_eq_true_eq]
        split
        · omega
        · split <;> omega
      have K3 := fun (w' : World) p hp => Hid.mk' (HFIN.out r HI.out w' p hbr hp)
      obtain ⟨mo, hmo⟩ : ∃ mo, mo = decide (r * r ≠ X) := ⟨_, rfl⟩
      rw [← hmo] at hcz K3
      have HMO := Hid.mk' hmo
      generalize cmpI (r * r) X = cz at *
      obtain ⟨Rz, hRz⟩ : ∃ Rz : Int, Rz = sg_w false + (rnd 53 11 (-1074) r h mo : Nat) := ⟨_, rfl⟩
      rw [← hRz] at K3
      have HRZ : Hid (Rz = ((rnd 53 11 (-1074) r h mo : Nat) : Int)) := by
        show _ = _
        rw [hRz]; simp [sg_w]
      have K4 : ∀ (w' : World) (p : Value) (y : Int) (b : Bool), y = h → b = mo → SN w' p r → Hid (Calls Tryd.prog 30 #[FSw, .bool false, p, .int .i64 y, .bool b] w' fun e w'' => e = .returned (.int .u64 Rz) ∧ Below w'.heap.size w' w'') := by
        intro w' p y b e1 e2 hp
        rw [e1, e2]
        exact K3 w' p hp
      clear hmo hRz HQ KA1 HFIN hbrr K3
      go_upto_region 16 with fail
      go_region_held3 (fun w' => w'.cell? ⟨w.heap.size, 0, none⟩ = some (.int .i64 53) ∧ w'.cell? ⟨w.heap.size, 1, none⟩ = some (.int .i64 11) ∧ w'.cell? ⟨w.heap.size, 2, none⟩ = some (.int .i64 (-1074)) ∧ w'.cell? ⟨w.heap.size + 1, 3, none⟩ = some (.int .i64 x)) (first | exact ⟨q0, q1, q2, c3⟩ | exact ⟨q0', q1', q2', c3'⟩ | exact ⟨q0'', q1'', q2'', c3''⟩) (first
        | (go_at_call 71; refine (K1 wr.drew _ HRv.out).out.mono ?_; rintro e w6 ⟨⟨p6, rfl, hp6⟩, hb6⟩; have hq6 := undrew hb6; have CF6 := Hid.mk' (CF.out.keep hq6); have CN6 := Hid.mk' (CN.out.keep hq6); obtain ⟨q0', q1', q2'⟩ := CF6.out; obtain ⟨c0', c1', c2', c3'⟩ := CN6.out; have HU6 := Hid.mk' (HUv.out.below hq6); have HR6 := Hid.mk' (HRv.out.below hq6); have HB6 := Hid.mk' (HB.out.trans (hq6.mono HB.out.size)); clear hb6 hq6)
        | (go_at_call 70; refine (K2 _ _ hp6 HU6.out).out.mono ?_; rintro e w7 ⟨rfl, rfl⟩)
        | (go_at_call 30; refine (K4 _ _ _ _ ?_ ?_ HR6.out).out.mono ?_; exact KW.out; exact rfl; rintro e w8 ⟨rfl, hb8⟩; have HB8 := Hid.mk' (HB6.out.trans (hb8.mono HB6.out.size)); obtain ⟨q0'', q1'', q2''⟩ := CF6.out.keep hb8; obtain ⟨c0'', c1'', c2'', c3''⟩ := CN6.out.keep hb8; clear hb8))
      all_goals go_wp2
      all_goals go_ret
      all_goals (refine ⟨⟨r, HI.out, ?_⟩, HB8.out⟩; rw [← HMO.out, ← HRZ.out]; rfl)
    | succ j =>
      have e0 : ((j + 1 : Nat) : Int) - 1 = (j : Int) := by omega
      rw [e0]
      have hj : j ≤ 100 := by omega
      obtain ⟨T, hT⟩ : ∃ T, T = r + 2 ^ j := ⟨_, rfl⟩
      have hp : 2 ^ (j + 1) = 2 * 2 ^ j := by rw [Nat.pow_succ, Nat.mul_comm]
      have HI : Hid ((T * T ≤ X → T * T ≤ X ∧ X < (T + 2 ^ j) * (T + 2 ^ j)) ∧ (¬ T * T ≤ X → r * r ≤ X ∧ X < (r + 2 ^ j) * (r + 2 ^ j))) := by
        obtain ⟨q3, q4⟩ := HQ.out
        refine ⟨fun h => ⟨h, ?_⟩, fun h => ⟨q3, by rw [← hT]; omega⟩⟩
        have e : T + 2 ^ j = r + 2 ^ (j + 1) := by omega
        rw [e]; exact q4
      have hbj : bl (1 * 2 ^ j) ≤ 200 := by rw [bl_mul (by decide), show bl 1 = 1 by decide]; omega
      have hbT : bl T ≤ 400 := by
        have h1 := bl_lt r
        have h2 := bl_lt (1 * 2 ^ j)
        have h3 := pow_le hbr
        have h4 := pow_le hbj
        have h5 : T < 2 ^ 201 := by
          have e : (2 : Nat) ^ 201 = 2 * 2 ^ 200 := by rw [Nat.mul_comm, ← Nat.pow_succ]
          omega
        exact Nat.le_trans (bl_le h5) (by decide)
      have hbTT := bl_mul2 T T
      have K1 := Hid.mk' (KA1.out j hj wr)
      have K2 := fun (w' : World) p q hp hq => Hid.mk' (addN_any p q r (1 * 2 ^ j) w' (by omega) (by omega) hp hq)
      rw [show r + 1 * 2 ^ j = T by rw [Nat.one_mul]; exact hT.symm] at K2
      have K3 := fun (w' : World) p hp => Hid.mk' (mulN_any p p T T w' (by omega) (by omega) hp hp)
      have K4 := fun (w' : World) p hp hq => Hid.mk' (compare_any p u (T * T) X w' (by omega) (by omega) hp hq)
      rw [show ((j : Nat) : Int).toNat = j by omega] at K1
      have hcz : decide (cmpI (T * T) X ≤ 0) = decide (T * T ≤ X) := by
        unfold cmpI; rw [decide_eq_decide]; split
        · omega
        · split <;> omega
      generalize cmpI (T * T) X = cz at *
      have HCZ := Hid.mk' hcz
      clear HQ hT hp hcz KA1 HFIN
      go_wp2_with fail
      refine K1.out.mono ?_
      rintro e w4 ⟨⟨p4, rfl, hp4⟩, hb4⟩
      have hq4 := below_box hb4
      have K2' := K2 w4 _ p4 (HRv.out.below hq4) hp4
      have HU4 := Hid.mk' (HUv.out.below hq4)
      have HR4 := Hid.mk' (HRv.out.below hq4)
      have CF4 := Hid.mk' (CF.out.keep hq4)
      have CN4 := Hid.mk' (CN.out.keep hq4)
      have HB4 := Hid.mk' (HB.out.trans (hq4.mono HB.out.size))
      clear hp4 hb4 hq4 K1 K2 HUv HRv CF CN HB q0 q1 q2 c0 c1 c2 c3
      go_wp2_with fail
      refine K2'.out.mono ?_
      rintro e w5 ⟨⟨p5, rfl, hp5⟩, hb5⟩
      have K3' := K3 w5 p5 hp5
      have HP5 := Hid.mk' hp5
      have HU5 := Hid.mk' (HU4.out.below hb5)
      have HR5 := Hid.mk' (HR4.out.below hb5)
      have CF5 := Hid.mk' (CF4.out.keep hb5)
      have CN5 := Hid.mk' (CN4.out.keep hb5)
      have HB5 := Hid.mk' (HB4.out.trans (hb5.mono HB4.out.size))
      clear hp5 hb5 K2' K3 HU4 HR4 CF4 CN4 HB4
      go_wp2_with fail
      refine K3'.out.mono ?_
      rintro e w6 ⟨⟨p6, rfl, hp6⟩, hb6⟩
      have K4' := K4 w6 p6 hp6 (HU5.out.below hb6)
      have HU6 := Hid.mk' (HU5.out.below hb6)
      have HR6 := Hid.mk' (HR5.out.below hb6)
      have HP6 := Hid.mk' (HP5.out.below hb6)
      have CF6 := Hid.mk' (CF5.out.keep hb6)
      have CN6 := Hid.mk' (CN5.out.keep hb6)
      have HB6 := Hid.mk' (HB5.out.trans (hb6.mono HB5.out.size))
      clear hp6 hb6 K3' K4 HU5 HR5 HP5 CF5 CN5 HB5
      go_wp2_with fail
      refine K4'.out.mono ?_
      rintro e w7 ⟨rfl, rfl⟩
      by_cases hle : T * T ≤ X
      · have t1 : cz ≤ 0 := by have := HCZ.out; rw [show decide (T * T ≤ X) = true from decide_eq_true hle] at this; exact of_decide_eq_true this
        go_wp2
        go_roundw
        case rel => exact ⟨j, T, rfl, by omega, HP6.out, HI.out.1 hle, HU6.out, CF6.out, CN6.out, HB6.out⟩
        case measure => simp [intOf]; try omega
      · have t1 : ¬ cz ≤ 0 := by have := HCZ.out; rw [show decide (T * T ≤ X) = false from decide_eq_false hle] at this; exact of_decide_eq_false this
        go_wp2
        go_roundw
        case rel => exact ⟨j, r, rfl, by omega, HR6.out, HI.out.2 hle, HU6.out, CF6.out, CN6.out, HB6.out⟩
        case measure => simp [intOf]; try omega

set_option maxHeartbeats 8000000 in
set_option maxRecDepth 100000 in
theorem sroot_w_1 (v : Value) (x h : Int) (s : Nat) (w : World) (hs : bl s ≤ 60) (h0 : s ≠ 0) (hx0 : -1100 ≤ x) (hx1 : x ≤ 1000) (hS : SN w v s) (hh : x - 111 = 2 * h) :
    Calls Tryd.prog 28 #[FSw, SV 0 false v x] w fun e w' => (∃ r : Nat, IsR (s * 2 ^ 111) r ∧ e = .returned (.int .u64 ((rnd 53 11 (-1074) r h (decide (r * r ≠ s * 2 ^ 111)) : Nat) : Int))) ∧ Below w.heap.size w w' := by
  have KD : Int.tdiv (2 * h) 2 = h := Int.mul_tdiv_cancel_left h (by decide)
  have KW : Hid (IntKind.i64.wrap ((IntKind.i64.wrap (2 * h)).tdiv 2) = h) := by
    have e1 : IntKind.i64.wrap (2 * h) = 2 * h := by rw [IntKind.wrap_i64]; omega
    show _ = _
    rw [e1, KD, IntKind.wrap_i64]; omega
  have KE : Int.tmod (2 * h) 2 = 0 := by rw [Int.mul_tmod_right]
  have KO : (Int.tmod (x - 110) 2 != 0) = true := by rw [bne_iff_ne, Int.tmod_def]; omega
  have KZ := fun w h => Hid.mk' (szero_key 0 false v x s w (by omega) h)
  rw [show (decide ((0 : Int) = 0) && decide (s = 0)) = false by simp [h0]] at KZ
  have KL := fun w h => Hid.mk' (left_int v s 111 w (by omega) (by omega) (by omega) h)
  rw [show (111 : Int).toNat = 111 by decide] at KL
  obtain ⟨X, hX⟩ : ∃ X, X = s * 2 ^ 111 := ⟨_, rfl⟩
  rw [← hX] at KL ⊢
  have hXb : bl X = bl s + 111 := by rw [hX]; exact bl_mul h0 111
  have hX0 : 1 ≤ bl s := bl_pos h0
  have HXL := Hid.mk' (bl_lt X)
  have KB := fun u w h => Hid.mk' (bits_any u X w (by omega) h)
  obtain ⟨nb, hnb⟩ : ∃ nb : Nat, nb = bl X := ⟨_, rfl⟩
  rw [← hnb] at KB HXL hXb
  have hnb1 : nb ≤ 180 := by omega
  have hblX : bl X ≤ 180 := by omega
  have HS := Hid.mk' hS
  clear hX hnb hS
  have KA1 := Hid.mk' (fun (j : Nat) (hj : j ≤ 100) (w' : World) => left_int (.slice (some ⟨w'.heap.size, 0, none⟩) 1 1) 1 (j : Int) (w'.alloc (.cells #[.int .u64 1] 22)) (by omega) (by omega) (by rw [show bl 1 = 1 by decide]; omega) sn_one)
  have HFIN := Hid.mk' (fun (r : Nat) (hr : IsR X r) (w' : World) (rv : Value) (hb : bl r ≤ 200) (hS : SN w' rv r) => round_w false (decide (r * r ≠ X)) r h rv w' (by omega) (by omega) (by omega) hS)
  go_enter Tryd.func28, Tryd.ntmps28
  go_wp2_with fail
  refine (KZ _ (HS.out.below (((Below.refl _ _).alloc (Nat.le_refl _) _).alloc (by simp) _))).out.mono ?_
  rintro e w1 ⟨rfl, hb⟩
  have CF := Hid.mk' (c3_new.past.keep hb)
  have CN := Hid.mk' ((d4_mid (a := .int .i64 0) (b := .bool false) (c := v) (d := .int .i64 x)).1.keep hb)
  have HB := Hid.mk' (below2 hb)
  clear hb KZ
  obtain ⟨q0, q1, q2⟩ := CF.out
  obtain ⟨c0, c1, c2, c3⟩ := CN.out
  go_wp2_with fail
  refine (KL _ (HS.out.below HB.out)).out.mono ?_
  rintro e w2 ⟨⟨u, rfl, hu⟩, hb⟩
  have CF2 := Hid.mk' (CF.out.keep hb)
  have CN2 := Hid.mk' (CN.out.keep hb)
  have HB2 := Hid.mk' (HB.out.trans (hb.mono HB.out.size))
  have HU := Hid.mk' hu
  clear hb hu KL CF CN HB q0 q1 q2 c0 c1 c2 c3
  go_wp2_with fail
  refine (KB u _ (HU.out.below ((Below.refl _ _).alloc (Nat.le_refl _) _))).out.mono ?_
  rintro e w3 ⟨rfl, rfl⟩
  clear KB
  have eI : (nb : Int) / 2 = ((nb / 2 : Nat) : Int) := by omega
  go_wp2
  go_loopw [7, 8] (fun rv iv wr => ∃ (k r : Nat), iv = .int .i64 ((k : Int) - 1) ∧ k ≤ nb / 2 + 2 ∧ SN wr rv r ∧ Hid (r * r ≤ X ∧ X < (r + 2 ^ k) * (r + 2 ^ k)) ∧ SN wr u X ∧ C3 wr w.heap.size (.int .i64 53) (.int .i64 11) (.int .i64 (-1074)) ∧ C4 wr (w.heap.size + 1) (.int .i64 0) (.bool false) v (.int .i64 x) ∧ Below w.heap.size w wr) (fun _ iv _ => (intOf iv + 1).toNat)
  case atStart =>
    refine ⟨nb / 2 + 2, 0, by first | rfl | (refine congrArg (Value.int .i64) ?_; omega), Nat.le_refl _, sn_nil, ⟨by omega, ?_⟩, HU.out.below ((Below.refl _ _).alloc (Nat.le_refl _) _), CF2.out.past, CN2.out.past, HB2.out.alloc HB2.out.size _⟩
    rw [Nat.zero_add, ← Nat.pow_add]
    exact Nat.lt_of_lt_of_le HXL.out (pow_le (by omega))
  case round =>
    clear CF2 CN2 HB2 HU
    obtain ⟨k, r, rfl, hk, hr, HQ, hu, cf, cn, hb⟩ := hrel
    have hbr : bl r ≤ 200 := by
      have h1 := HQ.out.1
      have h2 : bl (r * r) ≤ nb := bl_le (Nat.lt_of_le_of_lt h1 HXL.out)
      by_cases hz : r = 0
      · subst hz; simp [bl_zero]
      · have h3 : r ≤ r * r := Nat.le_mul_of_pos_left r (by omega)
        have h4 := bl_mono h3
        omega
    have HRv := Hid.mk' hr
    have HUv := Hid.mk' hu
    have CF := Hid.mk' cf
    have CN := Hid.mk' cn
    have HB := Hid.mk' hb
    obtain ⟨q0, q1, q2⟩ := id cf
    obtain ⟨c0, c1, c2, c3⟩ := id cn
    clear hr hu cf cn hb
    cases k with
    | zero =>
      have e0 : ((0 : Nat) : Int) - 1 = -1 := by omega
      rw [e0]
      have HI : Hid (IsR X r) := by
        have h1 := HQ.out
        rw [Nat.pow_zero] at h1
        exact h1
      have hbrr := bl_mul2 r r
      have K1 := fun (w' : World) p hp => Hid.mk' (mulN_any p p r r w' (by omega) (by omega) hp hp)
      have K2 := fun (w' : World) p hp hq => Hid.mk' (compare_any p u (r * r) X w' (by omega) (by omega) hp hq)
      have hcz : (cmpI (r * r) X != 0) = decide (r * r ≠ X) := by
        rw [Bool.eq_iff_iff]
        unfold cmpI
        simp only [bne_iff_ne, decide_eq_true_eq]
        split
        · omega
        · split <;> omega
      have K3 := fun (w' : World) p hp => Hid.mk' (HFIN.out r HI.out w' p hbr hp)
      obtain ⟨mo, hmo⟩ : ∃ mo, mo = decide (r * r ≠ X) := ⟨_, rfl⟩
      rw [← hmo] at hcz K3
      have HMO := Hid.mk' hmo
      generalize cmpI (r * r) X = cz at *
      obtain ⟨Rz, hRz⟩ : ∃ Rz : Int, Rz = sg_w false + (rnd 53 11 (-1074) r h mo : Nat) := ⟨_, rfl⟩
      rw [← hRz] at K3
      have HRZ : Hid (Rz = ((rnd 53 11 (-1074) r h mo : Nat) : Int)) := by
        show _ = _
        rw [hRz]; simp [sg_w]
      have K4 : ∀ (w' : World) (p : Value) (y : Int) (b : Bool), y = h → b = mo → SN w' p r → Hid (Calls Tryd.prog 30 #[FSw, .bool false, p, .int .i64 y, .bool b] w' fun e w'' => e = .returned (.int .u64 Rz) ∧ Below w'.heap.size w' w'') := by
        intro w' p y b e1 e2 hp
        rw [e1, e2]
        exact K3 w' p hp
      clear hmo hRz HQ KA1 HFIN hbrr K3
      go_upto_region 16 with fail
      go_region_held3 (fun w' => w'.cell? ⟨w.heap.size, 0, none⟩ = some (.int .i64 53) ∧ w'.cell? ⟨w.heap.size, 1, none⟩ = some (.int .i64 11) ∧ w'.cell? ⟨w.heap.size, 2, none⟩ = some (.int .i64 (-1074)) ∧ w'.cell? ⟨w.heap.size + 1, 3, none⟩ = some (.int .i64 x)) (first | exact ⟨q0, q1, q2, c3⟩ | exact ⟨q0', q1', q2', c3'⟩ | exact ⟨q0'', q1'', q2'', c3''⟩) (first
        | (go_at_call 71; refine (K1 wr.drew _ HRv.out).out.mono ?_; rintro e w6 ⟨⟨p6, rfl, hp6⟩, hb6⟩; have hq6 := undrew hb6; have CF6 := Hid.mk' (CF.out.keep hq6); have CN6 := Hid.mk' (CN.out.keep hq6); obtain ⟨q0', q1', q2'⟩ := CF6.out; obtain ⟨c0', c1', c2', c3'⟩ := CN6.out; have HU6 := Hid.mk' (HUv.out.below hq6); have HR6 := Hid.mk' (HRv.out.below hq6); have HB6 := Hid.mk' (HB.out.trans (hq6.mono HB.out.size)); clear hb6 hq6)
        | (go_at_call 70; refine (K2 _ _ hp6 HU6.out).out.mono ?_; rintro e w7 ⟨rfl, rfl⟩)
        | (go_at_call 30; refine (K4 _ _ _ _ ?_ ?_ HR6.out).out.mono ?_; exact KW.out; exact rfl; rintro e w8 ⟨rfl, hb8⟩; have HB8 := Hid.mk' (HB6.out.trans (hb8.mono HB6.out.size)); obtain ⟨q0'', q1'', q2''⟩ := CF6.out.keep hb8; obtain ⟨c0'', c1'', c2'', c3''⟩ := CN6.out.keep hb8; clear hb8))
      all_goals go_wp2
      all_goals go_ret
      all_goals (refine ⟨⟨r, HI.out, ?_⟩, HB8.out⟩; rw [← HMO.out, ← HRZ.out]; rfl)
    | succ j =>
      have e0 : ((j + 1 : Nat) : Int) - 1 = (j : Int) := by omega
      rw [e0]
      have hj : j ≤ 100 := by omega
      obtain ⟨T, hT⟩ : ∃ T, T = r + 2 ^ j := ⟨_, rfl⟩
      have hp : 2 ^ (j + 1) = 2 * 2 ^ j := by rw [Nat.pow_succ, Nat.mul_comm]
      have HI : Hid ((T * T ≤ X → T * T ≤ X ∧ X < (T + 2 ^ j) * (T + 2 ^ j)) ∧ (¬ T * T ≤ X → r * r ≤ X ∧ X < (r + 2 ^ j) * (r + 2 ^ j))) := by
        obtain ⟨q3, q4⟩ := HQ.out
        refine ⟨fun h => ⟨h, ?_⟩, fun h => ⟨q3, by rw [← hT]; omega⟩⟩
        have e : T + 2 ^ j = r + 2 ^ (j + 1) := by omega
        rw [e]; exact q4
      have hbj : bl (1 * 2 ^ j) ≤ 200 := by rw [bl_mul (by decide), show bl 1 = 1 by decide]; omega
      have hbT : bl T ≤ 400 := by
        have h1 := bl_lt r
        have h2 := bl_lt (1 * 2 ^ j)
        have h3 := pow_le hbr
        have h4 := pow_le hbj
        have h5 : T < 2 ^ 201 := by
          have e : (2 : Nat) ^ 201 = 2 * 2 ^ 200 := by rw [Nat.mul_comm, ← Nat.pow_succ]
          omega
        exact Nat.le_trans (bl_le h5) (by decide)
      have hbTT := bl_mul2 T T
      have K1 := Hid.mk' (KA1.out j hj wr)
      have K2 := fun (w' : World) p q hp hq => Hid.mk' (addN_any p q r (1 * 2 ^ j) w' (by omega) (by omega) hp hq)
      rw [show r + 1 * 2 ^ j = T by rw [Nat.one_mul]; exact hT.symm] at K2
      have K3 := fun (w' : World) p hp => Hid.mk' (mulN_any p p T T w' (by omega) (by omega) hp hp)
      have K4 := fun (w' : World) p hp hq => Hid.mk' (compare_any p u (T * T) X w' (by omega) (by omega) hp hq)
      rw [show ((j : Nat) : Int).toNat = j by omega] at K1
      have hcz : decide (cmpI (T * T) X ≤ 0) = decide (T * T ≤ X) := by
        unfold cmpI; rw [decide_eq_decide]; split
        · omega
        · split <;> omega
      generalize cmpI (T * T) X = cz at *
      have HCZ := Hid.mk' hcz
      clear HQ hT hp hcz KA1 HFIN
      go_wp2_with fail
      refine K1.out.mono ?_
      rintro e w4 ⟨⟨p4, rfl, hp4⟩, hb4⟩
      have hq4 := below_box hb4
      have K2' := K2 w4 _ p4 (HRv.out.below hq4) hp4
      have HU4 := Hid.mk' (HUv.out.below hq4)
      have HR4 := Hid.mk' (HRv.out.below hq4)
      have CF4 := Hid.mk' (CF.out.keep hq4)
      have CN4 := Hid.mk' (CN.out.keep hq4)
      have HB4 := Hid.mk' (HB.out.trans (hq4.mono HB.out.size))
      clear hp4 hb4 hq4 K1 K2 HUv HRv CF CN HB q0 q1 q2 c0 c1 c2 c3
      go_wp2_with fail
      refine K2'.out.mono ?_
      rintro e w5 ⟨⟨p5, rfl, hp5⟩, hb5⟩
      have K3' := K3 w5 p5 hp5
      have HP5 := Hid.mk' hp5
      have HU5 := Hid.mk' (HU4.out.below hb5)
      have HR5 := Hid.mk' (HR4.out.below hb5)
      have CF5 := Hid.mk' (CF4.out.keep hb5)
      have CN5 := Hid.mk' (CN4.out.keep hb5)
      have HB5 := Hid.mk' (HB4.out.trans (hb5.mono HB4.out.size))
      clear hp5 hb5 K2' K3 HU4 HR4 CF4 CN4 HB4
      go_wp2_with fail
      refine K3'.out.mono ?_
      rintro e w6 ⟨⟨p6, rfl, hp6⟩, hb6⟩
      have K4' := K4 w6 p6 hp6 (HU5.out.below hb6)
      have HU6 := Hid.mk' (HU5.out.below hb6)
      have HR6 := Hid.mk' (HR5.out.below hb6)
      have HP6 := Hid.mk' (HP5.out.below hb6)
      have CF6 := Hid.mk' (CF5.out.keep hb6)
      have CN6 := Hid.mk' (CN5.out.keep hb6)
      have HB6 := Hid.mk' (HB5.out.trans (hb6.mono HB5.out.size))
      clear hp6 hb6 K3' K4 HU5 HR5 HP5 CF5 CN5 HB5
      go_wp2_with fail
      refine K4'.out.mono ?_
      rintro e w7 ⟨rfl, rfl⟩
      by_cases hle : T * T ≤ X
      · have t1 : cz ≤ 0 := by have := HCZ.out; rw [show decide (T * T ≤ X) = true from decide_eq_true hle] at this; exact of_decide_eq_true this
        go_wp2
        go_roundw
        case rel => exact ⟨j, T, rfl, by omega, HP6.out, HI.out.1 hle, HU6.out, CF6.out, CN6.out, HB6.out⟩
        case measure => simp [intOf]; try omega
      · have t1 : ¬ cz ≤ 0 := by have := HCZ.out; rw [show decide (T * T ≤ X) = false from decide_eq_false hle] at this; exact of_decide_eq_false this
        go_wp2
        go_roundw
        case rel => exact ⟨j, r, rfl, by omega, HR6.out, HI.out.2 hle, HU6.out, CF6.out, CN6.out, HB6.out⟩
        case measure => simp [intOf]; try omega
end Go.Proofs.YthmppcfhbbjhlaaDoor
