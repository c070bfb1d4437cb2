import Derived.Test.YtfaajmhmcdoibaaGP
import Derived.Deep.DeepCutAuto
set_option linter.all false
set_option linter.unusedVariables false
namespace Go.Proofs.Ytfaajmhmcdoibaa.By
open Go.RowKit
set_option maxRecDepth 100000


def inB (x lo hi : Int) : Bool := decide (lo ≤ x ∧ x ≤ hi)
theorem in_false {x lo hi : Int} (h : (!inB x lo hi) = true) : ¬ (lo ≤ x ∧ x ≤ hi) := by
  unfold inB at h; simp at h; omega
theorem in_true {x lo hi : Int} (h : inB x lo hi = true) : lo ≤ x ∧ x ≤ hi := by
  unfold inB at h; simpa using h
theorem in_dec (x lo hi : Int) (w : World) :
    Calls Try.prog 51 #[.int .i64 x, .int .i64 lo, .int .i64 hi] w fun e w' => e = .returned (.bool (inB x lo hi)) ∧ w = w' := by
  unfold inB
  by_cases h : lo ≤ x ∧ x ≤ hi
  · rw [decide_eq_true h]; exact in_yes x lo hi w h.1 h.2
  · rw [decide_eq_false h]; exact in_no x lo hi w h
def RV (r : Int × Int × Int) : Value := .agg #[.int .i64 r.1, .int .u64 r.2.1, .int .i64 r.2.2]
theorem ret_rv {X Y n : Int} (h : X = Y) : Ending.returned (.agg #[.int .i64 0, .int .u64 X, .int .i64 n]) = .returned (RV (0, Y, n)) := by rw [h]; rfl
theorem val1 {v acc q : Int} (h : v = acc % 18446744073709551616) : IntKind.u64.wrap (v + IntKind.u64.wrap q) = (acc + q) % 18446744073709551616 := by
  rw [IntKind.wrap_u64, IntKind.wrap_u64, h]; omega
theorem val2 {v acc q r : Int} (h : v = acc % 18446744073709551616) : IntKind.u64.wrap (IntKind.u64.wrap (v + IntKind.u64.wrap q) - r) = (acc + q - r) % 18446744073709551616 := by
  rw [val1 h, IntKind.wrap_u64]; omega
theorem val3 {v acc q : Int} {k : Nat} (hk : k = 9) (h : v = acc % 18446744073709551616) : IntKind.u64.wrap (v + IntKind.u64.wrap q) = (acc + q - P2 (7 * (k : Int) + 7)) % 18446744073709551616 := by
  subst hk
  rw [val1 h, show P2 (7 * ((9 : Nat) : Int) + 7) = 1180591620717411303424 by decide]; omega

set_option maxHeartbeats 2000000 in
set_option maxRecDepth 100000 in
theorem specGet_row (s : Bool) (b1 o1 : Nat) (cap : Nat) (bs : List Int) (P : Nat) (b : Int) (w : World) (hl : bs.length ≤ 1099511627776) (hr : P ≤ bs.length) (B : Int) (HB : Hid (B = normB b)) (hB0' : 1 ≤ B) (hB1' : B ≤ 64) (R : Int × Int × Int)
    (HC1 : Hid (∀ i, i < bs.length → w.cell? ⟨b1, o1 + i, none⟩ = some (.int .u8 (bs.getD i 0)))) (hB : AllB bs) (HG0 : Hid (getR s bs P B (9 + 1) 0 0 = R)) :
    Calls Try.prog 56 #[.slice (some ⟨b1, o1, none⟩) bs.length cap, .int .i64 P, .int .i64 b, .bool s] w fun e w' => e = .returned (RV R) ∧ Below w.heap.size w w' := by
  go_enter Try.func56, Try.ntmps56
  go_upto_if 18 with (go_at_call 51; refine (in_dec _ _ _ _).mono ?_; rintro e w' ⟨rfl, rfl⟩)
  go_cut [2] from 14 (fun v2 wc => v2 = .int .i64 B ∧ wc = w.alloc (Obj.cells #[Value.int .i64 0, Value.int .u64 0, Value.int .i64 0] 102))
  case first =>
    go_wp2
    · have hx : (!inB b 1 64) = true := by assumption
      have e : B = 64 := by rw [HB.out]; unfold normB; rw [if_neg (in_false hx)]
      go_meet
      case rel => exact ⟨by rw [e], rfl⟩
    · rename_i hx
      have e : B = b := by rw [HB.out]; unfold normB; rw [if_pos (in_true (by simpa using hx))]
      go_meet
      case rel => exact ⟨by rw [e], rfl⟩
  case rest =>
  obtain ⟨rfl, rfl⟩ := hcut
  go_wp2_with fail
  refine (in_yes _ _ _ _ (by omega) (by omega)).mono ?_
  rintro e w' ⟨rfl, rfl⟩
  go_wp2
  go_loop [11, 12] (fun vv kv => ∃ (k f : Nat) (v acc : Int), vv = .int .u64 v ∧ kv = .int .i64 k ∧ k + f = 9 ∧ 7 * (k : Int) < B ∧ 0 ≤ v ∧ v ≤ 18446744073709551615 ∧ Hid (v = acc % 18446744073709551616) ∧ Hid (getR s bs P B (f + 1) k acc = R)) (fun _ kv => 10 - (intOf kv).toNat)
  case atStart => exact ⟨0, 9, 0, 0, rfl, rfl, rfl, by omega, by omega, by omega, rfl, HG0⟩
  case round =>
    clear HG0
    obtain ⟨k, f, v, acc, rfl, rfl, hkf, hkB, hv0, hv1, HV, HG⟩ := hrel
    by_cases hlt : P + k < bs.length
    · have d0 := HC1.out (P + k) hlt
      have d1 : (w.alloc (Obj.cells #[Value.int .i64 0, Value.int .u64 0, Value.int .i64 0] 102)).cell? ⟨b1, o1 + (P + k), none⟩ = some (.int .u8 (bs.getD (P + k) 0)) := (Below.cell ((Below.refl _ _).alloc (Nat.le_refl _) _) (World.block_lt_of_cell? w _ d0)).trans d0
      clear d0
      obtain ⟨c, hcc⟩ : ∃ c, c = bs.getD (P + k) 0 := ⟨_, rfl⟩
      have hb := hB (P + k)
      have G1 := @getR_long s bs P f k (B) acc hlt
      have G2 := @getR_bits s bs P f k (B) acc hlt
      have G3 := @getR_end s bs P f k (B) acc hlt
      have G4 := @getR_more s bs P f k (B) acc hlt
      rw [← hcc] at d1 hb G1 G2 G3 G4
      rw [HG.out] at G1 G2 G3 G4
      have GL := Hid.mk' G1
      have GB := Hid.mk' G2
      have GE := Hid.mk' G3
      have GM := Hid.mk' G4
      clear G1 G2 G3 G4 hcc
      obtain ⟨hb0, hb1⟩ := hb
      have hei : (P : Int) + k < (bs.length : Int) := by omega
      by_cases hlast : B - 7 * (k : Int) ≤ 7
      · have hkl : ((k : Int) == (B + 6) / 7 - 1) = true := beq_iff_eq.2 (by omega)
        by_cases hbig : 128 ≤ c
        · have e := GL.out hlast hbig
          subst e
          go_wp2_with (first | (go_at_call 60; refine (rest_any _ _ _ _ hb0 hb1 (by omega) (by omega)).mono ?_; rintro e w' ⟨rfl, rfl⟩) | (go_at_call 61; refine (pow_any _ _ (by omega) (by omega)).mono ?_; rintro e w' ⟨rfl, rfl⟩))
          exact bodyPost_ret (v := .agg #[.int .i64 2, .int .u64 0, .int .i64 ((P : Int) + k + 1)]) (by simp [results, Try.results56, go_sem]) rfl ⟨rfl, (Below.refl _ _).alloc (Nat.le_refl _) _⟩
        · cases hq : rok s c (B - 7 * (k : Int))
          · have e := GB.out hlast (by omega) hq
            subst e
            go_wp2_with (first | (go_at_call 60; refine (rest_any _ _ _ _ hb0 hb1 (by omega) (by omega)).mono ?_; rintro e w' ⟨rfl, rfl⟩) | (go_at_call 61; refine (pow_any _ _ (by omega) (by omega)).mono ?_; rintro e w' ⟨rfl, rfl⟩))
            exact bodyPost_ret (v := .agg #[.int .i64 3, .int .u64 0, .int .i64 ((P : Int) + k + 1)]) (by simp [results, Try.results56, go_sem]) rfl ⟨rfl, (Below.refl _ _).alloc (Nat.le_refl _) _⟩
          · have HE := GE.out (by omega) (fun _ => hq)
            clear GL GB GE GM HG
            cases s
            · rw [show fin false (acc + c % 128 * P2 (7 * (k : Int))) c k = (acc + c % 128 * P2 (7 * (k : Int))) % 18446744073709551616 by unfold fin; rw [if_neg (by simp)]] at HE
              subst HE
              go_wp2_with (first | (go_at_call 60; refine (rest_any _ _ _ _ hb0 hb1 (by omega) (by omega)).mono ?_; rintro e w' ⟨rfl, rfl⟩) | (go_at_call 61; refine (pow_any _ _ (by omega) (by omega)).mono ?_; rintro e w' ⟨rfl, rfl⟩))
              exact bodyPost_ret (v := .agg #[.int .i64 0, .int .u64 (IntKind.u64.wrap (v + IntKind.u64.wrap (c % 128 * P2 (7 * (k : Int))))), .int .i64 ((P : Int) + k + 1)]) (by simp [results, Try.results56, go_sem]) rfl ⟨ret_rv (val1 HV.out), (Below.refl _ _).alloc (Nat.le_refl _) _⟩
            · by_cases h64 : 64 ≤ c
              · rw [show fin true (acc + c % 128 * P2 (7 * (k : Int))) c k = (acc + c % 128 * P2 (7 * (k : Int)) - P2 (7 * (k : Int) + 7)) % 18446744073709551616 by unfold fin; rw [if_pos ⟨rfl, h64⟩]] at HE
                subst HE
                by_cases h7 : 7 * (k : Int) + 7 < 64
                · go_wp2_with (first | (go_at_call 60; refine (rest_any _ _ _ _ hb0 hb1 (by omega) (by omega)).mono ?_; rintro e w' ⟨rfl, rfl⟩) | (go_at_call 61; refine (pow_any _ _ (by omega) (by omega)).mono ?_; rintro e w' ⟨rfl, rfl⟩))
                  exact bodyPost_ret (v := .agg #[.int .i64 0, .int .u64 (IntKind.u64.wrap (IntKind.u64.wrap (v + IntKind.u64.wrap (c % 128 * P2 (7 * (k : Int)))) - P2 (7 * (k : Int) + 7))), .int .i64 ((P : Int) + k + 1)]) (by simp [results, Try.results56, go_sem]) rfl ⟨ret_rv (val2 HV.out), (Below.refl _ _).alloc (Nat.le_refl _) _⟩
                · go_wp2_with (first | (go_at_call 60; refine (rest_any _ _ _ _ hb0 hb1 (by omega) (by omega)).mono ?_; rintro e w' ⟨rfl, rfl⟩) | (go_at_call 61; refine (pow_any _ _ (by omega) (by omega)).mono ?_; rintro e w' ⟨rfl, rfl⟩))
                  exact bodyPost_ret (v := .agg #[.int .i64 0, .int .u64 (IntKind.u64.wrap (v + IntKind.u64.wrap (c % 128 * P2 (7 * (k : Int))))), .int .i64 ((P : Int) + k + 1)]) (by simp [results, Try.results56, go_sem]) rfl ⟨ret_rv (val3 (by omega) HV.out), (Below.refl _ _).alloc (Nat.le_refl _) _⟩
              · rw [show fin true (acc + c % 128 * P2 (7 * (k : Int))) c k = (acc + c % 128 * P2 (7 * (k : Int))) % 18446744073709551616 by unfold fin; rw [if_neg (by omega)]] at HE
                subst HE
                go_wp2_with (first | (go_at_call 60; refine (rest_any _ _ _ _ hb0 hb1 (by omega) (by omega)).mono ?_; rintro e w' ⟨rfl, rfl⟩) | (go_at_call 61; refine (pow_any _ _ (by omega) (by omega)).mono ?_; rintro e w' ⟨rfl, rfl⟩))
                exact bodyPost_ret (v := .agg #[.int .i64 0, .int .u64 (IntKind.u64.wrap (v + IntKind.u64.wrap (c % 128 * P2 (7 * (k : Int))))), .int .i64 ((P : Int) + k + 1)]) (by simp [results, Try.results56, go_sem]) rfl ⟨ret_rv (val1 HV.out), (Below.refl _ _).alloc (Nat.le_refl _) _⟩

      · have hkl : ((k : Int) == (B + 6) / 7 - 1) = false := beq_eq_false_iff_ne.2 (by omega)
        by_cases hbig : 128 ≤ c
        · have HM := Hid.mk' (GM.out (by omega) hbig)
          clear GL GB GE GM HG
          go_wp2_with (first | (go_at_call 60; refine (rest_any _ _ _ _ hb0 hb1 (by omega) (by omega)).mono ?_; rintro e w' ⟨rfl, rfl⟩) | (go_at_call 61; refine (pow_any _ _ (by omega) (by omega)).mono ?_; rintro e w' ⟨rfl, rfl⟩))
          go_round
          case rel =>
            cases f with
            | zero => omega
            | succ f => exact ⟨k + 1, f, _, acc + c % 128 * P2 (7 * (k : Int)), rfl, by go_num, by omega, by omega, (by rw [IntKind.wrap_u64]; omega), (by rw [IntKind.wrap_u64]; omega), val1 HV.out, HM.out.symm⟩
          case measure => simp [intOf]; omega
        · have HE := GE.out (by omega) (fun h => absurd h hlast)
          clear GL GB GE GM HG
          cases s
          · rw [show fin false (acc + c % 128 * P2 (7 * (k : Int))) c k = (acc + c % 128 * P2 (7 * (k : Int))) % 18446744073709551616 by unfold fin; rw [if_neg (by simp)]] at HE
            subst HE
            go_wp2_with (first | (go_at_call 60; refine (rest_any _ _ _ _ hb0 hb1 (by omega) (by omega)).mono ?_; rintro e w' ⟨rfl, rfl⟩) | (go_at_call 61; refine (pow_any _ _ (by omega) (by omega)).mono ?_; rintro e w' ⟨rfl, rfl⟩))
            exact bodyPost_ret (v := .agg #[.int .i64 0, .int .u64 (IntKind.u64.wrap (v + IntKind.u64.wrap (c % 128 * P2 (7 * (k : Int))))), .int .i64 ((P : Int) + k + 1)]) (by simp [results, Try.results56, go_sem]) rfl ⟨ret_rv (val1 HV.out), (Below.refl _ _).alloc (Nat.le_refl _) _⟩
          · by_cases h64 : 64 ≤ c
            · rw [show fin true (acc + c % 128 * P2 (7 * (k : Int))) c k = (acc + c % 128 * P2 (7 * (k : Int)) - P2 (7 * (k : Int) + 7)) % 18446744073709551616 by unfold fin; rw [if_pos ⟨rfl, h64⟩]] at HE
              subst HE
              have h7 : 7 * (k : Int) + 7 < 64 := by omega
              go_wp2_with (first | (go_at_call 60; refine (rest_any _ _ _ _ hb0 hb1 (by omega) (by omega)).mono ?_; rintro e w' ⟨rfl, rfl⟩) | (go_at_call 61; refine (pow_any _ _ (by omega) (by omega)).mono ?_; rintro e w' ⟨rfl, rfl⟩))
              exact bodyPost_ret (v := .agg #[.int .i64 0, .int .u64 (IntKind.u64.wrap (IntKind.u64.wrap (v + IntKind.u64.wrap (c % 128 * P2 (7 * (k : Int)))) - P2 (7 * (k : Int) + 7))), .int .i64 ((P : Int) + k + 1)]) (by simp [results, Try.results56, go_sem]) rfl ⟨ret_rv (val2 HV.out), (Below.refl _ _).alloc (Nat.le_refl _) _⟩
            · rw [show fin true (acc + c % 128 * P2 (7 * (k : Int))) c k = (acc + c % 128 * P2 (7 * (k : Int))) % 18446744073709551616 by unfold fin; rw [if_neg (by omega)]] at HE
              subst HE
              go_wp2_with (first | (go_at_call 60; refine (rest_any _ _ _ _ hb0 hb1 (by omega) (by omega)).mono ?_; rintro e w' ⟨rfl, rfl⟩) | (go_at_call 61; refine (pow_any _ _ (by omega) (by omega)).mono ?_; rintro e w' ⟨rfl, rfl⟩))
              exact bodyPost_ret (v := .agg #[.int .i64 0, .int .u64 (IntKind.u64.wrap (v + IntKind.u64.wrap (c % 128 * P2 (7 * (k : Int))))), .int .i64 ((P : Int) + k + 1)]) (by simp [results, Try.results56, go_sem]) rfl ⟨ret_rv (val1 HV.out), (Below.refl _ _).alloc (Nat.le_refl _) _⟩

    · have e : R = (1, 0, (bs.length : Int)) := by rw [← HG.out, getR_short (by omega)]
      subst e
      have hei : (bs.length : Int) ≤ (P : Int) + k := by omega
      go_wp2
      exact bodyPost_ret (v := .agg #[.int .i64 1, .int .u64 0, .int .i64 bs.length]) (by simp [results, Try.results56, go_sem]) rfl ⟨rfl, (Below.refl _ _).alloc (Nat.le_refl _) _⟩
end Go.Proofs.Ytfaajmhmcdoibaa.By
