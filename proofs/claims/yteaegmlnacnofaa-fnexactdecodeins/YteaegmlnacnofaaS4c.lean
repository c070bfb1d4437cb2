import Derived.Test.YteaegmlnacnofaaDB
set_option linter.all false
set_option linter.unusedVariables false
namespace Go.Proofs.Yteaegmlnacnofaa
open Go.RowKit Go.Sort
set_option maxRecDepth 100000
set_option maxHeartbeats 16000000 in
theorem lebL_sc (s : Nat) (ba : Option Addr) (bc : BC) (bs : List Int) (p : Nat) (w : World) (h : Sr w s ba bc bs p 0 0) (hA : AllB bs) (hl : bs.length ≤ 1099511627776) :
    Calls Try.prog 49 #[.pointer (some ⟨s, 0, none⟩), .int .i64 64, .bool true] w (SpP (numM true 64 bs p) (fun v => .int .u64 v) isU w s ba bc bs) := by
  have HS := Hid.mk' h
  have HA := Hid.mk' hA
  have hpl := h.le
  clear h hA
  go_enter Try.func49, Try.ntmps49
  go_wp2_with fail
  go_loopw [7, 9] (fun x i wr => ∃ (k : Nat) (v : Int), i = .int .i64 (k : Int) ∧ x = .int .u64 v ∧ 0 ≤ v ∧ v ≤ 18446744073709551615 ∧ w.grownBy wr (some s) ∧ ((k ≤ 9 ∧ v < By.P2 (7 * (k : Int)) ∧ Sv true bs p 64 k v ∧ Sr wr s ba bc bs (p + k) 0 0) ∨ (k = 10 ∧ ∃ er a p', er ≠ 0 ∧ numM true 64 bs p = .bad er a ∧ Sr wr s ba bc bs p' er a))) (fun _ i _ => 11 - (intOf i).toNat)
  case atStart => exact ⟨0, 0, rfl, rfl, by omega, by omega, World.grownBy.refl _ _, .inl ⟨by omega, by decide, rfl, HS.out⟩⟩
  case round =>
    obtain ⟨k, v, rfl, rfl, hv0, hv1, hg, hst⟩ := hrel
    have HG := Hid.mk' hg
    clear hg HS
    rcases hst with ⟨hk, hvk, hsv, hs⟩ | ⟨hk, er, a, p', hne, hM, hs⟩
    · have hki : (k : Int) ≤ 9 := by omega
      have c3 := hs.c3
      have HSV := Hid.mk' hsv
      have HVK := Hid.mk' hvk
      have KT := Hid.mk' (byte_sc s ba bc bs (p + k) wr hs hl)
      clear hsv hs hvk
      by_cases hpk : bs.length ≤ p + k
      · have HM := Hid.mk' (sv_short HSV.out (by omega) hpk)
        have htm : takeM bs (p + k) = .bad 2 bs.length := by unfold takeM; rw [if_pos hpk]
        rw [htm] at KT
        have hq1 : IntKind.u64.wrap v = v := by rw [IntKind.wrap_u64]; omega
        clear htm HSV
        go_wp2_with (first
          | (go_at_call 23; refine (KT.out).mono ?_; rintro e w1 ⟨hg1, u, p', rfl, rfl, hs1⟩; have HS1 := Hid.mk' hs1; have HG1 := Hid.mk' (grown_trans HG.out hg1); have e3 := hs1.c3; clear hg1 hs1)
          | (go_at_call 75; refine (By.pow_any _ _ (by omega) (by omega)).mono ?_; rintro e w3 ⟨rfl, rfl⟩))
        go_ret
        refine ⟨HG1.out, ?_⟩
        rw [HM.out]
        exact ⟨_, _, rfl, ⟨_, rfl, by omega, by omega⟩, HS1.out⟩
      · have htm : takeM bs (p + k) = .ok (bs.getD (p + k) 0) (p + k + 1) := by unfold takeM; rw [if_neg hpk]
        rw [htm] at KT
        have hyb := HA.out (p + k)
        have hpk' : p + k < bs.length := by omega
        have XM := Hid.mk' (fun h1 h2 => sv_more HSV.out hpk' h1 h2)
        have XL := Hid.mk' (fun h2 h3 => sv_long HSV.out (by omega) hpk' h2 h3)
        have XB := Hid.mk' (fun h2 h3 h4 => sv_bits HSV.out (by omega) hpk' h2 h3 h4)
        have XE := Hid.mk' (fun h2 h3 => sv_end HSV.out (by omega) hpk' h2 h3)
        have XS := Hid.mk' (By.acc_step v (bs.getD (p + k) 0) k hv0 HVK.out)
        clear htm HSV
        generalize bs.getD (p + k) 0 = y at *
        obtain ⟨hy0, hy1⟩ := hyb
        have KR := Hid.mk' (fun W => By.rest_any true y (64 - 7 * (k : Int)) W hy0 hy1 (by omega) (by omega))
        have ec : ((p + k + 1 : Nat) : Int) = (p : Int) + k + 1 := by omega
        have HP := Hid.mk' (By.P2_pos (7 * (k : Int)))
        have HP2 := Hid.mk' (By.P2_63 (n := 7 * (k : Int)) (by omega))
        by_cases hkl : k = 9
        · have hkn : ((k : Int) == 9) = true := by simp; omega
          have hkge : 9 ≤ (k : Int) := by omega
          have HKL := Hid.mk' hkl
          clear hkl
          by_cases hge : 128 ≤ y
          · have HM := Hid.mk' (XL.out (by omega) hge)
            clear XM XL XB XE XS
            go_wp2_with (first
              | (go_at_call 23; refine (KT.out).mono ?_; rintro e w1 ⟨hg1, rfl, hs1⟩; have HS1 := Hid.mk' hs1; have HG1 := Hid.mk' (grown_trans HG.out hg1); have e1 := hs1.c1; have e3 := hs1.c3; have KF := Hid.mk' (fail_sc s ba bc bs (p + k + 1) 7 ((p + k + 1 : Nat) : Int) w1 hs1); clear hg1 hs1)
              | (go_at_call 76; refine (KR.out _).mono ?_; rintro e w2 ⟨rfl, rfl⟩)
              | (go_at_call 75; refine (By.pow_any _ _ (by omega) (by omega)).mono ?_; rintro e w3 ⟨rfl, rfl⟩)
              | (go_at_call 25; refine (KF.out).mono ?_; rintro e w4 ⟨rfl, hs4, hg4⟩; have HS4 := Hid.mk' hs4; have HG4 := Hid.mk' (grown_trans HG1.out hg4); clear hs4 hg4))
            go_roundw
            case rel => exact ⟨k + 1, _, by go_num, rfl, (u64rng _).1, (u64rng _).2, HG4.out, .inr ⟨by have := HKL.out; omega, 7, _, _, by decide, HM.out, by have := HS4.out; simpa using this⟩⟩
            case measure => simp [intOf]; have := HKL.out; omega
          · have hlt : y < 128 := by omega
            cases hok : By.rok true y (64 - 7 * (k : Int))
            · have HM := Hid.mk' (XB.out (by omega) hlt hok)
              rw [hok] at KR
              clear XM XL XB XE XS hok
              by_cases h64 : 64 ≤ y
              · skip
                go_wp2_with (first
                  | (go_at_call 23; refine (KT.out).mono ?_; rintro e w1 ⟨hg1, rfl, hs1⟩; have HS1 := Hid.mk' hs1; have HG1 := Hid.mk' (grown_trans HG.out hg1); have e1 := hs1.c1; have e3 := hs1.c3; have KF := Hid.mk' (fail_sc s ba bc bs (p + k + 1) 7 ((p + k + 1 : Nat) : Int) w1 hs1); clear hg1 hs1)
                  | (go_at_call 76; refine (KR.out _).mono ?_; rintro e w2 ⟨rfl, rfl⟩)
                  | (go_at_call 75; refine (By.pow_any _ _ (by omega) (by omega)).mono ?_; rintro e w3 ⟨rfl, rfl⟩)
                  | (go_at_call 25; refine (KF.out).mono ?_; rintro e w4 ⟨rfl, hs4, hg4⟩; have HS4 := Hid.mk' hs4; have HG4 := Hid.mk' (grown_trans HG1.out hg4); clear hs4 hg4))
                go_ret
                refine ⟨HG4.out, ?_⟩
                rw [HM.out]
                exact ⟨_, _, rfl, ⟨_, rfl, u64rng _⟩, by have := HS4.out; simpa using this⟩
              · have h64' : y < 64 := by omega
                skip
                go_wp2_with (first
                  | (go_at_call 23; refine (KT.out).mono ?_; rintro e w1 ⟨hg1, rfl, hs1⟩; have HS1 := Hid.mk' hs1; have HG1 := Hid.mk' (grown_trans HG.out hg1); have e1 := hs1.c1; have e3 := hs1.c3; have KF := Hid.mk' (fail_sc s ba bc bs (p + k + 1) 7 ((p + k + 1 : Nat) : Int) w1 hs1); clear hg1 hs1)
                  | (go_at_call 76; refine (KR.out _).mono ?_; rintro e w2 ⟨rfl, rfl⟩)
                  | (go_at_call 75; refine (By.pow_any _ _ (by omega) (by omega)).mono ?_; rintro e w3 ⟨rfl, rfl⟩)
                  | (go_at_call 25; refine (KF.out).mono ?_; rintro e w4 ⟨rfl, hs4, hg4⟩; have HS4 := Hid.mk' hs4; have HG4 := Hid.mk' (grown_trans HG1.out hg4); clear hs4 hg4))
                go_ret
                refine ⟨HG4.out, ?_⟩
                rw [HM.out]
                exact ⟨_, _, rfl, ⟨_, rfl, u64rng _⟩, by have := HS4.out; simpa using this⟩
            · have HM := Hid.mk' (XE.out hlt (fun _ => hok))
              rw [hok] at KR
              clear XM XL XB XE hok
              by_cases h64 : 64 ≤ y
              · have HV : Hid (IntKind.u64.wrap (v + IntKind.u64.wrap (y % 128 * By.P2 (7 * (k : Int)))) = By.fin true (v + y % 128 * By.P2 (7 * (k : Int))) y k) := by show _ = _; simp only [By.fin, true_and, h64, if_true]; exact By.val3 HKL.out (by omega)
                go_wp2_with (first
                  | (go_at_call 23; refine (KT.out).mono ?_; rintro e w1 ⟨hg1, rfl, hs1⟩; have HS1 := Hid.mk' hs1; have HG1 := Hid.mk' (grown_trans HG.out hg1); have e1 := hs1.c1; have e3 := hs1.c3; have KF := Hid.mk' (fail_sc s ba bc bs (p + k + 1) 7 ((p + k + 1 : Nat) : Int) w1 hs1); clear hg1 hs1)
                  | (go_at_call 76; refine (KR.out _).mono ?_; rintro e w2 ⟨rfl, rfl⟩)
                  | (go_at_call 75; refine (By.pow_any _ _ (by omega) (by omega)).mono ?_; rintro e w3 ⟨rfl, rfl⟩)
                  | (go_at_call 25; refine (KF.out).mono ?_; rintro e w4 ⟨rfl, hs4, hg4⟩; have HS4 := Hid.mk' hs4; have HG4 := Hid.mk' (grown_trans HG1.out hg4); clear hs4 hg4))
                go_ret
                refine ⟨HG1.out, ?_⟩
                rw [HM.out]
                exact ⟨by rw [HV.out]; rfl, HS1.out⟩
              · have h64' : y < 64 := by omega
                have HV : Hid (IntKind.u64.wrap (v + IntKind.u64.wrap (y % 128 * By.P2 (7 * (k : Int)))) = By.fin true (v + y % 128 * By.P2 (7 * (k : Int))) y k) := by show _ = _; simp only [By.fin, true_and, h64, if_false]; exact By.val1 (by omega)
                go_wp2_with (first
                  | (go_at_call 23; refine (KT.out).mono ?_; rintro e w1 ⟨hg1, rfl, hs1⟩; have HS1 := Hid.mk' hs1; have HG1 := Hid.mk' (grown_trans HG.out hg1); have e1 := hs1.c1; have e3 := hs1.c3; have KF := Hid.mk' (fail_sc s ba bc bs (p + k + 1) 7 ((p + k + 1 : Nat) : Int) w1 hs1); clear hg1 hs1)
                  | (go_at_call 76; refine (KR.out _).mono ?_; rintro e w2 ⟨rfl, rfl⟩)
                  | (go_at_call 75; refine (By.pow_any _ _ (by omega) (by omega)).mono ?_; rintro e w3 ⟨rfl, rfl⟩)
                  | (go_at_call 25; refine (KF.out).mono ?_; rintro e w4 ⟨rfl, hs4, hg4⟩; have HS4 := Hid.mk' hs4; have HG4 := Hid.mk' (grown_trans HG1.out hg4); clear hs4 hg4))
                go_ret
                refine ⟨HG1.out, ?_⟩
                rw [HM.out]
                exact ⟨by rw [HV.out]; rfl, HS1.out⟩
        · have hkl' : (k : Int) < 9 := by omega
          have hkn : ((k : Int) == 9) = false := by simp; omega
          by_cases hge : 128 ≤ y
          · have HSV1 := Hid.mk' (XM.out (by omega) (by omega) hge)
            have HXS := Hid.mk' XS.out
            have hw1 : Hid (IntKind.u64.wrap (v + IntKind.u64.wrap (y % 128 * By.P2 (7 * (k : Int)))) = v + y % 128 * By.P2 (7 * (k : Int))) := by
              have h1 := XS.out
              have h2 := By.P2_63 (n := 7 * ((k + 1 : Nat) : Int)) (by omega)
              have h3 := By.mul_bd (y % 128) (By.P2 (7 * (k : Int))) (by omega) (by omega) HP.out
              show _ = _
              rw [IntKind.wrap_u64, IntKind.wrap_u64]; omega
            clear XM XL XB XE XS
            go_wp2_with (first
              | (go_at_call 23; refine (KT.out).mono ?_; rintro e w1 ⟨hg1, rfl, hs1⟩; have HS1 := Hid.mk' hs1; have HG1 := Hid.mk' (grown_trans HG.out hg1); have e1 := hs1.c1; have e3 := hs1.c3; have KF := Hid.mk' (fail_sc s ba bc bs (p + k + 1) 7 ((p + k + 1 : Nat) : Int) w1 hs1); clear hg1 hs1)
              | (go_at_call 76; refine (KR.out _).mono ?_; rintro e w2 ⟨rfl, rfl⟩)
              | (go_at_call 75; refine (By.pow_any _ _ (by omega) (by omega)).mono ?_; rintro e w3 ⟨rfl, rfl⟩)
              | (go_at_call 25; refine (KF.out).mono ?_; rintro e w4 ⟨rfl, hs4, hg4⟩; have HS4 := Hid.mk' hs4; have HG4 := Hid.mk' (grown_trans HG1.out hg4); clear hs4 hg4))
            go_roundw
            case rel => exact ⟨k + 1, _, by go_num, rfl, by rw [hw1.out]; exact HXS.out.1, by rw [hw1.out]; have := HXS.out.2; have h2 := By.P2_63 (n := 7 * ((k + 1 : Nat) : Int)) (by omega); omega, HG1.out, .inl ⟨by omega, by rw [hw1.out]; exact HXS.out.2, by rw [hw1.out]; exact HSV1.out, HS1.out⟩⟩
            case measure => simp [intOf]; omega
          · have hlt : y < 128 := by omega
            have HM := Hid.mk' (XE.out hlt (fun h => by omega))
            clear XM XL XB XE
            by_cases h64 : 64 ≤ y
            · have HV : Hid (IntKind.u64.wrap (IntKind.u64.wrap (v + IntKind.u64.wrap (y % 128 * By.P2 (7 * (k : Int)))) - By.P2 (7 * (k : Int) + 7)) = By.fin true (v + y % 128 * By.P2 (7 * (k : Int))) y k) := by show _ = _; simp only [By.fin, true_and, h64, if_true]; exact By.val2 (by omega)
              go_wp2_with (first
                | (go_at_call 23; refine (KT.out).mono ?_; rintro e w1 ⟨hg1, rfl, hs1⟩; have HS1 := Hid.mk' hs1; have HG1 := Hid.mk' (grown_trans HG.out hg1); have e1 := hs1.c1; have e3 := hs1.c3; have KF := Hid.mk' (fail_sc s ba bc bs (p + k + 1) 7 ((p + k + 1 : Nat) : Int) w1 hs1); clear hg1 hs1)
                | (go_at_call 76; refine (KR.out _).mono ?_; rintro e w2 ⟨rfl, rfl⟩)
                | (go_at_call 75; refine (By.pow_any _ _ (by omega) (by omega)).mono ?_; rintro e w3 ⟨rfl, rfl⟩)
                | (go_at_call 25; refine (KF.out).mono ?_; rintro e w4 ⟨rfl, hs4, hg4⟩; have HS4 := Hid.mk' hs4; have HG4 := Hid.mk' (grown_trans HG1.out hg4); clear hs4 hg4))
              go_ret
              refine ⟨HG1.out, ?_⟩
              rw [HM.out]
              exact ⟨by rw [HV.out]; rfl, HS1.out⟩
            · have h64' : y < 64 := by omega
              have HV : Hid (IntKind.u64.wrap (v + IntKind.u64.wrap (y % 128 * By.P2 (7 * (k : Int)))) = By.fin true (v + y % 128 * By.P2 (7 * (k : Int))) y k) := by show _ = _; simp only [By.fin, true_and, h64, if_false]; exact By.val1 (by omega)
              go_wp2_with (first
                | (go_at_call 23; refine (KT.out).mono ?_; rintro e w1 ⟨hg1, rfl, hs1⟩; have HS1 := Hid.mk' hs1; have HG1 := Hid.mk' (grown_trans HG.out hg1); have e1 := hs1.c1; have e3 := hs1.c3; have KF := Hid.mk' (fail_sc s ba bc bs (p + k + 1) 7 ((p + k + 1 : Nat) : Int) w1 hs1); clear hg1 hs1)
                | (go_at_call 76; refine (KR.out _).mono ?_; rintro e w2 ⟨rfl, rfl⟩)
                | (go_at_call 75; refine (By.pow_any _ _ (by omega) (by omega)).mono ?_; rintro e w3 ⟨rfl, rfl⟩)
                | (go_at_call 25; refine (KF.out).mono ?_; rintro e w4 ⟨rfl, hs4, hg4⟩; have HS4 := Hid.mk' hs4; have HG4 := Hid.mk' (grown_trans HG1.out hg4); clear hs4 hg4))
              go_ret
              refine ⟨HG1.out, ?_⟩
              rw [HM.out]
              exact ⟨by rw [HV.out]; rfl, HS1.out⟩
    · have hk2 : ¬ (k : Int) ≤ 9 := by omega
      have hk3 : decide ((k : Int) ≤ 9) = false := decide_eq_false hk2
      clear hk
      have c3 := hs.c3
      have HM := Hid.mk' hM
      have HS1 := Hid.mk' hs
      have hne2 : (er == 0) = false := by simpa using hne
      clear hs hM
      go_wp2_with fail
      go_ret
      refine ⟨HG.out, ?_⟩
      rw [HM.out]
      exact ⟨_, _, rfl, ⟨_, rfl, hv0, hv1⟩, HS1.out⟩
end Go.Proofs.Yteaegmlnacnofaa
