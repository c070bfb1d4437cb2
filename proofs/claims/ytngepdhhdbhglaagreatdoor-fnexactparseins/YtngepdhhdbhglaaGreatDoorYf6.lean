import Derived.Test.YtngepdhhdbhglaaGreatDoorYf3
import Derived.Lib.ConvBytes
import Derived.Lib.AtoiErrMem
set_option linter.all false
set_option linter.unusedVariables false
namespace Go.Proofs.YtngepdhhdbhglaaGreatDoor
open Go.RowKit Go.Sort
set_option maxRecDepth 100000
set_option maxHeartbeats 32000000 in
theorem pui64_c (l : Wd) (w : World) (hne : l ≠ []) (hl : l.length ≤ 1099511627776) :
    Calls Tryz.prog 79 #[.string (S l), .int .i64 16, .int .i64 64] w fun e w' => PuP 18446744073709551615 l w e w' := by
  have hemp : (S l).toList.isEmpty = false := by
    rw [ByteArray.toList_eq, S_toList]; cases l with
    | nil => exact absurd rfl hne
    | cons x r => rfl
  have hcv := Lib.run_convert_string_bytes (P := Tryz.prog) w 9 22 5 (S l) (u := .string) Tryz.underlying9 Tryz.underlying22 Tryz.underlying5
  have hB : ∀ j, j < l.length → (Lib.bytesWorld w 5 (S l)).cell? ⟨w.heap.size, j, none⟩ = some (.int .u8 (l.getD j 0).toNat) := fun j hj => by
    have := Lib.bytesWorld_cell w 5 (S l) j (by rw [S_size]; exact hj)
    rwa [S_toList] at this
  have hbw := Lib.bytesWorld_below w 5 (S l)
  have hz : (S l).size = l.length := S_size l
  obtain ⟨W1, hW1⟩ : ∃ W1, W1 = Lib.bytesWorld w 5 (S l) := ⟨_, rfl⟩
  rw [← hW1] at hcv hB hbw
  clear hW1
  have HBW := Hid.mk' hbw
  have HBC := Hid.mk' hB
  clear hbw hB
  have hmv : IntKind.u64.wrap (IntKind.u64.wrap 18446744073709551616 - 1) = 18446744073709551615 := by
    simp only [IntKind.wrap_u64]; decide
  go_enter Tryz.func79, Tryz.ntmps79
  go_wp2
  go_loop [12, 13, 101] (fun vu vn vi => ∃ (k acc : Nat) (a : Int), vu = .bool false ∧ vn = .int .u64 a ∧ vi = .int .i64 k ∧ k ≤ l.length ∧ Hid (a = (acc : Int) ∧ acc ≤ 18446744073709551615 ∧ pu 18446744073709551615 0 l = pu 18446744073709551615 acc (l.drop k))) (fun _ _ vi => l.length - (intOf vi).toNat)
  case atStart => exact ⟨0, 0, 0, rfl, rfl, rfl, by omega, rfl, by omega, rfl⟩
  case round =>
    obtain ⟨k, acc, a, rfl, rfl, rfl, hk, hh⟩ := hrel
    obtain ⟨ha, hacc, hdec⟩ := hh.out
    clear hh
    have a0 : 0 ≤ a := by omega
    have a1 : a ≤ 18446744073709551615 := by omega
    by_cases hkn : k < l.length
    · have hki : (k : Int) < (l.length : Int) := by omega
      have hc := HBC.out k hkn
      have hdrop : l.drop k = l[k]'hkn :: l.drop (k + 1) := List.drop_eq_getElem_cons hkn
      have hget : l.getD k 0 = l[k]'hkn := by simp [List.getD, List.getElem?_eq_getElem hkn]
      rw [hdrop] at hdec
      rw [hget] at hc
      generalize l[k]'hkn = c at hc hdec
      have hc256 : c.toNat < 256 := c.toNat_lt
      clear HBC hdrop hget
      obtain ⟨v, hv⟩ : ∃ v, v = bits .or .u8 (c.toNat : Int) 32 := ⟨_, rfl⟩
      have v0 : 0 ≤ v := by rw [hv]; exact bits_lo_u8 _ _ _
      have v1 : v ≤ 255 := by rw [hv]; exact bits_hi_u8 _ _ _
      have KL := Hid.mk' (fun w => Tryz.internal_strconv_lower (c.toNat : Int) w)
      rw [← hv] at KL
      by_cases hdig : 48 ≤ c.toNat ∧ c.toNat ≤ 57
      · obtain ⟨hd0, hd1⟩ := hdig
        obtain ⟨d, hd⟩ : ∃ d, d = c.toNat - 48 := ⟨_, rfl⟩
        have hdg : dgI c = some d := by rw [hd]; simp [dgI, hd0, hd1]
        have hdn : c.toNat = d + 48 := by omega
        have hd9 : d ≤ 9 := by omega
        rw [hdn] at hc
        have hcc : ((d + 48 : Nat) : Int) = (d : Int) + 48 := by omega
        rw [hcc] at hc
        have g1 : ((d : Int) + 48 == 95) = false := by simp; omega
        have g2 : (48 : Int) ≤ (d : Int) + 48 := by omega
        have g3 : (d : Int) + 48 ≤ 57 := by omega
        have g4 : IntKind.u8.wrap ((d : Int) + 48 - 48) = (d : Int) := by rw [IntKind.wrap_u8]; omega
        have g4' : IntKind.u8.wrap (d : Int) = (d : Int) := by rw [IntKind.wrap_u8]; omega
        have g5 : ¬ (16 : Int) ≤ (d : Int) := by omega
        have g6 : IntKind.u64.wrap (d : Int) = (d : Int) := by rw [IntKind.wrap_u64]; omega
        clear hcc hdn hd hd0 hd1 hc256 hv v0 v1 KL
        by_cases hcut : 1152921504606846976 ≤ acc
        · have hF : pu 18446744073709551615 acc (c :: l.drop (k + 1)) = none := by simp [pu, hdg, hcut]
          rw [hF] at hdec
          have icut : 1152921504606846976 ≤ a := by omega
          have HD := Hid.mk' hdec
          clear hacc hF ha hdec hcut hdg
          go_wp2
          go_ret2
          exact ⟨_, _, rfl, HBW.out, .inr ⟨HD.out, .inr rfl⟩⟩
        · by_cases hov : 18446744073709551615 < acc * 16 + d
          · exfalso; omega
          · have hF : pu 18446744073709551615 acc (c :: l.drop (k + 1)) = pu 18446744073709551615 (acc * 16 + d) (l.drop (k + 1)) := by simp [pu, hdg, hcut, hov]
            have HN : Hid (a * 16 + (d : Int) = ((acc * 16 + d : Nat) : Int) ∧ acc * 16 + d ≤ 18446744073709551615 ∧ pu 18446744073709551615 0 l = pu 18446744073709551615 (acc * 16 + d) (l.drop (k + 1))) := ⟨by omega, by omega, by rw [hdec, hF]⟩
            have iov : ¬ 18446744073709551615 < a * 16 + (d : Int) := by omega
            have icut : ¬ 1152921504606846976 ≤ a := by omega
            have w1 : IntKind.u64.wrap (a * 16) = a * 16 := by rw [IntKind.wrap_u64]; omega
            have w2 : IntKind.u64.wrap (a * 16 + (d : Int)) = a * 16 + (d : Int) := by rw [IntKind.wrap_u64]; omega
            have w3 : ¬ a * 16 + (d : Int) < a * 16 := by omega
            clear hacc hF ha hdec hcut hov hdg
            go_wp2
            refine ⟨⟨k + 1, acc * 16 + d, a * 16 + (d : Int), rfl, (by first | rfl | (congr 1; omega)), (by first | rfl | (congr 1; omega)), by omega, HN⟩, by simp [intOf]; omega⟩
      · by_cases hlet : 97 ≤ v ∧ v ≤ 102
        · obtain ⟨hl0, hl1⟩ := hlet
          obtain ⟨d, hd⟩ : ∃ d : Nat, v = (d : Int) + 87 := ⟨(v - 87).toNat, by omega⟩
          have hdg : dgI c = some d := by
            simp only [dgI]
            rw [if_neg hdig, ← hv, if_pos ⟨hl0, hl1⟩, hd]
            congr 1
          have h95 : c.toNat ≠ 95 := by
            intro e
            rw [e] at hv
            have : bits .or .u8 ((95 : Nat) : Int) 32 = 127 := by decide
            omega
          have g0 : ((c.toNat : Int) == 95) = false := by simp; omega
          have hnd : 48 ≤ (c.toNat : Int) → ¬ (c.toNat : Int) ≤ 57 := by omega
          generalize (c.toNat : Int) = ci at *
          have g1 : (97 : Int) ≤ v := hl0
          have g2 : v ≤ 122 := by omega
          have g3 : IntKind.u8.wrap (v - 97) = v - 97 := by rw [IntKind.wrap_u8]; omega
          have g4 : IntKind.u8.wrap (v - 97 + 10) = (d : Int) := by rw [IntKind.wrap_u8]; omega
          have g5 : ¬ (16 : Int) ≤ (d : Int) := by omega
          have g6 : IntKind.u64.wrap (d : Int) = (d : Int) := by rw [IntKind.wrap_u64]; omega
          have hd15 : (d : Int) ≤ 15 := by omega
          have hd0 : (0 : Int) ≤ (d : Int) := by omega
          clear hl0 hl1 hc256 hv v0 v1 hdig h95 hd
          by_cases h48 : (48 : Int) ≤ ci
          · have h57 := hnd h48
            clear hnd
            by_cases hcut : 1152921504606846976 ≤ acc
            · have hF : pu 18446744073709551615 acc (c :: l.drop (k + 1)) = none := by simp [pu, hdg, hcut]
              rw [hF] at hdec
              have icut : 1152921504606846976 ≤ a := by omega
              have HD := Hid.mk' hdec
              clear hacc hF ha hdec hcut hdg
              go_wp2_with (go_at_call 89; refine (KL.out _).mono ?_; rintro e w' ⟨rfl, rfl⟩)
              go_ret2
              exact ⟨_, _, rfl, HBW.out, .inr ⟨HD.out, .inr rfl⟩⟩
            · by_cases hov : 18446744073709551615 < acc * 16 + d
              · exfalso; omega
              · have hF : pu 18446744073709551615 acc (c :: l.drop (k + 1)) = pu 18446744073709551615 (acc * 16 + d) (l.drop (k + 1)) := by simp [pu, hdg, hcut, hov]
                have HN : Hid (a * 16 + (d : Int) = ((acc * 16 + d : Nat) : Int) ∧ acc * 16 + d ≤ 18446744073709551615 ∧ pu 18446744073709551615 0 l = pu 18446744073709551615 (acc * 16 + d) (l.drop (k + 1))) := ⟨by omega, by omega, by rw [hdec, hF]⟩
                have iov : ¬ 18446744073709551615 < a * 16 + (d : Int) := by omega
                have icut : ¬ 1152921504606846976 ≤ a := by omega
                have w1 : IntKind.u64.wrap (a * 16) = a * 16 := by rw [IntKind.wrap_u64]; omega
                have w2 : IntKind.u64.wrap (a * 16 + (d : Int)) = a * 16 + (d : Int) := by rw [IntKind.wrap_u64]; omega
                have w3 : ¬ a * 16 + (d : Int) < a * 16 := by omega
                clear hacc hF ha hdec hcut hov hdg
                go_wp2_with (go_at_call 89; refine (KL.out _).mono ?_; rintro e w' ⟨rfl, rfl⟩)
                refine ⟨⟨k + 1, acc * 16 + d, a * 16 + (d : Int), rfl, (by first | rfl | (congr 1; omega)), (by first | rfl | (congr 1; omega)), by omega, HN⟩, by simp [intOf]; omega⟩
          · clear hnd
            by_cases hcut : 1152921504606846976 ≤ acc
            · have hF : pu 18446744073709551615 acc (c :: l.drop (k + 1)) = none := by simp [pu, hdg, hcut]
              rw [hF] at hdec
              have icut : 1152921504606846976 ≤ a := by omega
              have HD := Hid.mk' hdec
              clear hacc hF ha hdec hcut hdg
              go_wp2_with (go_at_call 89; refine (KL.out _).mono ?_; rintro e w' ⟨rfl, rfl⟩)
              go_ret2
              exact ⟨_, _, rfl, HBW.out, .inr ⟨HD.out, .inr rfl⟩⟩
            · by_cases hov : 18446744073709551615 < acc * 16 + d
              · exfalso; omega
              · have hF : pu 18446744073709551615 acc (c :: l.drop (k + 1)) = pu 18446744073709551615 (acc * 16 + d) (l.drop (k + 1)) := by simp [pu, hdg, hcut, hov]
                have HN : Hid (a * 16 + (d : Int) = ((acc * 16 + d : Nat) : Int) ∧ acc * 16 + d ≤ 18446744073709551615 ∧ pu 18446744073709551615 0 l = pu 18446744073709551615 (acc * 16 + d) (l.drop (k + 1))) := ⟨by omega, by omega, by rw [hdec, hF]⟩
                have iov : ¬ 18446744073709551615 < a * 16 + (d : Int) := by omega
                have icut : ¬ 1152921504606846976 ≤ a := by omega
                have w1 : IntKind.u64.wrap (a * 16) = a * 16 := by rw [IntKind.wrap_u64]; omega
                have w2 : IntKind.u64.wrap (a * 16 + (d : Int)) = a * 16 + (d : Int) := by rw [IntKind.wrap_u64]; omega
                have w3 : ¬ a * 16 + (d : Int) < a * 16 := by omega
                clear hacc hF ha hdec hcut hov hdg
                go_wp2_with (go_at_call 89; refine (KL.out _).mono ?_; rintro e w' ⟨rfl, rfl⟩)
                refine ⟨⟨k + 1, acc * 16 + d, a * 16 + (d : Int), rfl, (by first | rfl | (congr 1; omega)), (by first | rfl | (congr 1; omega)), by omega, HN⟩, by simp [intOf]; omega⟩
        · have hF : pu 18446744073709551615 acc (c :: l.drop (k + 1)) = none := by
            have : dgI c = none := by
              simp only [dgI]
              rw [if_neg hdig, ← hv, if_neg hlet]
            simp [pu, this]
          rw [hF] at hdec
          have HD := Hid.mk' hdec
          have hnd : 48 ≤ (c.toNat : Int) → ¬ (c.toNat : Int) ≤ 57 := by omega
          clear hacc hF ha hdec hv hdig
          have three : ¬ (97 : Int) ≤ v ∨ ((97 : Int) ≤ v ∧ ¬ v ≤ 122) ∨ ((97 : Int) ≤ v ∧ v ≤ 122 ∧ (16 : Int) ≤ v - 97 + 10) := by omega
          by_cases h95 : c.toNat = 95
          · rw [h95] at hc KL
            have e95 : ((95 : Nat) : Int) = 95 := rfl
            rw [e95] at hc KL
            clear hnd h95 e95
            rcases three with t1 | ⟨t1, t2⟩ | ⟨t1, t2, t3⟩
            · go_wp2_with (go_at_call 89; refine (KL.out _).mono ?_; rintro e w' ⟨rfl, rfl⟩)
              go_ret2
              exact ⟨_, _, rfl, HBW.out, .inr ⟨HD.out, .inl rfl⟩⟩
            · go_wp2_with (go_at_call 89; refine (KL.out _).mono ?_; rintro e w' ⟨rfl, rfl⟩)
              go_ret2
              exact ⟨_, _, rfl, HBW.out, .inr ⟨HD.out, .inl rfl⟩⟩
            · have g3 : IntKind.u8.wrap (v - 97) = v - 97 := by rw [IntKind.wrap_u8]; omega
              have g4 : IntKind.u8.wrap (v - 97 + 10) = v - 97 + 10 := by rw [IntKind.wrap_u8]; omega
              go_wp2_with (go_at_call 89; refine (KL.out _).mono ?_; rintro e w' ⟨rfl, rfl⟩)
              go_ret2
              exact ⟨_, _, rfl, HBW.out, .inr ⟨HD.out, .inl rfl⟩⟩
          · have g0 : ((c.toNat : Int) == 95) = false := by simp; omega
            generalize (c.toNat : Int) = ci at *
            clear h95
            by_cases h48 : (48 : Int) ≤ ci
            · have h57 := hnd h48
              clear hnd
              rcases three with t1 | ⟨t1, t2⟩ | ⟨t1, t2, t3⟩
              · go_wp2_with (go_at_call 89; refine (KL.out _).mono ?_; rintro e w' ⟨rfl, rfl⟩)
                go_ret2
                exact ⟨_, _, rfl, HBW.out, .inr ⟨HD.out, .inl rfl⟩⟩
              · go_wp2_with (go_at_call 89; refine (KL.out _).mono ?_; rintro e w' ⟨rfl, rfl⟩)
                go_ret2
                exact ⟨_, _, rfl, HBW.out, .inr ⟨HD.out, .inl rfl⟩⟩
              · have g3 : IntKind.u8.wrap (v - 97) = v - 97 := by rw [IntKind.wrap_u8]; omega
                have g4 : IntKind.u8.wrap (v - 97 + 10) = v - 97 + 10 := by rw [IntKind.wrap_u8]; omega
                go_wp2_with (go_at_call 89; refine (KL.out _).mono ?_; rintro e w' ⟨rfl, rfl⟩)
                go_ret2
                exact ⟨_, _, rfl, HBW.out, .inr ⟨HD.out, .inl rfl⟩⟩
            · clear hnd
              rcases three with t1 | ⟨t1, t2⟩ | ⟨t1, t2, t3⟩
              · go_wp2_with (go_at_call 89; refine (KL.out _).mono ?_; rintro e w' ⟨rfl, rfl⟩)
                go_ret2
                exact ⟨_, _, rfl, HBW.out, .inr ⟨HD.out, .inl rfl⟩⟩
              · go_wp2_with (go_at_call 89; refine (KL.out _).mono ?_; rintro e w' ⟨rfl, rfl⟩)
                go_ret2
                exact ⟨_, _, rfl, HBW.out, .inr ⟨HD.out, .inl rfl⟩⟩
              · have g3 : IntKind.u8.wrap (v - 97) = v - 97 := by rw [IntKind.wrap_u8]; omega
                have g4 : IntKind.u8.wrap (v - 97 + 10) = v - 97 + 10 := by rw [IntKind.wrap_u8]; omega
                go_wp2_with (go_at_call 89; refine (KL.out _).mono ?_; rintro e w' ⟨rfl, rfl⟩)
                go_ret2
                exact ⟨_, _, rfl, HBW.out, .inr ⟨HD.out, .inl rfl⟩⟩
    · have hkk : k = l.length := by omega
      subst hkk
      have hF : pu 18446744073709551615 acc (l.drop l.length) = some acc := by rw [List.drop_eq_nil_of_le (Nat.le_refl _)]; rfl
      rw [hF] at hdec
      subst ha
      have HD := Hid.mk' hdec
      clear hacc hF a0 a1 hdec HBC
      go_wp2
      go_ret2
      exact ⟨_, _, rfl, HBW.out, .inl ⟨acc, HD.out, rfl, rfl⟩⟩
end Go.Proofs.YtngepdhhdbhglaaGreatDoor
