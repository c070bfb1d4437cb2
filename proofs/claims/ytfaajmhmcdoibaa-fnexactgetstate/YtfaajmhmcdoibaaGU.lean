import Derived.Test.YtfaajmhmcdoibaaGS
set_option linter.all false
set_option linter.unusedVariables false
namespace Go.Proofs.Ytfaajmhmcdoibaa.By
open Go.RowKit
set_option maxRecDepth 100000


set_option maxHeartbeats 2000000 in
set_option maxRecDepth 100000 in
theorem lebGetU_row (b1 o1 : Nat) (cap : Nat) (bs : List Int) (P : Nat) (b : Int) (w : World) (hl : bs.length ≤ 1099511627776) (hr : P ≤ bs.length) (B : Int) (HB : Hid (B = normB b)) (hB0' : 1 ≤ B) (hB1' : B ≤ 64) (R : Int × Int × Int)
    (HC1 : Hid (∀ i, i < bs.length → w.cell? ⟨b1, o1 + i, none⟩ = some (.int .u8 (bs.getD i 0)))) (hB : AllB bs) (HG0 : Hid (getR false bs P B (9 + 1) 0 0 = R)) :
    Calls Try.prog 97 #[.slice (some ⟨b1, o1, none⟩) bs.length cap, .int .i64 P, .int .i64 b] w fun e w' => e = .returned (RV R) ∧ Below w.heap.size w w' := by
  go_enter Try.func97, Try.ntmps97
  go_upto_region 2 with fail
  go_cut [20] from 13 (fun v2 wc => v2 = .bool (!inB b 1 64) ∧ wc = w.alloc (Obj.cells #[Value.int .i64 0, Value.int .u64 0, Value.int .i64 0] 102))
  case first =>
    by_cases h1 : b < 1
    · go_wp2
      go_meet
      case rel => exact ⟨by rw [show inB b 1 64 = false by unfold inB; simp; omega]; rfl, rfl⟩
    · by_cases h2 : 64 < b
      · go_wp2
        go_meet
        case rel => exact ⟨by rw [show inB b 1 64 = false by unfold inB; simp; omega]; simp, rfl⟩
      · go_wp2
        go_meet
        case rel => exact ⟨by rw [show inB b 1 64 = true by unfold inB; simp; omega]; simp, rfl⟩
  case rest =>
  obtain ⟨rfl, rfl⟩ := hcut
  go_upto_if 20 with fail
  go_cut [2] from 13 (fun v2 wc => v2 = .int .i64 B ∧ wc = w.alloc (Obj.cells #[Value.int .i64 0, Value.int .u64 0, Value.int .i64 0] 102))
  case first =>
    go_wp2
    · have hx : (!inB b 1 64) = true := by assumption
      have e : B = 64 := by rw [HB.out]; unfold normB; rw [if_neg (in_false hx)]
      go_meet
      case rel => exact ⟨by rw [e], rfl⟩
    · rename_i hx
      have e : B = b := by rw [HB.out]; unfold normB; rw [if_pos (in_true (by simpa using hx))]
      go_meet
      case rel => exact ⟨by rw [e], rfl⟩
  case rest =>
  obtain ⟨rfl, rfl⟩ := hcut
  have hq1 : decide ((P : Int) < 0) = false := decide_eq_false (by omega)
  have hq2 : decide (bs.length < P) = false := decide_eq_false (by omega)
  have hq3 : decide ((bs.length : Int) < (P : Int)) = false := decide_eq_false (by omega)
  go_wp2
  go_loop [8, 9] (fun xv kv => ∃ (k f : Nat) (acc : Int), xv = .int .u64 acc ∧ kv = .int .i64 k ∧ k + f = 9 ∧ P + k ≤ bs.length ∧ 7 * (k : Int) < B ∧ 0 ≤ acc ∧ acc ≤ 9223372036854775807 ∧ Hid (acc < P2 (7 * (k : Int))) ∧ Hid (getR false bs P B (f + 1) k acc = R)) (fun _ kv => 10 - (intOf kv).toNat)
  case atStart => exact ⟨0, 9, 0, rfl, rfl, rfl, by omega, by omega, by omega, by omega, (by show (0 : Int) < P2 _; have := P2_pos (7 * ((0 : Nat) : Int)); omega), HG0⟩
  case round =>
    clear HG0
    obtain ⟨k, f, acc, rfl, rfl, hkf, hpk, hkB, ha0, ha1, HA, HG⟩ := hrel
    by_cases hlt : P + k < bs.length
    · have d0 := HC1.out (P + k) hlt
      have d1 : (w.alloc (Obj.cells #[Value.int .i64 0, Value.int .u64 0, Value.int .i64 0] 102)).cell? ⟨b1, o1 + (P + k), none⟩ = some (.int .u8 (bs.getD (P + k) 0)) := (Below.cell ((Below.refl _ _).alloc (Nat.le_refl _) _) (World.block_lt_of_cell? w _ d0)).trans d0
      clear d0
      obtain ⟨c, hcc⟩ : ∃ c, c = bs.getD (P + k) 0 := ⟨_, rfl⟩
      have hb := hB (P + k)
      have G1 := @getR_long false bs P f k B acc hlt
      have G2 := @getR_bits false bs P f k B acc hlt
      have G3 := @getR_end false bs P f k B acc hlt
      have G4 := @getR_more false bs P f k B acc hlt
      rw [← hcc] at d1 hb G1 G2 G3 G4
      rw [HG.out] at G1 G2 G3 G4
      have GL := Hid.mk' G1
      have GB := Hid.mk' G2
      have GE := Hid.mk' G3
      have GM := Hid.mk' G4
      clear G1 G2 G3 G4 hcc
      obtain ⟨hb0, hb1⟩ := hb
      have hei : (P : Int) + k < (bs.length : Int) := by omega
      have hne : ((P : Int) + k == (bs.length : Int)) = false := beq_eq_false_iff_ne.2 (by omega)
      have hN : bits .andNot .u8 c 128 = c % 128 := by have := andNot128 c; rwa [show c % 256 = c by omega] at this
      by_cases hlast : B - 7 * (k : Int) ≤ 7
      · by_cases hbig : 128 ≤ c
        · have e := GL.out hlast hbig
          subst e
          have hE : lastE false c (B - 7 * (k : Int)) = 2 := by unfold lastE; rw [if_neg (by omega), if_pos hbig]
          go_wp2_with (first | (go_at_call 98; refine (lastU_any _ _ _ hb0 hb1 (by omega) (by omega)).mono ?_; rintro e w' ⟨rfl, rfl⟩) | (go_at_call 89; refine (cutU_any _ _ _ (by omega) (by omega) (by omega) (by omega)).mono ?_; rintro e w' ⟨rfl, rfl⟩))
          exact bodyPost_ret (v := .agg #[.int .i64 2, .int .u64 0, .int .i64 ((P : Int) + k + 1)]) (by simp [results, Try.results97, go_sem]) rfl ⟨rfl, (Below.refl _ _).alloc (Nat.le_refl _) _⟩
        · cases hq : rok false c (B - 7 * (k : Int))
          · have e := GB.out hlast (by omega) hq
            subst e
            have hE : lastE false c (B - 7 * (k : Int)) = 3 := by unfold lastE; rw [if_neg (by omega), if_neg hbig, hq]; rfl
            clear hq
            go_wp2_with (first | (go_at_call 98; refine (lastU_any _ _ _ hb0 hb1 (by omega) (by omega)).mono ?_; rintro e w' ⟨rfl, rfl⟩) | (go_at_call 89; refine (cutU_any _ _ _ (by omega) (by omega) (by omega) (by omega)).mono ?_; rintro e w' ⟨rfl, rfl⟩))
            exact bodyPost_ret (v := .agg #[.int .i64 3, .int .u64 0, .int .i64 ((P : Int) + k + 1)]) (by simp [results, Try.results97, go_sem]) rfl ⟨rfl, (Below.refl _ _).alloc (Nat.le_refl _) _⟩
          · have hE : lastE false c (B - 7 * (k : Int)) = 0 := by unfold lastE; rw [if_neg (by omega), if_neg hbig, hq]; rfl
            have e := GE.out (by omega) (fun _ => hq)
            have hF := finU acc c k (by omega) ha0 HA.out hb0 (by omega) (fun h9 => rok1U c hb0 (by omega) (by rwa [show B - 7 * (k : Int) = 1 by omega] at hq))
            rw [← hF.2.2.2] at e
            have hJ := join_u64 acc (c % 128) k ha0 HA.out (by omega) (by omega) hF.1
            obtain ⟨x, hx⟩ : ∃ x, x = acc + c % 128 * P2 (7 * (k : Int)) := ⟨_, rfl⟩
            rw [← hx] at hF hJ e
            subst e
            have hx0 := hF.2.1
            have hx1 := hF.2.2.1
            clear hF hx GL GB GE GM HG
            go_wp2_with (first | (go_at_call 98; refine (lastU_any _ _ _ hb0 hb1 (by omega) (by omega)).mono ?_; rintro e w' ⟨rfl, rfl⟩) | (go_at_call 89; refine (cutU_any _ _ _ (by omega) (by omega) (by omega) (by omega)).mono ?_; rintro e w' ⟨rfl, rfl⟩))
            exact bodyPost_ret (v := .agg #[.int .i64 0, .int .u64 (cutU x (7 * ((k : Int) + 1))), .int .i64 ((P : Int) + k + 1)]) (by simp [results, Try.results97, go_sem]) rfl ⟨rfl, (Below.refl _ _).alloc (Nat.le_refl _) _⟩
      · have hE : lastE false c (B - 7 * (k : Int)) = 0 := by unfold lastE; rw [if_pos (by omega)]
        by_cases hbig : 128 ≤ c
        · have HM := Hid.mk' (GM.out (by omega) hbig)
          have hs := acc_step acc c k ha0 HA.out
          have hp63 := P2_63 (n := 7 * ((k + 1 : Nat) : Int)) (by omega)
          have hm := mul_bd (c % 128) (P2 (7 * (k : Int))) (by omega) (by omega) (P2_pos _)
          have hp56 := P2_56 (n := 7 * (k : Int)) (by omega)
          have hJ := join_u64 acc (c % 128) k ha0 HA.out (by omega) (by omega) (by omega)
          clear hm hp56
          clear GL GB GE GM HG
          obtain ⟨acc', hacc⟩ : ∃ y, y = acc + c % 128 * P2 (7 * (k : Int)) := ⟨_, rfl⟩
          rw [← hacc] at hs hJ HM
          have hs0 := hs.1
          have HS := Hid.mk' hs.2
          have hs1 : acc' ≤ 9223372036854775807 := by omega
          clear hs hacc
          go_wp2_with (first | (go_at_call 98; refine (lastU_any _ _ _ hb0 hb1 (by omega) (by omega)).mono ?_; rintro e w' ⟨rfl, rfl⟩) | (go_at_call 89; refine (cutU_any _ _ _ (by omega) (by omega) (by omega) (by omega)).mono ?_; rintro e w' ⟨rfl, rfl⟩))
          go_round
          case rel =>
            cases f with
            | zero => omega
            | succ f => exact ⟨k + 1, f, acc', rfl, by go_num, by omega, by omega, by omega, hs0, hs1, HS, HM.out.symm⟩
          case measure => simp [intOf]; omega
        · have e := GE.out (by omega) (fun h => absurd h hlast)
          have hF := finU acc c k (by omega) ha0 HA.out hb0 (by omega) (fun h9 => by omega)
          rw [← hF.2.2.2] at e
          have hJ := join_u64 acc (c % 128) k ha0 HA.out (by omega) (by omega) hF.1
          obtain ⟨x, hx⟩ : ∃ x, x = acc + c % 128 * P2 (7 * (k : Int)) := ⟨_, rfl⟩
          rw [← hx] at hF hJ e
          subst e
          have hx0 := hF.2.1
          have hx1 := hF.2.2.1
          clear hF hx GL GB GE GM HG
          go_wp2_with (first | (go_at_call 98; refine (lastU_any _ _ _ hb0 hb1 (by omega) (by omega)).mono ?_; rintro e w' ⟨rfl, rfl⟩) | (go_at_call 89; refine (cutU_any _ _ _ (by omega) (by omega) (by omega) (by omega)).mono ?_; rintro e w' ⟨rfl, rfl⟩))
          exact bodyPost_ret (v := .agg #[.int .i64 0, .int .u64 (cutU x (7 * ((k : Int) + 1))), .int .i64 ((P : Int) + k + 1)]) (by simp [results, Try.results97, go_sem]) rfl ⟨rfl, (Below.refl _ _).alloc (Nat.le_refl _) _⟩
    · have e : R = (1, 0, (bs.length : Int)) := by rw [← HG.out, getR_short (by omega)]
      subst e
      have hne : ((P : Int) + k == (bs.length : Int)) = true := beq_iff_eq.2 (by omega)
      go_wp2
      exact bodyPost_ret (v := .agg #[.int .i64 1, .int .u64 0, .int .i64 bs.length]) (by simp [results, Try.results97, go_sem]) rfl ⟨rfl, (Below.refl _ _).alloc (Nat.le_refl _) _⟩
end Go.Proofs.Ytfaajmhmcdoibaa.By
