import Derived.Test.YtdbmolambolmgaaGreatU1
set_option linter.all false
namespace Go.Proofs.YtdbmolambolmgaaGreat
open Go.RowKit

/-- All bytes. -/
def AllB (xs : List Int) : Prop := ∀ i, 0 ≤ xs.getD i 0 ∧ xs.getD i 0 ≤ 255

set_option maxHeartbeats 1000000 in
theorem specUtf8_any (a : Option Addr) (cap : Nat) (bs : List Int) (w : World) (hl : bs.length ≤ 1099511627776) (ha : HasB w a bs) (hB : AllB bs) :
    Calls Tryz.prog 114 #[.slice a bs.length cap] w fun e w' => e = .returned (.int .i64 (uf 0 0 0 0 bs)) ∧ w = w' := by
  obtain ⟨R, hR⟩ : ∃ R, R = uf 0 0 0 0 bs := ⟨_, rfl⟩
  have HR : Hid (uf 0 0 0 0 (bs.drop 0) = R) := by rw [hR]; rfl
  rw [← hR]
  clear hR
  rcases ha with hx | ⟨b1, o1, rfl, hc1⟩
  · subst hx
    have e : R = -1 := by rw [← HR.out]; rfl
    subst e
    clear HR hB hl
    go_enter Tryz.func114, Tryz.ntmps114
    go_wp2
    refine wp_loop_rounds 1 ?_
    rw [rounds_succ]
    go_wp2
    go_ret
    exact ⟨rfl, rfl⟩
  · have HC1 : Hid (∀ i, i < bs.length → w.cell? ⟨b1, o1 + i, none⟩ = some (.int .u8 (bs.getD i 0))) := hc1
    clear hc1
    go_enter Tryz.func114, Tryz.ntmps114
    go_wp2
    go_loop [4] (fun i => ∃ p : Nat, p ≤ bs.length ∧ i = .int .i64 p ∧ Hid (uf 0 0 0 p (bs.drop p) = R)) (fun i => bs.length - (intOf i).toNat)
    case atStart => exact ⟨0, Nat.zero_le _, rfl, HR⟩
    case round =>
      obtain ⟨p, hp, rfl, HP⟩ := hrel
      by_cases hlt : p < bs.length
      · have d1 : w.cell? ⟨b1, o1 + p, none⟩ = some (.int .u8 (bs.getD p 0)) := HC1.out p hlt
        have hpi : (p : Int) < (bs.length : Int) := by omega
        obtain ⟨c, hcc⟩ : ∃ c, c = bs.getD p 0 := ⟨_, rfl⟩
        rw [← hcc] at d1
        have HC : Hid (c = bs.getD p 0) := hcc
        have hb := hB p
        rw [← hcc] at hb
        obtain ⟨hb0, hb1⟩ := hb
        have hn := ldN_bd c
        clear hcc
        by_cases hneg : ldN c < 0
        · have e : R = p := by rw [← HP.out, uf_bad hlt (by rw [← HC.out]; exact hneg)]
          subst e
          go_wp2_with (go_at_call 170; refine (follow_any _ _ hb0 hb1).mono ?_; rintro e w' ⟨rfl, rfl⟩)
          go_ret
          exact ⟨rfl, rfl⟩
        · have HP' : Hid (uf (ldN c).toNat (ldLo c) (ldHi c) (p + 1) (bs.drop (p + 1)) = R) := by
            have := HP.out
            rw [uf_lead hlt (by rw [← HC.out]; exact hneg), ← HC.out] at this
            exact this
          go_wp2_with (go_at_call 170; refine (follow_any _ _ hb0 hb1).mono ?_; rintro e w' ⟨rfl, rfl⟩)
          go_loop [6, 7, 8] (fun lv hv kv => ∃ (k l : Nat) (lo hi : Int), (k : Int) + l = ldN c + 1 ∧ 1 ≤ k ∧ p + k ≤ bs.length ∧ kv = .int .i64 k ∧ lv = .int .u8 lo ∧ hv = .int .u8 hi ∧ Hid (uf l lo hi (p + k) (bs.drop (p + k)) = R)) (fun _ _ kv => 5 - (intOf kv).toNat)
          case atStart => exact ⟨1, (ldN c).toNat, _, _, by omega, by omega, by omega, rfl, rfl, rfl, HP'⟩
          case round =>
            obtain ⟨k, l, lo, hi, hkl, hk1, hpk, rfl, rfl, rfl, HK⟩ := hrel
            clear d1
            cases l with
            | zero =>
              have hkk : ldN c < (k : Int) := by omega
              go_wp2
              go_round
              case rel => exact ⟨p + k, hpk, by rw [show ((p + k : Nat) : Int) = (p : Int) + 1 + ldN c by omega], (uf_any0 lo hi _).trans HK.out⟩
              case measure => simp [intOf]; omega
            | succ l =>
              have hkk : (k : Int) ≤ ldN c := by omega
              by_cases hend : p + k < bs.length
              · have d2 : w.cell? ⟨b1, o1 + (p + k), none⟩ = some (.int .u8 (bs.getD (p + k) 0)) := HC1.out (p + k) hend
                obtain ⟨q, hqq⟩ : ∃ q, q = bs.getD (p + k) 0 := ⟨_, rfl⟩
                rw [← hqq] at d2
                have HC2 : Hid (q = bs.getD (p + k) 0) := hqq
                clear hqq
                have hei : (p : Int) + k < (bs.length : Int) := by omega
                by_cases ho1 : q < lo
                · have e : R = ((p + k : Nat) : Int) := by rw [← HK.out, uf_out hend (by rw [← HC2.out]; exact .inl ho1)]
                  subst e
                  go_wp2
                  go_ret
                  exact ⟨rfl, rfl⟩
                · by_cases ho2 : hi < q
                  · have e : R = ((p + k : Nat) : Int) := by rw [← HK.out, uf_out hend (by rw [← HC2.out]; exact .inr ho2)]
                    subst e
                    go_wp2
                    go_ret
                    exact ⟨rfl, rfl⟩
                  · have HK' : Hid (uf l 128 191 (p + k + 1) (bs.drop (p + k + 1)) = R) := by
                      have := HK.out
                      rw [uf_next hend (by rw [← HC2.out]; omega)] at this
                      exact this
                    go_wp2
                    go_round
                    case rel => exact ⟨k + 1, l, 128, 191, by omega, by omega, by omega, by go_num, rfl, rfl, HK'⟩
                    case measure => simp [intOf]; omega
              · have e : R = (bs.length : Int) := by rw [← HK.out, uf_endl (by omega)]; omega
                subst e
                have hei : (bs.length : Int) ≤ (p : Int) + k := by omega
                go_wp2
                go_ret
                exact ⟨rfl, rfl⟩
      · have e : R = -1 := by rw [← HP.out, uf_end0 (by omega)]
        subst e
        go_wp2
        go_ret
        exact ⟨rfl, rfl⟩
end Go.Proofs.YtdbmolambolmgaaGreat
