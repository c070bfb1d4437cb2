import Derived.Test.YtdbmolambolmgaaGreatU4
set_option linter.all false
namespace Go.Proofs.YtdbmolambolmgaaGreat
open Go.RowKit

/-- The frame at a label. -/
def frU (b1 o1 cap : Nat) (bs : List Int) (p : Nat) (u4 u5 u6 : Value) (a : Act) : Prop := ∃ (u2 u8 u9 u10 u11 u12 u13 u14 u15 u16 u17 u18 u19 u20 u21 u22 u23 u24 u25 u26 u27 u28 u29 u30 u31 u32 u33 u34 u35 u36 u37 u38 u39 u40 u41 u42 u43 u44 u45 u46 u47 u48 u49 u50 u51 u52 u53 : Value), a = { tmps := #[.slice (some ⟨b1, o1, none⟩) bs.length cap, undef, u2, .int .i64 p, u4, u5, u6, .int .i64 bs.length, u8, u9, u10, u11, u12, u13, u14, u15, u16, u17, u18, u19, u20, u21, u22, u23, u24, u25, u26, u27, u28, u29, u30, u31, u32, u33, u34, u35, u36, u37, u38, u39, u40, u41, u42, u43, u44, u45, u46, u47, u48, u49, u50, u51, u52, u53], defers := [] }

set_option maxHeartbeats 1000000 in
theorem implUtf8_row (b1 o1 : Nat) (cap : Nat) (bs : List Int) (w : World) (hl : bs.length ≤ 1099511627776) (hc1 : ∀ i, i < bs.length → w.cell? ⟨b1, o1 + i, none⟩ = some (.int .u8 (bs.getD i 0))) (hB : AllB bs) :
    Calls Tryz.prog 175 #[.slice (some ⟨b1, o1, none⟩) bs.length cap] w fun e w' => e = .returned (.int .i64 (uf 0 0 0 0 bs)) ∧ w = w' := by
  obtain ⟨R, hR⟩ : ∃ R, R = uf 0 0 0 0 bs := ⟨_, rfl⟩
  have HR : Hid (uf 0 0 0 0 (bs.drop 0) = R) := by rw [hR]; rfl
  rw [← hR]
  clear hR
  have HC1 : Hid (∀ i, i < bs.length → w.cell? ⟨b1, o1 + i, none⟩ = some (.int .u8 (bs.getD i 0))) := hc1
  clear hc1
  go_enter Tryz.func175, Tryz.ntmps175
  go_wp2
  refine wp_scope_three
    (fun a' w' => w = w' ∧ ∃ (p : Nat) (u4 u5 u6 : Value), p ≤ bs.length ∧ frU b1 o1 cap bs p u4 u5 u6 a' ∧ Hid (uf 0 0 0 p (bs.drop p) = R))
    (fun a' w' => w = w' ∧ ∃ (p l : Nat) (lo hi : Int), p ≤ bs.length ∧ l ≤ 2 ∧ frU b1 o1 cap bs p (.int .i64 ((l : Int) + 1)) (.int .u8 lo) (.int .u8 hi) a' ∧ Hid (uf (l + 1) lo hi p (bs.drop p) = R))
    (fun a' w' => w = w' ∧ ∃ (p : Nat) (u4 u5 u6 : Value), frU b1 o1 cap bs p u4 u5 u6 a' ∧ Hid (R = p))
    (fun a' _ => 2 * (bs.length - (intOf (a'.tmps.getD 3 undef)).toNat) + 1)
    (fun a' _ => 2 * (bs.length - (intOf (a'.tmps.getD 3 undef)).toNat) + 1)
    (fun a' _ => 2 * (bs.length - (intOf (a'.tmps.getD 3 undef)).toNat)) rfl rfl rfl ?_ ?_ ?_ ?_
  · intro h0
    go_wp2
    go_step3
    simp only [Exit.then]
    rename_i hK
    refine hK _ _ (h0 _ _ ?_)
    exact ⟨rfl, 0, _, _, _, Nat.zero_le _, ⟨_, _, _, _, _, _, _, _, _, _, _, _, _, _, _, _, _, _, _, _, _, _, _, _, _, _, _, _, _, _, _, _, _, _, _, _, _, _, _, _, _, _, _, _, _, _, _, rfl⟩, HR⟩
  · rintro a' w' ⟨rfl, p, u4, u5, u6, hp, ⟨u2, u8, u9, u10, u11, u12, u13, u14, u15, u16, u17, u18, u19, u20, u21, u22, u23, u24, u25, u26, u27, u28, u29, u30, u31, u32, u33, u34, u35, u36, u37, u38, u39, u40, u41, u42, u43, u44, u45, u46, u47, u48, u49, u50, u51, u52, u53, rfl⟩, HP⟩ h1
    by_cases hlt : p < bs.length
    · have d1 : w.cell? ⟨b1, o1 + p, none⟩ = some (.int .u8 (bs.getD p 0)) := HC1.out p hlt
      have hpi : (p : Int) < (bs.length : Int) := by omega
      obtain ⟨c, hcc⟩ : ∃ c, c = bs.getD p 0 := ⟨_, rfl⟩
      rw [← hcc] at d1
      have HC : Hid (c = bs.getD p 0) := hcc
      have hb := hB p
      rw [← hcc] at hb
      obtain ⟨hb0, hb1⟩ := hb
      have hn := ldN_bd c
      clear hcc
      have hne : ((p : Int) == (bs.length : Int)) = false := beq_eq_false_iff_ne.2 (by omega)
      have H1 := Hid.mk' h1
      clear h1
      by_cases hneg : ldN c < 0
      · have HE : Hid (R = p) := by show _ = _; rw [← HP.out, uf_bad hlt (by rw [← HC.out]; exact hneg)]
        go_wp2_with (go_at_call 217; refine (utf8Lead_any _ _ hb0 hb1).mono ?_; rintro e w' ⟨rfl, rfl⟩)
        go_step3
        refine ⟨⟨rfl, p, _, _, _, ⟨_, _, _, _, _, _, _, _, _, _, _, _, _, _, _, _, _, _, _, _, _, _, _, _, _, _, _, _, _, _, _, _, _, _, _, _, _, _, _, _, _, _, _, _, _, _, _, rfl⟩, HE⟩, ?_⟩
        simp [intOf]
      · have HP' : Hid (uf (ldN c).toNat (ldLo c) (ldHi c) (p + 1) (bs.drop (p + 1)) = R) := by
          have := HP.out
          rw [uf_lead hlt (by rw [← HC.out]; exact hneg), ← HC.out] at this
          exact this
        by_cases hz : ldN c = 0
        · have hzb : (ldN c == 0) = true := beq_iff_eq.2 hz
          have HZ : Hid (ldN c = 0) := hz
          clear hz
          go_wp2_with (go_at_call 217; refine (utf8Lead_any _ _ hb0 hb1).mono ?_; rintro e w' ⟨rfl, rfl⟩)
          go_step3
          refine ⟨⟨rfl, p + 1, _, _, _, by omega, ⟨_, _, _, _, _, _, _, _, _, _, _, _, _, _, _, _, _, _, _, _, _, _, _, _, _, _, _, _, _, _, _, _, _, _, _, _, _, _, _, _, _, _, _, _, _, _, _, rfl⟩, ?_⟩, ?_⟩
          · have := HP'.out
            rw [HZ.out] at this
            exact (uf_any0 _ _ _).trans this
          · simp [intOf]; omega
        · have hzb : (ldN c == 0) = false := beq_eq_false_iff_ne.2 hz
          go_wp2_with (go_at_call 217; refine (utf8Lead_any _ _ hb0 hb1).mono ?_; rintro e w' ⟨rfl, rfl⟩)
          go_step3
          simp only [Exit.then]
          rename_i hK
          refine hK _ _ (H1.out _ _ ?_ ?_)
          · obtain ⟨l, hl'⟩ : ∃ l, (ldN c).toNat = l + 1 := ⟨(ldN c).toNat - 1, by omega⟩
            have e := HP'.out
            rw [hl'] at e
            refine ⟨rfl, p + 1, l, ldLo c, ldHi c, by omega, by omega, ?_, e⟩
            rw [show (l : Int) + 1 = ldN c by omega]
            exact ⟨_, _, _, _, _, _, _, _, _, _, _, _, _, _, _, _, _, _, _, _, _, _, _, _, _, _, _, _, _, _, _, _, _, _, _, _, _, _, _, _, _, _, _, _, _, _, _, rfl⟩
          · simp [intOf]; omega
    · have e : R = -1 := by rw [← HP.out, uf_end0 (by omega)]
      subst e
      have hne : ((p : Int) == (bs.length : Int)) = true := beq_iff_eq.2 (by omega)
      go_wp2
      simp only [jumps]
      go_ret
      exact ⟨rfl, rfl⟩
  · rintro a' w' ⟨rfl, p, l, lo, hi, hp, hll, ⟨u2, u8, u9, u10, u11, u12, u13, u14, u15, u16, u17, u18, u19, u20, u21, u22, u23, u24, u25, u26, u27, u28, u29, u30, u31, u32, u33, u34, u35, u36, u37, u38, u39, u40, u41, u42, u43, u44, u45, u46, u47, u48, u49, u50, u51, u52, u53, rfl⟩, HP⟩
    by_cases hlt : p < bs.length
    · have d2 : w.cell? ⟨b1, o1 + p, none⟩ = some (.int .u8 (bs.getD p 0)) := HC1.out p hlt
      obtain ⟨q, hqq⟩ : ∃ q, q = bs.getD p 0 := ⟨_, rfl⟩
      rw [← hqq] at d2
      have HC2 : Hid (q = bs.getD p 0) := hqq
      clear hqq
      have hpi : (p : Int) < (bs.length : Int) := by omega
      have hne : ((p : Int) == (bs.length : Int)) = false := beq_eq_false_iff_ne.2 (by omega)
      by_cases ho1 : q < lo
      · have HE : Hid (R = p) := by show _ = _; rw [← HP.out, uf_out hlt (by rw [← HC2.out]; exact .inl ho1)]
        go_wp2
        go_step3
        refine ⟨⟨rfl, p, _, _, _, ⟨_, _, _, _, _, _, _, _, _, _, _, _, _, _, _, _, _, _, _, _, _, _, _, _, _, _, _, _, _, _, _, _, _, _, _, _, _, _, _, _, _, _, _, _, _, _, _, rfl⟩, HE⟩, ?_⟩
        simp [intOf]
      · by_cases ho2 : hi < q
        · have HE : Hid (R = p) := by show _ = _; rw [← HP.out, uf_out hlt (by rw [← HC2.out]; exact .inr ho2)]
          go_wp2
          go_step3
          refine ⟨⟨rfl, p, _, _, _, ⟨_, _, _, _, _, _, _, _, _, _, _, _, _, _, _, _, _, _, _, _, _, _, _, _, _, _, _, _, _, _, _, _, _, _, _, _, _, _, _, _, _, _, _, _, _, _, _, rfl⟩, HE⟩, ?_⟩
          simp [intOf]
        · have HP' : Hid (uf l 128 191 (p + 1) (bs.drop (p + 1)) = R) := by
            have := HP.out
            rw [uf_next hlt (by rw [← HC2.out]; omega)] at this
            exact this
          cases l with
          | zero =>
            go_wp2
            go_step3
            refine ⟨⟨rfl, p + 1, _, _, _, by omega, ⟨_, _, _, _, _, _, _, _, _, _, _, _, _, _, _, _, _, _, _, _, _, _, _, _, _, _, _, _, _, _, _, _, _, _, _, _, _, _, _, _, _, _, _, _, _, _, _, rfl⟩, ?_⟩, ?_⟩
            · exact (uf_any0 _ _ _).trans HP'.out
            · simp [intOf]; omega
          | succ l =>
            go_wp2
            go_step3
            refine ⟨⟨rfl, p + 1, l, 128, 191, by omega, by omega, ?_, HP'⟩, ?_⟩
            · exact ⟨_, _, _, _, _, _, _, _, _, _, _, _, _, _, _, _, _, _, _, _, _, _, _, _, _, _, _, _, _, _, _, _, _, _, _, _, _, _, _, _, _, _, _, _, _, _, _, rfl⟩
            · simp [intOf]; omega
    · have HE : Hid (R = p) := by show _ = _; rw [← HP.out, uf_endl (by omega)]
      have hne : ((p : Int) == (bs.length : Int)) = true := beq_iff_eq.2 (by omega)
      go_wp2
      go_step3
      refine ⟨⟨rfl, p, _, _, _, ⟨_, _, _, _, _, _, _, _, _, _, _, _, _, _, _, _, _, _, _, _, _, _, _, _, _, _, _, _, _, _, _, _, _, _, _, _, _, _, _, _, _, _, _, _, _, _, _, rfl⟩, HE⟩, ?_⟩
      simp [intOf]
  · rintro a' w' ⟨rfl, p, u4, u5, u6, ⟨u2, u8, u9, u10, u11, u12, u13, u14, u15, u16, u17, u18, u19, u20, u21, u22, u23, u24, u25, u26, u27, u28, u29, u30, u31, u32, u33, u34, u35, u36, u37, u38, u39, u40, u41, u42, u43, u44, u45, u46, u47, u48, u49, u50, u51, u52, u53, rfl⟩, HP⟩
    have e := HP.out
    subst e
    go_wp2
    simp only [jumps]
    go_ret
    exact ⟨rfl, rfl⟩
end Go.Proofs.YtdbmolambolmgaaGreat
