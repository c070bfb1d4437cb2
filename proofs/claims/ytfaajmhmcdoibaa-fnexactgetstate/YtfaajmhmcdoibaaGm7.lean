import Derived.Test.YtfaajmhmcdoibaaGm6
set_option linter.all false
set_option linter.unusedVariables false
namespace Go.Proofs.Ytfaajmhmcdoibaa
open Go.RowKit Go.Sort
set_option maxRecDepth 100000
/-- What hangs on a frame that was read: two rows of its own, in [A, M) and in [M, C). -/
def FrH (w : World) (A M C : Nat) (x : Frm) (v1 v2 : Value) : Prop := w.ownsRow A 85 1 v1 x.loc.length (x.loc.flatMap ceW) ∧ w.ownsRow M 56 4 v2 x.labs.length (x.labs.flatMap ceL) ∧ (∀ q, v1.ownBlock = some q → q < M) ∧ (∀ q, v2.ownBlock = some q → q < C) ∧ A ≤ M ∧ M ≤ C ∧ C ≤ w.heap.size
/-- What the reading of a frame leaves. -/
def FrP (w0 w : World) (R : Nat) (l : List Int) (b : Bool) (ab o : Nat) (w' : World) : Prop := ∃ x v1 v2 M l' b', Rb w0 w' R l' b' ∧ Ch R ab o (o + 5) w w' ∧ (w'.cell? ⟨ab, o, none⟩ = some (.int .i64 x.fn) ∧ w'.cell? ⟨ab, o + 1, none⟩ = some (.int .i64 x.pc) ∧ w'.cell? ⟨ab, o + 2, none⟩ = some v1 ∧ w'.cell? ⟨ab, o + 3, none⟩ = some (.int .i64 x.ht) ∧ w'.cell? ⟨ab, o + 4, none⟩ = some v2) ∧ FrH w' w.heap.size M w'.heap.size x v1 v2 ∧ RP frmE frmO' Frm.z fSz 1 l b x l' b' ∧ ∀ y ∈ x.loc, 0 ≤ y ∧ y ≤ 18446744073709551615
set_option maxHeartbeats 8000000 in
theorem rfrm_c (w0 : World) (R : Nat) (l : List Int) (b : Bool) (ab o m : Nat) (w : World) (hR : Rb w0 w R l b) (hr : Ro w ab m) (hm : o + 5 ≤ m) (hne : R ≠ ab) (hge : w0.heap.size ≤ ab) (hc2 : w.cell? ⟨ab, o + 2, none⟩ = some (.slice none 0 0)) (hc4 : w.cell? ⟨ab, o + 4, none⟩ = some (.slice none 0 0)) (hl : l.length ≤ 1048576) :
    Calls Try.prog 44 #[.iface 76 (.pointer (some ⟨R, 0, none⟩)), .pointer (some ⟨ab, o, none⟩)] w fun e w' => e = .returned (.tuple #[]) ∧ FrP w0 w R l b ab o w' := by
  have n1 := rnilN ⟨R, 0, none⟩
  have n2 := rmetN ⟨R, 0, none⟩
  have hal := hr.lt
  have hRl := hR.pos
  have KN := Hid.mk' (rlit_c w0 R l b ab o 2 m w ((w.alloc (.cells #[.pointer (some ⟨ab, o, none⟩), .pointer (some ⟨ab, o + 1, none⟩)] 91)).drew) (by omega) hR hr (by omega) hne hge (bel_lit _ _) (by simp) (one2 (cell_new rfl rfl) (cell_new rfl rfl)))
  have HRo := Hid.mk' hr
  have HC := Hid.mk' (And.intro hc2 hc4)
  clear hR hr hc2 hc4
  go_enter Try.func44, Try.ntmps44
  go_wp2_with fail
  go_region_law (go_simp; refine KN.out.mono ?_; rintro e w2 ⟨rfl, hw2⟩; have HR := Hid.mk' hw2; clear hw2)
  all_goals
    obtain ⟨hR1, hC1, hk1⟩ := HR.out
    have hro1 := HRo.out.ch hC1
    have hl1 : (rns l b 2).2.1.length ≤ l.length := (two_rp l b).le
    have KL := Hid.mk' (rlistW_c w0 R _ _ ab (o + 2) m w2 hR1 hro1 (by omega) hne hge ((hC1.cell HRo.out (.inr (Nat.le_refl _))).trans HC.out.1) (by omega))
    have H1 := Hid.mk' (And.intro hC1 hk1)
    clear HR KN hR1 hC1 hk1 hro1
    go_simp
    go_wp2_with fail
    refine KL.out.mono ?_
    rintro e w3 ⟨rfl, hw3⟩
    obtain ⟨ws, v1, l2, b2, hR2, hC2, hv1, ho1, hrp1, hrg⟩ := hw3
    have hC12 : Ch R ab o (o + 3) w w3 := (H1.out.1.wide (Nat.le_refl _) (by omega)).trans (hC2.wide (by omega) (by omega))
    have hro2 := HRo.out.ch hC12
    have hl2 := hrp1.le
    have KN := Hid.mk' (rlit_c w0 R l2 b2 ab (o + 3) 1 m w3 ((w3.alloc (.cells #[.pointer (some ⟨ab, o + 3, none⟩)] 91)).drew) (by omega) hR2 hro2 (by omega) hne hge (bel_lit _ _) (by simp) (one1 (cell_new rfl rfl)))
    have H2 := Hid.mk' (And.intro hC2 (And.intro hv1 (And.intro ho1 (And.intro hrp1 (And.intro hrg hC12)))))
    clear KL hR2 hC2 hv1 ho1 hrp1 hrg hC12 hro2
    go_wp2_with fail
    go_region_law (go_simp; refine KN.out.mono ?_; rintro e w4 ⟨rfl, hw4⟩; have HR := Hid.mk' hw4; clear hw4)
    all_goals
      obtain ⟨hR3, hC3, hk3⟩ := HR.out
      have hC13 : Ch R ab o (o + 4) w w4 := (H2.out.2.2.2.2.2.wide (Nat.le_refl _) (by omega)).trans (hC3.wide (by omega) (by omega))
      have hro3 := HRo.out.ch hC13
      have hl3 : (rns l2 b2 1).2.1.length ≤ l2.length := (one_rp l2 b2).le
      have KL := Hid.mk' (rlistL_c w0 R _ _ ab (o + 4) m w4 hR3 hro3 (by omega) hne hge ((hC13.cell HRo.out (.inr (Nat.le_refl _))).trans HC.out.2) (by omega))
      have HF : Hid (∀ w5, RsL w0 w4 R (rns l2 b2 1).2.1 (rns l2 b2 1).2.2 ab (o + 4) w5 → FrP w0 w R l b ab o w5) := by
        rintro w5 ⟨ls, v2, l5, b5, hR5, hC5, hv2, ho2, hrp2, -⟩
        obtain ⟨hC2, hv1, ho1, hrp1, hrg, hC12⟩ := H2.out
        have hro2 := HRo.out.ch hC12
        have hs12 := H1.out.1.size
        have hs2 := hC2.size
        have hs3 := hC3.size
        have hs5 := hC5.size
        have hblk : ∀ q, v1.ownBlock = some q → w5.heap[q]? = w3.heap[q]? := fun q hq => by
          have h1 := ho1.lt q hq
          exact (hC5.block q (by omega) (by omega) (by omega)).trans (hC3.block q h1.2 (by omega) (by omega))
        refine ⟨⟨_, _, ws, _, ls⟩, v1, v2, w4.heap.size, l5, b5, hR5, (hC13.wide (Nat.le_refl _) (by omega)).trans (hC5.wide (by omega) (by omega)), ⟨?_, ?_, ?_, ?_, hv2⟩, ⟨ownS_down (ownS_of ho1 hblk) (by omega), ownS_down ho2 (by omega), fun q hq => by have := (ho1.lt q hq).2; omega, fun q hq => (ho2.lt q hq).2, by omega, hs5, Nat.le_refl _⟩, frm_rp (l3 := l) (b3 := b) hrp1 hrp2, hrg⟩
        · rw [hC5.cell hro3 (.inl (by omega)), hC3.cell hro2 (.inl (by omega)), hC2.cell (HRo.out.ch H1.out.1) (.inl (by omega))]; exact H1.out.2 0 (by omega)
        · rw [hC5.cell hro3 (.inl (by omega)), hC3.cell hro2 (.inl (by omega)), hC2.cell (HRo.out.ch H1.out.1) (.inl (by omega))]; exact H1.out.2 1 (by omega)
        · rw [hC5.cell hro3 (.inl (by omega)), hC3.cell hro2 (.inl (by omega))]; exact hv1
        · rw [hC5.cell hro3 (.inl (by omega))]; exact hk3 0 (by omega)
      clear HR KN hR3 hC3 hk3 hC13 hro3
      go_simp
      go_wp2_with fail
      refine KL.out.mono ?_
      rintro e w5 ⟨rfl, hw5⟩
      have HE := Hid.mk' (HF.out w5 hw5)
      clear hw5 KL HF
      go_wp2
      go_end0
      exact ⟨rfl, HE.out⟩
end Go.Proofs.Ytfaajmhmcdoibaa
