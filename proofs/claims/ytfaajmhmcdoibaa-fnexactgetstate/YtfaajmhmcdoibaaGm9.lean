import Derived.Test.YtfaajmhmcdoibaaGm8
set_option linter.all false
set_option linter.unusedVariables false
namespace Go.Proofs.Ytfaajmhmcdoibaa
open Go.RowKit Go.Sort
set_option maxRecDepth 100000
/-- What hangs on a state that was read. -/
def StH (w : World) (A M : Nat) (ws : List Int) (xs : List (Frm × Value × Value)) (v1 v2 : Value) : Prop := w.ownsRow A 85 1 v1 ws.length (ws.flatMap ceW) ∧ w.ownsRow M 54 5 v2 xs.length (xs.flatMap ceF) ∧ FsI w M v2.ownBlock xs ∧ (∀ q, v1.ownBlock = some q → q < M) ∧ A ≤ M ∧ ∀ y ∈ ws, 0 ≤ y ∧ y ≤ 18446744073709551615
/-- What the reading of a state leaves. -/
def StP (w0 w : World) (R : Nat) (l : List Int) (b : Bool) (ab : Nat) (w' : World) : Prop := ∃ st tr ws xs v1 v2 M l' b', Rb w0 w' R l' b' ∧ Ch R ab 0 4 w w' ∧ (w'.cell? ⟨ab, 0, none⟩ = some (.int .i64 st) ∧ w'.cell? ⟨ab, 1, none⟩ = some (.int .i64 tr) ∧ w'.cell? ⟨ab, 2, none⟩ = some v1 ∧ w'.cell? ⟨ab, 3, none⟩ = some v2) ∧ StH w' w.heap.size M ws xs v1 v2 ∧ RP staE staO' ⟨0, 0, [], []⟩ sSz 2 l b ⟨st, tr, ws, xs.map (·.1)⟩ l' b'
set_option maxHeartbeats 8000000 in
theorem rsta_c (w0 : World) (R : Nat) (l : List Int) (b : Bool) (ab m : Nat) (w : World) (hR : Rb w0 w R l b) (hr : Ro w ab m) (hm : 4 ≤ m) (hne : R ≠ ab) (hge : w0.heap.size ≤ ab) (hc2 : w.cell? ⟨ab, 2, none⟩ = some (.slice none 0 0)) (hc3 : w.cell? ⟨ab, 3, none⟩ = some (.slice none 0 0)) (hl : l.length ≤ 1048576) :
    Calls Try.prog 27 #[.iface 76 (.pointer (some ⟨R, 0, none⟩)), .pointer (some ⟨ab, 0, none⟩)] w fun e w' => e = .returned (.tuple #[]) ∧ StP w0 w R l b ab w' := by
  have n1 := rnilN ⟨R, 0, none⟩
  have n2 := rmetN ⟨R, 0, none⟩
  have hal := hr.lt
  have hRl := hR.pos
  have KN := Hid.mk' (rlit_c w0 R l b ab 0 2 m w ((w.alloc (.cells #[.pointer (some ⟨ab, 0, none⟩), .pointer (some ⟨ab, 1, none⟩)] 91)).drew) (by omega) hR hr (by omega) hne hge (bel_lit _ _) (by simp) (one2 (cell_new rfl rfl) (cell_new rfl rfl)))
  have HRo := Hid.mk' hr
  have HC := Hid.mk' (And.intro hc2 hc3)
  clear hR hr hc2 hc3
  go_enter Try.func27, Try.ntmps27
  go_wp2_with fail
  go_region_law (go_simp; refine KN.out.mono ?_; rintro e w2 ⟨rfl, hw2⟩; have HR := Hid.mk' hw2; clear hw2)
  all_goals
    obtain ⟨hR1, hC1, hk1⟩ := HR.out
    have hro1 := HRo.out.ch hC1
    have hl1 : (rns l b 2).2.1.length ≤ l.length := (two_rp l b).le
    have KL := Hid.mk' (rlistW_c w0 R _ _ ab 2 m w2 hR1 hro1 (by omega) hne hge ((hC1.cell HRo.out (.inr (Nat.le_refl _))).trans HC.out.1) (by omega))
    have H1 := Hid.mk' (And.intro hC1 hk1)
    clear HR KN hR1 hC1 hk1 hro1
    go_simp
    go_wp2_with fail
    refine KL.out.mono ?_
    rintro e w3 ⟨rfl, hw3⟩
    obtain ⟨ws, v1, l2, b2, hR2, hC2, hv1, ho1, hrp1, hrg⟩ := hw3
    have hC12 : Ch R ab 0 3 w w3 := (H1.out.1.wide (Nat.le_refl _) (by omega)).trans (hC2.wide (by omega) (by omega))
    have hro2 := HRo.out.ch hC12
    have hl2 := hrp1.le
    have KL2 := Hid.mk' (rlistF_c w0 R l2 b2 ab 3 m w3 hR2 hro2 (by omega) hne hge ((hC12.cell HRo.out (.inr (Nat.le_refl _))).trans HC.out.2) (by omega))
    have HF : Hid (∀ w5, RsF w0 w3 R l2 b2 ab 3 w5 → StP w0 w R l b ab w5) := by
      rintro w5 ⟨xs, v2, l5, b5, hR5, hC5, hv2, ho2, hrp2, hfs⟩
      have hs12 := H1.out.1.size
      have hs2 := hC2.size
      have hs5 := hC5.size
      have hblk : ∀ q, v1.ownBlock = some q → w5.heap[q]? = w3.heap[q]? := fun q hq => by
        have h1 := ho1.lt q hq
        exact hC5.block q h1.2 (by omega) (by omega)
      refine ⟨_, _, ws, xs, v1, v2, w3.heap.size + 1, l5, b5, hR5, (hC12.wide (Nat.le_refl _) (by omega)).trans (hC5.wide (by omega) (by omega)), ⟨?_, ?_, ?_, hv2⟩, ⟨ownS_down (ownS_of ho1 hblk) (by omega), ho2, hfs, fun q hq => by have := (ho1.lt q hq).2; omega, by omega, hrg⟩, sta_rp hrp1 hrp2⟩
      · rw [hC5.cell hro2 (.inl (by omega)), hC2.cell (HRo.out.ch H1.out.1) (.inl (by omega))]; exact H1.out.2 0 (by omega)
      · rw [hC5.cell hro2 (.inl (by omega)), hC2.cell (HRo.out.ch H1.out.1) (.inl (by omega))]; exact H1.out.2 1 (by omega)
      · rw [hC5.cell hro2 (.inl (by omega))]; exact hv1
    clear KL hR2 hC2 hv1 ho1 hrp1 hrg hC12 hro2
    go_wp2_with fail
    refine KL2.out.mono ?_
    rintro e w5 ⟨rfl, hw5⟩
    have HE := Hid.mk' (HF.out w5 hw5)
    clear hw5 KL2 HF
    go_wp2
    go_end0
    exact ⟨rfl, HE.out⟩
end Go.Proofs.Ytfaajmhmcdoibaa
