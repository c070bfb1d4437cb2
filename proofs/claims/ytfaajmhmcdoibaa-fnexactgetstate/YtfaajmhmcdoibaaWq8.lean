import Derived.Test.YtfaajmhmcdoibaaWq7
set_option linter.all false
set_option linter.unusedVariables false
namespace Go.Proofs.Ytfaajmhmcdoibaa
open Go.RowKit Go.Sort
set_option maxRecDepth 100000
set_option maxHeartbeats 8000000 in
theorem ifrm_c (p : Nat) (S : Nat → Prop) (xs : List Int) (b : Bool) (w0 w : World) (ab ao : Nat) (x : Frm) (hb0 : Below w0.heap.size w0 w) (hS : ∀ k, k < w0.heap.size → S k) (hlb : Frm.LB 1048576 x) (hl : xs.length + frmC x ≤ 549755812000) (hx : Frm.At 0 w0 ab ao x) (hv : ∀ j, j < x.loc.length → 0 ≤ x.loc.getD j 0 ∧ x.loc.getD j 0 ≤ 18446744073709551615) (hW : Wb w p S xs b) :
    Calls Try.prog 44 #[.iface 60 (.pointer (some ⟨p, 0, none⟩)), .pointer (some ⟨ab, ao, none⟩)] w fun e w' => e = .returned (.tuple #[]) ∧ NP w p S xs b (frmO x) (frmE x) (frmC x) w' := by
  obtain ⟨a1, c1, a2, c2, ⟨q0, q1, q2, q3, q4⟩, hI1, hI2⟩ := hx
  obtain ⟨hlb1, hlb2, -⟩ := hlb
  have hlt0 := hW.lt
  have la : ab < w0.heap.size := World.block_lt_of_cell? w0 _ q0
  have hSa := hS ab la
  simp only [frmC] at hl
  have HBK := Hid.mk' (fun w1 (hk : Kept S w w1) => hb0.trans (Kept.below (hk.weak hS)))
  have e0 := (hb0.cell (p := ⟨ab, ao, none⟩) la).trans q0
  have e1 := (hb0.cell (p := ⟨ab, ao + 1, none⟩) la).trans q1
  have HQ3 := Hid.mk' (fun w1 (hk : Kept S w w1) => (hk.cell (o := ao + 3) hSa).trans ((hb0.cell (p := ⟨ab, ao + 3, none⟩) la).trans q3))
  have n1 := nilN ⟨p, 0, none⟩
  have n2 := metN ⟨p, 0, none⟩
  have KN := Hid.mk' (wlit_c p S xs b [x.fn, x.pc] w ((w.alloc (.cells #[.pointer (some ⟨ab, ao, none⟩), .pointer (some ⟨ab, ao + 1, none⟩)] 91)).drew) (by simp) (by omega) (bel_lit _ _) (by simp) (one2 ⟨ab, ao, cell_new rfl rfl, hSa, e0⟩ ⟨ab, ao + 1, cell_new rfl rfl, hSa, e1⟩) hW)
  have HL1 := Hid.mk' hI1
  have HL2 := Hid.mk' hI2
  have HS := Hid.mk' hS
  have HV := Hid.mk' hv
  have HD2 := Hid.mk' q2
  have HD4 := Hid.mk' q4
  have HSa := Hid.mk' hSa
  have HLT := Hid.mk' hlt0
  clear q0 q1 q2 q3 q4 e0 e1 hb0 hS hW hI1 hI2 hv hSa hlt0
  go_enter Try.func44, Try.ntmps44
  go_wp2_with fail
  go_region_law (go_simp; refine KN.out.mono ?_; rintro e w2 ⟨rfl, hw2⟩; have HR := Hid.mk' hw2; clear hw2)
  all_goals
    obtain ⟨xs1, b1, hw1, hk1, hp1⟩ := HR.out
    have hle := hp1.le
    simp only [List.length_cons, List.length_nil] at hle
    have KL := Hid.mk' (ilistW_c p S xs1 b1 w0 w2 ab (ao + 2) a1 c1 x.loc (HBK.out _ hk1) HS.out hlb1 (by omega) HD2.out HL1.out HV.out hw1)
    have HT := Hid.mk' (And.intro hk1 hp1)
    clear HR KN hw1 hk1 hp1
    go_simp
    go_wp2_with fail
    refine KL.out.mono ?_
    rintro e w3 ⟨rfl, hw3⟩
    obtain ⟨xs2, b2, hw2, hk2, hp2⟩ := hw3
    have hle2 := hp2.le
    have HT2 := Hid.mk' (And.intro (HT.out.1.trans hk2) (HT.out.2.trans hp2))
    have q3 := HQ3.out _ HT2.out.1
    have KN := Hid.mk' (wlit_c p S xs2 b2 [x.ht] w3 ((w3.alloc (.cells #[.pointer (some ⟨ab, ao + 3, none⟩)] 91)).drew) (by simp) (by omega) (bel_lit _ _) (by simp) (one1 ⟨ab, ao + 3, cell_new rfl rfl, HSa.out, q3⟩) hw2)
    clear hw2 hk2 hp2 HT KL q3
    go_wp2_with fail
    go_region_law (go_simp; refine KN.out.mono ?_; rintro e w4 ⟨rfl, hw4⟩; have HR := Hid.mk' hw4; clear hw4)
    all_goals
      obtain ⟨xs3, b3, hw3, hk3, hp3⟩ := HR.out
      have hle3 := hp3.le
      simp only [List.length_cons, List.length_nil] at hle3
      have HT3 := Hid.mk' (And.intro (HT2.out.1.trans hk3) (HT2.out.2.trans hp3))
      have KL := Hid.mk' (ilistL_c p S xs3 b3 w0 w4 ab (ao + 4) a2 c2 x.labs (HBK.out _ HT3.out.1) HS.out hlb2 (by omega) HD4.out HL2.out hw3)
      clear HR KN hw3 hk3 hp3 HT2
      go_simp
      go_wp2_with fail
      refine KL.out.mono ?_
      rintro e w5 ⟨rfl, hw5⟩
      have HF : Hid (NP w p S xs b (frmO x) (frmE x) (frmC x) w5) := by
        obtain ⟨xs4, b4, h3, h4, h5⟩ := hw5
        refine ⟨xs4, b4, h3, HT3.out.1.trans h4, ?_⟩
        have := HT3.out.2.trans h5
        simpa [frmO, frmE, frmC, Bool.and_assoc, List.append_assoc, Nat.add_assoc] using this
      clear hw5 KL HT3
      go_wp2
      go_end0
      exact ⟨rfl, HF.out⟩
end Go.Proofs.Ytfaajmhmcdoibaa
