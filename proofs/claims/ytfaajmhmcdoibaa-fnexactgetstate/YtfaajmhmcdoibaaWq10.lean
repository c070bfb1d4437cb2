import Derived.Test.YtfaajmhmcdoibaaWq9
set_option linter.all false
set_option linter.unusedVariables false
namespace Go.Proofs.Ytfaajmhmcdoibaa
open Go.RowKit Go.Sort
set_option maxRecDepth 100000
set_option maxHeartbeats 8000000 in
theorem ista_c (p : Nat) (S : Nat → Prop) (xs : List Int) (b : Bool) (w0 w : World) (ab ao : Nat) (x : Sta) (hb0 : Below w0.heap.size w0 w) (hS : ∀ k, k < w0.heap.size → S k) (hlb : Sta.LB 1048576 x) (hl : xs.length + staC x ≤ 549755812000) (hx : Sta.At 0 w0 ab ao x) (hv : ∀ j, j < x.stk.length → 0 ≤ x.stk.getD j 0 ∧ x.stk.getD j 0 ≤ 18446744073709551615) (hvf : ∀ i, i < x.frs.length → ∀ j, j < (x.frs.getD i Frm.z).loc.length → 0 ≤ (x.frs.getD i Frm.z).loc.getD j 0 ∧ (x.frs.getD i Frm.z).loc.getD j 0 ≤ 18446744073709551615) (hW : Wb w p S xs b) :
    Calls Try.prog 27 #[.iface 60 (.pointer (some ⟨p, 0, none⟩)), .pointer (some ⟨ab, ao, none⟩)] w fun e w' => e = .returned (.tuple #[]) ∧ NP w p S xs b (staO x) (staE x) (staC x) w' := by
  obtain ⟨a1, c1, a2, c2, ⟨q0, q1, q2, q3⟩, hI1, hI2⟩ := hx
  obtain ⟨hlb1, hlb2, hlb3⟩ := hlb
  have la : ab < w0.heap.size := World.block_lt_of_cell? w0 _ q0
  have hSa := hS ab la
  simp only [staC] at hl
  have HBK := Hid.mk' (fun w1 (hk : Kept S w w1) => hb0.trans (Kept.below (hk.weak hS)))
  have e0 := (hb0.cell (p := ⟨ab, ao, none⟩) la).trans q0
  have e1 := (hb0.cell (p := ⟨ab, ao + 1, none⟩) la).trans q1
  have n1 := nilN ⟨p, 0, none⟩
  have n2 := metN ⟨p, 0, none⟩
  have KN := Hid.mk' (wlit_c p S xs b [x.st, x.tr] w ((w.alloc (.cells #[.pointer (some ⟨ab, ao, none⟩), .pointer (some ⟨ab, ao + 1, none⟩)] 91)).drew) (by simp) (by omega) (bel_lit _ _) (by simp) (one2 ⟨ab, ao, cell_new rfl rfl, hSa, e0⟩ ⟨ab, ao + 1, cell_new rfl rfl, hSa, e1⟩) hW)
  have HL1 := Hid.mk' hI1
  have HL2 := Hid.mk' hI2
  have HS := Hid.mk' hS
  have HV := Hid.mk' hv
  have HVF := Hid.mk' hvf
  have HD2 := Hid.mk' q2
  have HD3 := Hid.mk' q3
  have HLB := Hid.mk' hlb3
  clear q0 q1 q2 q3 e0 e1 hb0 hS hW hI1 hI2 hv hSa hvf hlb3
  go_enter Try.func27, Try.ntmps27
  go_wp2_with fail
  go_region_law (go_simp; refine KN.out.mono ?_; rintro e w2 ⟨rfl, hw2⟩; have HR := Hid.mk' hw2; clear hw2)
  all_goals
    obtain ⟨xs1, b1, hw1, hk1, hp1⟩ := HR.out
    have hle := hp1.le
    simp only [List.length_cons, List.length_nil] at hle
    have KL := Hid.mk' (ilistW_c p S xs1 b1 w0 w2 ab (ao + 2) a1 c1 x.stk (HBK.out _ hk1) HS.out hlb1 (by omega) HD2.out HL1.out HV.out hw1)
    have HT := Hid.mk' (And.intro hk1 hp1)
    clear HR KN hw1 hk1 hp1
    go_simp
    go_wp2_with fail
    refine KL.out.mono ?_
    rintro e w3 ⟨rfl, hw3⟩
    obtain ⟨xs2, b2, hw2, hk2, hp2⟩ := hw3
    have hle2 := hp2.le
    have HT2 := Hid.mk' (And.intro (HT.out.1.trans hk2) (HT.out.2.trans hp2))
    have KL2 := Hid.mk' (ilistF_c p S xs2 b2 w0 w3 ab (ao + 3) a2 c2 x.frs (HBK.out _ HT2.out.1) HS.out hlb2 (by omega) HD3.out HL2.out HLB.out HVF.out hw2)
    clear hw2 hk2 hp2 HT KL
    go_wp2_with fail
    refine KL2.out.mono ?_
    rintro e w5 ⟨rfl, hw5⟩
    have HF : Hid (NP w p S xs b (staO x) (staE x) (staC x) w5) := by
      obtain ⟨xs4, b4, h3, h4, h5⟩ := hw5
      refine ⟨xs4, b4, h3, HT2.out.1.trans h4, ?_⟩
      have := HT2.out.2.trans h5
      simpa [staO, staE, staC, Bool.and_assoc, List.append_assoc, Nat.add_assoc] using this
    clear hw5 KL2 HT2
    go_wp2
    go_end0
    exact ⟨rfl, HF.out⟩
end Go.Proofs.Ytfaajmhmcdoibaa
