import Derived.Test.YtfaajmhmcdoibaaWq6
set_option linter.all false
set_option linter.unusedVariables false
namespace Go.Proofs.Ytfaajmhmcdoibaa
open Go.RowKit Go.Sort
set_option maxRecDepth 100000
set_option maxHeartbeats 8000000 in
theorem ilistL_c (p : Nat) (S : Nat → Prop) (xs : List Int) (b : Bool) (w0 w : World) (fb fo : Nat) (a : Option Addr) (c : Nat) (l : List Lab) (hb0 : Below w0.heap.size w0 w) (hS : ∀ k, k < w0.heap.size → S k) (hn : l.length ≤ 1048576) (hl : xs.length + listC labC l ≤ 549755812000) (hc : w0.cell? ⟨fb, fo, none⟩ = some (.slice a l.length c)) (hL : Lab.Ls 0 w0 a l) (hW : Wb w p S xs b) :
    Calls Try.prog 53 #[.iface 60 (.pointer (some ⟨p, 0, none⟩)), .pointer (some ⟨fb, fo, none⟩), .func (.func 54) #[] #[]] w fun e w' => e = .returned (.tuple #[]) ∧ NP w p S xs b (listO labO l) (listE labE l) (listC labC l) w' := by
  have lf : fb < w0.heap.size := World.block_lt_of_cell? w0 _ hc
  have cF := (hb0.cell (p := ⟨fb, fo, none⟩) lf).trans hc
  have n2 := metN ⟨p, 0, none⟩
  have n4 := metS ⟨p, 0, none⟩
  have KN := Hid.mk' (fun (W1 : World) (hb1 : Below w.heap.size w W1) (hlt1 : w.heap.size < W1.heap.size) (hc1 : W1.cell? ⟨w.heap.size, 0, none⟩ = some (.int .i64 (l.length : Int))) => wlit_c p (fun k => S k ∨ (w.heap.size ≤ k ∧ k < W1.heap.size)) xs b [(l.length : Int)] W1 (W1.alloc (.cells #[.pointer (some ⟨w.heap.size, 0, none⟩)] 91)) (by simp) (by omega) ((Below.refl _ _).alloc (Nat.le_refl _) _) (by simp) (one1 ⟨w.heap.size, 0, cell_new rfl rfl, .inr ⟨Nat.le_refl _, hlt1⟩, hc1⟩) (hW.on hb1))
  have HW := Hid.mk' hW
  have HL := Hid.mk' hL
  have HS := Hid.mk' hS
  have HB0 := Hid.mk' hb0
  have HLE := Hid.mk' hl
  have HCF := Hid.mk' hc
  clear hW hL hS hb0 hl hc
  go_enter Try.func53, Try.ntmps53
  go_upto_region 1 with fail
  refine wp_gen (fun W => W.cell? ⟨w.heap.size, 0, none⟩ = some (.int .i64 (l.length : Int)) ∧ Below w.heap.size w W ∧ w.heap.size < W.heap.size) ?_ ?_
  · refine ⟨?_, ?_, ?_⟩
    · first | exact cell_new rfl rfl | exact set_same (cell_new rfl rfl)
    · first | exact (Below.refl _ _).alloc (Nat.le_refl _) _ | exact ((Below.refl _ _).alloc (Nat.le_refl _) _).setCell (Nat.le_refl _) _
    · simp
  rintro W1 ⟨c1, hb1, hlt1⟩
  have KM := Hid.mk' (KN.out W1 hb1 hlt1 c1)
  have HB1 := Hid.mk' hb1
  have HC1 := Hid.mk' c1
  clear hb1 c1 cF
  go_wp2_with fail
  refine KM.out.mono ?_
  rintro e w2 ⟨rfl, hw2⟩
  have HR := Hid.mk' hw2
  clear hw2 KM KN
  go_wp2
  go_loopw [7] (fun i wr => ∃ k : Nat, k ≤ l.length ∧ i = .int .i64 k ∧ NP W1 p (fun k => S k ∨ (w.heap.size ≤ k ∧ k < W1.heap.size)) xs b (numsO [(l.length : Int)] && (l.take k).all labO) (numsE [(l.length : Int)] ++ (l.take k).flatMap labE) (10 + ((l.take k).map labC).sum) wr) (fun i _ => l.length - (intOf i).toNat)
  case atStart => exact ⟨0, Nat.zero_le _, rfl, by simpa using HR.out⟩
  case round =>
    obtain ⟨k, hk, rfl, xs1, b1, hw, hkp, hwp⟩ := hrel
    clear HR
    have hSf : S fb := HS.out fb lf
    have d1 : wr.cell? ⟨w.heap.size, 0, none⟩ = some (.int .i64 (l.length : Int)) := (hkp.cell (.inr ⟨Nat.le_refl _, hlt1⟩)).trans HC1.out
    have hB : Below w0.heap.size w0 wr := HB0.out.trans (Kept.below ((Kept.of_below HB1.out HW.out.lt).trans (hkp.weak fun _ => .inl) |>.weak HS.out))
    have d2 : wr.cell? ⟨fb, fo, none⟩ = some (.slice a l.length c) := (hB.cell (p := ⟨fb, fo, none⟩) lf).trans HCF.out
    have hle := hwp.le
    have hle2 : ((l.take k).map labC).sum ≤ (l.map labC).sum := by rw [sum_split labC l k]; omega
    have hLL := HLE.out
    simp only [listC] at hLL
    by_cases hlt : k < l.length
    · have hki : (k : Int) < (l.length : Int) := by omega
      have KS := Hid.mk' (wstk_c p _ xs1 b1 wr (by omega) hw)
      cases hst : stk xs1 b1 with
      | true =>
        rw [hst] at KS
        have HF := Hid.mk' (NP.back HW.out.lt HB1.out ⟨xs1, b1, hw, hkp, Wp.left hwp hst⟩)
        clear hw hkp hwp hst hB hle hle2 hLL HL HW HS HB0 HLE
        go_wp2_with fail
        refine KS.out.mono ?_
        rintro e W5 ⟨rfl, rfl⟩
        go_wp2
        go_end0
        exact ⟨rfl, HF.out⟩
      | false =>
        rw [hst] at KS
        rcases HL.out with hx | ⟨eb, eo, ea, _, hce⟩
        · subst hx; simp at hlt
        have hq := hce k hlt
        have KE := Hid.mk' (ilab_c p _ xs1 b1 w0 wr eb (eo + k * 4) (l.getD k Lab.z) hB (fun k hk => .inl (HS.out k hk)) (by omega) hq hw)
        have HN := Hid.mk' (fun w3 (h : NP wr p (fun k => S k ∨ (w.heap.size ≤ k ∧ k < W1.heap.size)) xs1 b1 (labO (l.getD k Lab.z)) (labE (l.getD k Lab.z)) (labC (l.getD k Lab.z)) w3) => NP.next Lab.z hlt hkp hwp h)
        subst ea
        have hne : ((k : Int) == (l.length : Int)) = false := by simp; omega
        clear hw hkp hwp hst hB hle hle2 hLL HL HW HS HB0 HLE hce hq
        go_wp2_with fail
        refine KS.out.mono ?_
        rintro e W5 ⟨rfl, rfl⟩
        go_wp2_with fail
        refine KE.out.mono ?_
        rintro e w3 ⟨rfl, hw3⟩
        have HR3 := Hid.mk' (HN.out w3 hw3)
        clear hw3 KE KS HN d1 d2
        go_wp2
        go_roundw
        case rel => exact ⟨k + 1, by omega, by go_num, HR3.out⟩
        case measure => simp [intOf]; omega
    · have e : k = l.length := by omega
      subst e
      have HF := Hid.mk' (NP.back HW.out.lt HB1.out ⟨xs1, b1, hw, hkp, Wp.full hwp⟩)
      clear hw hkp hwp hB hle hle2 hLL HL HW HS HB0 HLE
      go_wp2
      go_end0
      exact ⟨rfl, HF.out⟩
end Go.Proofs.Ytfaajmhmcdoibaa
