import Derived.Test.YtfaajmhmcdoibaaTq3
set_option linter.all false
set_option linter.unusedVariables false
namespace Go.Proofs.Ytfaajmhmcdoibaa.NF
open Go.RowKit Go.Sort
set_option maxRecDepth 100000
set_option maxHeartbeats 8000000 in
theorem rtSta_c (x : Sta) (a1 : Option Addr) (c1 : Nat) (a2 : Option Addr) (c2 : Nat) (w : World) (hI : Sta.Is 0 w x a1 a2) (hl : Sta.LB 1048576 x) :
    Calls Try.prog 7 #[.agg #[.int .i64 x.st, .int .i64 x.tr, .slice a1 x.stk.length c1, .slice a2 x.frs.length c2]] w fun e w' => ∃ b1 b2, e = .returned (.agg #[.int .i64 x.st, .int .i64 x.tr, .slice (some ⟨b1, 0, none⟩) x.stk.length x.stk.length, .slice (some ⟨b2, 0, none⟩) x.frs.length x.frs.length]) ∧ Sta.Is w.heap.size w' x (some ⟨b1, 0, none⟩) (some ⟨b2, 0, none⟩) ∧ Below w.heap.size w w' := by
  obtain ⟨l2, l3⟩ := hl
  obtain ⟨r1, r2⟩ := hI
  have R1 := Hid.mk' r1
  have R2 := Hid.mk' r2
  clear r1 r2
  have T0 := Hid.mk' (three w [.int .i64 x.st, .int .i64 x.tr, .slice a1 x.stk.length c1, .slice a2 x.frs.length c2] [.int .i64 0, .int .i64 0, .slice none 0 0, .slice none 0 0] [.int .i64 0, .int .i64 0, .slice none 0 0, .slice none 0 0] 25 31 31)
  go_enter Try.func7, Try.ntmps7
  go_upto_region 2 with fail
  refine wp_gen (fun W => Bk W w.heap.size [.int .i64 x.st, .int .i64 x.tr, .slice a1 x.stk.length c1, .slice a2 x.frs.length c2] ∧ Bk W (w.heap.size + 1) [.int .i64 0, .int .i64 0, .slice none 0 0, .slice none 0 0] ∧ Bk W (w.heap.size + 2) [.int .i64 0, .int .i64 0, .slice none 0 0, .slice none 0 0] ∧ Below w.heap.size w W) T0.out ?_
  rintro W ⟨bb, br, bo, hb⟩
  clear T0
  have e1 : w.heap.size ≠ w.heap.size + 1 := by omega
  have e2 : w.heap.size ≠ w.heap.size + 2 := by omega
  have e3 : w.heap.size + 1 ≠ w.heap.size + 2 := by omega
  have e4 : w.heap.size + 2 ≠ w.heap.size + 1 := by omega
  have q0 : W.cell? ⟨w.heap.size, 0, none⟩ = some (.int .i64 x.st) := bb.2.1 0 _ rfl
  have o0 : W.cell? ⟨w.heap.size + 2, 0, none⟩ = some (.int .i64 0) := bo.2.1 0 _ rfl
  have s0 : W.cell? ⟨w.heap.size + 1, 0, none⟩ = some (.int .i64 0) := br.2.1 0 _ rfl
  have q1 : W.cell? ⟨w.heap.size, 1, none⟩ = some (.int .i64 x.tr) := bb.2.1 1 _ rfl
  have o1 : W.cell? ⟨w.heap.size + 2, 1, none⟩ = some (.int .i64 0) := bo.2.1 1 _ rfl
  have s1 : W.cell? ⟨w.heap.size + 1, 1, none⟩ = some (.int .i64 0) := br.2.1 1 _ rfl
  have q2 : W.cell? ⟨w.heap.size, 2, none⟩ = some (.slice a1 x.stk.length c1) := bb.2.1 2 _ rfl
  have o2 : W.cell? ⟨w.heap.size + 2, 2, none⟩ = some (.slice none 0 0) := bo.2.1 2 _ rfl
  have s2 : W.cell? ⟨w.heap.size + 1, 2, none⟩ = some (.slice none 0 0) := br.2.1 2 _ rfl
  have q3 : W.cell? ⟨w.heap.size, 3, none⟩ = some (.slice a2 x.frs.length c2) := bb.2.1 3 _ rfl
  have o3 : W.cell? ⟨w.heap.size + 2, 3, none⟩ = some (.slice none 0 0) := bo.2.1 3 _ rfl
  have s3 : W.cell? ⟨w.heap.size + 1, 3, none⟩ = some (.slice none 0 0) := br.2.1 3 _ rfl
  have fo := bo.2.2
  have fr := br.2.2
  have hC1 : Below w.heap.size w ((W.setCell ⟨w.heap.size + 2, 0, none⟩ (.int .i64 x.st)).setCell ⟨w.heap.size + 2, 1, none⟩ (.int .i64 x.tr)) := ((hb.setCell (by show w.heap.size ≤ w.heap.size + 2; omega) _).setCell (by show w.heap.size ≤ w.heap.size + 2; omega) _)
  have HC1 := Hid.mk' (rtWords_c a1 c1 x.stk ((W.setCell ⟨w.heap.size + 2, 0, none⟩ (.int .i64 x.st)).setCell ⟨w.heap.size + 2, 1, none⟩ (.int .i64 x.tr)) l2 (R1.out.up (up_below hC1)))
  obtain ⟨B1, hB1⟩ : ∃ B, B = (((W.setCell ⟨w.heap.size + 2, 0, none⟩ (.int .i64 x.st)).setCell ⟨w.heap.size + 2, 1, none⟩ (.int .i64 x.tr))).heap.size := ⟨_, rfl⟩
  rw [← hB1] at HC1
  have HQ1 := Hid.mk' hB1
  clear hB1
  have bb1 : Bk ((W.setCell ⟨w.heap.size + 2, 0, none⟩ (.int .i64 x.st)).setCell ⟨w.heap.size + 2, 1, none⟩ (.int .i64 x.tr)) w.heap.size [.int .i64 x.st, .int .i64 x.tr, .slice a1 x.stk.length c1, .slice a2 x.frs.length c2] := ((bb.other (by omega)).other (by omega))
  have br1 : Bk ((W.setCell ⟨w.heap.size + 2, 0, none⟩ (.int .i64 x.st)).setCell ⟨w.heap.size + 2, 1, none⟩ (.int .i64 x.tr)) (w.heap.size + 1) [.int .i64 0, .int .i64 0, .slice none 0 0, .slice none 0 0] := ((br.other (by omega)).other (by omega))
  have bo1 : Bk ((W.setCell ⟨w.heap.size + 2, 0, none⟩ (.int .i64 x.st)).setCell ⟨w.heap.size + 2, 1, none⟩ (.int .i64 x.tr)) (w.heap.size + 2) [.int .i64 x.st, .int .i64 x.tr, .slice none 0 0, .slice none 0 0] := bo.set.set
  go_wp2_with fail
  refine HC1.out.mono ?_
  rintro e W1 ⟨rfl, n1, hb1⟩
  have bbn := bb1.keep (hb_of hb1 HQ1.out)
  have brn := br1.keep (hb_of hb1 HQ1.out)
  have bon := bo1.keep (hb_of hb1 HQ1.out)
  have hbn : Below w.heap.size w W1 := hC1.trans ((hb_of hb1 HQ1.out).mono hC1.size)
  clear bb br bo hb fo fr q0 o0 s0 q1 o1 s1 q2 o2 s2 q3 o3 s3
  have bb := bbn
  have br := brn
  have bo := bon
  have hb := hbn
  clear bbn brn bon hbn
  have hBle1 : w.heap.size + 2 < B1 := by rw [HQ1.out]; exact bo1.1
  have n1 := n1.mono (show w.heap.size + 3 ≤ B1 by omega)
  clear hC1 HC1 bb1 br1 bo1 hb1
  have q0 : W1.cell? ⟨w.heap.size, 0, none⟩ = some (.int .i64 x.st) := bb.2.1 0 _ rfl
  have o0 : W1.cell? ⟨w.heap.size + 2, 0, none⟩ = some (.int .i64 x.st) := bo.2.1 0 _ rfl
  have s0 : W1.cell? ⟨w.heap.size + 1, 0, none⟩ = some (.int .i64 0) := br.2.1 0 _ rfl
  have q1 : W1.cell? ⟨w.heap.size, 1, none⟩ = some (.int .i64 x.tr) := bb.2.1 1 _ rfl
  have o1 : W1.cell? ⟨w.heap.size + 2, 1, none⟩ = some (.int .i64 x.tr) := bo.2.1 1 _ rfl
  have s1 : W1.cell? ⟨w.heap.size + 1, 1, none⟩ = some (.int .i64 0) := br.2.1 1 _ rfl
  have q2 : W1.cell? ⟨w.heap.size, 2, none⟩ = some (.slice a1 x.stk.length c1) := bb.2.1 2 _ rfl
  have o2 : W1.cell? ⟨w.heap.size + 2, 2, none⟩ = some (.slice none 0 0) := bo.2.1 2 _ rfl
  have s2 : W1.cell? ⟨w.heap.size + 1, 2, none⟩ = some (.slice none 0 0) := br.2.1 2 _ rfl
  have q3 : W1.cell? ⟨w.heap.size, 3, none⟩ = some (.slice a2 x.frs.length c2) := bb.2.1 3 _ rfl
  have o3 : W1.cell? ⟨w.heap.size + 2, 3, none⟩ = some (.slice none 0 0) := bo.2.1 3 _ rfl
  have s3 : W1.cell? ⟨w.heap.size + 1, 3, none⟩ = some (.slice none 0 0) := br.2.1 3 _ rfl
  have fo := bo.2.2
  have fr := br.2.2
  have hC2 : Below w.heap.size w (W1.setCell ⟨w.heap.size + 2, 2, none⟩ (.slice (some ⟨B1, 0, none⟩) x.stk.length x.stk.length)) := (hb.setCell (by show w.heap.size ≤ w.heap.size + 2; omega) _)
  have HC2 := Hid.mk' (rtFrms_c a2 c2 x.frs (W1.setCell ⟨w.heap.size + 2, 2, none⟩ (.slice (some ⟨B1, 0, none⟩) x.stk.length x.stk.length)) l3 (R2.out.up (up_below hC2)))
  obtain ⟨B2, hB2⟩ : ∃ B, B = ((W1.setCell ⟨w.heap.size + 2, 2, none⟩ (.slice (some ⟨B1, 0, none⟩) x.stk.length x.stk.length))).heap.size := ⟨_, rfl⟩
  rw [← hB2] at HC2
  have HQ2 := Hid.mk' hB2
  clear hB2
  have bb2 : Bk (W1.setCell ⟨w.heap.size + 2, 2, none⟩ (.slice (some ⟨B1, 0, none⟩) x.stk.length x.stk.length)) w.heap.size [.int .i64 x.st, .int .i64 x.tr, .slice a1 x.stk.length c1, .slice a2 x.frs.length c2] := (bb.other (by omega))
  have br2 : Bk (W1.setCell ⟨w.heap.size + 2, 2, none⟩ (.slice (some ⟨B1, 0, none⟩) x.stk.length x.stk.length)) (w.heap.size + 1) [.int .i64 0, .int .i64 0, .slice none 0 0, .slice none 0 0] := (br.other (by omega))
  have bo2 : Bk (W1.setCell ⟨w.heap.size + 2, 2, none⟩ (.slice (some ⟨B1, 0, none⟩) x.stk.length x.stk.length)) (w.heap.size + 2) [.int .i64 x.st, .int .i64 x.tr, .slice (some ⟨B1, 0, none⟩) x.stk.length x.stk.length, .slice none 0 0] := bo.set
  go_wp2_with fail
  refine HC2.out.mono ?_
  rintro e W2 ⟨rfl, n2, hb2⟩
  have bbn := bb2.keep (hb_of hb2 HQ2.out)
  have brn := br2.keep (hb_of hb2 HQ2.out)
  have bon := bo2.keep (hb_of hb2 HQ2.out)
  have hbn : Below w.heap.size w W2 := hC2.trans ((hb_of hb2 HQ2.out).mono hC2.size)
  clear bb br bo hb fo fr q0 o0 s0 q1 o1 s1 q2 o2 s2 q3 o3 s3
  have bb := bbn
  have br := brn
  have bo := bon
  have hb := hbn
  clear bbn brn bon hbn
  have n1 := n1.up (Up.size_trans (up_sets1 (by omega)) (up_below (hb_of hb2 HQ2.out)) (by simp))
  have hBle2 : w.heap.size + 2 < B2 := by rw [HQ2.out]; exact bo2.1
  have n2 := n2.mono (show w.heap.size + 3 ≤ B2 by omega)
  clear hC2 HC2 bb2 br2 bo2 hb2
  have q0 : W2.cell? ⟨w.heap.size, 0, none⟩ = some (.int .i64 x.st) := bb.2.1 0 _ rfl
  have o0 : W2.cell? ⟨w.heap.size + 2, 0, none⟩ = some (.int .i64 x.st) := bo.2.1 0 _ rfl
  have s0 : W2.cell? ⟨w.heap.size + 1, 0, none⟩ = some (.int .i64 0) := br.2.1 0 _ rfl
  have q1 : W2.cell? ⟨w.heap.size, 1, none⟩ = some (.int .i64 x.tr) := bb.2.1 1 _ rfl
  have o1 : W2.cell? ⟨w.heap.size + 2, 1, none⟩ = some (.int .i64 x.tr) := bo.2.1 1 _ rfl
  have s1 : W2.cell? ⟨w.heap.size + 1, 1, none⟩ = some (.int .i64 0) := br.2.1 1 _ rfl
  have q2 : W2.cell? ⟨w.heap.size, 2, none⟩ = some (.slice a1 x.stk.length c1) := bb.2.1 2 _ rfl
  have o2 : W2.cell? ⟨w.heap.size + 2, 2, none⟩ = some (.slice (some ⟨B1, 0, none⟩) x.stk.length x.stk.length) := bo.2.1 2 _ rfl
  have s2 : W2.cell? ⟨w.heap.size + 1, 2, none⟩ = some (.slice none 0 0) := br.2.1 2 _ rfl
  have q3 : W2.cell? ⟨w.heap.size, 3, none⟩ = some (.slice a2 x.frs.length c2) := bb.2.1 3 _ rfl
  have o3 : W2.cell? ⟨w.heap.size + 2, 3, none⟩ = some (.slice none 0 0) := bo.2.1 3 _ rfl
  have s3 : W2.cell? ⟨w.heap.size + 1, 3, none⟩ = some (.slice none 0 0) := br.2.1 3 _ rfl
  have fo := bo.2.2
  have fr := br.2.2
  have HB := Hid.mk' hb
  have HN1 := Hid.mk' n1
  have HN2 := Hid.mk' n2
  clear hb bb br bo n1 n2
  go_wp2
  exact bodyPost_ret (v := .agg #[.int .i64 x.st, .int .i64 x.tr, .slice (some ⟨B1, 0, none⟩) x.stk.length x.stk.length, .slice (some ⟨B2, 0, none⟩) x.frs.length x.frs.length]) (by simp [results, Try.results7, go_sem, s0, s1, s2, s3, e3, e4]) rfl ⟨B1, B2, rfl, ⟨((HN1.out.up (up_sets1 (by omega))).up (up_set1_4 (by omega))).mono (by omega), ((HN2.out.up (up_sets1 (by omega))).up (up_set1_4 (by omega))).mono (by omega)⟩, (((((HB.out.setCell (by show w.heap.size ≤ w.heap.size + 2; omega) _).setCell (by show w.heap.size ≤ w.heap.size + 1; omega) _).setCell (by show w.heap.size ≤ w.heap.size + 1; omega) _).setCell (by show w.heap.size ≤ w.heap.size + 1; omega) _).setCell (by show w.heap.size ≤ w.heap.size + 1; omega) _)⟩
end Go.Proofs.Ytfaajmhmcdoibaa.NF
