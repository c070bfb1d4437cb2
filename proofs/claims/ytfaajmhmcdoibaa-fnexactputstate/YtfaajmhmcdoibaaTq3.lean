import Derived.Test.YtfaajmhmcdoibaaTq2
set_option linter.all false
set_option linter.unusedVariables false
namespace Go.Proofs.Ytfaajmhmcdoibaa.NF
open Go.RowKit Go.Sort
set_option maxRecDepth 100000
set_option maxHeartbeats 8000000 in
theorem rtFrm_c (x : Frm) (a1 : Option Addr) (c1 : Nat) (a2 : Option Addr) (c2 : Nat) (w : World) (hI : Frm.Is 0 w x a1 a2) (hl : Frm.LB 1048576 x) :
    Calls Try.prog 41 #[.agg #[.int .i64 x.fn, .int .i64 x.pc, .slice a1 x.loc.length c1, .int .i64 x.ht, .slice a2 x.labs.length c2]] w fun e w' => ∃ b1 b2, e = .returned (.agg #[.int .i64 x.fn, .int .i64 x.pc, .slice (some ⟨b1, 0, none⟩) x.loc.length x.loc.length, .int .i64 x.ht, .slice (some ⟨b2, 0, none⟩) x.labs.length x.labs.length]) ∧ Frm.Is w.heap.size w' x (some ⟨b1, 0, none⟩) (some ⟨b2, 0, none⟩) ∧ Below w.heap.size w w' := by
  obtain ⟨l2, l4⟩ := hl
  obtain ⟨r1, r2⟩ := hI
  have R1 := Hid.mk' r1
  have R2 := Hid.mk' r2
  clear r1 r2
  have T0 := Hid.mk' (three w [.int .i64 x.fn, .int .i64 x.pc, .slice a1 x.loc.length c1, .int .i64 x.ht, .slice a2 x.labs.length c2] [.int .i64 0, .int .i64 0, .slice none 0 0, .int .i64 0, .slice none 0 0] [.int .i64 0, .int .i64 0, .slice none 0 0, .int .i64 0, .slice none 0 0] 82 54 54)
  go_enter Try.func41, Try.ntmps41
  go_upto_region 2 with fail
  refine wp_gen (fun W => Bk W w.heap.size [.int .i64 x.fn, .int .i64 x.pc, .slice a1 x.loc.length c1, .int .i64 x.ht, .slice a2 x.labs.length c2] ∧ Bk W (w.heap.size + 1) [.int .i64 0, .int .i64 0, .slice none 0 0, .int .i64 0, .slice none 0 0] ∧ Bk W (w.heap.size + 2) [.int .i64 0, .int .i64 0, .slice none 0 0, .int .i64 0, .slice none 0 0] ∧ Below w.heap.size w W) T0.out ?_
  rintro W ⟨bb, br, bo, hb⟩
  clear T0
  have e1 : w.heap.size ≠ w.heap.size + 1 := by omega
  have e2 : w.heap.size ≠ w.heap.size + 2 := by omega
  have e3 : w.heap.size + 1 ≠ w.heap.size + 2 := by omega
  have e4 : w.heap.size + 2 ≠ w.heap.size + 1 := by omega
  have q0 : W.cell? ⟨w.heap.size, 0, none⟩ = some (.int .i64 x.fn) := bb.2.1 0 _ rfl
  have o0 : W.cell? ⟨w.heap.size + 2, 0, none⟩ = some (.int .i64 0) := bo.2.1 0 _ rfl
  have s0 : W.cell? ⟨w.heap.size + 1, 0, none⟩ = some (.int .i64 0) := br.2.1 0 _ rfl
  have q1 : W.cell? ⟨w.heap.size, 1, none⟩ = some (.int .i64 x.pc) := bb.2.1 1 _ rfl
  have o1 : W.cell? ⟨w.heap.size + 2, 1, none⟩ = some (.int .i64 0) := bo.2.1 1 _ rfl
  have s1 : W.cell? ⟨w.heap.size + 1, 1, none⟩ = some (.int .i64 0) := br.2.1 1 _ rfl
  have q2 : W.cell? ⟨w.heap.size, 2, none⟩ = some (.slice a1 x.loc.length c1) := bb.2.1 2 _ rfl
  have o2 : W.cell? ⟨w.heap.size + 2, 2, none⟩ = some (.slice none 0 0) := bo.2.1 2 _ rfl
  have s2 : W.cell? ⟨w.heap.size + 1, 2, none⟩ = some (.slice none 0 0) := br.2.1 2 _ rfl
  have q3 : W.cell? ⟨w.heap.size, 3, none⟩ = some (.int .i64 x.ht) := bb.2.1 3 _ rfl
  have o3 : W.cell? ⟨w.heap.size + 2, 3, none⟩ = some (.int .i64 0) := bo.2.1 3 _ rfl
  have s3 : W.cell? ⟨w.heap.size + 1, 3, none⟩ = some (.int .i64 0) := br.2.1 3 _ rfl
  have q4 : W.cell? ⟨w.heap.size, 4, none⟩ = some (.slice a2 x.labs.length c2) := bb.2.1 4 _ rfl
  have o4 : W.cell? ⟨w.heap.size + 2, 4, none⟩ = some (.slice none 0 0) := bo.2.1 4 _ rfl
  have s4 : W.cell? ⟨w.heap.size + 1, 4, none⟩ = some (.slice none 0 0) := br.2.1 4 _ rfl
  have fo := bo.2.2
  have fr := br.2.2
  have hC1 : Below w.heap.size w ((W.setCell ⟨w.heap.size + 2, 0, none⟩ (.int .i64 x.fn)).setCell ⟨w.heap.size + 2, 1, none⟩ (.int .i64 x.pc)) := ((hb.setCell (by show w.heap.size ≤ w.heap.size + 2; omega) _).setCell (by show w.heap.size ≤ w.heap.size + 2; omega) _)
  have HC1 := Hid.mk' (rtWords_c a1 c1 x.loc ((W.setCell ⟨w.heap.size + 2, 0, none⟩ (.int .i64 x.fn)).setCell ⟨w.heap.size + 2, 1, none⟩ (.int .i64 x.pc)) l2 (R1.out.up (up_below hC1)))
  obtain ⟨B1, hB1⟩ : ∃ B, B = (((W.setCell ⟨w.heap.size + 2, 0, none⟩ (.int .i64 x.fn)).setCell ⟨w.heap.size + 2, 1, none⟩ (.int .i64 x.pc))).heap.size := ⟨_, rfl⟩
  rw [← hB1] at HC1
  have HQ1 := Hid.mk' hB1
  clear hB1
  have bb1 : Bk ((W.setCell ⟨w.heap.size + 2, 0, none⟩ (.int .i64 x.fn)).setCell ⟨w.heap.size + 2, 1, none⟩ (.int .i64 x.pc)) w.heap.size [.int .i64 x.fn, .int .i64 x.pc, .slice a1 x.loc.length c1, .int .i64 x.ht, .slice a2 x.labs.length c2] := ((bb.other (by omega)).other (by omega))
  have br1 : Bk ((W.setCell ⟨w.heap.size + 2, 0, none⟩ (.int .i64 x.fn)).setCell ⟨w.heap.size + 2, 1, none⟩ (.int .i64 x.pc)) (w.heap.size + 1) [.int .i64 0, .int .i64 0, .slice none 0 0, .int .i64 0, .slice none 0 0] := ((br.other (by omega)).other (by omega))
  have bo1 : Bk ((W.setCell ⟨w.heap.size + 2, 0, none⟩ (.int .i64 x.fn)).setCell ⟨w.heap.size + 2, 1, none⟩ (.int .i64 x.pc)) (w.heap.size + 2) [.int .i64 x.fn, .int .i64 x.pc, .slice none 0 0, .int .i64 0, .slice none 0 0] := bo.set.set
  go_wp2_with fail
  refine HC1.out.mono ?_
  rintro e W1 ⟨rfl, n1, hb1⟩
  have bbn := bb1.keep (hb_of hb1 HQ1.out)
  have brn := br1.keep (hb_of hb1 HQ1.out)
  have bon := bo1.keep (hb_of hb1 HQ1.out)
  have hbn : Below w.heap.size w W1 := hC1.trans ((hb_of hb1 HQ1.out).mono hC1.size)
  clear bb br bo hb fo fr q0 o0 s0 q1 o1 s1 q2 o2 s2 q3 o3 s3 q4 o4 s4
  have bb := bbn
  have br := brn
  have bo := bon
  have hb := hbn
  clear bbn brn bon hbn
  have hBle1 : w.heap.size + 2 < B1 := by rw [HQ1.out]; exact bo1.1
  have n1 := n1.mono (show w.heap.size + 3 ≤ B1 by omega)
  clear hC1 HC1 bb1 br1 bo1 hb1
  have q0 : W1.cell? ⟨w.heap.size, 0, none⟩ = some (.int .i64 x.fn) := bb.2.1 0 _ rfl
  have o0 : W1.cell? ⟨w.heap.size + 2, 0, none⟩ = some (.int .i64 x.fn) := bo.2.1 0 _ rfl
  have s0 : W1.cell? ⟨w.heap.size + 1, 0, none⟩ = some (.int .i64 0) := br.2.1 0 _ rfl
  have q1 : W1.cell? ⟨w.heap.size, 1, none⟩ = some (.int .i64 x.pc) := bb.2.1 1 _ rfl
  have o1 : W1.cell? ⟨w.heap.size + 2, 1, none⟩ = some (.int .i64 x.pc) := bo.2.1 1 _ rfl
  have s1 : W1.cell? ⟨w.heap.size + 1, 1, none⟩ = some (.int .i64 0) := br.2.1 1 _ rfl
  have q2 : W1.cell? ⟨w.heap.size, 2, none⟩ = some (.slice a1 x.loc.length c1) := bb.2.1 2 _ rfl
  have o2 : W1.cell? ⟨w.heap.size + 2, 2, none⟩ = some (.slice none 0 0) := bo.2.1 2 _ rfl
  have s2 : W1.cell? ⟨w.heap.size + 1, 2, none⟩ = some (.slice none 0 0) := br.2.1 2 _ rfl
  have q3 : W1.cell? ⟨w.heap.size, 3, none⟩ = some (.int .i64 x.ht) := bb.2.1 3 _ rfl
  have o3 : W1.cell? ⟨w.heap.size + 2, 3, none⟩ = some (.int .i64 0) := bo.2.1 3 _ rfl
  have s3 : W1.cell? ⟨w.heap.size + 1, 3, none⟩ = some (.int .i64 0) := br.2.1 3 _ rfl
  have q4 : W1.cell? ⟨w.heap.size, 4, none⟩ = some (.slice a2 x.labs.length c2) := bb.2.1 4 _ rfl
  have o4 : W1.cell? ⟨w.heap.size + 2, 4, none⟩ = some (.slice none 0 0) := bo.2.1 4 _ rfl
  have s4 : W1.cell? ⟨w.heap.size + 1, 4, none⟩ = some (.slice none 0 0) := br.2.1 4 _ rfl
  have fo := bo.2.2
  have fr := br.2.2
  have hC2 : Below w.heap.size w ((W1.setCell ⟨w.heap.size + 2, 2, none⟩ (.slice (some ⟨B1, 0, none⟩) x.loc.length x.loc.length)).setCell ⟨w.heap.size + 2, 3, none⟩ (.int .i64 x.ht)) := ((hb.setCell (by show w.heap.size ≤ w.heap.size + 2; omega) _).setCell (by show w.heap.size ≤ w.heap.size + 2; omega) _)
  have HC2 := Hid.mk' (rtLabs_c a2 c2 x.labs ((W1.setCell ⟨w.heap.size + 2, 2, none⟩ (.slice (some ⟨B1, 0, none⟩) x.loc.length x.loc.length)).setCell ⟨w.heap.size + 2, 3, none⟩ (.int .i64 x.ht)) l4 (R2.out.up (up_below hC2)))
  obtain ⟨B2, hB2⟩ : ∃ B, B = (((W1.setCell ⟨w.heap.size + 2, 2, none⟩ (.slice (some ⟨B1, 0, none⟩) x.loc.length x.loc.length)).setCell ⟨w.heap.size + 2, 3, none⟩ (.int .i64 x.ht))).heap.size := ⟨_, rfl⟩
  rw [← hB2] at HC2
  have HQ2 := Hid.mk' hB2
  clear hB2
  have bb2 : Bk ((W1.setCell ⟨w.heap.size + 2, 2, none⟩ (.slice (some ⟨B1, 0, none⟩) x.loc.length x.loc.length)).setCell ⟨w.heap.size + 2, 3, none⟩ (.int .i64 x.ht)) w.heap.size [.int .i64 x.fn, .int .i64 x.pc, .slice a1 x.loc.length c1, .int .i64 x.ht, .slice a2 x.labs.length c2] := ((bb.other (by omega)).other (by omega))
  have br2 : Bk ((W1.setCell ⟨w.heap.size + 2, 2, none⟩ (.slice (some ⟨B1, 0, none⟩) x.loc.length x.loc.length)).setCell ⟨w.heap.size + 2, 3, none⟩ (.int .i64 x.ht)) (w.heap.size + 1) [.int .i64 0, .int .i64 0, .slice none 0 0, .int .i64 0, .slice none 0 0] := ((br.other (by omega)).other (by omega))
  have bo2 : Bk ((W1.setCell ⟨w.heap.size + 2, 2, none⟩ (.slice (some ⟨B1, 0, none⟩) x.loc.length x.loc.length)).setCell ⟨w.heap.size + 2, 3, none⟩ (.int .i64 x.ht)) (w.heap.size + 2) [.int .i64 x.fn, .int .i64 x.pc, .slice (some ⟨B1, 0, none⟩) x.loc.length x.loc.length, .int .i64 x.ht, .slice none 0 0] := bo.set.set
  go_wp2_with fail
  refine HC2.out.mono ?_
  rintro e W2 ⟨rfl, n2, hb2⟩
  have bbn := bb2.keep (hb_of hb2 HQ2.out)
  have brn := br2.keep (hb_of hb2 HQ2.out)
  have bon := bo2.keep (hb_of hb2 HQ2.out)
  have hbn : Below w.heap.size w W2 := hC2.trans ((hb_of hb2 HQ2.out).mono hC2.size)
  clear bb br bo hb fo fr q0 o0 s0 q1 o1 s1 q2 o2 s2 q3 o3 s3 q4 o4 s4
  have bb := bbn
  have br := brn
  have bo := bon
  have hb := hbn
  clear bbn brn bon hbn
  have n1 := n1.up (Up.size_trans (up_sets2 (by omega)) (up_below (hb_of hb2 HQ2.out)) (by simp))
  have hBle2 : w.heap.size + 2 < B2 := by rw [HQ2.out]; exact bo2.1
  have n2 := n2.mono (show w.heap.size + 3 ≤ B2 by omega)
  clear hC2 HC2 bb2 br2 bo2 hb2
  have q0 : W2.cell? ⟨w.heap.size, 0, none⟩ = some (.int .i64 x.fn) := bb.2.1 0 _ rfl
  have o0 : W2.cell? ⟨w.heap.size + 2, 0, none⟩ = some (.int .i64 x.fn) := bo.2.1 0 _ rfl
  have s0 : W2.cell? ⟨w.heap.size + 1, 0, none⟩ = some (.int .i64 0) := br.2.1 0 _ rfl
  have q1 : W2.cell? ⟨w.heap.size, 1, none⟩ = some (.int .i64 x.pc) := bb.2.1 1 _ rfl
  have o1 : W2.cell? ⟨w.heap.size + 2, 1, none⟩ = some (.int .i64 x.pc) := bo.2.1 1 _ rfl
  have s1 : W2.cell? ⟨w.heap.size + 1, 1, none⟩ = some (.int .i64 0) := br.2.1 1 _ rfl
  have q2 : W2.cell? ⟨w.heap.size, 2, none⟩ = some (.slice a1 x.loc.length c1) := bb.2.1 2 _ rfl
  have o2 : W2.cell? ⟨w.heap.size + 2, 2, none⟩ = some (.slice (some ⟨B1, 0, none⟩) x.loc.length x.loc.length) := bo.2.1 2 _ rfl
  have s2 : W2.cell? ⟨w.heap.size + 1, 2, none⟩ = some (.slice none 0 0) := br.2.1 2 _ rfl
  have q3 : W2.cell? ⟨w.heap.size, 3, none⟩ = some (.int .i64 x.ht) := bb.2.1 3 _ rfl
  have o3 : W2.cell? ⟨w.heap.size + 2, 3, none⟩ = some (.int .i64 x.ht) := bo.2.1 3 _ rfl
  have s3 : W2.cell? ⟨w.heap.size + 1, 3, none⟩ = some (.int .i64 0) := br.2.1 3 _ rfl
  have q4 : W2.cell? ⟨w.heap.size, 4, none⟩ = some (.slice a2 x.labs.length c2) := bb.2.1 4 _ rfl
  have o4 : W2.cell? ⟨w.heap.size + 2, 4, none⟩ = some (.slice none 0 0) := bo.2.1 4 _ rfl
  have s4 : W2.cell? ⟨w.heap.size + 1, 4, none⟩ = some (.slice none 0 0) := br.2.1 4 _ rfl
  have fo := bo.2.2
  have fr := br.2.2
  have HB := Hid.mk' hb
  have HN1 := Hid.mk' n1
  have HN2 := Hid.mk' n2
  clear hb bb br bo n1 n2
  go_wp2
  exact bodyPost_ret (v := .agg #[.int .i64 x.fn, .int .i64 x.pc, .slice (some ⟨B1, 0, none⟩) x.loc.length x.loc.length, .int .i64 x.ht, .slice (some ⟨B2, 0, none⟩) x.labs.length x.labs.length]) (by simp [results, Try.results41, go_sem, s0, s1, s2, s3, s4, e3, e4]) rfl ⟨B1, B2, rfl, ⟨((HN1.out.up (up_sets1 (by omega))).up (up_set1_5 (by omega))).mono (by omega), ((HN2.out.up (up_sets1 (by omega))).up (up_set1_5 (by omega))).mono (by omega)⟩, ((((((HB.out.setCell (by show w.heap.size ≤ w.heap.size + 2; omega) _).setCell (by show w.heap.size ≤ w.heap.size + 1; omega) _).setCell (by show w.heap.size ≤ w.heap.size + 1; omega) _).setCell (by show w.heap.size ≤ w.heap.size + 1; omega) _).setCell (by show w.heap.size ≤ w.heap.size + 1; omega) _).setCell (by show w.heap.size ≤ w.heap.size + 1; omega) _)⟩
theorem Try.infoFrm : (Try.prog.info? 54).map (fun i => (i.zero, i.size, i.bytes)) = some (some (.agg #[.int .i64 0, .int .i64 0, .slice none 0 0, .int .i64 0, .slice none 0 0]), 5, 72) := by kernel_rfl
theorem makeFrm (n : Nat) (hn : n ≤ 1048576) (w : World) : (Instr.makeSlice 29 (.int .i64 (n : Int)) (.int .i64 (n : Int))).run Try.prog w = .ok (.slice (some ⟨w.heap.size, 0, none⟩) n n) (w.alloc (.cells (madeCells #[.int .i64 0, .int .i64 0, .slice none 0 0, .int .i64 0, .slice none 0 0] (n * 5)) 54)) := by
  obtain ⟨i, hi, hzz⟩ := Option.map_eq_some_iff.1 Try.infoFrm
  simp only [Prod.mk.injEq] at hzz
  obtain ⟨hz, hs, hb⟩ := hzz
  have := run_make (P := Try.prog) w 29 54 i _ Try.underlying29 hi hz .i64 .i64 n n (by omega) (by omega) (by rw [hb]; omega) (by omega)
  rw [hs] at this
  simpa [Value.cells] using this
structure CpFrm (w : World) (g n k : Nat) (xs : List Frm) (W : World) : Prop where
  blk : ∃ cur, W.heap[g]? = some (.cells cur 54 (0, 0)) ∧ cur.size = n * 5
  done : ∀ i, i < k → ∃ a1 c1 a2 c2, (W.cell? ⟨g, i * 5, none⟩ = some (.int .i64 (xs.getD i Frm.z).fn) ∧ W.cell? ⟨g, i * 5 + 1, none⟩ = some (.int .i64 (xs.getD i Frm.z).pc) ∧ W.cell? ⟨g, i * 5 + 2, none⟩ = some (.slice a1 (xs.getD i Frm.z).loc.length c1) ∧ W.cell? ⟨g, i * 5 + 3, none⟩ = some (.int .i64 (xs.getD i Frm.z).ht) ∧ W.cell? ⟨g, i * 5 + 4, none⟩ = some (.slice a2 (xs.getD i Frm.z).labs.length c2)) ∧ Frm.Is (g + 1) W (xs.getD i Frm.z) a1 a2
  bel : Below w.heap.size w W
  ge : w.heap.size ≤ g
theorem CpFrm.cells {w W : World} {g n k : Nat} {xs : List Frm} (h : CpFrm w g n k xs W) : g < W.heap.size ∧ (∀ j, j < n * 5 → ∃ u, W.cell? ⟨g, j, none⟩ = some u) ∧ ∀ j, W.frozen? ⟨g, j, none⟩ = false := by
  obtain ⟨cur, e, hc⟩ := h.blk
  have hl : g < W.heap.size := by
    rcases Nat.lt_or_ge g W.heap.size with h' | h'
    · exact h'
    · rw [Array.getElem?_eq_none h'] at e; cases e
  refine ⟨hl, fun j hj => ?_, fun j => ?_⟩
  · simp only [World.cell?, e]
    exact ⟨cur[j]'(by omega), by simp [show j < cur.size by omega]⟩
  · simp only [World.frozen?, e]; simp
theorem CpFrm.keep {w W W1 : World} {g n k : Nat} {xs : List Frm} (h : CpFrm w g n k xs W) (hb : Below W.heap.size W W1) : CpFrm w g n k xs W1 := by
  obtain ⟨cur, e, hc⟩ := h.blk
  have hl := h.cells.1
  refine ⟨⟨cur, (hb.block g hl).trans e, hc⟩, fun i hi => ?_, h.bel.trans (hb.mono h.bel.size), h.ge⟩
  obtain ⟨a1, c1, a2, c2, ⟨q0, q1, q2, q3, q4⟩, hi2⟩ := h.done i hi
  exact ⟨a1, c1, a2, c2, ⟨(hb.cell (p := ⟨g, i * 5, none⟩) hl).trans q0, (hb.cell (p := ⟨g, i * 5 + 1, none⟩) hl).trans q1, (hb.cell (p := ⟨g, i * 5 + 2, none⟩) hl).trans q2, (hb.cell (p := ⟨g, i * 5 + 3, none⟩) hl).trans q3, (hb.cell (p := ⟨g, i * 5 + 4, none⟩) hl).trans q4⟩, hi2.up (up_below hb)⟩
theorem blk_Frm {w : World} {g o n : Nat} {v : Value} (h : ∃ cur, w.heap[g]? = some (.cells cur 54 (0, 0)) ∧ cur.size = n) : ∃ cur, (w.setCell ⟨g, o, none⟩ v).heap[g]? = some (.cells cur 54 (0, 0)) ∧ cur.size = n := by
  obtain ⟨cur, e, hc⟩ := h
  refine ⟨cur.setIfInBounds o v, ?_, by simpa using hc⟩
  simp only [World.setCell, Array.getElem?_modify, if_true, e, Option.map_some]
  rfl
theorem CpFrm.step {w W : World} {g n k : Nat} {xs : List Frm} {b1 : Nat} {b2 : Nat} (H : CpFrm w g n k xs W) (hk : k < n) (x : Frm) (hx : x = xs.getD k Frm.z) (ho : Frm.Is (g + 1) W x (some ⟨b1, 0, none⟩) (some ⟨b2, 0, none⟩)) :
    CpFrm w g n (k + 1) xs (((((W.setCell ⟨g, k * 5, none⟩ (.int .i64 x.fn)).setCell ⟨g, k * 5 + 1, none⟩ (.int .i64 x.pc)).setCell ⟨g, k * 5 + 2, none⟩ (.slice (some ⟨b1, 0, none⟩) x.loc.length x.loc.length)).setCell ⟨g, k * 5 + 3, none⟩ (.int .i64 x.ht)).setCell ⟨g, k * 5 + 4, none⟩ (.slice (some ⟨b2, 0, none⟩) x.labs.length x.labs.length)) := by
  obtain ⟨hl, hc, hf⟩ := H.cells
  obtain ⟨u0, e0⟩ := hc (k * 5) (by omega)
  obtain ⟨u1, e1⟩ := hc (k * 5 + 1) (by omega)
  obtain ⟨u2, e2⟩ := hc (k * 5 + 2) (by omega)
  obtain ⟨u3, e3⟩ := hc (k * 5 + 3) (by omega)
  obtain ⟨u4, e4⟩ := hc (k * 5 + 4) (by omega)
  refine ⟨blk_Frm (blk_Frm (blk_Frm (blk_Frm (blk_Frm (H.blk))))), fun i hi => ?_, (((((H.bel.setCell H.ge _).setCell H.ge _).setCell H.ge _).setCell H.ge _).setCell H.ge _), H.ge⟩
  by_cases hik : i = k
  · subst hik
    rw [← hx]
    exact ⟨_, _, _, _, ⟨set_off (set_off (set_off (set_off (set_same (e0)) (by omega)) (by omega)) (by omega)) (by omega), set_off (set_off (set_off (set_same (set_off (e1) (by omega))) (by omega)) (by omega)) (by omega), set_off (set_off (set_same (set_off (set_off (e2) (by omega)) (by omega))) (by omega)) (by omega), set_off (set_same (set_off (set_off (set_off (e3) (by omega)) (by omega)) (by omega))) (by omega), set_same (set_off (set_off (set_off (set_off (e4) (by omega)) (by omega)) (by omega)) (by omega))⟩, (((((ho.up (up_set (Nat.lt_succ_self g))).up (up_set (Nat.lt_succ_self g))).up (up_set (Nat.lt_succ_self g))).up (up_set (Nat.lt_succ_self g))).up (up_set (Nat.lt_succ_self g)))⟩
  · obtain ⟨a1, c1, a2, c2, ⟨q0, q1, q2, q3, q4⟩, hi2⟩ := H.done i (by omega)
    exact ⟨a1, c1, a2, c2, ⟨set_off (set_off (set_off (set_off (set_off (q0) (by omega)) (by omega)) (by omega)) (by omega)) (by omega), set_off (set_off (set_off (set_off (set_off (q1) (by omega)) (by omega)) (by omega)) (by omega)) (by omega), set_off (set_off (set_off (set_off (set_off (q2) (by omega)) (by omega)) (by omega)) (by omega)) (by omega), set_off (set_off (set_off (set_off (set_off (q3) (by omega)) (by omega)) (by omega)) (by omega)) (by omega), set_off (set_off (set_off (set_off (set_off (q4) (by omega)) (by omega)) (by omega)) (by omega)) (by omega)⟩, (((((hi2.up (up_set (Nat.lt_succ_self g))).up (up_set (Nat.lt_succ_self g))).up (up_set (Nat.lt_succ_self g))).up (up_set (Nat.lt_succ_self g))).up (up_set (Nat.lt_succ_self g)))⟩
theorem CpFrm.ls {w W : World} {g : Nat} {xs : List Frm} (h : CpFrm w g xs.length xs.length xs W) : Frm.Ls g W (some ⟨g, 0, none⟩) xs := by
  refine .inr ⟨g, 0, rfl, Nat.le_refl _, fun i hi => ?_⟩
  obtain ⟨a1, c1, a2, c2, qs, hi2⟩ := h.done i hi
  rw [Nat.zero_add]
  exact ⟨a1, c1, a2, c2, qs, hi2.mono (Nat.le_succ g)⟩
set_option maxHeartbeats 8000000 in
theorem rtFrms_c (a : Option Addr) (c : Nat) (xs : List Frm) (w : World) (hl : xs.length ≤ 1048576 ∧ ∀ i, i < xs.length → Frm.LB 1048576 (xs.getD i Frm.z)) (hL : Frm.Ls 0 w a xs) :
    Calls Try.prog 26 #[.slice a xs.length c] w fun e w' => e = .returned (.slice (some ⟨w.heap.size, 0, none⟩) xs.length xs.length) ∧ Frm.Ls w.heap.size w' (some ⟨w.heap.size, 0, none⟩) xs ∧ Below w.heap.size w w' := by
  obtain ⟨hn, hll⟩ := hl
  have hmk := makeFrm xs.length hn
  have HL := Hid.mk' hL
  have Hl := Hid.mk' hll
  clear hL hll
  have hst : CpFrm w w.heap.size xs.length 0 xs (w.alloc (.cells (madeCells #[.int .i64 0, .int .i64 0, .slice none 0 0, .int .i64 0, .slice none 0 0] (xs.length * 5)) 54)) :=
    ⟨⟨_, heap_new _ _, by simp [madeCells]⟩, fun i hi => by omega, (Below.refl _ _).alloc (Nat.le_refl _) _, Nat.le_refl _⟩
  have HS := Hid.mk' hst
  clear hst
  go_enter Try.func26, Try.ntmps26
  go_wp2
  go_loopw [4] (fun i wr => ∃ k : Nat, k ≤ xs.length ∧ i = .int .i64 k ∧ CpFrm w w.heap.size xs.length k xs wr) (fun i _ => xs.length - (intOf i).toNat)
  case atStart => exact ⟨0, Nat.zero_le _, rfl, HS.out⟩
  case round =>
    obtain ⟨k, hk, rfl, hcp⟩ := hrel
    clear HS hmk
    by_cases hlt : k < xs.length
    · have hki : (k : Int) < (xs.length : Int) := by omega
      rcases HL.out.up (up_below hcp.bel) with hx | ⟨b, o, ea, _, hc⟩
      · subst hx; simp at hlt
      have hxk := hc k hlt
      have hxl := Hl.out k hlt
      subst ea
      obtain ⟨x, hx⟩ : ∃ x, x = xs.getD k Frm.z := ⟨_, rfl⟩
      rw [← hx] at hxk hxl
      obtain ⟨a1, c1, a2, c2, ⟨q0, q1, q2, q3, q4⟩, hi⟩ := hxk
      have HT := Hid.mk' (rtFrm_c x a1 c1 a2 c2 wr hi hxl)
      have HX := Hid.mk' hx
      have HP := Hid.mk' hcp
      clear hx hc hcp hi HL
      go_wp2_with fail
      refine HT.out.mono ?_
      rintro e w1 ⟨b1, b2, rfl, ho, hb⟩
      have hcp1 := HP.out.keep hb
      obtain ⟨hl1, hc1, hf1⟩ := hcp1.cells
      obtain ⟨u0, e0⟩ := hc1 (k * 5) (by omega)
      obtain ⟨u1, e1⟩ := hc1 (k * 5 + 1) (by omega)
      obtain ⟨u2, e2⟩ := hc1 (k * 5 + 2) (by omega)
      obtain ⟨u3, e3⟩ := hc1 (k * 5 + 3) (by omega)
      obtain ⟨u4, e4⟩ := hc1 (k * 5 + 4) (by omega)
      have HP1 := Hid.mk' (hcp1.step hlt x HX.out (ho.mono (by have := HP.out.cells.1; omega)))
      clear ho hb hcp1 hc1 HT HP q0 q1 q2 q3 q4
      go_wp2
      go_roundw
      case rel => exact ⟨k + 1, by omega, by go_num, HP1.out⟩
      case measure => simp [intOf]; omega
    · have e : k = xs.length := by omega
      subst e
      go_wp2
      go_ret
      exact ⟨rfl, hcp.ls, hcp.bel⟩
end Go.Proofs.Ytfaajmhmcdoibaa.NF
