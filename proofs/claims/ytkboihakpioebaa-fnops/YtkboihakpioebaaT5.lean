import Derived.Test.YtkboihakpioebaaT4
set_option linter.all false
set_option linter.unusedVariables false
namespace Go.Proofs.Ytkboihakpioebaa
open Go.RowKit
theorem OT.start {w w1 : World} (r : Row) (hb : Below (w.alloc (.cells #[.slice none 0 0, .slice none 0 0] 29)).heap.size (w.alloc (.cells #[.slice none 0 0, .slice none 0 0] 29)) w1) :
    OT w w1.heap.size (w1.heap.size + 1) (.slice none 0 0) [] r.g ((w1.alloc (.cells #[.string r.nm, .int .i64 r.f, .int .i64 r.a, .int .i64 r.b, .int .i64 r.g] 46)).alloc (.cells #[.slice none 0 0, .slice none 0 0] 29)) := by
  have hl : w.heap.size < (w.alloc (.cells #[.slice none 0 0, .slice none 0 0] 29)).heap.size := by simp
  have hs := hb.size
  simp only [World.size_alloc] at hs
  have e1 : (w1.alloc (.cells #[.string r.nm, .int .i64 r.f, .int .i64 r.a, .int .i64 r.b, .int .i64 r.g] 46)).heap.size = w1.heap.size + 1 := by simp
  have hc : ((w1.alloc (.cells #[.string r.nm, .int .i64 r.f, .int .i64 r.a, .int .i64 r.b, .int .i64 r.g] 46)).alloc (.cells #[.slice none 0 0, .slice none 0 0] 29)).heap[w.heap.size]? = some (.cells #[.slice none 0 0, .slice none 0 0] 29) := by
    rw [heap_old _ _ _ (by simp; omega), heap_old _ _ _ (by omega), hb.block _ hl]; exact heap_new _ _
  refine ⟨World.ownsRow_nil _ _ _ _, cell_new e1.symm rfl, cell_new e1.symm rfl, ?_, ?_, ?_, ?_, ?_, ?_, ?_, ?_, by omega, by omega, by simp⟩
  · rw [← e1]; exact World.frozen?_alloc_new _ _ _ _
  · rw [← e1]; exact World.frozen?_alloc_new _ _ _ _
  · rw [World.cell?_alloc_past _ _ _ (by simp)]; exact cell_new rfl rfl
  · simp only [World.cell?, hc]; rfl
  · simp only [World.cell?, hc]; rfl
  · simp only [World.frozen?, hc]; rfl
  · simp only [World.frozen?, hc]; rfl
  · exact ((up1 hb).alloc (by omega) _).alloc (by simp; omega) _
theorem FT.sets {w w1 : World} {C : Nat} {p r : Value} {n m : Nat} {xs ys : List Int} {x y : Value} (h : FT w1 (w.heap.size + 1) C p r n m xs ys) (hl : w.heap.size + 1 ≤ w1.heap.size) (bel : Below w.heap.size w w1) (hC : C = w1.heap.size) :
    FT ((w1.setCell ⟨w.heap.size, 0, none⟩ x).setCell ⟨w.heap.size, 1, none⟩ y) w.heap.size ((w1.setCell ⟨w.heap.size, 0, none⟩ x).setCell ⟨w.heap.size, 1, none⟩ y).heap.size p r n m xs ys ∧ Below w.heap.size w ((w1.setCell ⟨w.heap.size, 0, none⟩ x).setCell ⟨w.heap.size, 1, none⟩ y) := by
  have hk : ∀ b, b ≠ w.heap.size → ((w1.setCell ⟨w.heap.size, 0, none⟩ x).setCell ⟨w.heap.size, 1, none⟩ y).heap[b]? = w1.heap[b]? := fun b hb => (Below.heap_setCell _ _ _ _ hb).trans (Below.heap_setCell _ _ _ _ hb)
  have own : ∀ {v : Value} {n : Nat} {zs : List Value}, w1.ownsRow (w.heap.size + 1) 2 1 v n zs → ((w1.setCell ⟨w.heap.size, 0, none⟩ x).setCell ⟨w.heap.size, 1, none⟩ y).ownsRow w.heap.size 2 1 v n zs := by
    intro v n zs h
    refine ⟨h.1, ?_⟩
    rcases h.2 with h0 | ⟨g, cap, cur, hv, hB, hh, r⟩
    · exact .inl h0
    · exact .inr ⟨g, cap, cur, hv, by omega, (hk g (by omega)).trans hh, r⟩
  exact ⟨⟨own h.hp, own h.hr, h.ne, by simp; rw [← hC]; exact h.ltp, by simp; rw [← hC]; exact h.ltr, Nat.le_refl _⟩, (bel.setCell (Nat.le_refl _) _).setCell (Nat.le_refl _) _⟩
theorem OT.fin2 {w wr : World} {G3 G4 : Nat} {v x y : Value} {pre : List Int} {g : Int} (h : OT w G3 G4 v pre g wr) :
    FT ((wr.setCell ⟨w.heap.size, 0, none⟩ x).setCell ⟨w.heap.size, 1, none⟩ y) w.heap.size ((wr.setCell ⟨w.heap.size, 0, none⟩ x).setCell ⟨w.heap.size, 1, none⟩ y).heap.size v (.slice none 0 0) pre.length 0 pre [] ∧ Below w.heap.size w ((wr.setCell ⟨w.heap.size, 0, none⟩ x).setCell ⟨w.heap.size, 1, none⟩ y) := by
  have l1 := h.l1
  have l2 := h.l2
  have l3 := h.l3
  refine FT.sets (C := wr.heap.size) ⟨?_, World.ownsRow_nil _ _ _ _, ?_, own_lt h.own, ?_, Nat.le_refl _⟩ (by omega) h.bel rfl
  · refine ⟨h.own.1, ?_⟩
    rcases h.own.2 with h0 | ⟨g, cap, cur, hv, hB, r⟩
    · exact .inl h0
    · exact .inr ⟨g, cap, cur, hv, by omega, r⟩
  · intro i j _ hj; cases hj
  · intro j hj; cases hj
theorem OT.fin3 {w wr : World} {G3 G4 : Nat} {v x y z : Value} {pre : List Int} {g : Int} (h : OT w G3 G4 v pre g wr) :
    FT ((((wr.setCell ⟨G4, 1, none⟩ x).setCell ⟨w.heap.size, 0, none⟩ y).setCell ⟨w.heap.size, 1, none⟩ z).alloc (.cells #[.int .i64 g] 2)) w.heap.size ((((wr.setCell ⟨G4, 1, none⟩ x).setCell ⟨w.heap.size, 0, none⟩ y).setCell ⟨w.heap.size, 1, none⟩ z).alloc (.cells #[.int .i64 g] 2)).heap.size v (.slice (some ⟨wr.heap.size, 0, none⟩) 1 1) pre.length [g].length pre [g] ∧ Below w.heap.size w ((((wr.setCell ⟨G4, 1, none⟩ x).setCell ⟨w.heap.size, 0, none⟩ y).setCell ⟨w.heap.size, 1, none⟩ z).alloc (.cells #[.int .i64 g] 2)) := by
  have l1 := h.l1
  have l2 := h.l2
  have l3 := h.l3
  obtain ⟨W, hW⟩ : ∃ W, W = ((wr.setCell ⟨G4, 1, none⟩ x).setCell ⟨w.heap.size, 0, none⟩ y).setCell ⟨w.heap.size, 1, none⟩ z := ⟨_, rfl⟩
  have hk : ∀ b, b ≠ w.heap.size → b ≠ G4 → W.heap[b]? = wr.heap[b]? := fun b hb hb' => by rw [hW]; exact (Below.heap_setCell _ _ _ _ hb).trans ((Below.heap_setCell _ _ _ _ hb).trans (Below.heap_setCell _ _ _ _ hb'))
  have hs : W.heap.size = wr.heap.size := by rw [hW]; simp
  have bel : Below w.heap.size w W := by rw [hW]; exact ((h.bel.setCell (by show w.heap.size ≤ G4; omega) _).setCell (Nat.le_refl _) _).setCell (Nat.le_refl _) _
  rw [← hW]
  have hp : W.ownsRow w.heap.size 2 1 v pre.length (I pre) := by
    refine ⟨h.own.1, ?_⟩
    rcases h.own.2 with h0 | ⟨g, cap, cur, hv, hB, hh, r⟩
    · exact .inl h0
    · exact .inr ⟨g, cap, cur, hv, by omega, (hk g (by omega) (by omega)).trans hh, r⟩
  have hlt := own_lt h.own
  refine ⟨⟨hp.alloc _, ?_, ?_, ?_, ?_, Nat.le_refl _⟩, bel.alloc (by omega) _⟩
  · have := World.ownsRow_lit (base := w.heap.size) (e := 2) (size := 1) W #[.int .i64 g] 1 (by omega) (by unfold maxLen; omega) rfl
    rw [hs] at this; exact this
  · intro i j hi hj
    cases hj
    have := hlt i hi
    show i ≠ wr.heap.size
    omega
  · intro j hj; have := hlt j hj; simp [hs]; omega
  · intro j hj; cases hj; show wr.heap.size < _; simp [hs]
theorem own_slice {w : World} {B : Nat} {v : Value} {n : Nat} {zs : List Value} (h : w.ownsRow B 2 1 v n zs) : ∃ a c, v = .slice a n c := by
  rcases h.2 with ⟨e, h0⟩ | ⟨g, cap, cur, hv, _⟩
  · rw [h0]; exact ⟨_, _, e⟩
  · exact ⟨_, _, hv⟩
theorem OT.skip {w wr : World} {G3 G4 : Nat} {v : Value} {pre : List Int} {g : Int} (h : OT w G3 G4 v pre g wr) : OT w G3 G4 v (pre ++ []) g wr := by simpa using h
set_option maxHeartbeats 1000000 in
theorem itype_c (op : Int) (w : World) : Calls Try.prog 16 #[.int .i64 op] w fun e w' => ∃ p r, e = .returned (.agg #[p, r]) ∧ FT w' w.heap.size w'.heap.size p r (nz [(rowOf op).a, (rowOf op).b]).length (nz [(rowOf op).g]).length (nz [(rowOf op).a, (rowOf op).b]) (nz [(rowOf op).g]) ∧ Below w.heap.size w w' := by
  have hc := Hid.mk' (find_c op (w.alloc (.cells #[.slice none 0 0, .slice none 0 0] 29)))
  generalize rowOf op = r at *
  obtain ⟨i0, hi, hz0, hz1, hz2⟩ := info_parts Try.info2
  have hix := ix44 r.a r.b
  go_enter Try.func16, Try.ntmps16
  go_wp2_with fail
  refine hc.out.mono ?_
  rintro e w1 ⟨rfl, hb⟩
  have hst := OT.start r hb
  clear hb
  go_wp2_with fail
  go_loopw [11] (fun i wr => ∃ k : Nat, k ≤ 2 ∧ i = .int .i64 k ∧ ∃ v, OT w w1.heap.size (w1.heap.size + 1) v (nz ([r.a, r.b].take k)) r.g wr) (fun i _ => 2 - (intOf i).toNat)
  case atStart => exact ⟨0, by omega, rfl, _, hst⟩
  case round =>
    obtain ⟨k, hk, rfl, v, ot⟩ := hrel
    clear hst hc
    by_cases hlt : k < 2
    · have hki : (k : Int) < 2 := by omega
      have hx := hix k hlt
      have hn := nz_step r.a r.b k hlt
      have hln : (nz (List.take k [r.a, r.b])).length ≤ 2 := Nat.le_trans (nz_len _) (by simp; omega)
      generalize List.getD [r.a, r.b] k 0 = x at hx hn
      generalize nz (List.take k [r.a, r.b]) = pre at *
      by_cases h0 : x = 0
      · subst h0
        rw [if_pos rfl] at hn
        have HN := Hid.mk' hn
        have HO := Hid.mk' ot
        clear hn ot hix
        go_wp2
        go_roundw
        case rel => exact ⟨k + 1, by omega, by go_num, v, by rw [HN.out]; exact HO.out.skip⟩
        case measure => simp [intOf]; omega
      · rw [if_neg h0] at hn
        have h0' : (x == 0) = false := by simpa using h0
        have h0'' : (x != 0) = true := by simpa using h0
        have HN := Hid.mk' hn
        have HO := Hid.mk' ot
        have own := ot.own
        have t0 := ot.t0
        have l3 := ot.l3
        have hsz := ot.bel.size
        clear hn ot hix
        go_wp2_with (at_builtin; refine wpList_append_own _ rfl _ _ 27 rfl (w1.heap.size + 1 + 1) 2 i0 (.int .i64 0) 1 8 Try.underlying27 hi hz0 hz1 hz2 rfl (by decide) _ _ _ rfl (own.alloc _) ⟨wr.heap.size, 0, none⟩ 1 1 [.int .i64 x] rfl rfl (cell_one_new _ _ _) (oneI _) (by unfold maxLen; omega) (by omega) (by simp; omega) ?_; intro v' w2 hown' hgrow hnn; have HO2 := Hid.mk' (HO.out.push hown' hgrow); have c0 := HO2.out.2.1; have cf := HO2.out.2.2; obtain ⟨va, vc, rfl⟩ := own_slice hown'; clear hown' hgrow hnn own t0 l3 HO)
        go_roundw
        case rel => exact ⟨k + 1, by omega, by go_num, _, by rw [HN.out]; exact HO2.out.1⟩
        case measure => simp [intOf]; omega
    · have hk2 : k = 2 := by omega
      subst hk2
      have e2 : List.take 2 [r.a, r.b] = [r.a, r.b] := rfl
      rw [e2] at ot
      obtain ⟨xs, hxs⟩ : ∃ xs, xs = nz [r.a, r.b] := ⟨_, rfl⟩
      rw [← hxs] at ot
      have HX := Hid.mk' hxs
      clear hxs
      obtain ⟨va, vc, rfl, _⟩ := own_shape ot.own
      have HO := Hid.mk' ot
      have t0 := ot.t0
      have t1 := ot.t1
      have tf1 := ot.tf1
      have g3 := ot.g3
      have r0 := ot.r0
      have r1 := ot.r1
      have rf0 := ot.rf0
      have rf1 := ot.rf1
      have l1 := ot.l1
      have l3 := ot.l3
      clear ot hix hlt e2
      by_cases h0 : r.g = 0
      · rw [h0] at g3
        have hy : nz [r.g] = [] := by simp [nz, h0]
        rw [h0] at HO
        go_wp2
        exact bodyPost_ret (v := .agg #[.slice va xs.length vc, .slice none 0 0]) (by simp [results, Try.results16, go_sem, r0, r1]) rfl ⟨_, _, rfl, by rw [hy, ← HX.out]; exact HO.out.fin2⟩
      · have h0' : (r.g != 0) = true := by simpa using h0
        have q1 : w.heap.size ≠ w1.heap.size + 1 := by omega
        have q2 : w1.heap.size + 1 ≠ w.heap.size := by omega
        have q3 : w.heap.size < wr.heap.size := by omega
        have q4 : w1.heap.size < wr.heap.size := by omega
        have hy : nz [r.g] = [r.g] := by simp [nz, h0]
        go_wp2
        exact bodyPost_ret (v := .agg #[.slice va xs.length vc, .slice (some ⟨wr.heap.size, 0, none⟩) 1 1]) (by simp [results, Try.results16, go_sem, r0, r1, q1, q2, q3]) rfl ⟨_, _, rfl, by rw [hy, ← HX.out]; exact HO.out.fin3⟩
end Go.Proofs.Ytkboihakpioebaa
