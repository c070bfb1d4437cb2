import Derived.Test.YteaegmlnacnofaaPr3
set_option linter.all false
set_option linter.unusedVariables false
namespace Go.Proofs.Yteaegmlnacnofaa
open Go.RowKit Go.Sort
set_option maxRecDepth 100000
theorem sp_start (w : World) : Sp w w.heap.size (.slice none 0 0) (.slice none 0 0) (.slice (some ⟨w.heap.size + 1, 0, none⟩) 0 0) [] [] [] ((w.alloc (.cells #[.slice none 0 0, .slice none 0 0, .bool true] 84)).alloc (.cells #[] 2)) := by
  have cc : ∀ j v, #[Value.slice none 0 0, Value.slice none 0 0, Value.bool true][j]? = some v → ((w.alloc (.cells #[.slice none 0 0, .slice none 0 0, .bool true] 84)).alloc (.cells #[] 2)).cell? ⟨w.heap.size, j, none⟩ = some v := by
    intro j v hj
    rw [World.cell?_of_block (heap_old _ _ _ (by simp))]
    exact cell_new rfl hj
  refine ⟨cc 0 _ rfl, cc 1 _ rfl, cc 2 _ rfl, fun j => ?_, ⟨rfl, .inl ⟨rfl, rfl⟩⟩, ⟨rfl, .inl ⟨rfl, rfl⟩⟩, ?_, fun k hk => by simp [Value.ownBlock] at hk, fun k hk => by simp [Value.ownBlock] at hk, fun k hk => by simp [Value.ownBlock] at hk, ((Below.refl _ _).alloc (Nat.le_refl _) _).alloc (by simp) _, Nat.le_refl _, by simp; omega⟩
  · rw [World.frozen?_of_block (heap_old _ _ _ (by simp))]
    exact World.frozen?_alloc_new w #[Value.slice none 0 0, Value.slice none 0 0, Value.bool true] 84 j
  · have := World.ownsRow_lit (base := w.heap.size + 1) (e := 2) (size := 1) (w.alloc (.cells #[.slice none 0 0, .slice none 0 0, .bool true] 84)) #[] 0 (by simp) (by decide) rfl
    rw [show (w.alloc (.cells #[.slice none 0 0, .slice none 0 0, .bool true] 84)).heap.size = w.heap.size + 1 by simp] at this
    exact this
theorem pat_at {xs : List In} {k : Nat} (h : PI xs k) (hk : k < xs.length) : (pat xs k).2[k]? = some (-1, -1) := h.tl k (Nat.le_refl _) hk
set_option maxHeartbeats 8000000 in
theorem sl10_c (b off c : Nat) (xs : List In) (w : World) (hn : xs.length ≤ 1048576) (hcl : closedM xs = true) (hL : Lst w (some ⟨b, off, none⟩) xs) :
    Calls Try.prog 36 #[.slice (some ⟨b, off, none⟩) xs.length c] w fun e w' => ∃ ve vs, e = .returned (.agg #[ve, vs, .bool true]) ∧ RI w' w.heap.size ve (fE (pat xs xs.length).2 xs.length) ∧ RI w' w.heap.size vs (fS (pat xs xs.length).2 xs.length) ∧ Below w.heap.size w w' := by
  obtain ⟨i0, hi, hz0, hz1, hz2⟩ := info_parts Try.info2
  have HL := Hid.mk' hL
  have HC := Hid.mk' hcl
  clear hL hcl
  go_enter Try.func36, Try.ntmps36
  go_upto_region 3 with fail
  obtain ⟨W1, hW1⟩ : ∃ W1, W1 = w.alloc (.cells #[.slice none 0 0, .slice none 0 0, .bool false] 84) := ⟨_, rfl⟩
  have hs1 : W1.heap.size = w.heap.size + 1 := by rw [hW1]; simp
  have HB1 := Hid.mk' (show Below w.heap.size w W1 by rw [hW1]; exact (Below.refl _ _).alloc (Nat.le_refl _) _)
  have HQ := Hid.mk' (show (∀ j v, #[Value.slice none 0 0, Value.slice none 0 0, Value.bool false][j]? = some v → W1.cell? ⟨w.heap.size, j, none⟩ = some v) ∧ ∀ j, W1.frozen? ⟨w.heap.size, j, none⟩ = false by
    rw [hW1]; exact ⟨fun j v hj => cell_new rfl hj, fun j => World.frozen?_alloc_new w _ _ j⟩)
  have SP0 := sp_start W1
  rw [hs1, hW1] at SP0
  refine wp_gen (fun V => Sp W1 (w.heap.size + 1) (.slice none 0 0) (.slice none 0 0) (.slice (some ⟨w.heap.size + 1 + 1, 0, none⟩) 0 0) [] [] [] V) (by rw [hW1]; exact SP0) ?_
  rintro V0 sp0
  have HS1 := Hid.mk' hs1
  have SPH := Hid.mk' sp0
  clear hW1 SP0 sp0 hs1
  go_wp2
  go_loopw [4, 5] (fun vo i wr => ∃ (k : Nat) (ve vs : Value), k ≤ xs.length ∧ i = .int .i64 k ∧ Sp W1 (w.heap.size + 1) ve vs vo (fE (pat xs k).2 k) (fS (pat xs k).2 k) (zo (pat xs k).1) wr) (fun _ i _ => xs.length - (intOf i).toNat)
  case atStart => exact ⟨0, _, _, Nat.zero_le _, rfl, by simpa [fE, fS, zo, pat] using SPH.out⟩
  case round =>
    obtain ⟨k, ve, vs, hk, rfl, sp⟩ := hrel
    clear SPH
    by_cases hlt : k < xs.length
    · have hki : (k : Int) < (xs.length : Int) := by omega
      have pi := pi_all HC.out k (by omega)
      rcases HL.out with hx | ⟨b', o', ea, hcc⟩
      · rw [hx] at hlt; simp at hlt
      simp only [Option.some.injEq, Addr.mk.injEq, and_true] at ea
      obtain ⟨rfl, rfl⟩ := ea
      obtain ⟨la, lc, c0, -, -, -, -, -⟩ := hcc k hlt
      have HS : Hid (pat xs (k + 1) = pst k (xs.getD k I0).op (pat xs k)) := rfl
      have HE := Hid.mk' (fun h5 => pi_else pi hlt h5)
      have HLt := Hid.mk' pi.lt
      have HSz := Hid.mk' pi.sz
      have hPE := fE_push (pat_at pi hlt)
      have hPS := fS_push (pat_at pi hlt)
      have lE := fE_len (P := (pat xs k).2) (m := k) (by rw [pi.sz]; omega)
      have lS := fS_len (P := (pat xs k).2) (m := k) (by rw [pi.sz]; omega)
      have lO := pat_len (xs := xs) k
      generalize xs.getD k I0 = x at *
      obtain ⟨op, xa, xb, xv, xl⟩ := x
      simp only at c0
      have HCX := Hid.mk' (fun (V : World) (hb : Below W1.heap.size W1 V) => ((HB1.out.trans (hb.mono HB1.out.size)).cell (p := ⟨b, off + k * 5, none⟩) (World.block_lt_of_cell? w _ c0)).trans c0)
      clear hcc pi c0 HL HC
      obtain ⟨ea, ec, rfl⟩ := ownE_slice sp.re
      obtain ⟨sa, sc, rfl⟩ := ownE_slice sp.rs
      generalize hpk : pat xs k = pk at *
      obtain ⟨o, P⟩ := pk
      simp only at sp hPE hPS lE lS lO
      have el : ((fE P k).length : Int) ≤ 1048576 := by rw [lE]; omega
      have sl' : ((fS P k).length : Int) ≤ 1048576 := by rw [lS]; omega
      have HEN : Hid ((fE P k).length ≤ 1048576) := by show _ ≤ _; rw [lE]; omega
      have HSN : Hid ((fS P k).length ≤ 1048576) := by show _ ≤ _; rw [lS]; omega
      have HPE := Hid.mk' hPE
      have HPS := Hid.mk' hPS
      have HPK := Hid.mk' hpk
      have HON : Hid (o.length ≤ 1048576) := by show _ ≤ _; omega
      have SPI := Hid.mk' sp
      have q0 := sp.c0
      have own := sp.re
      have lt := sp.lt
      clear hPE hPS hpk lE lS lO el sl' sp
      go_upto_region 7 with (at_builtin; refine wpList_append_own_at _ rfl _ _ 24 rfl (w.heap.size + 1 + 1) 2 i0 (.int .i64 0) 1 8 Try.underlying24 hi hz0 hz1 hz2 rfl (by decide) _ _ _ rfl (own.alloc _) ⟨wr.heap.size, 0, none⟩ 1 1 [.int .i64 (-1)] rfl rfl (cell_one_new _ _ _) (oneK _) (by have := HEN.out; unfold maxLen; omega) (by have := HEN.out; omega) (by simp; omega) ?_; intro v' w2 hown' hgrow hnn hloc; have HO2 := Hid.mk' (SPI.out.pushE hown' hgrow hloc); have p0 := HO2.out.2.1; have f0 := HO2.out.2.2; obtain ⟨va2, vc2, rfl⟩ := ownE_slice hown'; clear hown' hgrow hnn hloc own q0)
      refine wp_gen (fun V => Sp W1 (w.heap.size + 1) (.slice va2 ((fE P k).length + 1) vc2) (.slice sa (fS P k).length sc) u4 (fE P (k + 1)) (fS P k) (zo o) V) (by rw [HPE.out]; exact HO2.out.1) ?_
      rintro V1 sp1
      have SPJ := Hid.mk' sp1
      have q0 := sp1.c1
      have own := sp1.rs
      have lt := sp1.lt
      clear HO2 p0 f0 SPI sp1
      go_upto_region 8 with (at_builtin; refine wpList_append_own_at _ rfl _ _ 24 rfl (w.heap.size + 1 + 1) 2 i0 (.int .i64 0) 1 8 Try.underlying24 hi hz0 hz1 hz2 rfl (by decide) _ _ _ rfl (own.alloc _) ⟨V1.heap.size, 0, none⟩ 1 1 [.int .i64 (-1)] rfl rfl (cell_one_new _ _ _) (oneK _) (by have := HSN.out; unfold maxLen; omega) (by have := HSN.out; omega) (by simp; omega) ?_; intro v' w2 hown' hgrow hnn hloc; have HO2 := Hid.mk' (SPJ.out.pushS hown' hgrow hloc); have p0 := HO2.out.2.1; have f0 := HO2.out.2.2; obtain ⟨va3, vc3, rfl⟩ := ownE_slice hown'; clear hown' hgrow hnn hloc own q0)
      refine wp_gen (fun V => Sp W1 (w.heap.size + 1) (.slice va2 ((fE P k).length + 1) vc2) (.slice va3 ((fS P k).length + 1) vc3) u4 (fE P (k + 1)) (fS P (k + 1)) (zo o) V) (by rw [HPS.out]; exact HO2.out.1) ?_
      rintro V sp
      clear HO2 p0 f0 SPJ
      have lE1 := fE_len (P := P) (m := k + 1) (by have := HSz.out; simp only at this; omega)
      have lS1 := fS_len (P := P) (m := k + 1) (by have := HSz.out; simp only at this; omega)
      have cx := HCX.out V sp.bel
      obtain ⟨oa, oc, rfl⟩ := ownE_slice sp.ro
      clear HCX HPE HPS
      by_cases h234 : op = 2 ∨ op = 3 ∨ op = 4
      · have HN : Hid (pat xs (k + 1) = (o ++ [k], P)) := by show _ = _; rw [HS.out]; exact pst_push h234
        have own := sp.ro
        have lt := sp.lt
        have SPI := Hid.mk' sp
        have HOZ : Hid ((zo o).length ≤ 1048576) := by show _ ≤ _; rw [zo_len]; exact HON.out
        clear sp HS HE HPK HLt HSz lE1 lS1
        rcases h234 with rfl | rfl | rfl
        all_goals
          go_wp2_with (at_builtin; refine wpList_append_own_at _ rfl _ _ 24 rfl (w.heap.size + 1 + 1) 2 i0 (.int .i64 0) 1 8 Try.underlying24 hi hz0 hz1 hz2 rfl (by decide) _ _ _ rfl (own.alloc _) ⟨V.heap.size, 0, none⟩ 1 1 [.int .i64 (k : Int)] rfl rfl (cell_one_new _ _ _) (oneK _) (by have := HOZ.out; unfold maxLen; omega) (by have := HOZ.out; omega) (by simp; omega) ?_; intro v' w2 hown' hgrow hnn hloc; have HO2 := Hid.mk' (SPI.out.pushO hown' hgrow hloc); obtain ⟨va5, vc5, rfl⟩ := ownE_slice hown'; clear hown' hgrow hnn hloc own)
          go_roundw
          case rel => exact ⟨k + 1, _, _, by omega, by go_num, by rw [HN.out]; simp only [zo_app]; exact HO2.out⟩
          case measure => simp [intOf]; omega
      · have t2 : (op == 2) = false := by simp; omega
        have t3 : (op == 3) = false := by simp; omega
        have t4 : (op == 4) = false := by simp; omega
        by_cases h5 : op = 5
        · subst h5
          obtain ⟨m, j, rfl⟩ := snoc (HE.out rfl)
          have hjk : j < k := HLt.out j (by simp)
          have HN : Hid (pat xs (k + 1) = (m ++ [j], P.set j ((P.getD j (-1, -1)).1, (k : Int)))) := by show _ = _; rw [HS.out]; exact pst_else
          have e1 : (fS P k).length + 1 = (fS P (k + 1)).length := by rw [lS1, fS_len (by have := HSz.out; simp only at this; omega)]
          rw [e1] at sp
          obtain ⟨r, cap, hv, hr1, hr2, hr3⟩ := ri_split sp.rs (by rw [lS1]; omega)
          simp only [Value.slice.injEq] at hv
          obtain ⟨rfl, -, rfl⟩ := hv
          have ez : (zo (m ++ [j])).length = m.length + 1 := by rw [zo_len]; simp
          obtain ⟨ro, ocap, hv, ho1, ho2, ho3⟩ := ri_split sp.ro (by rw [ez]; omega)
          simp only [Value.slice.injEq] at hv
          obtain ⟨rfl, -, rfl⟩ := hv
          have co := (ri_at sp.ro (j := m.length) (by rw [ez]; omega)).1
          rw [show (zo (m ++ [j])).getD m.length 0 = (j : Int) by simp [zo, List.getD]] at co
          obtain ⟨cs, fz⟩ := ri_at sp.rs (j := j) (by rw [lS1]; omega)
          have q1 := sp.c1
          rw [lS1] at q1
          have SPN := Hid.mk' (sp.setS (j := j) (z := (k : Int)))
          rw [← fS_set P (k + 1) j ((P.getD j (-1, -1)).1, (k : Int)), ← fE_same P (k + 1) j (k : Int)] at SPN
          have hmw : IntKind.i64.wrap (m.length : Int) = (m.length : Int) := by rw [IntKind.wrap_i64]; have := HON.out; simp at this; omega
          have hjk1 : (j : Int) < (k : Int) + 1 := by omega
          have hm0 : (m.length : Int) < (m.length : Int) + 1 := by omega
          rw [ez]
          clear sp HS HE HPK lE1 lS1 e1 hr1 hr2 hr3 ho1 ho2 HLt HSz
          have hm2 : ¬ ((oc : Int) < (m.length : Int)) := by rw [ez] at ho3; omega
          go_wp2
          go_big_region
          go_wp2
          go_roundw
          case rel => exact ⟨k + 1, _, _, by omega, by go_num, by rw [HN.out]; have h := SPN.out.drew; first | exact h | (rw [ez] at h; exact h)⟩
          case measure => simp [intOf]; omega
        · have t5 : (op == 5) = false := by simp; omega
          by_cases h11 : op = 11
          · subst h11
            by_cases ho : o = []
            · subst ho
              have HN : Hid (pat xs (k + 1) = ([], P)) := by show _ = _; rw [HS.out]; simp [pst]
              have SPN := Hid.mk' sp
              rw [show (zo []).length = 0 from rfl] at SPN ⊢
              clear sp HS HE HPK lE1 lS1 HLt HSz
              go_wp2
              go_roundw
              case rel => exact ⟨k + 1, _, _, by omega, by go_num, by rw [HN.out]; exact SPN.out⟩
              case measure => simp [intOf]; omega
            · obtain ⟨m, j, rfl⟩ := snoc ho
              have hjk : j < k := HLt.out j (by simp)
              have HN : Hid (pat xs (k + 1) = (m, P.set j ((k : Int), (P.getD j (-1, -1)).2))) := by show _ = _; rw [HS.out]; exact pst_end
              have e1 : (fE P k).length + 1 = (fE P (k + 1)).length := by rw [lE1, fE_len (by have := HSz.out; simp only at this; omega)]
              rw [e1] at sp
              obtain ⟨r, cap, hv, hr1, hr2, hr3⟩ := ri_split sp.re (by rw [lE1]; omega)
              simp only [Value.slice.injEq] at hv
              obtain ⟨rfl, -, rfl⟩ := hv
              have ez : (zo (m ++ [j])).length = m.length + 1 := by rw [zo_len]; simp
              obtain ⟨ro, ocap, hv, ho1, ho2, ho3⟩ := ri_split sp.ro (by rw [ez]; omega)
              simp only [Value.slice.injEq] at hv
              obtain ⟨rfl, -, rfl⟩ := hv
              have co := (ri_at sp.ro (j := m.length) (by rw [ez]; omega)).1
              rw [show (zo (m ++ [j])).getD m.length 0 = (j : Int) by simp [zo, List.getD]] at co
              obtain ⟨cs, fz⟩ := ri_at sp.re (j := j) (by rw [lE1]; omega)
              have q1 := sp.c0
              rw [lE1] at q1
              have SPN0 := sp.setE (j := j) (z := (k : Int))
              rw [← fE_set P (k + 1) j ((k : Int), (P.getD j (-1, -1)).2), ← fS_same P (k + 1) j (k : Int)] at SPN0
              rw [ez, zo_app, ← zo_len m] at SPN0
              have SPN := Hid.mk' SPN0.dropO
              rw [zo_len] at SPN
              clear SPN0
              have hmw : IntKind.i64.wrap (m.length : Int) = (m.length : Int) := by rw [IntKind.wrap_i64]; have := HON.out; simp at this; omega
              have hjk1 : (j : Int) < (k : Int) + 1 := by omega
              have hm0 : (m.length : Int) < (m.length : Int) + 1 := by omega
              have hm2 : ¬ ((oc : Int) < (m.length : Int)) := by rw [ez] at ho3; omega
              have hm3 : m.length ≤ oc := by rw [ez] at ho3; omega
              rw [ez]
              clear sp HS HE HPK lE1 lS1 e1 hr1 hr2 hr3 ho1 ho2 HLt HSz
              have hpos : (0 : Int) < (m.length : Int) + 1 := by omega
              go_wp2
              go_big_region
              go_wp2
              go_roundw
              case rel => exact ⟨k + 1, _, _, by omega, by go_num, by rw [HN.out]; have h := SPN.out.drew; first | exact h | (rw [ez] at h; exact h)⟩
              case measure => simp [intOf]; omega
          · have t11 : (op == 11) = false := by simp; omega
            have HN : Hid (pat xs (k + 1) = (o, P)) := by show _ = _; rw [HS.out]; exact pst_same (fun e => h234 (.inl e)) (fun e => h234 (.inr (.inl e))) (fun e => h234 (.inr (.inr e))) h5 h11
            have SPN := Hid.mk' sp
            clear sp HS HE HPK lE1 lS1 HLt HSz
            go_wp2
            go_roundw
            case rel => exact ⟨k + 1, _, _, by omega, by go_num, by rw [HN.out]; exact SPN.out⟩
            case measure => simp [intOf]; omega
    · have e : k = xs.length := by omega
      subst e
      have hlt1 : w.heap.size < W1.heap.size := by rw [HS1.out]; omega
      have g0 := (sp.bel.cell (p := ⟨w.heap.size, 0, none⟩) hlt1).trans (HQ.out.1 0 _ rfl)
      have g1 := (sp.bel.cell (p := ⟨w.heap.size, 1, none⟩) hlt1).trans (HQ.out.1 1 _ rfl)
      have g2 := (sp.bel.cell (p := ⟨w.heap.size, 2, none⟩) hlt1).trans (HQ.out.1 2 _ rfl)
      have gf : ∀ j, wr.frozen? ⟨w.heap.size, j, none⟩ = false := fun j => (sp.bel.frozen (p := ⟨w.heap.size, j, none⟩) hlt1).trans (HQ.out.2 j)
      have gf0 := gf 0
      have gf1 := gf 1
      have gf2 := gf 2
      have q0 := sp.c0
      have q1 := sp.c1
      have q2 := sp.c2
      obtain ⟨ea, ec, rfl⟩ := ownE_slice sp.re
      obtain ⟨sa, sc, rfl⟩ := ownE_slice sp.rs
      have SPI := Hid.mk' sp
      clear sp HL HC HQ gf hlt1
      go_wp2
      exact bodyPost_ret (v := .agg #[.slice ea (fE (pat xs xs.length).2 xs.length).length ec, .slice sa (fS (pat xs xs.length).2 xs.length).length sc, .bool true]) (by simp [results, Try.results36, go_sem, g0, g1, g2]) rfl ⟨_, _, rfl, by
        have hB : ∀ {v : Value} {E : List Int}, RI wr (w.heap.size + 1 + 1) v E → RI (((wr.setCell ⟨w.heap.size, 0, none⟩ (.slice ea (fE (pat xs xs.length).2 xs.length).length ec)).setCell ⟨w.heap.size, 1, none⟩ (.slice sa (fS (pat xs xs.length).2 xs.length).length sc)).setCell ⟨w.heap.size, 2, none⟩ (.bool true)) w.heap.size v E := fun {v E} h => by
          have hne : v.ownBlock ≠ some w.heap.size := fun e => by have := (h.lt _ e).1; omega
          exact own_down (ownE_set (ownE_set (ownE_set h hne) hne) hne) (by omega)
        have hb : Below w.heap.size w wr := HB1.out.trans (SPI.out.bel.mono HB1.out.size)
        exact ⟨hB SPI.out.re, hB SPI.out.rs, ((hb.setCell (Nat.le_refl _) _).setCell (Nat.le_refl _) _).setCell (Nat.le_refl _) _⟩⟩
end Go.Proofs.Yteaegmlnacnofaa
