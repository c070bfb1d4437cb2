import Derived.Test.YtngepdhhdbhglaaGreatDoorZi
set_option linter.all false
set_option linter.unusedVariables false
namespace Go.Proofs.YtngepdhhdbhglaaGreatDoor
open Go.RowKit Go.Sort
set_option maxRecDepth 100000
theorem form_op (op : Int) : (formR (rowOf op) = 7 → op = 65) ∧ (formR (rowOf op) = 8 → op = 66) ∧ (formR (rowOf op) = 9 → op = 67) ∧ (formR (rowOf op) = 10 → op = 68) := by
  by_cases h : 0 ≤ op ∧ op < 192
  · have e := of_decide_eq_true (rng 0 192 (fun i => decide ((formR (tbl.getD i Z0) = 7 → i = 65) ∧ (formR (tbl.getD i Z0) = 8 → i = 66) ∧ (formR (tbl.getD i Z0) = 9 → i = 67) ∧ (formR (tbl.getD i Z0) = 10 → i = 68))) (by decide +kernel) op (by omega) (by omega))
    have er : rowOf op = tbl.getD op.toNat Z0 := by simp only [rowOf, h, and_self, if_true]
    rw [← er] at e
    exact ⟨fun k => by have := e.1 k; omega, fun k => by have := e.2.1 k; omega, fun k => by have := e.2.2.1 k; omega, fun k => by have := e.2.2.2 k; omega⟩
  · have er : rowOf op = Z0 := by simp only [rowOf, h, if_false]
    have e0 : formR Z0 = -1 := by decide
    rw [er, e0]
    exact ⟨fun k => absurd k (by decide), fun k => absurd k (by decide), fun k => absurd k (by decide), fun k => absurd k (by decide)⟩
theorem Sx.drew {w : World} {p X : Nat} {ra : Option Addr} {r : List Wd} {bd : Bool} {a b c d e : Value} {V : World} (h : Sx w p X ra r bd a b c d e V) : Sx w p X ra r bd a b c d e V.drew := h.call (below_gr (Below.refl _ _).drew) (h.pb.keep (Below.refl _ _).drew)
set_option maxHeartbeats 8000000 in
theorem sri_1 (p b o c : Nat) (s : Wd) (r : List Wd) (w : World) (h : Pb w p false) (hb : b < p) (hc : ∀ i, i < (s :: r).length → w.cell? ⟨b, o + i, none⟩ = some (.string (S ((s :: r).getD i [])))) (hcap : (s :: r).length ≤ c) (hl : ∀ x ∈ s :: r, x.length ≤ 1099511627776) (hrl : r.length ≤ 1099511627776) (hf : formR (rowOf (codeI s)) = 1) :
    Calls Tryz.prog 13 #[.pointer (some ⟨p, 0, none⟩), .slice (some ⟨b, o, none⟩) (s :: r).length c] w (SiP 1 (codeI s) r w p) := by
  have cx := hc 0 (by simp)
  simp only [Nat.add_zero, List.getD_cons_zero] at cx
  obtain ⟨W, hW⟩ : ∃ W, W = w.alloc (.cells #[.int .i64 0, .int .i64 0, .int .i64 0, .int .u64 0, .slice none 0 0] 26) := ⟨_, rfl⟩
  have hbW : Below w.heap.size w W := by rw [hW]; exact (Below.refl _ _).alloc (Nat.le_refl _) _
  have hsW : Hid (W.heap.size = w.heap.size + 1) := by show _ = _; rw [hW]; simp
  have hzW : C5 W w.heap.size 0 (.int .i64 0) (.int .i64 0) (.int .i64 0) (.int .u64 0) (.slice none 0 0) := by rw [hW]; exact C5.new
  have cxW : W.cell? ⟨b, o, none⟩ = some (.string (S s)) := (hbW.cell (p := ⟨b, o, none⟩) (World.block_lt_of_cell? w _ cx)).trans cx
  have KC := Hid.mk' (scode_c (S s) W)
  rw [S_toList] at KC
  have HW := Hid.mk' hW
  simp only [List.length_cons] at hcap ⊢
  have HWV := Hid.mk' (wv_rest hb hc hcap)
  have hlr : ∀ x ∈ r, x.length ≤ 1099511627776 := fun x hx => hl x (by simp [hx])
  have HL := Hid.mk' hlr
  have HPB := Hid.mk' h
  have hplt := h.lt
  have hp1 : ¬ ((c : Int) < (r.length : Int) + 1) := by omega
  have KF := Hid.mk' (fun U => sform_c (codeI s) U)
  rw [hf] at KF
  clear cx hW hc hl hlr h hf
  generalize codeI s = op at *
  go_enter Tryz.func13, Tryz.ntmps13
  go_upto_region 1 with fail
  rw [show w.alloc (.cells #[.int .i64 0, .int .i64 0, .int .i64 0, .int .u64 0, .slice none 0 0] 26) = W from HW.out.symm]
  go_wp2_with fail
  refine KC.out.mono ?_
  rintro e w1 ⟨rfl, hb1⟩
  go_upto_region 3 with fail
  generalize (if c = 1 then (some ⟨b, o, none⟩ : Option Addr) else some ⟨b, o + 1, none⟩) = ra at *
  generalize c - 1 = rc at *
  have hx1 : w.heap.size < w1.heap.size := by have := hb1.size; have := hsW.out; omega
  have hbU : Below w.heap.size w w1 := hbW.trans (hb1.mono (by have := hsW.out; omega))
  have hz1 : C5 w1 w.heap.size 0 (.int .i64 0) (.int .i64 0) (.int .i64 0) (.int .u64 0) (.slice none 0 0) := hzW.keep hb1
  refine wp_gen (fun U => Sx w p w1.heap.size ra r false (.int .i64 op) (.int .i64 0) (.int .i64 0) (.int .u64 0) (.slice none 0 0) U) ⟨C5.new, hz1.past, HPB.out.keep (hbU.alloc hbU.size _), below_gr (hbU.alloc hbU.size _), HWV.out.keep (hbU.alloc hbU.size _) hplt, hplt, hx1⟩ ?_
  rintro U SU0
  have SU := Hid.mk' SU0
  have x0 := SU0.x.1.1
  clear SU0 HWV HPB hbW hsW hzW cxW KC HW hp1 hcap hb1 hbU hz1 hx1
  go_wp2_with fail
  refine (KF.out _).mono ?_
  rintro e w2 ⟨rfl, rfl⟩
  clear KF x0
  have x1 := SU.out.x.1.2.1
  have xf1 := SU.out.x.2 1
  simp only [Nat.zero_add] at x1 xf1
  go_upto_region 11 with fail
  refine wp_gen (fun V => Sx w p w1.heap.size ra r false (.int .i64 op) (.int .i64 64) (.int .i64 0) (.int .u64 0) (.slice none 0 0) V) SU.out.set1 ?_
  rintro V4 SV0
  have SV := Hid.mk' SV0
  clear SV0 x1 xf1 SU
  match r, hrl, HL, SV with
  | [], hrl, HL, SV =>
    obtain ⟨⟨x0, x1, x2, x3, x4⟩, -⟩ := SV.out.x
    obtain ⟨⟨z0, z1, z2, z3, z4⟩, zf⟩ := SV.out.z
    simp only [Nat.zero_add] at x0 x1 x2 x3 x4 z0 z1 z2 z3 z4
    have zf0 := zf 0
    have zf1 := zf 1
    have zf2 := zf 2
    have zf3 := zf 3
    have zf4 := zf 4
    clear zf
    go_wp2
    refine body_gen (fun V => C5 V w.heap.size 0 (.int .i64 op) (.int .i64 64) (.int .i64 0) (.int .u64 0) (.slice none 0 0) ∧ Pb V p false ∧ w.grownBy V (some p)) (SV.out.fin _ _ _ _ _) ?_
    rintro V ⟨⟨⟨t0, t1, t2, t3, t4⟩, -⟩, tU, gU⟩
    simp only [Nat.zero_add] at t0 t1 t2 t3 t4
    have HU := Hid.mk' (And.intro tU gU)
    clear tU gU x0 x1 x2 x3 x4 z0 z1 z2 z3 z4 zf0 zf1 zf2 zf3 zf4
    exact bodyPost_ret (v := inV ⟨op, 64, 0, 0, []⟩ none 0) (by simp [results, Tryz.results13, go_sem, t0, t1, t2, t3, t4]) rfl ⟨⟨op, 64, 0, 0, []⟩, none, 0, false, rfl, rfl, has_nil _, HU.out.1, HU.out.2, fun _ => ⟨by decide, by rw [arg_1]; exact .inl ⟨rfl, rfl⟩⟩, fun _ _ => rfl⟩
  | [t], hrl, HL, SV =>
    rcases SV.out.wv with e | ⟨b5, o5, rfl, hb5, hc5⟩
    · cases e
    have ct := hc5 0 (by simp)
    simp only [Nat.add_zero, List.getD_cons_zero] at ct
    clear hc5
    have KT := Hid.mk' (sty_c t V4)
    simp only [List.length_cons, List.length_nil]
    cases hty : (tyN t == 0) with
    | false =>
      rw [hty] at KT
      have HTY := Hid.mk' hty
      clear hty
      go_wp2_with fail
      refine KT.out.mono ?_
      rintro e w5 ⟨rfl, rfl⟩
      have x1 := SV.out.x.1.2.1
      have xf1 := SV.out.x.2 1
      simp only [Nat.zero_add] at x1 xf1
      clear KT
      go_upto_region 46 with fail
      refine wp_gen (fun V => Sx w p w1.heap.size (some ⟨b5, o5, none⟩) [t] false (.int .i64 op) (.int .i64 (tyN t)) (.int .i64 0) (.int .u64 0) (.slice none 0 0) V) SV.out.set1 ?_
      rintro V6 SY0
      have SY := Hid.mk' SY0
      clear SY0 x1 xf1 SV
      obtain ⟨⟨x0, x1, x2, x3, x4⟩, -⟩ := SY.out.x
      obtain ⟨⟨z0, z1, z2, z3, z4⟩, zf⟩ := SY.out.z
      simp only [Nat.zero_add] at x0 x1 x2 x3 x4 z0 z1 z2 z3 z4
      have zf0 := zf 0
      have zf1 := zf 1
      have zf2 := zf 2
      have zf3 := zf 3
      have zf4 := zf 4
      clear zf
      go_wp2
      refine body_gen (fun V => C5 V w.heap.size 0 (.int .i64 op) (.int .i64 (tyN t)) (.int .i64 0) (.int .u64 0) (.slice none 0 0) ∧ Pb V p false ∧ w.grownBy V (some p)) (SY.out.fin _ _ _ _ _) ?_
      rintro V ⟨⟨⟨t0, t1, t2, t3, t4⟩, -⟩, tU, gU⟩
      simp only [Nat.zero_add] at t0 t1 t2 t3 t4
      have HU := Hid.mk' (And.intro tU gU)
      clear tU gU x0 x1 x2 x3 x4 z0 z1 z2 z3 z4 zf0 zf1 zf2 zf3 zf4
      exact bodyPost_ret (v := inV ⟨op, tyN t, 0, 0, []⟩ none 0) (by simp [results, Tryz.results13, go_sem, t0, t1, t2, t3, t4]) rfl ⟨⟨op, tyN t, 0, 0, []⟩, none, 0, false, rfl, rfl, has_nil _, HU.out.1, HU.out.2, fun _ => ⟨by decide, by rw [arg_1]; exact .inr ⟨t, rfl, by simpa using HTY.out, rfl⟩⟩, fun _ _ => rfl⟩
    | true =>
      rw [hty] at KT
      have HTY := Hid.mk' hty
      clear hty
      go_wp2_with fail
      refine KT.out.mono ?_
      rintro e w5 ⟨rfl, rfl⟩
      have x1 := SV.out.x.1.2.1
      have xf1 := SV.out.x.2 1
      simp only [Nat.zero_add] at x1 xf1
      clear KT
      go_upto_region 14 with fail
      refine wp_gen (fun V => Sx w p w1.heap.size (some ⟨b5, o5, none⟩) [t] false (.int .i64 op) (.int .i64 (tyN t)) (.int .i64 0) (.int .u64 0) (.slice none 0 0) V) SV.out.set1 ?_
      rintro V6 SY0
      have SY := Hid.mk' SY0
      clear SY0 x1 xf1 SV
      have KB := Hid.mk' (bad_c p _ _ SY.out.pb)
      go_wp2_with fail
      refine KB.out.mono ?_
      rintro e w9 ⟨rfl, hpb, hgb⟩
      have S9 := Hid.mk' (SY.out.call hgb hpb)
      clear hpb hgb KB SY
      obtain ⟨⟨x0, x1, x2, x3, x4⟩, -⟩ := S9.out.x
      obtain ⟨⟨z0, z1, z2, z3, z4⟩, zf⟩ := S9.out.z
      simp only [Nat.zero_add] at x0 x1 x2 x3 x4 z0 z1 z2 z3 z4
      have zf0 := zf 0
      have zf1 := zf 1
      have zf2 := zf 2
      have zf3 := zf 3
      have zf4 := zf 4
      clear zf
      go_wp2
      refine body_gen (fun V => C5 V w.heap.size 0 (.int .i64 op) (.int .i64 (tyN t)) (.int .i64 0) (.int .u64 0) (.slice none 0 0) ∧ Pb V p true ∧ w.grownBy V (some p)) (S9.out.fin _ _ _ _ _) ?_
      rintro V ⟨⟨⟨t0, t1, t2, t3, t4⟩, -⟩, tU, gU⟩
      simp only [Nat.zero_add] at t0 t1 t2 t3 t4
      have HU := Hid.mk' (And.intro tU gU)
      clear tU gU x0 x1 x2 x3 x4 z0 z1 z2 z3 z4 zf0 zf1 zf2 zf3 zf4
      exact bodyPost_ret (v := inV ⟨op, tyN t, 0, 0, []⟩ none 0) (by simp [results, Tryz.results13, go_sem, t0, t1, t2, t3, t4]) rfl ⟨⟨op, tyN t, 0, 0, []⟩, none, 0, true, rfl, rfl, has_nil _, HU.out.1, HU.out.2, fun h => absurd h (by decide), fun _ ⟨y, hy⟩ => by rw [arg_1] at hy; exact hy.elim (fun h => absurd h.1 (by simp)) (fun ⟨t2, h, hn, _⟩ => by cases h; exact absurd (by simpa using HTY.out) hn)⟩
  | t :: t2 :: r, hrl, HL, SV =>
    have hl1 : ¬ (r.length : Int) + 1 + 1 = 1 := by omega
    have hl2 : (1 : Int) < (r.length : Int) + 1 + 1 := by omega
    simp only [List.length_cons]
    have KB := Hid.mk' (bad_c p _ _ SV.out.pb)
    go_wp2_with fail
    refine KB.out.mono ?_
    rintro e w9 ⟨rfl, hpb, hgb⟩
    have S9 := Hid.mk' (SV.out.call hgb hpb)
    clear hpb hgb KB SV
    obtain ⟨⟨x0, x1, x2, x3, x4⟩, -⟩ := S9.out.x
    obtain ⟨⟨z0, z1, z2, z3, z4⟩, zf⟩ := S9.out.z
    simp only [Nat.zero_add] at x0 x1 x2 x3 x4 z0 z1 z2 z3 z4
    have zf0 := zf 0
    have zf1 := zf 1
    have zf2 := zf 2
    have zf3 := zf 3
    have zf4 := zf 4
    clear zf
    go_wp2
    refine body_gen (fun V => C5 V w.heap.size 0 (.int .i64 op) (.int .i64 64) (.int .i64 0) (.int .u64 0) (.slice none 0 0) ∧ Pb V p true ∧ w.grownBy V (some p)) (S9.out.fin _ _ _ _ _) ?_
    rintro V ⟨⟨⟨t0, t1, t2, t3, t4⟩, -⟩, tU, gU⟩
    simp only [Nat.zero_add] at t0 t1 t2 t3 t4
    have HU := Hid.mk' (And.intro tU gU)
    clear tU gU x0 x1 x2 x3 x4 z0 z1 z2 z3 z4 zf0 zf1 zf2 zf3 zf4
    exact bodyPost_ret (v := inV ⟨op, 64, 0, 0, []⟩ none 0) (by simp [results, Tryz.results13, go_sem, t0, t1, t2, t3, t4]) rfl ⟨⟨op, 64, 0, 0, []⟩, none, 0, true, rfl, rfl, has_nil _, HU.out.1, HU.out.2, fun h => absurd h (by decide), fun _ ⟨y, hy⟩ => by rw [arg_1] at hy; exact hy.elim (fun h => absurd h.1 (by simp)) (fun ⟨t2, h, _⟩ => absurd h (by simp))⟩
end Go.Proofs.YtngepdhhdbhglaaGreatDoor
