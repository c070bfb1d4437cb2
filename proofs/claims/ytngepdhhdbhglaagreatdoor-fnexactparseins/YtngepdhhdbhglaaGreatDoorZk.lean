import Derived.Test.YtngepdhhdbhglaaGreatDoorZj
import Derived.Deep.RegionLaw
set_option linter.all false
set_option linter.unusedVariables false
namespace Go.Proofs.YtngepdhhdbhglaaGreatDoor
open Go.RowKit Go.Sort
set_option maxRecDepth 100000
set_option maxHeartbeats 8000000 in
theorem sri_7 (p b o c : Nat) (s : Wd) (r : List Wd) (w : World) (h : Pb w p false) (hb : b < p) (hc : ∀ i, i < (s :: r).length → w.cell? ⟨b, o + i, none⟩ = some (.string (S ((s :: r).getD i [])))) (hcap : (s :: r).length ≤ c) (hl : ∀ x ∈ s :: r, x.length ≤ 1099511627776) (hrl : r.length ≤ 1099511627776) (hf : formR (rowOf (codeI s)) = 7) :
    Calls Tryz.prog 13 #[.pointer (some ⟨p, 0, none⟩), .slice (some ⟨b, o, none⟩) (s :: r).length c] w (SiP 7 (codeI s) r w p) := by
  have cx := hc 0 (by simp)
  simp only [Nat.add_zero, List.getD_cons_zero] at cx
  obtain ⟨W, hW⟩ : ∃ W, W = w.alloc (.cells #[.int .i64 0, .int .i64 0, .int .i64 0, .int .u64 0, .slice none 0 0] 26) := ⟨_, rfl⟩
  have hbW : Below w.heap.size w W := by rw [hW]; exact (Below.refl _ _).alloc (Nat.le_refl _) _
  have hsW : Hid (W.heap.size = w.heap.size + 1) := by show _ = _; rw [hW]; simp
  have hzW : C5 W w.heap.size 0 (.int .i64 0) (.int .i64 0) (.int .i64 0) (.int .u64 0) (.slice none 0 0) := by rw [hW]; exact C5.new
  have cxW : W.cell? ⟨b, o, none⟩ = some (.string (S s)) := (hbW.cell (p := ⟨b, o, none⟩) (World.block_lt_of_cell? w _ cx)).trans cx
  have KC := Hid.mk' (scode_c (S s) W)
  rw [S_toList] at KC
  have HW := Hid.mk' hW
  simp only [List.length_cons] at hcap ⊢
  have HWV := Hid.mk' (wv_rest hb hc hcap)
  have hlr : ∀ x ∈ r, x.length ≤ 1099511627776 := fun x hx => hl x (by simp [hx])
  have HL := Hid.mk' hlr
  have HPB := Hid.mk' h
  have hplt := h.lt
  have hp1 : ¬ ((c : Int) < (r.length : Int) + 1) := by omega
  have KF := Hid.mk' (fun U => sform_c (codeI s) U)
  rw [hf] at KF
  have hop := (form_op (codeI s)).1 hf
  clear cx hW hc hl hlr h hf
  generalize codeI s = op at *
  subst hop
  go_enter Tryz.func13, Tryz.ntmps13
  go_upto_region 1 with fail
  rw [show w.alloc (.cells #[.int .i64 0, .int .i64 0, .int .i64 0, .int .u64 0, .slice none 0 0] 26) = W from HW.out.symm]
  go_wp2_with fail
  refine KC.out.mono ?_
  rintro e w1 ⟨rfl, hb1⟩
  go_upto_region 3 with fail
  generalize (if c = 1 then (some ⟨b, o, none⟩ : Option Addr) else some ⟨b, o + 1, none⟩) = ra at *
  generalize c - 1 = rc at *
  have hx1 : w.heap.size < w1.heap.size := by have := hb1.size; have := hsW.out; omega
  have hbU : Below w.heap.size w w1 := hbW.trans (hb1.mono (by have := hsW.out; omega))
  have hz1 : C5 w1 w.heap.size 0 (.int .i64 0) (.int .i64 0) (.int .i64 0) (.int .u64 0) (.slice none 0 0) := hzW.keep hb1
  refine wp_gen (fun U => Sx w p w1.heap.size ra r false (.int .i64 65) (.int .i64 0) (.int .i64 0) (.int .u64 0) (.slice none 0 0) U) ⟨C5.new, hz1.past, HPB.out.keep (hbU.alloc hbU.size _), below_gr (hbU.alloc hbU.size _), HWV.out.keep (hbU.alloc hbU.size _) hplt, hplt, hx1⟩ ?_
  rintro U SU0
  have SU := Hid.mk' SU0
  have x0 := SU0.x.1.1
  clear SU0 HWV HPB hbW hsW hzW cxW KC HW hp1 hcap hb1 hbU hz1 hx1
  go_wp2_with fail
  refine (KF.out _).mono ?_
  rintro e w2 ⟨rfl, rfl⟩
  clear KF x0
  match r, hrl, HL, SU with
  | [], hrl, HL, SU =>
    simp only [List.length_nil]
    have KB := Hid.mk' (bad_c p _ _ SU.out.pb)
    go_wp2_with fail
    refine KB.out.mono ?_
    rintro e w9 ⟨rfl, hpb, hgb⟩
    have S9 := Hid.mk' (SU.out.call hgb hpb)
    clear hpb hgb KB SU
    obtain ⟨⟨x0, x1, x2, x3, x4⟩, -⟩ := S9.out.x
    obtain ⟨⟨z0, z1, z2, z3, z4⟩, zf⟩ := S9.out.z
    simp only [Nat.zero_add] at x0 x1 x2 x3 x4 z0 z1 z2 z3 z4
    have zf0 := zf 0
    have zf1 := zf 1
    have zf2 := zf 2
    have zf3 := zf 3
    have zf4 := zf 4
    clear zf
    go_wp2
    refine body_gen (fun V => C5 V w.heap.size 0 (.int .i64 65) (.int .i64 0) (.int .i64 0) (.int .u64 0) (.slice none 0 0) ∧ Pb V p true ∧ w.grownBy V (some p)) (S9.out.fin _ _ _ _ _) ?_
    rintro V ⟨⟨⟨t0, t1, t2, t3, t4⟩, -⟩, tU, gU⟩
    simp only [Nat.zero_add] at t0 t1 t2 t3 t4
    have HU := Hid.mk' (And.intro tU gU)
    clear tU gU x0 x1 x2 x3 x4 z0 z1 z2 z3 z4 zf0 zf1 zf2 zf3 zf4
    exact bodyPost_ret (v := inV ⟨65, 0, 0, 0, []⟩ none 0) (by simp [results, Tryz.results13, go_sem, t0, t1, t2, t3, t4]) rfl ⟨⟨65, 0, 0, 0, []⟩, none, 0, true, rfl, rfl, has_nil _, HU.out.1, HU.out.2, fun h => absurd h (by decide), fun _ ⟨y, hy⟩ => by rw [arg_7] at hy; obtain ⟨s2, v2, e2, -⟩ := hy; cases e2⟩
  | t :: t2 :: r, hrl, HL, SU =>
    have hl1 : ¬ (r.length : Int) + 1 + 1 = 1 := by omega
    simp only [List.length_cons]
    have KB := Hid.mk' (bad_c p _ _ SU.out.pb)
    go_wp2_with fail
    refine KB.out.mono ?_
    rintro e w9 ⟨rfl, hpb, hgb⟩
    have S9 := Hid.mk' (SU.out.call hgb hpb)
    clear hpb hgb KB SU
    obtain ⟨⟨x0, x1, x2, x3, x4⟩, -⟩ := S9.out.x
    obtain ⟨⟨z0, z1, z2, z3, z4⟩, zf⟩ := S9.out.z
    simp only [Nat.zero_add] at x0 x1 x2 x3 x4 z0 z1 z2 z3 z4
    have zf0 := zf 0
    have zf1 := zf 1
    have zf2 := zf 2
    have zf3 := zf 3
    have zf4 := zf 4
    clear zf
    go_wp2
    refine body_gen (fun V => C5 V w.heap.size 0 (.int .i64 65) (.int .i64 0) (.int .i64 0) (.int .u64 0) (.slice none 0 0) ∧ Pb V p true ∧ w.grownBy V (some p)) (S9.out.fin _ _ _ _ _) ?_
    rintro V ⟨⟨⟨t0, t1, t2, t3, t4⟩, -⟩, tU, gU⟩
    simp only [Nat.zero_add] at t0 t1 t2 t3 t4
    have HU := Hid.mk' (And.intro tU gU)
    clear tU gU x0 x1 x2 x3 x4 z0 z1 z2 z3 z4 zf0 zf1 zf2 zf3 zf4
    exact bodyPost_ret (v := inV ⟨65, 0, 0, 0, []⟩ none 0) (by simp [results, Tryz.results13, go_sem, t0, t1, t2, t3, t4]) rfl ⟨⟨65, 0, 0, 0, []⟩, none, 0, true, rfl, rfl, has_nil _, HU.out.1, HU.out.2, fun h => absurd h (by decide), fun _ ⟨y, hy⟩ => by rw [arg_7] at hy; obtain ⟨s2, v2, e2, -⟩ := hy; cases e2⟩
  | [t], hrl, HL, SU =>
    rcases SU.out.wv with e | ⟨b5, o5, rfl, hb5, hc5⟩
    · cases e
    have ct := hc5 0 (by simp)
    simp only [Nat.add_zero, List.getD_cons_zero] at ct
    clear hc5
    have KN := Hid.mk' (fun V => con65_c t V (HL.out t (by simp)))
    have x0 := SU.out.x.1.1
    have x3 := SU.out.x.1.2.2.2.1
    have xf3 := SU.out.x.2 3
    simp only [Nat.zero_add] at x3 xf3
    have S5 := Hid.mk' SU.out.drew
    simp only [List.length_cons, List.length_nil]
    cases hok : okN (-2147483648) 2147483647 t with
    | true =>
      rw [hok] at KN
      have HOK := Hid.mk' hok
      clear hok
      go_upto_region 42 with fail
      go_region_law (first
        | (go_simp
           refine (KN.out _).mono ?_
           rintro e w5 ⟨rfl, v, rfl, hv⟩
           have HV := Hid.mk' hv
           clear hv))
      all_goals
        go_upto_region 44 with fail
        refine wp_gen (fun V => Sx w p w1.heap.size (some ⟨b5, o5, none⟩) [t] false (.int .i64 65) (.int .i64 0) (.int .i64 0) (.int .u64 v) (.slice none 0 0) V) S5.out.set3 ?_
        rintro V6 SY0
        have SY := Hid.mk' SY0
        clear SY0 x0 x3 xf3 S5 SU
        obtain ⟨⟨x0, x1, x2, x3, x4⟩, -⟩ := SY.out.x
        obtain ⟨⟨z0, z1, z2, z3, z4⟩, zf⟩ := SY.out.z
        simp only [Nat.zero_add] at x0 x1 x2 x3 x4 z0 z1 z2 z3 z4
        have zf0 := zf 0
        have zf1 := zf 1
        have zf2 := zf 2
        have zf3 := zf 3
        have zf4 := zf 4
        clear zf
        go_wp2
        refine body_gen (fun V => C5 V w.heap.size 0 (.int .i64 65) (.int .i64 0) (.int .i64 0) (.int .u64 v) (.slice none 0 0) ∧ Pb V p false ∧ w.grownBy V (some p)) (SY.out.fin _ _ _ _ _) ?_
        rintro V ⟨⟨⟨t0, t1, t2, t3, t4⟩, -⟩, tU, gU⟩
        simp only [Nat.zero_add] at t0 t1 t2 t3 t4
        have HU := Hid.mk' (And.intro tU gU)
        clear tU gU x0 x1 x2 x3 x4 z0 z1 z2 z3 z4 zf0 zf1 zf2 zf3 zf4
        exact bodyPost_ret (v := inV ⟨65, 0, 0, v, []⟩ none 0) (by simp [results, Tryz.results13, go_sem, t0, t1, t2, t3, t4]) rfl ⟨⟨65, 0, 0, v, []⟩, none, 0, false, rfl, rfl, has_nil _, HU.out.1, HU.out.2, fun _ => ⟨by decide, by rw [arg_7]; obtain ⟨v', h1, rfl⟩ := HV.out trivial; exact ⟨t, v', rfl, ⟨HOK.out, h1⟩, rfl⟩⟩, fun _ _ => rfl⟩
    | false =>
      rw [hok] at KN
      have HOK := Hid.mk' hok
      clear hok
      go_upto_region 42 with fail
      go_region_law (first
        | (go_simp
           refine (KN.out _).mono ?_
           rintro e w5 ⟨rfl, v, rfl, hv⟩
           have HV := Hid.mk' hv
           clear hv))
      all_goals
        go_upto_region 44 with fail
        refine wp_gen (fun V => Sx w p w1.heap.size (some ⟨b5, o5, none⟩) [t] false (.int .i64 65) (.int .i64 0) (.int .i64 0) (.int .u64 v) (.slice none 0 0) V) S5.out.set3 ?_
        rintro V6 SY0
        have SY := Hid.mk' SY0
        clear SY0 x0 x3 xf3 S5 SU
        have KB := Hid.mk' (bad_c p _ _ SY.out.pb)
        go_wp2_with fail
        refine KB.out.mono ?_
        rintro e w9 ⟨rfl, hpb, hgb⟩
        have S9 := Hid.mk' (SY.out.call hgb hpb)
        clear hpb hgb KB SY
        obtain ⟨⟨x0, x1, x2, x3, x4⟩, -⟩ := S9.out.x
        obtain ⟨⟨z0, z1, z2, z3, z4⟩, zf⟩ := S9.out.z
        simp only [Nat.zero_add] at x0 x1 x2 x3 x4 z0 z1 z2 z3 z4
        have zf0 := zf 0
        have zf1 := zf 1
        have zf2 := zf 2
        have zf3 := zf 3
        have zf4 := zf 4
        clear zf
        go_wp2
        refine body_gen (fun V => C5 V w.heap.size 0 (.int .i64 65) (.int .i64 0) (.int .i64 0) (.int .u64 v) (.slice none 0 0) ∧ Pb V p true ∧ w.grownBy V (some p)) (S9.out.fin _ _ _ _ _) ?_
        rintro V ⟨⟨⟨t0, t1, t2, t3, t4⟩, -⟩, tU, gU⟩
        simp only [Nat.zero_add] at t0 t1 t2 t3 t4
        have HU := Hid.mk' (And.intro tU gU)
        clear tU gU x0 x1 x2 x3 x4 z0 z1 z2 z3 z4 zf0 zf1 zf2 zf3 zf4
        exact bodyPost_ret (v := inV ⟨65, 0, 0, v, []⟩ none 0) (by simp [results, Tryz.results13, go_sem, t0, t1, t2, t3, t4]) rfl ⟨⟨65, 0, 0, v, []⟩, none, 0, true, rfl, rfl, has_nil _, HU.out.1, HU.out.2, fun h => absurd h (by decide), fun _ ⟨y, hy⟩ => by rw [arg_7] at hy; obtain ⟨s2, v2, e2, hn, -⟩ := hy; cases e2; exact absurd hn.1 (by rw [HOK.out]; decide)⟩
set_option maxHeartbeats 8000000 in
theorem sri_8 (p b o c : Nat) (s : Wd) (r : List Wd) (w : World) (h : Pb w p false) (hb : b < p) (hc : ∀ i, i < (s :: r).length → w.cell? ⟨b, o + i, none⟩ = some (.string (S ((s :: r).getD i [])))) (hcap : (s :: r).length ≤ c) (hl : ∀ x ∈ s :: r, x.length ≤ 1099511627776) (hrl : r.length ≤ 1099511627776) (hf : formR (rowOf (codeI s)) = 8) :
    Calls Tryz.prog 13 #[.pointer (some ⟨p, 0, none⟩), .slice (some ⟨b, o, none⟩) (s :: r).length c] w (SiP 8 (codeI s) r w p) := by
  have cx := hc 0 (by simp)
  simp only [Nat.add_zero, List.getD_cons_zero] at cx
  obtain ⟨W, hW⟩ : ∃ W, W = w.alloc (.cells #[.int .i64 0, .int .i64 0, .int .i64 0, .int .u64 0, .slice none 0 0] 26) := ⟨_, rfl⟩
  have hbW : Below w.heap.size w W := by rw [hW]; exact (Below.refl _ _).alloc (Nat.le_refl _) _
  have hsW : Hid (W.heap.size = w.heap.size + 1) := by show _ = _; rw [hW]; simp
  have hzW : C5 W w.heap.size 0 (.int .i64 0) (.int .i64 0) (.int .i64 0) (.int .u64 0) (.slice none 0 0) := by rw [hW]; exact C5.new
  have cxW : W.cell? ⟨b, o, none⟩ = some (.string (S s)) := (hbW.cell (p := ⟨b, o, none⟩) (World.block_lt_of_cell? w _ cx)).trans cx
  have KC := Hid.mk' (scode_c (S s) W)
  rw [S_toList] at KC
  have HW := Hid.mk' hW
  simp only [List.length_cons] at hcap ⊢
  have HWV := Hid.mk' (wv_rest hb hc hcap)
  have hlr : ∀ x ∈ r, x.length ≤ 1099511627776 := fun x hx => hl x (by simp [hx])
  have HL := Hid.mk' hlr
  have HPB := Hid.mk' h
  have hplt := h.lt
  have hp1 : ¬ ((c : Int) < (r.length : Int) + 1) := by omega
  have KF := Hid.mk' (fun U => sform_c (codeI s) U)
  rw [hf] at KF
  have hop := (form_op (codeI s)).2.1 hf
  clear cx hW hc hl hlr h hf
  generalize codeI s = op at *
  subst hop
  go_enter Tryz.func13, Tryz.ntmps13
  go_upto_region 1 with fail
  rw [show w.alloc (.cells #[.int .i64 0, .int .i64 0, .int .i64 0, .int .u64 0, .slice none 0 0] 26) = W from HW.out.symm]
  go_wp2_with fail
  refine KC.out.mono ?_
  rintro e w1 ⟨rfl, hb1⟩
  go_upto_region 3 with fail
  generalize (if c = 1 then (some ⟨b, o, none⟩ : Option Addr) else some ⟨b, o + 1, none⟩) = ra at *
  generalize c - 1 = rc at *
  have hx1 : w.heap.size < w1.heap.size := by have := hb1.size; have := hsW.out; omega
  have hbU : Below w.heap.size w w1 := hbW.trans (hb1.mono (by have := hsW.out; omega))
  have hz1 : C5 w1 w.heap.size 0 (.int .i64 0) (.int .i64 0) (.int .i64 0) (.int .u64 0) (.slice none 0 0) := hzW.keep hb1
  refine wp_gen (fun U => Sx w p w1.heap.size ra r false (.int .i64 66) (.int .i64 0) (.int .i64 0) (.int .u64 0) (.slice none 0 0) U) ⟨C5.new, hz1.past, HPB.out.keep (hbU.alloc hbU.size _), below_gr (hbU.alloc hbU.size _), HWV.out.keep (hbU.alloc hbU.size _) hplt, hplt, hx1⟩ ?_
  rintro U SU0
  have SU := Hid.mk' SU0
  have x0 := SU0.x.1.1
  clear SU0 HWV HPB hbW hsW hzW cxW KC HW hp1 hcap hb1 hbU hz1 hx1
  go_wp2_with fail
  refine (KF.out _).mono ?_
  rintro e w2 ⟨rfl, rfl⟩
  clear KF x0
  match r, hrl, HL, SU with
  | [], hrl, HL, SU =>
    simp only [List.length_nil]
    have KB := Hid.mk' (bad_c p _ _ SU.out.pb)
    go_wp2_with fail
    refine KB.out.mono ?_
    rintro e w9 ⟨rfl, hpb, hgb⟩
    have S9 := Hid.mk' (SU.out.call hgb hpb)
    clear hpb hgb KB SU
    obtain ⟨⟨x0, x1, x2, x3, x4⟩, -⟩ := S9.out.x
    obtain ⟨⟨z0, z1, z2, z3, z4⟩, zf⟩ := S9.out.z
    simp only [Nat.zero_add] at x0 x1 x2 x3 x4 z0 z1 z2 z3 z4
    have zf0 := zf 0
    have zf1 := zf 1
    have zf2 := zf 2
    have zf3 := zf 3
    have zf4 := zf 4
    clear zf
    go_wp2
    refine body_gen (fun V => C5 V w.heap.size 0 (.int .i64 66) (.int .i64 0) (.int .i64 0) (.int .u64 0) (.slice none 0 0) ∧ Pb V p true ∧ w.grownBy V (some p)) (S9.out.fin _ _ _ _ _) ?_
    rintro V ⟨⟨⟨t0, t1, t2, t3, t4⟩, -⟩, tU, gU⟩
    simp only [Nat.zero_add] at t0 t1 t2 t3 t4
    have HU := Hid.mk' (And.intro tU gU)
    clear tU gU x0 x1 x2 x3 x4 z0 z1 z2 z3 z4 zf0 zf1 zf2 zf3 zf4
    exact bodyPost_ret (v := inV ⟨66, 0, 0, 0, []⟩ none 0) (by simp [results, Tryz.results13, go_sem, t0, t1, t2, t3, t4]) rfl ⟨⟨66, 0, 0, 0, []⟩, none, 0, true, rfl, rfl, has_nil _, HU.out.1, HU.out.2, fun h => absurd h (by decide), fun _ ⟨y, hy⟩ => by rw [arg_8] at hy; obtain ⟨s2, v2, e2, -⟩ := hy; cases e2⟩
  | t :: t2 :: r, hrl, HL, SU =>
    have hl1 : ¬ (r.length : Int) + 1 + 1 = 1 := by omega
    simp only [List.length_cons]
    have KB := Hid.mk' (bad_c p _ _ SU.out.pb)
    go_wp2_with fail
    refine KB.out.mono ?_
    rintro e w9 ⟨rfl, hpb, hgb⟩
    have S9 := Hid.mk' (SU.out.call hgb hpb)
    clear hpb hgb KB SU
    obtain ⟨⟨x0, x1, x2, x3, x4⟩, -⟩ := S9.out.x
    obtain ⟨⟨z0, z1, z2, z3, z4⟩, zf⟩ := S9.out.z
    simp only [Nat.zero_add] at x0 x1 x2 x3 x4 z0 z1 z2 z3 z4
    have zf0 := zf 0
    have zf1 := zf 1
    have zf2 := zf 2
    have zf3 := zf 3
    have zf4 := zf 4
    clear zf
    go_wp2
    refine body_gen (fun V => C5 V w.heap.size 0 (.int .i64 66) (.int .i64 0) (.int .i64 0) (.int .u64 0) (.slice none 0 0) ∧ Pb V p true ∧ w.grownBy V (some p)) (S9.out.fin _ _ _ _ _) ?_
    rintro V ⟨⟨⟨t0, t1, t2, t3, t4⟩, -⟩, tU, gU⟩
    simp only [Nat.zero_add] at t0 t1 t2 t3 t4
    have HU := Hid.mk' (And.intro tU gU)
    clear tU gU x0 x1 x2 x3 x4 z0 z1 z2 z3 z4 zf0 zf1 zf2 zf3 zf4
    exact bodyPost_ret (v := inV ⟨66, 0, 0, 0, []⟩ none 0) (by simp [results, Tryz.results13, go_sem, t0, t1, t2, t3, t4]) rfl ⟨⟨66, 0, 0, 0, []⟩, none, 0, true, rfl, rfl, has_nil _, HU.out.1, HU.out.2, fun h => absurd h (by decide), fun _ ⟨y, hy⟩ => by rw [arg_8] at hy; obtain ⟨s2, v2, e2, -⟩ := hy; cases e2⟩
  | [t], hrl, HL, SU =>
    rcases SU.out.wv with e | ⟨b5, o5, rfl, hb5, hc5⟩
    · cases e
    have ct := hc5 0 (by simp)
    simp only [Nat.add_zero, List.getD_cons_zero] at ct
    clear hc5
    have KN := Hid.mk' (fun V => con66_c t V (HL.out t (by simp)))
    have x0 := SU.out.x.1.1
    have x3 := SU.out.x.1.2.2.2.1
    have xf3 := SU.out.x.2 3
    simp only [Nat.zero_add] at x3 xf3
    have S5 := Hid.mk' SU.out.drew
    simp only [List.length_cons, List.length_nil]
    cases hok : okN (-9223372036854775808) 9223372036854775807 t with
    | true =>
      rw [hok] at KN
      have HOK := Hid.mk' hok
      clear hok
      go_upto_region 42 with fail
      go_region_law (first
        | (go_simp
           refine (KN.out _).mono ?_
           rintro e w5 ⟨rfl, v, rfl, hv⟩
           have HV := Hid.mk' hv
           clear hv))
      all_goals
        go_upto_region 44 with fail
        refine wp_gen (fun V => Sx w p w1.heap.size (some ⟨b5, o5, none⟩) [t] false (.int .i64 66) (.int .i64 0) (.int .i64 0) (.int .u64 v) (.slice none 0 0) V) S5.out.set3 ?_
        rintro V6 SY0
        have SY := Hid.mk' SY0
        clear SY0 x0 x3 xf3 S5 SU
        obtain ⟨⟨x0, x1, x2, x3, x4⟩, -⟩ := SY.out.x
        obtain ⟨⟨z0, z1, z2, z3, z4⟩, zf⟩ := SY.out.z
        simp only [Nat.zero_add] at x0 x1 x2 x3 x4 z0 z1 z2 z3 z4
        have zf0 := zf 0
        have zf1 := zf 1
        have zf2 := zf 2
        have zf3 := zf 3
        have zf4 := zf 4
        clear zf
        go_wp2
        refine body_gen (fun V => C5 V w.heap.size 0 (.int .i64 66) (.int .i64 0) (.int .i64 0) (.int .u64 v) (.slice none 0 0) ∧ Pb V p false ∧ w.grownBy V (some p)) (SY.out.fin _ _ _ _ _) ?_
        rintro V ⟨⟨⟨t0, t1, t2, t3, t4⟩, -⟩, tU, gU⟩
        simp only [Nat.zero_add] at t0 t1 t2 t3 t4
        have HU := Hid.mk' (And.intro tU gU)
        clear tU gU x0 x1 x2 x3 x4 z0 z1 z2 z3 z4 zf0 zf1 zf2 zf3 zf4
        exact bodyPost_ret (v := inV ⟨66, 0, 0, v, []⟩ none 0) (by simp [results, Tryz.results13, go_sem, t0, t1, t2, t3, t4]) rfl ⟨⟨66, 0, 0, v, []⟩, none, 0, false, rfl, rfl, has_nil _, HU.out.1, HU.out.2, fun _ => ⟨by decide, by rw [arg_8]; obtain ⟨v', h1, rfl⟩ := HV.out trivial; exact ⟨t, v', rfl, ⟨HOK.out, h1⟩, rfl⟩⟩, fun _ _ => rfl⟩
    | false =>
      rw [hok] at KN
      have HOK := Hid.mk' hok
      clear hok
      go_upto_region 42 with fail
      go_region_law (first
        | (go_simp
           refine (KN.out _).mono ?_
           rintro e w5 ⟨rfl, v, rfl, hv⟩
           have HV := Hid.mk' hv
           clear hv))
      all_goals
        go_upto_region 44 with fail
        refine wp_gen (fun V => Sx w p w1.heap.size (some ⟨b5, o5, none⟩) [t] false (.int .i64 66) (.int .i64 0) (.int .i64 0) (.int .u64 v) (.slice none 0 0) V) S5.out.set3 ?_
        rintro V6 SY0
        have SY := Hid.mk' SY0
        clear SY0 x0 x3 xf3 S5 SU
        have KB := Hid.mk' (bad_c p _ _ SY.out.pb)
        go_wp2_with fail
        refine KB.out.mono ?_
        rintro e w9 ⟨rfl, hpb, hgb⟩
        have S9 := Hid.mk' (SY.out.call hgb hpb)
        clear hpb hgb KB SY
        obtain ⟨⟨x0, x1, x2, x3, x4⟩, -⟩ := S9.out.x
        obtain ⟨⟨z0, z1, z2, z3, z4⟩, zf⟩ := S9.out.z
        simp only [Nat.zero_add] at x0 x1 x2 x3 x4 z0 z1 z2 z3 z4
        have zf0 := zf 0
        have zf1 := zf 1
        have zf2 := zf 2
        have zf3 := zf 3
        have zf4 := zf 4
        clear zf
        go_wp2
        refine body_gen (fun V => C5 V w.heap.size 0 (.int .i64 66) (.int .i64 0) (.int .i64 0) (.int .u64 v) (.slice none 0 0) ∧ Pb V p true ∧ w.grownBy V (some p)) (S9.out.fin _ _ _ _ _) ?_
        rintro V ⟨⟨⟨t0, t1, t2, t3, t4⟩, -⟩, tU, gU⟩
        simp only [Nat.zero_add] at t0 t1 t2 t3 t4
        have HU := Hid.mk' (And.intro tU gU)
        clear tU gU x0 x1 x2 x3 x4 z0 z1 z2 z3 z4 zf0 zf1 zf2 zf3 zf4
        exact bodyPost_ret (v := inV ⟨66, 0, 0, v, []⟩ none 0) (by simp [results, Tryz.results13, go_sem, t0, t1, t2, t3, t4]) rfl ⟨⟨66, 0, 0, v, []⟩, none, 0, true, rfl, rfl, has_nil _, HU.out.1, HU.out.2, fun h => absurd h (by decide), fun _ ⟨y, hy⟩ => by rw [arg_8] at hy; obtain ⟨s2, v2, e2, hn, -⟩ := hy; cases e2; exact absurd hn.1 (by rw [HOK.out]; decide)⟩
set_option maxHeartbeats 8000000 in
theorem sri_9 (p b o c : Nat) (s : Wd) (r : List Wd) (w : World) (h : Pb w p false) (hb : b < p) (hc : ∀ i, i < (s :: r).length → w.cell? ⟨b, o + i, none⟩ = some (.string (S ((s :: r).getD i [])))) (hcap : (s :: r).length ≤ c) (hl : ∀ x ∈ s :: r, x.length ≤ 1099511627776) (hrl : r.length ≤ 1099511627776) (hf : formR (rowOf (codeI s)) = 9) :
    Calls Tryz.prog 13 #[.pointer (some ⟨p, 0, none⟩), .slice (some ⟨b, o, none⟩) (s :: r).length c] w (SiP 9 (codeI s) r w p) := by
  have cx := hc 0 (by simp)
  simp only [Nat.add_zero, List.getD_cons_zero] at cx
  obtain ⟨W, hW⟩ : ∃ W, W = w.alloc (.cells #[.int .i64 0, .int .i64 0, .int .i64 0, .int .u64 0, .slice none 0 0] 26) := ⟨_, rfl⟩
  have hbW : Below w.heap.size w W := by rw [hW]; exact (Below.refl _ _).alloc (Nat.le_refl _) _
  have hsW : Hid (W.heap.size = w.heap.size + 1) := by show _ = _; rw [hW]; simp
  have hzW : C5 W w.heap.size 0 (.int .i64 0) (.int .i64 0) (.int .i64 0) (.int .u64 0) (.slice none 0 0) := by rw [hW]; exact C5.new
  have cxW : W.cell? ⟨b, o, none⟩ = some (.string (S s)) := (hbW.cell (p := ⟨b, o, none⟩) (World.block_lt_of_cell? w _ cx)).trans cx
  have KC := Hid.mk' (scode_c (S s) W)
  rw [S_toList] at KC
  have HW := Hid.mk' hW
  simp only [List.length_cons] at hcap ⊢
  have HWV := Hid.mk' (wv_rest hb hc hcap)
  have hlr : ∀ x ∈ r, x.length ≤ 1099511627776 := fun x hx => hl x (by simp [hx])
  have HL := Hid.mk' hlr
  have HPB := Hid.mk' h
  have hplt := h.lt
  have hp1 : ¬ ((c : Int) < (r.length : Int) + 1) := by omega
  have KF := Hid.mk' (fun U => sform_c (codeI s) U)
  rw [hf] at KF
  have hop := (form_op (codeI s)).2.2.1 hf
  clear cx hW hc hl hlr h hf
  generalize codeI s = op at *
  subst hop
  go_enter Tryz.func13, Tryz.ntmps13
  go_upto_region 1 with fail
  rw [show w.alloc (.cells #[.int .i64 0, .int .i64 0, .int .i64 0, .int .u64 0, .slice none 0 0] 26) = W from HW.out.symm]
  go_wp2_with fail
  refine KC.out.mono ?_
  rintro e w1 ⟨rfl, hb1⟩
  go_upto_region 3 with fail
  generalize (if c = 1 then (some ⟨b, o, none⟩ : Option Addr) else some ⟨b, o + 1, none⟩) = ra at *
  generalize c - 1 = rc at *
  have hx1 : w.heap.size < w1.heap.size := by have := hb1.size; have := hsW.out; omega
  have hbU : Below w.heap.size w w1 := hbW.trans (hb1.mono (by have := hsW.out; omega))
  have hz1 : C5 w1 w.heap.size 0 (.int .i64 0) (.int .i64 0) (.int .i64 0) (.int .u64 0) (.slice none 0 0) := hzW.keep hb1
  refine wp_gen (fun U => Sx w p w1.heap.size ra r false (.int .i64 67) (.int .i64 0) (.int .i64 0) (.int .u64 0) (.slice none 0 0) U) ⟨C5.new, hz1.past, HPB.out.keep (hbU.alloc hbU.size _), below_gr (hbU.alloc hbU.size _), HWV.out.keep (hbU.alloc hbU.size _) hplt, hplt, hx1⟩ ?_
  rintro U SU0
  have SU := Hid.mk' SU0
  have x0 := SU0.x.1.1
  clear SU0 HWV HPB hbW hsW hzW cxW KC HW hp1 hcap hb1 hbU hz1 hx1
  go_wp2_with fail
  refine (KF.out _).mono ?_
  rintro e w2 ⟨rfl, rfl⟩
  clear KF x0
  match r, hrl, HL, SU with
  | [], hrl, HL, SU =>
    simp only [List.length_nil]
    have KB := Hid.mk' (bad_c p _ _ SU.out.pb)
    go_wp2_with fail
    refine KB.out.mono ?_
    rintro e w9 ⟨rfl, hpb, hgb⟩
    have S9 := Hid.mk' (SU.out.call hgb hpb)
    clear hpb hgb KB SU
    obtain ⟨⟨x0, x1, x2, x3, x4⟩, -⟩ := S9.out.x
    obtain ⟨⟨z0, z1, z2, z3, z4⟩, zf⟩ := S9.out.z
    simp only [Nat.zero_add] at x0 x1 x2 x3 x4 z0 z1 z2 z3 z4
    have zf0 := zf 0
    have zf1 := zf 1
    have zf2 := zf 2
    have zf3 := zf 3
    have zf4 := zf 4
    clear zf
    go_wp2
    refine body_gen (fun V => C5 V w.heap.size 0 (.int .i64 67) (.int .i64 0) (.int .i64 0) (.int .u64 0) (.slice none 0 0) ∧ Pb V p true ∧ w.grownBy V (some p)) (S9.out.fin _ _ _ _ _) ?_
    rintro V ⟨⟨⟨t0, t1, t2, t3, t4⟩, -⟩, tU, gU⟩
    simp only [Nat.zero_add] at t0 t1 t2 t3 t4
    have HU := Hid.mk' (And.intro tU gU)
    clear tU gU x0 x1 x2 x3 x4 z0 z1 z2 z3 z4 zf0 zf1 zf2 zf3 zf4
    exact bodyPost_ret (v := inV ⟨67, 0, 0, 0, []⟩ none 0) (by simp [results, Tryz.results13, go_sem, t0, t1, t2, t3, t4]) rfl ⟨⟨67, 0, 0, 0, []⟩, none, 0, true, rfl, rfl, has_nil _, HU.out.1, HU.out.2, fun h => absurd h (by decide), fun _ ⟨y, hy⟩ => by rw [arg_9] at hy; obtain ⟨s2, v2, e2, -⟩ := hy; cases e2⟩
  | t :: t2 :: r, hrl, HL, SU =>
    have hl1 : ¬ (r.length : Int) + 1 + 1 = 1 := by omega
    simp only [List.length_cons]
    have KB := Hid.mk' (bad_c p _ _ SU.out.pb)
    go_wp2_with fail
    refine KB.out.mono ?_
    rintro e w9 ⟨rfl, hpb, hgb⟩
    have S9 := Hid.mk' (SU.out.call hgb hpb)
    clear hpb hgb KB SU
    obtain ⟨⟨x0, x1, x2, x3, x4⟩, -⟩ := S9.out.x
    obtain ⟨⟨z0, z1, z2, z3, z4⟩, zf⟩ := S9.out.z
    simp only [Nat.zero_add] at x0 x1 x2 x3 x4 z0 z1 z2 z3 z4
    have zf0 := zf 0
    have zf1 := zf 1
    have zf2 := zf 2
    have zf3 := zf 3
    have zf4 := zf 4
    clear zf
    go_wp2
    refine body_gen (fun V => C5 V w.heap.size 0 (.int .i64 67) (.int .i64 0) (.int .i64 0) (.int .u64 0) (.slice none 0 0) ∧ Pb V p true ∧ w.grownBy V (some p)) (S9.out.fin _ _ _ _ _) ?_
    rintro V ⟨⟨⟨t0, t1, t2, t3, t4⟩, -⟩, tU, gU⟩
    simp only [Nat.zero_add] at t0 t1 t2 t3 t4
    have HU := Hid.mk' (And.intro tU gU)
    clear tU gU x0 x1 x2 x3 x4 z0 z1 z2 z3 z4 zf0 zf1 zf2 zf3 zf4
    exact bodyPost_ret (v := inV ⟨67, 0, 0, 0, []⟩ none 0) (by simp [results, Tryz.results13, go_sem, t0, t1, t2, t3, t4]) rfl ⟨⟨67, 0, 0, 0, []⟩, none, 0, true, rfl, rfl, has_nil _, HU.out.1, HU.out.2, fun h => absurd h (by decide), fun _ ⟨y, hy⟩ => by rw [arg_9] at hy; obtain ⟨s2, v2, e2, -⟩ := hy; cases e2⟩
  | [t], hrl, HL, SU =>
    rcases SU.out.wv with e | ⟨b5, o5, rfl, hb5, hc5⟩
    · cases e
    have ct := hc5 0 (by simp)
    simp only [Nat.add_zero, List.getD_cons_zero] at ct
    clear hc5
    have KN := Hid.mk' (fun V => con67_c t V (HL.out t (by simp)))
    have x0 := SU.out.x.1.1
    have x3 := SU.out.x.1.2.2.2.1
    have xf3 := SU.out.x.2 3
    simp only [Nat.zero_add] at x3 xf3
    have S5 := Hid.mk' SU.out.drew
    simp only [List.length_cons, List.length_nil]
    cases hok : (bitM 8 t).isSome with
    | true =>
      rw [hok] at KN
      have HOK := Hid.mk' hok
      clear hok
      go_upto_region 42 with fail
      go_region_law (first
        | (go_simp
           refine (KN.out _).mono ?_
           rintro e w5 ⟨rfl, v, rfl, hv⟩
           have HV := Hid.mk' hv
           clear hv))
      all_goals
        go_upto_region 44 with fail
        refine wp_gen (fun V => Sx w p w1.heap.size (some ⟨b5, o5, none⟩) [t] false (.int .i64 67) (.int .i64 0) (.int .i64 0) (.int .u64 v) (.slice none 0 0) V) S5.out.set3 ?_
        rintro V6 SY0
        have SY := Hid.mk' SY0
        clear SY0 x0 x3 xf3 S5 SU
        obtain ⟨⟨x0, x1, x2, x3, x4⟩, -⟩ := SY.out.x
        obtain ⟨⟨z0, z1, z2, z3, z4⟩, zf⟩ := SY.out.z
        simp only [Nat.zero_add] at x0 x1 x2 x3 x4 z0 z1 z2 z3 z4
        have zf0 := zf 0
        have zf1 := zf 1
        have zf2 := zf 2
        have zf3 := zf 3
        have zf4 := zf 4
        clear zf
        go_wp2
        refine body_gen (fun V => C5 V w.heap.size 0 (.int .i64 67) (.int .i64 0) (.int .i64 0) (.int .u64 v) (.slice none 0 0) ∧ Pb V p false ∧ w.grownBy V (some p)) (SY.out.fin _ _ _ _ _) ?_
        rintro V ⟨⟨⟨t0, t1, t2, t3, t4⟩, -⟩, tU, gU⟩
        simp only [Nat.zero_add] at t0 t1 t2 t3 t4
        have HU := Hid.mk' (And.intro tU gU)
        clear tU gU x0 x1 x2 x3 x4 z0 z1 z2 z3 z4 zf0 zf1 zf2 zf3 zf4
        exact bodyPost_ret (v := inV ⟨67, 0, 0, v, []⟩ none 0) (by simp [results, Tryz.results13, go_sem, t0, t1, t2, t3, t4]) rfl ⟨⟨67, 0, 0, v, []⟩, none, 0, false, rfl, rfl, has_nil _, HU.out.1, HU.out.2, fun _ => ⟨by decide, by rw [arg_9]; obtain ⟨u, h1, rfl⟩ := HV.out trivial; obtain ⟨k1, k2⟩ := (bitM_iff 8 t u).1 h1; exact ⟨t, u, rfl, by rw [okB_iff 8 4294967295 t (by decide) (by decide) (by decide)]; exact HOK.out, Nat.le_of_lt_succ (by simpa using k1), k2, rfl⟩⟩, fun _ _ => rfl⟩
    | false =>
      rw [hok] at KN
      have HOK := Hid.mk' hok
      clear hok
      go_upto_region 42 with fail
      go_region_law (first
        | (go_simp
           refine (KN.out _).mono ?_
           rintro e w5 ⟨rfl, v, rfl, hv⟩
           have HV := Hid.mk' hv
           clear hv))
      all_goals
        go_upto_region 44 with fail
        refine wp_gen (fun V => Sx w p w1.heap.size (some ⟨b5, o5, none⟩) [t] false (.int .i64 67) (.int .i64 0) (.int .i64 0) (.int .u64 v) (.slice none 0 0) V) S5.out.set3 ?_
        rintro V6 SY0
        have SY := Hid.mk' SY0
        clear SY0 x0 x3 xf3 S5 SU
        have KB := Hid.mk' (bad_c p _ _ SY.out.pb)
        go_wp2_with fail
        refine KB.out.mono ?_
        rintro e w9 ⟨rfl, hpb, hgb⟩
        have S9 := Hid.mk' (SY.out.call hgb hpb)
        clear hpb hgb KB SY
        obtain ⟨⟨x0, x1, x2, x3, x4⟩, -⟩ := S9.out.x
        obtain ⟨⟨z0, z1, z2, z3, z4⟩, zf⟩ := S9.out.z
        simp only [Nat.zero_add] at x0 x1 x2 x3 x4 z0 z1 z2 z3 z4
        have zf0 := zf 0
        have zf1 := zf 1
        have zf2 := zf 2
        have zf3 := zf 3
        have zf4 := zf 4
        clear zf
        go_wp2
        refine body_gen (fun V => C5 V w.heap.size 0 (.int .i64 67) (.int .i64 0) (.int .i64 0) (.int .u64 v) (.slice none 0 0) ∧ Pb V p true ∧ w.grownBy V (some p)) (S9.out.fin _ _ _ _ _) ?_
        rintro V ⟨⟨⟨t0, t1, t2, t3, t4⟩, -⟩, tU, gU⟩
        simp only [Nat.zero_add] at t0 t1 t2 t3 t4
        have HU := Hid.mk' (And.intro tU gU)
        clear tU gU x0 x1 x2 x3 x4 z0 z1 z2 z3 z4 zf0 zf1 zf2 zf3 zf4
        exact bodyPost_ret (v := inV ⟨67, 0, 0, v, []⟩ none 0) (by simp [results, Tryz.results13, go_sem, t0, t1, t2, t3, t4]) rfl ⟨⟨67, 0, 0, v, []⟩, none, 0, true, rfl, rfl, has_nil _, HU.out.1, HU.out.2, fun h => absurd h (by decide), fun _ ⟨y, hy⟩ => by rw [arg_9] at hy; obtain ⟨s2, u, e2, hn, -⟩ := hy; cases e2; rw [okB_iff 8 4294967295 t (by decide) (by decide) (by decide), HOK.out] at hn; exact absurd hn (by decide)⟩
set_option maxHeartbeats 8000000 in
theorem sri_10 (p b o c : Nat) (s : Wd) (r : List Wd) (w : World) (h : Pb w p false) (hb : b < p) (hc : ∀ i, i < (s :: r).length → w.cell? ⟨b, o + i, none⟩ = some (.string (S ((s :: r).getD i [])))) (hcap : (s :: r).length ≤ c) (hl : ∀ x ∈ s :: r, x.length ≤ 1099511627776) (hrl : r.length ≤ 1099511627776) (hf : formR (rowOf (codeI s)) = 10) :
    Calls Tryz.prog 13 #[.pointer (some ⟨p, 0, none⟩), .slice (some ⟨b, o, none⟩) (s :: r).length c] w (SiP 10 (codeI s) r w p) := by
  have cx := hc 0 (by simp)
  simp only [Nat.add_zero, List.getD_cons_zero] at cx
  obtain ⟨W, hW⟩ : ∃ W, W = w.alloc (.cells #[.int .i64 0, .int .i64 0, .int .i64 0, .int .u64 0, .slice none 0 0] 26) := ⟨_, rfl⟩
  have hbW : Below w.heap.size w W := by rw [hW]; exact (Below.refl _ _).alloc (Nat.le_refl _) _
  have hsW : Hid (W.heap.size = w.heap.size + 1) := by show _ = _; rw [hW]; simp
  have hzW : C5 W w.heap.size 0 (.int .i64 0) (.int .i64 0) (.int .i64 0) (.int .u64 0) (.slice none 0 0) := by rw [hW]; exact C5.new
  have cxW : W.cell? ⟨b, o, none⟩ = some (.string (S s)) := (hbW.cell (p := ⟨b, o, none⟩) (World.block_lt_of_cell? w _ cx)).trans cx
  have KC := Hid.mk' (scode_c (S s) W)
  rw [S_toList] at KC
  have HW := Hid.mk' hW
  simp only [List.length_cons] at hcap ⊢
  have HWV := Hid.mk' (wv_rest hb hc hcap)
  have hlr : ∀ x ∈ r, x.length ≤ 1099511627776 := fun x hx => hl x (by simp [hx])
  have HL := Hid.mk' hlr
  have HPB := Hid.mk' h
  have hplt := h.lt
  have hp1 : ¬ ((c : Int) < (r.length : Int) + 1) := by omega
  have KF := Hid.mk' (fun U => sform_c (codeI s) U)
  rw [hf] at KF
  have hop := (form_op (codeI s)).2.2.2 hf
  clear cx hW hc hl hlr h hf
  generalize codeI s = op at *
  subst hop
  go_enter Tryz.func13, Tryz.ntmps13
  go_upto_region 1 with fail
  rw [show w.alloc (.cells #[.int .i64 0, .int .i64 0, .int .i64 0, .int .u64 0, .slice none 0 0] 26) = W from HW.out.symm]
  go_wp2_with fail
  refine KC.out.mono ?_
  rintro e w1 ⟨rfl, hb1⟩
  go_upto_region 3 with fail
  generalize (if c = 1 then (some ⟨b, o, none⟩ : Option Addr) else some ⟨b, o + 1, none⟩) = ra at *
  generalize c - 1 = rc at *
  have hx1 : w.heap.size < w1.heap.size := by have := hb1.size; have := hsW.out; omega
  have hbU : Below w.heap.size w w1 := hbW.trans (hb1.mono (by have := hsW.out; omega))
  have hz1 : C5 w1 w.heap.size 0 (.int .i64 0) (.int .i64 0) (.int .i64 0) (.int .u64 0) (.slice none 0 0) := hzW.keep hb1
  refine wp_gen (fun U => Sx w p w1.heap.size ra r false (.int .i64 68) (.int .i64 0) (.int .i64 0) (.int .u64 0) (.slice none 0 0) U) ⟨C5.new, hz1.past, HPB.out.keep (hbU.alloc hbU.size _), below_gr (hbU.alloc hbU.size _), HWV.out.keep (hbU.alloc hbU.size _) hplt, hplt, hx1⟩ ?_
  rintro U SU0
  have SU := Hid.mk' SU0
  have x0 := SU0.x.1.1
  clear SU0 HWV HPB hbW hsW hzW cxW KC HW hp1 hcap hb1 hbU hz1 hx1
  go_wp2_with fail
  refine (KF.out _).mono ?_
  rintro e w2 ⟨rfl, rfl⟩
  clear KF x0
  match r, hrl, HL, SU with
  | [], hrl, HL, SU =>
    simp only [List.length_nil]
    have KB := Hid.mk' (bad_c p _ _ SU.out.pb)
    go_wp2_with fail
    refine KB.out.mono ?_
    rintro e w9 ⟨rfl, hpb, hgb⟩
    have S9 := Hid.mk' (SU.out.call hgb hpb)
    clear hpb hgb KB SU
    obtain ⟨⟨x0, x1, x2, x3, x4⟩, -⟩ := S9.out.x
    obtain ⟨⟨z0, z1, z2, z3, z4⟩, zf⟩ := S9.out.z
    simp only [Nat.zero_add] at x0 x1 x2 x3 x4 z0 z1 z2 z3 z4
    have zf0 := zf 0
    have zf1 := zf 1
    have zf2 := zf 2
    have zf3 := zf 3
    have zf4 := zf 4
    clear zf
    go_wp2
    refine body_gen (fun V => C5 V w.heap.size 0 (.int .i64 68) (.int .i64 0) (.int .i64 0) (.int .u64 0) (.slice none 0 0) ∧ Pb V p true ∧ w.grownBy V (some p)) (S9.out.fin _ _ _ _ _) ?_
    rintro V ⟨⟨⟨t0, t1, t2, t3, t4⟩, -⟩, tU, gU⟩
    simp only [Nat.zero_add] at t0 t1 t2 t3 t4
    have HU := Hid.mk' (And.intro tU gU)
    clear tU gU x0 x1 x2 x3 x4 z0 z1 z2 z3 z4 zf0 zf1 zf2 zf3 zf4
    exact bodyPost_ret (v := inV ⟨68, 0, 0, 0, []⟩ none 0) (by simp [results, Tryz.results13, go_sem, t0, t1, t2, t3, t4]) rfl ⟨⟨68, 0, 0, 0, []⟩, none, 0, true, rfl, rfl, has_nil _, HU.out.1, HU.out.2, fun h => absurd h (by decide), fun _ ⟨y, hy⟩ => by rw [arg_10] at hy; obtain ⟨s2, v2, e2, -⟩ := hy; cases e2⟩
  | t :: t2 :: r, hrl, HL, SU =>
    have hl1 : ¬ (r.length : Int) + 1 + 1 = 1 := by omega
    simp only [List.length_cons]
    have KB := Hid.mk' (bad_c p _ _ SU.out.pb)
    go_wp2_with fail
    refine KB.out.mono ?_
    rintro e w9 ⟨rfl, hpb, hgb⟩
    have S9 := Hid.mk' (SU.out.call hgb hpb)
    clear hpb hgb KB SU
    obtain ⟨⟨x0, x1, x2, x3, x4⟩, -⟩ := S9.out.x
    obtain ⟨⟨z0, z1, z2, z3, z4⟩, zf⟩ := S9.out.z
    simp only [Nat.zero_add] at x0 x1 x2 x3 x4 z0 z1 z2 z3 z4
    have zf0 := zf 0
    have zf1 := zf 1
    have zf2 := zf 2
    have zf3 := zf 3
    have zf4 := zf 4
    clear zf
    go_wp2
    refine body_gen (fun V => C5 V w.heap.size 0 (.int .i64 68) (.int .i64 0) (.int .i64 0) (.int .u64 0) (.slice none 0 0) ∧ Pb V p true ∧ w.grownBy V (some p)) (S9.out.fin _ _ _ _ _) ?_
    rintro V ⟨⟨⟨t0, t1, t2, t3, t4⟩, -⟩, tU, gU⟩
    simp only [Nat.zero_add] at t0 t1 t2 t3 t4
    have HU := Hid.mk' (And.intro tU gU)
    clear tU gU x0 x1 x2 x3 x4 z0 z1 z2 z3 z4 zf0 zf1 zf2 zf3 zf4
    exact bodyPost_ret (v := inV ⟨68, 0, 0, 0, []⟩ none 0) (by simp [results, Tryz.results13, go_sem, t0, t1, t2, t3, t4]) rfl ⟨⟨68, 0, 0, 0, []⟩, none, 0, true, rfl, rfl, has_nil _, HU.out.1, HU.out.2, fun h => absurd h (by decide), fun _ ⟨y, hy⟩ => by rw [arg_10] at hy; obtain ⟨s2, v2, e2, -⟩ := hy; cases e2⟩
  | [t], hrl, HL, SU =>
    rcases SU.out.wv with e | ⟨b5, o5, rfl, hb5, hc5⟩
    · cases e
    have ct := hc5 0 (by simp)
    simp only [Nat.add_zero, List.getD_cons_zero] at ct
    clear hc5
    have KN := Hid.mk' (fun V => con68_c t V (HL.out t (by simp)))
    have x0 := SU.out.x.1.1
    have x3 := SU.out.x.1.2.2.2.1
    have xf3 := SU.out.x.2 3
    simp only [Nat.zero_add] at x3 xf3
    have S5 := Hid.mk' SU.out.drew
    simp only [List.length_cons, List.length_nil]
    cases hok : (bitM 16 t).isSome with
    | true =>
      rw [hok] at KN
      have HOK := Hid.mk' hok
      clear hok
      go_upto_region 42 with fail
      go_region_law (first
        | (go_simp
           refine (KN.out _).mono ?_
           rintro e w5 ⟨rfl, v, rfl, hv⟩
           have HV := Hid.mk' hv
           clear hv))
      all_goals
        go_upto_region 44 with fail
        refine wp_gen (fun V => Sx w p w1.heap.size (some ⟨b5, o5, none⟩) [t] false (.int .i64 68) (.int .i64 0) (.int .i64 0) (.int .u64 v) (.slice none 0 0) V) S5.out.set3 ?_
        rintro V6 SY0
        have SY := Hid.mk' SY0
        clear SY0 x0 x3 xf3 S5 SU
        obtain ⟨⟨x0, x1, x2, x3, x4⟩, -⟩ := SY.out.x
        obtain ⟨⟨z0, z1, z2, z3, z4⟩, zf⟩ := SY.out.z
        simp only [Nat.zero_add] at x0 x1 x2 x3 x4 z0 z1 z2 z3 z4
        have zf0 := zf 0
        have zf1 := zf 1
        have zf2 := zf 2
        have zf3 := zf 3
        have zf4 := zf 4
        clear zf
        go_wp2
        refine body_gen (fun V => C5 V w.heap.size 0 (.int .i64 68) (.int .i64 0) (.int .i64 0) (.int .u64 v) (.slice none 0 0) ∧ Pb V p false ∧ w.grownBy V (some p)) (SY.out.fin _ _ _ _ _) ?_
        rintro V ⟨⟨⟨t0, t1, t2, t3, t4⟩, -⟩, tU, gU⟩
        simp only [Nat.zero_add] at t0 t1 t2 t3 t4
        have HU := Hid.mk' (And.intro tU gU)
        clear tU gU x0 x1 x2 x3 x4 z0 z1 z2 z3 z4 zf0 zf1 zf2 zf3 zf4
        exact bodyPost_ret (v := inV ⟨68, 0, 0, v, []⟩ none 0) (by simp [results, Tryz.results13, go_sem, t0, t1, t2, t3, t4]) rfl ⟨⟨68, 0, 0, v, []⟩, none, 0, false, rfl, rfl, has_nil _, HU.out.1, HU.out.2, fun _ => ⟨by decide, by rw [arg_10]; obtain ⟨u, h1, rfl⟩ := HV.out trivial; obtain ⟨k1, k2⟩ := (bitM_iff 16 t u).1 h1; exact ⟨t, u, rfl, by rw [okB_iff 16 18446744073709551615 t (by decide) (by decide) (by decide)]; exact HOK.out, Nat.le_of_lt_succ (by simpa using k1), k2, rfl⟩⟩, fun _ _ => rfl⟩
    | false =>
      rw [hok] at KN
      have HOK := Hid.mk' hok
      clear hok
      go_upto_region 42 with fail
      go_region_law (first
        | (go_simp
           refine (KN.out _).mono ?_
           rintro e w5 ⟨rfl, v, rfl, hv⟩
           have HV := Hid.mk' hv
           clear hv))
      all_goals
        go_upto_region 44 with fail
        refine wp_gen (fun V => Sx w p w1.heap.size (some ⟨b5, o5, none⟩) [t] false (.int .i64 68) (.int .i64 0) (.int .i64 0) (.int .u64 v) (.slice none 0 0) V) S5.out.set3 ?_
        rintro V6 SY0
        have SY := Hid.mk' SY0
        clear SY0 x0 x3 xf3 S5 SU
        have KB := Hid.mk' (bad_c p _ _ SY.out.pb)
        go_wp2_with fail
        refine KB.out.mono ?_
        rintro e w9 ⟨rfl, hpb, hgb⟩
        have S9 := Hid.mk' (SY.out.call hgb hpb)
        clear hpb hgb KB SY
        obtain ⟨⟨x0, x1, x2, x3, x4⟩, -⟩ := S9.out.x
        obtain ⟨⟨z0, z1, z2, z3, z4⟩, zf⟩ := S9.out.z
        simp only [Nat.zero_add] at x0 x1 x2 x3 x4 z0 z1 z2 z3 z4
        have zf0 := zf 0
        have zf1 := zf 1
        have zf2 := zf 2
        have zf3 := zf 3
        have zf4 := zf 4
        clear zf
        go_wp2
        refine body_gen (fun V => C5 V w.heap.size 0 (.int .i64 68) (.int .i64 0) (.int .i64 0) (.int .u64 v) (.slice none 0 0) ∧ Pb V p true ∧ w.grownBy V (some p)) (S9.out.fin _ _ _ _ _) ?_
        rintro V ⟨⟨⟨t0, t1, t2, t3, t4⟩, -⟩, tU, gU⟩
        simp only [Nat.zero_add] at t0 t1 t2 t3 t4
        have HU := Hid.mk' (And.intro tU gU)
        clear tU gU x0 x1 x2 x3 x4 z0 z1 z2 z3 z4 zf0 zf1 zf2 zf3 zf4
        exact bodyPost_ret (v := inV ⟨68, 0, 0, v, []⟩ none 0) (by simp [results, Tryz.results13, go_sem, t0, t1, t2, t3, t4]) rfl ⟨⟨68, 0, 0, v, []⟩, none, 0, true, rfl, rfl, has_nil _, HU.out.1, HU.out.2, fun h => absurd h (by decide), fun _ ⟨y, hy⟩ => by rw [arg_10] at hy; obtain ⟨s2, u, e2, hn, -⟩ := hy; cases e2; rw [okB_iff 16 18446744073709551615 t (by decide) (by decide) (by decide), HOK.out] at hn; exact absurd hn (by decide)⟩
end Go.Proofs.YtngepdhhdbhglaaGreatDoor
