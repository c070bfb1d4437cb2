import Derived.Test.YtngepdhhdbhglaaGreatDoorZj
import Derived.Test.YtngepdhhdbhglaaGreatDoorZk
import Derived.Lib.IndexLaws
import Derived.Test.YtngepdhhdbhglaaGreatDoorZm
set_option linter.all false
set_option linter.unusedVariables false
namespace Go.Proofs.YtngepdhhdbhglaaGreatDoor
open Go.RowKit Go.Sort
set_option maxRecDepth 100000
theorem own_cells {w : World} {B : Nat} {v : Value} {vs : List Int} (h : w.ownsRow B 2 1 v vs.length (I vs)) (hn : 1 ≤ vs.length) : ∃ g cap, v = .slice (some ⟨g, 0, none⟩) vs.length cap ∧ B ≤ g ∧ vs.length ≤ cap ∧ ∀ i, i < vs.length → w.cell? ⟨g, i, none⟩ = some (.int .i64 (vs.getD i 0)) := by
  rcases h.2 with ⟨_, h0⟩ | ⟨g, cap, cur, hv, hB, hg, hc, _⟩
  · omega
  · subst hv
    refine ⟨g, cap, rfl, hB, hc, fun i hi => ?_⟩
    rw [h.cellAt i (by omega)]
    simp [I, List.getD, hi]
theorem nms_len : ∀ (ss : List Wd) (vs : List Int), Nms ss vs → ss.length = vs.length
  | [], [], _ => rfl
  | [], _ :: _, g => g.elim
  | _ :: _, [], g => g.elim
  | _ :: ss, _ :: vs, g => by simp [nms_len ss vs g.2]
set_option maxHeartbeats 8000000 in
theorem sri_5 (p b o c : Nat) (s : Wd) (r : List Wd) (w : World) (h : Pb w p false) (hb : b < p) (hc : ∀ i, i < (s :: r).length → w.cell? ⟨b, o + i, none⟩ = some (.string (S ((s :: r).getD i [])))) (hcap : (s :: r).length ≤ c) (hl : ∀ x ∈ s :: r, x.length ≤ 1099511627776) (hrl : r.length ≤ 1099511627776) (hf : formR (rowOf (codeI s)) = 5) :
    Calls Tryz.prog 13 #[.pointer (some ⟨p, 0, none⟩), .slice (some ⟨b, o, none⟩) (s :: r).length c] w (SiP 5 (codeI s) r w p) := by
  have cx := hc 0 (by simp)
  simp only [Nat.add_zero, List.getD_cons_zero] at cx
  obtain ⟨W, hW⟩ : ∃ W, W = w.alloc (.cells #[.int .i64 0, .int .i64 0, .int .i64 0, .int .u64 0, .slice none 0 0] 26) := ⟨_, rfl⟩
  have hbW : Below w.heap.size w W := by rw [hW]; exact (Below.refl _ _).alloc (Nat.le_refl _) _
  have hsW : Hid (W.heap.size = w.heap.size + 1) := by show _ = _; rw [hW]; simp
  have hzW : C5 W w.heap.size 0 (.int .i64 0) (.int .i64 0) (.int .i64 0) (.int .u64 0) (.slice none 0 0) := by rw [hW]; exact C5.new
  have cxW : W.cell? ⟨b, o, none⟩ = some (.string (S s)) := (hbW.cell (p := ⟨b, o, none⟩) (World.block_lt_of_cell? w _ cx)).trans cx
  have KC := Hid.mk' (scode_c (S s) W)
  rw [S_toList] at KC
  have HW := Hid.mk' hW
  simp only [List.length_cons] at hcap ⊢
  have HWV := Hid.mk' (wv_rest hb hc hcap)
  have hlr : ∀ x ∈ r, x.length ≤ 1099511627776 := fun x hx => hl x (by simp [hx])
  have HL := Hid.mk' hlr
  have HPB := Hid.mk' h
  have hplt := h.lt
  have hp1 : ¬ ((c : Int) < (r.length : Int) + 1) := by omega
  have KF := Hid.mk' (fun U => sform_c (codeI s) U)
  rw [hf] at KF
  clear cx hW hc hl hlr h hf
  generalize codeI s = op at *
  go_enter Tryz.func13, Tryz.ntmps13
  go_upto_region 1 with fail
  rw [show w.alloc (.cells #[.int .i64 0, .int .i64 0, .int .i64 0, .int .u64 0, .slice none 0 0] 26) = W from HW.out.symm]
  go_wp2_with fail
  refine KC.out.mono ?_
  rintro e w1 ⟨rfl, hb1⟩
  go_upto_region 3 with fail
  generalize (if c = 1 then (some ⟨b, o, none⟩ : Option Addr) else some ⟨b, o + 1, none⟩) = ra at *
  generalize c - 1 = rc at *
  have hx1 : w.heap.size < w1.heap.size := by have := hb1.size; have := hsW.out; omega
  have hbU : Below w.heap.size w w1 := hbW.trans (hb1.mono (by have := hsW.out; omega))
  have hz1 : C5 w1 w.heap.size 0 (.int .i64 0) (.int .i64 0) (.int .i64 0) (.int .u64 0) (.slice none 0 0) := hzW.keep hb1
  refine wp_gen (fun U => Sx w p w1.heap.size ra r false (.int .i64 op) (.int .i64 0) (.int .i64 0) (.int .u64 0) (.slice none 0 0) U) ⟨C5.new, hz1.past, HPB.out.keep (hbU.alloc hbU.size _), below_gr (hbU.alloc hbU.size _), HWV.out.keep (hbU.alloc hbU.size _) hplt, hplt, hx1⟩ ?_
  rintro U SU0
  have SU := Hid.mk' SU0
  have x0 := SU0.x.1.1
  clear SU0 HWV HPB hbW hsW hzW cxW KC HW hp1 hcap hb1 hbU hz1 hx1
  go_wp2_with fail
  refine (KF.out _).mono ?_
  rintro e w2 ⟨rfl, rfl⟩
  clear KF x0
  have KR := Hid.mk' (srn_c p ra rc r false _ SU.out.pb SU.out.wv HL.out hrl)
  go_wp2_with fail
  refine KR.out.mono ?_
  rintro e w3 ⟨v, vs, b2, rfl, hown, hvl, hpb, hgb, A1, A2⟩
  have S3 := Hid.mk' (SU.out.call hgb hpb)
  have HA := Hid.mk' (And.intro hvl (And.intro A1 A2))
  have hXU : w1.heap.size < U.heap.size := World.block_lt_of_cell? U _ SU.out.x.1.1
  obtain ⟨va, vc, rfl⟩ := ownE_slice hown
  clear hpb hgb A1 A2 KR SU hvl
  by_cases h2 : vs.length = 2
  · obtain ⟨v1, v2, rfl⟩ : ∃ v1 v2, vs = [v1, v2] := by
      match vs, h2 with
      | [a, b], _ => exact ⟨a, b, rfl⟩
    obtain ⟨g, cap, e, hg, hcap2, hcc⟩ := own_cells hown (by simp)
    cases e
    have d0 := hcc 0 (by simp)
    have d1 := hcc 1 (by simp)
    simp only [List.getD_cons_zero, List.getD_cons_succ] at d0 d1
    simp only [List.length_cons, List.length_nil, Nat.zero_add, Nat.reduceAdd] at hcap2 ⊢
    have x1 := S3.out.x.1.2.1
    have xf1 := S3.out.x.2 1
    simp only [Nat.zero_add] at x1 xf1
    clear hcc hown h2
    go_upto_region 34 with fail
    refine wp_gen (fun V => Sx w p w1.heap.size ra r b2 (.int .i64 op) (.int .i64 v1) (.int .i64 0) (.int .u64 0) (.slice none 0 0) V ∧ V.cell? ⟨g, 1, none⟩ = some (.int .i64 v2)) ⟨S3.out.set1, by rw [World.cell?_setCell_other _ _ _ _ (fun e => by have e2 : w1.heap.size = g := congrArg Addr.block e; omega)]; exact d1⟩ ?_
    rintro V4 ⟨SV0, e1⟩
    have SV := Hid.mk' SV0
    have y1 := SV0.x.1.2.2.1
    have yf1 := SV0.x.2 2
    simp only [Nat.zero_add] at y1 yf1
    clear SV0 x1 xf1 d0 d1 S3
    go_upto_region 46 with fail
    refine wp_gen (fun V => Sx w p w1.heap.size ra r b2 (.int .i64 op) (.int .i64 v1) (.int .i64 v2) (.int .u64 0) (.slice none 0 0) V) SV.out.set2 ?_
    rintro V6 SY0
    have SY := Hid.mk' SY0
    clear SY0 y1 yf1 e1 SV
    obtain ⟨⟨x0, x1, x2, x3, x4⟩, -⟩ := SY.out.x
    obtain ⟨⟨z0, z1, z2, z3, z4⟩, zf⟩ := SY.out.z
    simp only [Nat.zero_add] at x0 x1 x2 x3 x4 z0 z1 z2 z3 z4
    have zf0 := zf 0
    have zf1 := zf 1
    have zf2 := zf 2
    have zf3 := zf 3
    have zf4 := zf 4
    clear zf
    go_wp2
    refine body_gen (fun V => C5 V w.heap.size 0 (.int .i64 op) (.int .i64 v1) (.int .i64 v2) (.int .u64 0) (.slice none 0 0) ∧ Pb V p b2 ∧ w.grownBy V (some p)) (SY.out.fin _ _ _ _ _) ?_
    rintro V ⟨⟨⟨t0, t1, t2, t3, t4⟩, -⟩, tU, gU⟩
    simp only [Nat.zero_add] at t0 t1 t2 t3 t4
    have HU := Hid.mk' (And.intro tU gU)
    clear tU gU x0 x1 x2 x3 x4 z0 z1 z2 z3 z4 zf0 zf1 zf2 zf3 zf4
    exact bodyPost_ret (v := inV ⟨op, v1, v2, 0, []⟩ none 0) (by simp [results, Tryz.results13, go_sem, t0, t1, t2, t3, t4]) rfl ⟨⟨op, v1, v2, 0, []⟩, none, 0, b2, rfl, rfl, has_nil _, HU.out.1, HU.out.2, fun h => ⟨by decide, by
          rw [arg_5]
          have hn := (HA.out.2.1 h).2
          match r, hn with
          | [s1, s2], hn => exact ⟨s1, s2, v1, v2, rfl, hn.1, hn.2.1, rfl⟩⟩, fun _ ⟨y, hy⟩ => by
          rw [arg_5] at hy
          obtain ⟨s1, s2, u1, u2, rfl, n1, n2, -⟩ := hy
          exact HA.out.2.2 trivial (fun t ht => by
            simp at ht
            rcases ht with rfl | rfl
            · exact n1.1
            · exact n2.1)⟩
  · have hl1 : ¬ (vs.length : Int) = 2 := by omega
    have H2 := Hid.mk' h2
    clear h2 hown
    have KB := Hid.mk' (bad_c p _ _ S3.out.pb)
    go_wp2_with fail
    refine KB.out.mono ?_
    rintro e w9 ⟨rfl, hpb, hgb⟩
    have S9 := Hid.mk' (S3.out.call hgb hpb)
    clear hpb hgb KB S3
    obtain ⟨⟨x0, x1, x2, x3, x4⟩, -⟩ := S9.out.x
    obtain ⟨⟨z0, z1, z2, z3, z4⟩, zf⟩ := S9.out.z
    simp only [Nat.zero_add] at x0 x1 x2 x3 x4 z0 z1 z2 z3 z4
    have zf0 := zf 0
    have zf1 := zf 1
    have zf2 := zf 2
    have zf3 := zf 3
    have zf4 := zf 4
    clear zf
    go_wp2
    refine body_gen (fun V => C5 V w.heap.size 0 (.int .i64 op) (.int .i64 0) (.int .i64 0) (.int .u64 0) (.slice none 0 0) ∧ Pb V p true ∧ w.grownBy V (some p)) (S9.out.fin _ _ _ _ _) ?_
    rintro V ⟨⟨⟨t0, t1, t2, t3, t4⟩, -⟩, tU, gU⟩
    simp only [Nat.zero_add] at t0 t1 t2 t3 t4
    have HU := Hid.mk' (And.intro tU gU)
    clear tU gU x0 x1 x2 x3 x4 z0 z1 z2 z3 z4 zf0 zf1 zf2 zf3 zf4
    exact bodyPost_ret (v := inV ⟨op, 0, 0, 0, []⟩ none 0) (by simp [results, Tryz.results13, go_sem, t0, t1, t2, t3, t4]) rfl ⟨⟨op, 0, 0, 0, []⟩, none, 0, true, rfl, rfl, has_nil _, HU.out.1, HU.out.2, fun h => absurd h (by decide), fun _ ⟨y, hy⟩ => by
          rw [arg_5] at hy
          obtain ⟨s1, s2, u1, u2, rfl, -⟩ := hy
          exact absurd HA.out.1 H2.out⟩
end Go.Proofs.YtngepdhhdbhglaaGreatDoor

namespace Go.Proofs.YtngepdhhdbhglaaGreatDoor
open Go.RowKit Go.Sort
set_option maxRecDepth 100000
theorem ownE_take {w : World} {B e g cap n : Nat} {zs : List Value} (h : w.ownsRow B e 1 (.slice (some ⟨g, 0, none⟩) (n + 1) cap) (n + 1) zs) : w.ownsRow B e 1 (.slice (some ⟨g, 0, none⟩) n cap) n (zs.take n) := by
  rcases h.2 with ⟨h', _⟩ | ⟨g', cap', cur, h', hb, hg, hnc, hcm, hcs, htake⟩
  · simp at h'
  · simp only [Value.slice.injEq, Option.some.injEq, Addr.mk.injEq, and_true, true_and] at h'
    obtain ⟨rfl, rfl⟩ := h'
    have hl := h.1
    refine ⟨by simp; omega, .inr ⟨g, cap, cur, rfl, hb, hg, by omega, hcm, hcs, ?_⟩⟩
    rw [← htake, List.take_take]
    congr 1
    omega
theorem own_hasI {w : World} {B : Nat} {g cap : Nat} {vs : List Int} (h : w.ownsRow B 2 1 (.slice (some ⟨g, 0, none⟩) vs.length cap) vs.length (I vs)) : Has w (some ⟨g, 0, none⟩) vs := by
  refine .inr ⟨g, 0, rfl, fun i hi => ?_⟩
  rw [Nat.zero_add, h.cellAt i (by omega)]
  simp [I, List.getD, hi]
theorem own_hz {w : World} {B n : Nat} {g cap : Nat} {vs : List Int} (hn : n ≤ B) (h : w.ownsRow B 2 1 (.slice (some ⟨g, 0, none⟩) vs.length cap) vs.length (I vs)) : Hz n w (some ⟨g, 0, none⟩) vs := by
  refine ⟨own_hasI h, fun p e => ?_⟩
  cases e
  rcases h.2 with ⟨h', _⟩ | ⟨g', cap', cur, h', hb, _⟩
  · simp at h'
  · simp only [Value.slice.injEq, Option.some.injEq, Addr.mk.injEq, and_true, true_and] at h'
    obtain ⟨rfl, rfl⟩ := h'
    show n ≤ g
    omega
theorem nms_split : ∀ (r : List Wd) (vs : List Int) (v : Int), Nms r (vs ++ [v]) → ∃ ss s, r = ss ++ [s] ∧ Nms ss vs ∧ Nm 0 4294967295 s v
  | [], [], v, g => g.elim
  | [], _ :: _, v, g => g.elim
  | s :: r, [], v, g => by
    match r, g with
    | [], g => exact ⟨[], s, rfl, trivial, g.1⟩
  | s :: r, u :: vs, v, g => by
    obtain ⟨ss, t, e, h1, h2⟩ := nms_split r vs v g.2
    exact ⟨s :: ss, t, by rw [e]; rfl, ⟨g.1, h1⟩, h2⟩
set_option maxHeartbeats 8000000 in
theorem sri_3 (p b o c : Nat) (s : Wd) (r : List Wd) (w : World) (h : Pb w p false) (hb : b < p) (hc : ∀ i, i < (s :: r).length → w.cell? ⟨b, o + i, none⟩ = some (.string (S ((s :: r).getD i [])))) (hcap : (s :: r).length ≤ c) (hl : ∀ x ∈ s :: r, x.length ≤ 1099511627776) (hrl : r.length ≤ 1099511627776) (hf : formR (rowOf (codeI s)) = 3) :
    Calls Tryz.prog 13 #[.pointer (some ⟨p, 0, none⟩), .slice (some ⟨b, o, none⟩) (s :: r).length c] w (SiP 3 (codeI s) r w p) := by
  have cx := hc 0 (by simp)
  simp only [Nat.add_zero, List.getD_cons_zero] at cx
  obtain ⟨W, hW⟩ : ∃ W, W = w.alloc (.cells #[.int .i64 0, .int .i64 0, .int .i64 0, .int .u64 0, .slice none 0 0] 26) := ⟨_, rfl⟩
  have hbW : Below w.heap.size w W := by rw [hW]; exact (Below.refl _ _).alloc (Nat.le_refl _) _
  have hsW : Hid (W.heap.size = w.heap.size + 1) := by show _ = _; rw [hW]; simp
  have hzW : C5 W w.heap.size 0 (.int .i64 0) (.int .i64 0) (.int .i64 0) (.int .u64 0) (.slice none 0 0) := by rw [hW]; exact C5.new
  have cxW : W.cell? ⟨b, o, none⟩ = some (.string (S s)) := (hbW.cell (p := ⟨b, o, none⟩) (World.block_lt_of_cell? w _ cx)).trans cx
  have KC := Hid.mk' (scode_c (S s) W)
  rw [S_toList] at KC
  have HW := Hid.mk' hW
  simp only [List.length_cons] at hcap ⊢
  have HWV := Hid.mk' (wv_rest hb hc hcap)
  have hlr : ∀ x ∈ r, x.length ≤ 1099511627776 := fun x hx => hl x (by simp [hx])
  have HL := Hid.mk' hlr
  have HPB := Hid.mk' h
  have hplt := h.lt
  have hp1 : ¬ ((c : Int) < (r.length : Int) + 1) := by omega
  have KF := Hid.mk' (fun U => sform_c (codeI s) U)
  rw [hf] at KF
  clear cx hW hc hl hlr h hf
  generalize codeI s = op at *
  go_enter Tryz.func13, Tryz.ntmps13
  go_upto_region 1 with fail
  rw [show w.alloc (.cells #[.int .i64 0, .int .i64 0, .int .i64 0, .int .u64 0, .slice none 0 0] 26) = W from HW.out.symm]
  go_wp2_with fail
  refine KC.out.mono ?_
  rintro e w1 ⟨rfl, hb1⟩
  go_upto_region 3 with fail
  generalize (if c = 1 then (some ⟨b, o, none⟩ : Option Addr) else some ⟨b, o + 1, none⟩) = ra at *
  generalize c - 1 = rc at *
  have hx1 : w.heap.size < w1.heap.size := by have := hb1.size; have := hsW.out; omega
  have hbU : Below w.heap.size w w1 := hbW.trans (hb1.mono (by have := hsW.out; omega))
  have hz1 : C5 w1 w.heap.size 0 (.int .i64 0) (.int .i64 0) (.int .i64 0) (.int .u64 0) (.slice none 0 0) := hzW.keep hb1
  refine wp_gen (fun U => Sx w p w1.heap.size ra r false (.int .i64 op) (.int .i64 0) (.int .i64 0) (.int .u64 0) (.slice none 0 0) U) ⟨C5.new, hz1.past, HPB.out.keep (hbU.alloc hbU.size _), below_gr (hbU.alloc hbU.size _), HWV.out.keep (hbU.alloc hbU.size _) hplt, hplt, hx1⟩ ?_
  rintro U SU0
  have SU := Hid.mk' SU0
  have x0 := SU0.x.1.1
  clear SU0 HWV HPB hbW hsW hzW cxW KC HW hp1 hcap hb1 hbU hz1 hx1
  go_wp2_with fail
  refine (KF.out _).mono ?_
  rintro e w2 ⟨rfl, rfl⟩
  clear KF x0
  have KR := Hid.mk' (srn_c p ra rc r false _ SU.out.pb SU.out.wv HL.out hrl)
  go_wp2_with fail
  refine KR.out.mono ?_
  rintro e w3 ⟨vv, us, b2, rfl, hown, hvl, hpb, hgb, A1, A2⟩
  have S3 := Hid.mk' (SU.out.call hgb hpb)
  have HA := Hid.mk' (And.intro hvl (And.intro A1 A2))
  have hXU : w1.heap.size < U.heap.size := World.block_lt_of_cell? U _ SU.out.x.1.1
  have hwU : w.heap.size < w1.heap.size := SU.out.hX
  have hul : us.length ≤ 1099511627776 := by omega
  clear hpb hgb A1 A2 KR SU hvl
  by_cases h2 : us = []
  · subst h2
    obtain ⟨va, vc, rfl⟩ := ownE_slice hown
    simp only [List.length_nil]
    clear hown
    have KB := Hid.mk' (bad_c p _ _ S3.out.pb)
    go_wp2_with fail
    refine KB.out.mono ?_
    rintro e w9 ⟨rfl, hpb, hgb⟩
    have S9 := Hid.mk' (S3.out.call hgb hpb)
    clear hpb hgb KB S3
    obtain ⟨⟨x0, x1, x2, x3, x4⟩, -⟩ := S9.out.x
    obtain ⟨⟨z0, z1, z2, z3, z4⟩, zf⟩ := S9.out.z
    simp only [Nat.zero_add] at x0 x1 x2 x3 x4 z0 z1 z2 z3 z4
    have zf0 := zf 0
    have zf1 := zf 1
    have zf2 := zf 2
    have zf3 := zf 3
    have zf4 := zf 4
    clear zf
    go_wp2
    refine body_gen (fun V => C5 V w.heap.size 0 (.int .i64 op) (.int .i64 0) (.int .i64 0) (.int .u64 0) (.slice none 0 0) ∧ Pb V p true ∧ w.grownBy V (some p)) (S9.out.fin _ _ _ _ _) ?_
    rintro V ⟨⟨⟨t0, t1, t2, t3, t4⟩, -⟩, tU, gU⟩
    simp only [Nat.zero_add] at t0 t1 t2 t3 t4
    have HU := Hid.mk' (And.intro tU gU)
    clear tU gU x0 x1 x2 x3 x4 z0 z1 z2 z3 z4 zf0 zf1 zf2 zf3 zf4
    exact bodyPost_ret (v := inV ⟨op, 0, 0, 0, []⟩ none 0) (by simp [results, Tryz.results13, go_sem, t0, t1, t2, t3, t4]) rfl ⟨⟨op, 0, 0, 0, []⟩, none, 0, true, rfl, rfl, has_nil _, HU.out.1, HU.out.2, fun h => absurd h (by decide), fun _ ⟨y, hy⟩ => by
          rw [arg_3] at hy
          obtain ⟨ss, s1, us, u, rfl, -⟩ := hy
          have := HA.out.1
          simp at this⟩
  · obtain ⟨vs, v, rfl⟩ : ∃ vs v, us = vs ++ [v] := ⟨us.dropLast, us.getLast h2, (List.dropLast_concat_getLast h2).symm⟩
    obtain ⟨g, cap, rfl, hg, hcap2, hcc⟩ := own_cells hown (by simp)
    have dl := hcc vs.length (by simp)
    have hgl : (vs ++ [v]).getD vs.length 0 = v := by simp [List.getD]
    rw [hgl] at dl
    have hn1 : (vs ++ [v]).length = vs.length + 1 := by simp
    rw [hn1] at hown hcap2 ⊢
    have OT : Hid (w3.ownsRow U.heap.size 2 1 (.slice (some ⟨g, 0, none⟩) vs.length cap) vs.length (I vs)) := by
      show World.ownsRow _ _ _ _ _ _ _
      have := ownE_take hown
      simpa [I] using this
    have hul2 : vs.length ≤ 1099511627776 := by rw [hn1] at hul; omega
    have wr1 : IntKind.i64.wrap ((vs.length : Int) + 1 - 1) = (vs.length : Int) := by rw [IntKind.wrap_i64]; omega
    have x4 := S3.out.x.1.2.2.2.2
    have xf4 := S3.out.x.2 4
    simp only [Nat.zero_add] at x4 xf4
    have hng : w1.heap.size ≠ g := by omega
    clear hcc hown h2 hgl hn1 hul
    go_upto_region 27 with fail
    refine wp_gen (fun V => Sx w p w1.heap.size ra r b2 (.int .i64 op) (.int .i64 0) (.int .i64 0) (.int .u64 0) (.slice (some ⟨g, 0, none⟩) vs.length cap) V ∧ V.cell? ⟨g, vs.length, none⟩ = some (.int .i64 v) ∧ V.ownsRow U.heap.size 2 1 (.slice (some ⟨g, 0, none⟩) vs.length cap) vs.length (I vs)) ⟨S3.out.set4, by rw [World.cell?_setCell_other _ _ _ _ (fun e => hng (congrArg Addr.block e))]; exact dl, ownsRow_setCell_below OT.out (show w1.heap.size < _ from hXU) _⟩ ?_
    rintro V4 ⟨SV0, e1, oV⟩
    have SV := Hid.mk' SV0
    have OV := Hid.mk' oV
    have y1 := SV0.x.1.2.1
    have yf1 := SV0.x.2 1
    simp only [Nat.zero_add] at y1 yf1
    clear SV0 oV x4 xf4 dl S3 OT
    go_upto_region 46 with fail
    refine wp_gen (fun V => Sx w p w1.heap.size ra r b2 (.int .i64 op) (.int .i64 v) (.int .i64 0) (.int .u64 0) (.slice (some ⟨g, 0, none⟩) vs.length cap) V ∧ V.ownsRow U.heap.size 2 1 (.slice (some ⟨g, 0, none⟩) vs.length cap) vs.length (I vs)) ⟨SV.out.set1, ownsRow_setCell_below OV.out (show w1.heap.size < _ from hXU) _⟩ ?_
    rintro V6 ⟨SY0, oY⟩
    have SY := Hid.mk' SY0
    have OY := Hid.mk' oY
    clear SY0 oY y1 yf1 e1 SV OV
    obtain ⟨⟨x0, x1, x2, x3, x4⟩, -⟩ := SY.out.x
    obtain ⟨⟨z0, z1, z2, z3, z4⟩, zf⟩ := SY.out.z
    simp only [Nat.zero_add] at x0 x1 x2 x3 x4 z0 z1 z2 z3 z4
    have zf0 := zf 0
    have zf1 := zf 1
    have zf2 := zf 2
    have zf3 := zf 3
    have zf4 := zf 4
    clear zf
    go_wp2
    refine body_gen (fun V => (C5 V w.heap.size 0 (.int .i64 op) (.int .i64 v) (.int .i64 0) (.int .u64 0) (.slice (some ⟨g, 0, none⟩) vs.length cap) ∧ Pb V p b2 ∧ w.grownBy V (some p)) ∧ Hz w.heap.size V (some ⟨g, 0, none⟩) vs) ⟨SY.out.fin _ _ _ _ _, own_hz (show w.heap.size ≤ U.heap.size by omega) (ownsRow_setCell_below (ownsRow_setCell_below (ownsRow_setCell_below (ownsRow_setCell_below (ownsRow_setCell_below OY.out (show w.heap.size < _ by omega) _) (show w.heap.size < _ by omega) _) (show w.heap.size < _ by omega) _) (show w.heap.size < _ by omega) _) (show w.heap.size < _ by omega) _)⟩ ?_
    rintro V ⟨⟨⟨⟨t0, t1, t2, t3, t4⟩, -⟩, tU, gU⟩, hV⟩
    simp only [Nat.zero_add] at t0 t1 t2 t3 t4
    have HU := Hid.mk' (And.intro tU (And.intro gU hV))
    clear tU gU hV x0 x1 x2 x3 x4 z0 z1 z2 z3 z4 zf0 zf1 zf2 zf3 zf4
    exact bodyPost_ret (v := inV ⟨op, v, 0, 0, vs⟩ (some ⟨g, 0, none⟩) cap) (by simp [results, Tryz.results13, go_sem, t0, t1, t2, t3, t4]) rfl ⟨⟨op, v, 0, 0, vs⟩, some ⟨g, 0, none⟩, cap, b2, rfl, rfl, HU.out.2.2, HU.out.1, HU.out.2.1, fun h => ⟨by decide, by
      rw [arg_3]
      obtain ⟨ss, s1, e, n1, n2⟩ := nms_split _ _ _ (HA.out.2.1 h).2
      exact ⟨ss, s1, vs, v, e, n1, n2, rfl⟩⟩, fun _ ⟨y, hy⟩ => by
      rw [arg_3] at hy
      obtain ⟨ss, s1, us, u, rfl, n1, n2, -⟩ := hy
      exact HA.out.2.2 trivial (fun t ht => by
        rcases List.mem_append.1 ht with ht | ht
        · exact nms_ok _ _ n1 t ht
        · simp at ht; subst ht; exact n2.1)⟩
theorem sri_c (p b o c : Nat) (s : Wd) (r : List Wd) (w : World) (h : Pb w p false) (hb : b < p) (hc : ∀ i, i < (s :: r).length → w.cell? ⟨b, o + i, none⟩ = some (.string (S ((s :: r).getD i [])))) (hcap : (s :: r).length ≤ c) (hl : ∀ x ∈ s :: r, x.length ≤ 1099511627776) (hrl : r.length ≤ 1099511627776) :
    Calls Tryz.prog 13 #[.pointer (some ⟨p, 0, none⟩), .slice (some ⟨b, o, none⟩) (s :: r).length c] w (SiP (formR (rowOf (codeI s))) (codeI s) r w p) := by
  rcases form_range (codeI s) with e | e | e | e | e | e | e | e | e | e | e | e
  · rw [e]; exact sri_m1 p b o c s r w h hb hc hcap hl hrl e
  · rw [e]; exact sri_0 p b o c s r w h hb hc hcap hl hrl e
  · rw [e]; exact sri_1 p b o c s r w h hb hc hcap hl hrl e
  · rw [e]; exact sri_2 p b o c s r w h hb hc hcap hl hrl e
  · rw [e]; exact sri_3 p b o c s r w h hb hc hcap hl hrl e
  · rw [e]; exact sri_4 p b o c s r w h hb hc hcap hl hrl e
  · rw [e]; exact sri_5 p b o c s r w h hb hc hcap hl hrl e
  · rw [e]; exact sri_6 p b o c s r w h hb hc hcap hl hrl e
  · rw [e]; exact sri_7 p b o c s r w h hb hc hcap hl hrl e
  · rw [e]; exact sri_8 p b o c s r w h hb hc hcap hl hrl e
  · rw [e]; exact sri_9 p b o c s r w h hb hc hcap hl hrl e
  · rw [e]; exact sri_10 p b o c s r w h hb hc hcap hl hrl e
end Go.Proofs.YtngepdhhdbhglaaGreatDoor

namespace Go.Proofs.YtngepdhhdbhglaaGreatDoor
open Go.RowKit Go.Sort
set_option maxRecDepth 100000
theorem nm_uniq {lo hi : Int} {s : Wd} {u v : Int} (h : Nm lo hi s u) (g : Nm lo hi s v) : u = v := by
  have := h.2.symm.trans g.2
  simpa using this
theorem nms_uniq : ∀ (ss : List Wd) (us vs : List Int), Nms ss us → Nms ss vs → us = vs
  | [], [], [], _, _ => rfl
  | [], [], _ :: _, _, g => g.elim
  | [], _ :: _, _, h, _ => h.elim
  | _ :: _, [], _, h, _ => h.elim
  | _ :: _, _ :: _, [], _, g => g.elim
  | s :: ss, u :: us, v :: vs, h, g => by rw [nm_uniq h.1 g.1, nms_uniq ss us vs h.2 g.2]
theorem in_ext {x y : In} (h0 : x.op = y.op) (h1 : x.a = y.a) (h2 : x.b = y.b) (h3 : x.v = y.v) (h4 : x.l = y.l) : x = y := by
  cases x; cases y; simp_all
theorem bits_uniq {n u v : Nat} {s : Wd} (hu : u < 16 ^ n) (hv : v < 16 ^ n) (h : bitsT n u = s) (g : bitsT n v = s) : u = v := by
  have h1 := (bitM_iff n s u).2 ⟨hu, h⟩
  have h2 := (bitM_iff n s v).2 ⟨hv, g⟩
  rw [h1] at h2
  simpa using h2
theorem arg_uniq (op : Int) (r : List Wd) (x y : In) (h : Arg (formR (rowOf op)) r x) (g : Arg (formR (rowOf op)) r y) (e : x.op = y.op) : x = y := by
  have K : ∀ {A B C : Int} {L : List Int}, x = ⟨x.op, A, B, C, L⟩ → y = ⟨y.op, A, B, C, L⟩ → x = y := fun h1 h2 => by rw [h1, h2, e]
  rcases form_range op with f | f | f | f | f | f | f | f | f | f | f | f <;> rw [f] at h g
  · simp [Arg] at h g; exact K h.2 g.2
  · simp [Arg] at h g; exact K h.2 g.2
  · rw [arg_1] at h g
    rcases h with ⟨e1, h⟩ | ⟨t, e1, _, h⟩ <;> rcases g with ⟨e2, g⟩ | ⟨t2, e2, _, g⟩
    · exact K h g
    · rw [e1] at e2; cases e2
    · rw [e1] at e2; cases e2
    · rw [e1] at e2; cases e2; exact K h g
  · rw [arg_2] at h g
    obtain ⟨s, v, e1, n1, h⟩ := h
    obtain ⟨s2, v2, e2, n2, g⟩ := g
    rw [e1] at e2; cases e2
    cases nm_uniq n1 n2
    exact K h g
  · rw [arg_3] at h g
    obtain ⟨ss, s, vs, v, e1, n1, m1, h⟩ := h
    obtain ⟨ss2, s2, vs2, v2, e2, n2, m2, g⟩ := g
    rw [e1] at e2
    obtain ⟨rfl, e3⟩ := List.append_inj' e2 rfl
    cases e3
    cases nms_uniq _ _ _ n1 n2
    cases nm_uniq m1 m2
    exact K h g
  · rw [arg_4] at h g
    obtain ⟨s, v, e1, n1, h⟩ := h
    obtain ⟨s2, v2, e2, n2, g⟩ := g
    rw [e1] at e2; cases e2
    cases nm_uniq n1 n2
    exact K h g
  · rw [arg_5] at h g
    obtain ⟨s, t, v, u, e1, n1, m1, h⟩ := h
    obtain ⟨s2, t2, v2, u2, e2, n2, m2, g⟩ := g
    rw [e1] at e2; cases e2
    cases nm_uniq n1 n2
    cases nm_uniq m1 m2
    exact K h g
  · simp [Arg] at h g; exact K h.2 g.2
  · rw [arg_7] at h g
    obtain ⟨s, v, e1, n1, h⟩ := h
    obtain ⟨s2, v2, e2, n2, g⟩ := g
    rw [e1] at e2; cases e2
    cases nm_uniq n1 n2
    exact K h g
  · rw [arg_8] at h g
    obtain ⟨s, v, e1, n1, h⟩ := h
    obtain ⟨s2, v2, e2, n2, g⟩ := g
    rw [e1] at e2; cases e2
    cases nm_uniq n1 n2
    exact K h g
  · rw [arg_9] at h g
    obtain ⟨s, u, e1, _, b1, n1, h⟩ := h
    obtain ⟨s2, u2, e2, _, b2, n2, g⟩ := g
    rw [e1] at e2; cases e2
    cases bits_uniq (n := 8) (by show u < 4294967296; omega) (by show u2 < 4294967296; omega) n1 n2
    exact K h g
  · rw [arg_10] at h g
    obtain ⟨s, u, e1, _, b1, n1, h⟩ := h
    obtain ⟨s2, u2, e2, _, b2, n2, g⟩ := g
    rw [e1] at e2; cases e2
    cases bits_uniq (n := 16) (by show u < 18446744073709551616; omega) (by show u2 < 18446744073709551616; omega) n1 n2
    exact K h g
theorem prs_uniq {ws : List Wd} {x y : In} (h : Prs ws x) (g : Prs ws y) : x = y := by
  obtain ⟨s, r, e1, _, c1, a1⟩ := h
  obtain ⟨s2, r2, e2, _, c2, a2⟩ := g
  rw [e1] at e2; cases e2
  have e : x.op = y.op := c1.symm.trans c2
  rw [← e] at a2
  exact arg_uniq x.op r x y a1 a2 e
theorem find_form : ∀ (k : Nat) (s : List UInt8) (j : Nat), k ≤ 192 → find k s = some j → j < 192 ∧ (nm j).data.toList = s ∧ s ≠ []
  | 0, s, j, _, h => by cases h
  | k + 1, s, j, hk, h => by
    simp only [find] at h
    split at h
    · rename_i hc; cases h; exact ⟨by omega, hc.1, hc.2⟩
    · exact find_form k s j (by omega) h
theorem named_form (j : Nat) (hj : j < 192) (h : (nm j).data.toList ≠ []) : 0 ≤ formR (rowOf (j : Int)) := by
  have e := of_decide_eq_true (rng 0 192 (fun i => decide ((tbl.getD i Z0).nm.data.toList ≠ [] → 0 ≤ formR (tbl.getD i Z0))) (by decide +kernel) (j : Int) (by omega) (by omega))
  have er : rowOf (j : Int) = tbl.getD j Z0 := by simp only [rowOf, show (0 : Int) ≤ j ∧ (j : Int) < 192 by omega, and_self, if_true, Int.toNat_natCast]
  rw [nm_tbl j hj] at h
  rw [er]
  rw [Int.toNat_natCast] at e
  exact e h
theorem code_form (s : Wd) (h : 0 ≤ codeI s) : 0 ≤ formR (rowOf (codeI s)) ∧ ∃ j, codeI s = (j : Nat) ∧ j < 192 ∧ (nm j).data.toList = s ∧ s ≠ [] := by
  unfold codeI at h ⊢
  cases hf : find 192 s with
  | none => rw [hf] at h; simp at h
  | some j =>
    obtain ⟨h1, h2, h3⟩ := find_form 192 s j (by omega) hf
    exact ⟨named_form j h1 (by rw [h2]; exact h3), j, rfl, h1, h2, h3⟩
theorem form_code (op : Int) (h : 0 ≤ formR (rowOf op)) : 0 ≤ op := by
  by_cases hc : 0 ≤ op ∧ op < 192
  · exact hc.1
  · have er : rowOf op = Z0 := by simp only [rowOf, hc, if_false]
    rw [er] at h
    exact absurd h (by decide)
/-- What the specification's reading of the words says of Prs. -/
theorem sip_prs {s : Wd} {r : List Wd} {x : In} {bd : Bool} (hx : x.op = codeI s) (h1 : bd = false → 0 ≤ formR (rowOf (codeI s)) ∧ Arg (formR (rowOf (codeI s))) r x) (h2 : 0 ≤ formR (rowOf (codeI s)) → (∃ y, Arg (formR (rowOf (codeI s))) r y) → bd = false) : (bd = false → Prs (s :: r) x) ∧ (bd = true → ¬ ∃ y, Prs (s :: r) y) := by
  refine ⟨fun e => ?_, fun e ⟨y, s2, r2, e2, h0, hc, ha⟩ => ?_⟩
  · obtain ⟨a, b⟩ := h1 e
    exact ⟨s, r, rfl, by rw [hx]; exact form_code _ a, hx.symm, by rw [hx]; exact b⟩
  · cases e2
    rw [← hc] at ha h0
    have := h2 (code_form s h0).1 ⟨y, ha⟩
    rw [e] at this; cases this
end Go.Proofs.YtngepdhhdbhglaaGreatDoor

namespace Go.Proofs.YtngepdhhdbhglaaGreatDoor
open Go.RowKit Go.Sort
set_option maxRecDepth 100000
/-- A word that the specification can have: not empty, without a quote. -/
def Cln (s : Wd) : Prop := s ≠ [] ∧ (34 : UInt8) ∉ s
theorem decD_cln (u : Nat) : Cln (Lib.decDigits u) := by
  refine ⟨decD_ne u, ?_⟩
  induction u using Nat.strongRecOn with
  | _ u ih =>
    have hd : ∀ i, i < 10 → (34 : UInt8) ≠ UInt8.ofNat (48 + i) := by
      have : ∀ i : Fin 10, (34 : UInt8) ≠ UInt8.ofNat (48 + i.val) := by decide
      exact fun i hi => this ⟨i, hi⟩
    rw [Lib.decDigits]
    split
    · rename_i h; simp only [List.mem_singleton]; exact hd u h
    · rename_i h
      simp only [List.mem_append, List.mem_singleton, not_or]
      exact ⟨ih (u / 10) (by omega), hd _ (by omega)⟩
theorem itoa_cln (v : Int) : Cln (Lib.itoa v) := by
  unfold Lib.itoa
  split
  · have := decD_cln v.natAbs
    exact ⟨by simp, by simp; exact this.2⟩
  · exact decD_cln _
theorem nm_cln {lo hi : Int} {s : Wd} {v : Int} (h : Nm lo hi s v) : Cln s := by
  obtain ⟨h1, h2⟩ := h
  unfold okN at h1
  rw [h2] at h1
  simp at h1
  rw [← h1.2.2]
  exact itoa_cln v
theorem nms_cln : ∀ (ss : List Wd) (vs : List Int), Nms ss vs → ∀ s ∈ ss, Cln s
  | [], _, _, s, hs => by cases hs
  | _ :: _, [], g, _, _ => g.elim
  | a :: ss, v :: vs, g, s, hs => by
    rcases List.mem_cons.1 hs with rfl | hs
    · exact nm_cln g.1
    · exact nms_cln ss vs g.2 s hs
theorem hexN_cln : ∀ (n u : Nat), (34 : UInt8) ∉ hexN n u
  | 0, _ => by simp [hexN]
  | n + 1, u => by
    have hd : ∀ i : Fin 16, (34 : UInt8) ≠ hx i.val := by decide
    rw [hexN]
    simp only [List.mem_append, List.mem_singleton, not_or]
    exact ⟨hexN_cln n _, hd ⟨u % 16, by omega⟩⟩
theorem bits_cln (n u : Nat) : Cln (bitsT n u) := ⟨by simp [bitsT], by
  unfold bitsT
  simp only [List.mem_append, not_or]
  exact ⟨by decide, hexN_cln n u⟩⟩
theorem ty_cln {t : Wd} (h : tyN t ≠ 0) : Cln t := by
  have : t = tyW 0 ∨ t = tyW 1 ∨ t = tyW 2 ∨ t = tyW 3 := by
    unfold tyN at h
    by_cases h0 : t = tyW 0
    · exact .inl h0
    · by_cases h1 : t = tyW 1
      · exact .inr (.inl h1)
      · by_cases h2 : t = tyW 2
        · exact .inr (.inr (.inl h2))
        · by_cases h3 : t = tyW 3
          · exact .inr (.inr (.inr h3))
          · rw [if_neg h0, if_neg h1, if_neg h2, if_neg h3] at h; exact absurd rfl h
  rcases this with rfl | rfl | rfl | rfl <;> exact ⟨by decide, by decide⟩
theorem name_cln (j : Nat) (hj : j < 192) (h : (nm j).data.toList ≠ []) : Cln (nm j).data.toList := by
  refine ⟨h, ?_⟩
  have e := of_decide_eq_true (rng 0 192 (fun i => decide ((34 : UInt8) ∉ (tbl.getD i Z0).nm.data.toList)) (by decide +kernel) (j : Int) (by omega) (by omega))
  rw [Int.toNat_natCast] at e
  rw [nm_tbl j hj]
  exact e
theorem arg_cln (op : Int) (r : List Wd) (x : In) (h : Arg (formR (rowOf op)) r x) : ∀ t ∈ r, Cln t := by
  rcases form_range op with f | f | f | f | f | f | f | f | f | f | f | f <;> rw [f] at h
  · simp [Arg] at h; rw [h.1]; simp
  · simp [Arg] at h; rw [h.1]; simp
  · rw [arg_1] at h
    rcases h with ⟨e, _⟩ | ⟨t, e, hn, _⟩
    · rw [e]; simp
    · rw [e]; intro u hu; simp at hu; subst hu; exact ty_cln hn
  · rw [arg_2] at h; obtain ⟨s, v, e, n, _⟩ := h; rw [e]; intro u hu; simp at hu; subst hu; exact nm_cln n
  · rw [arg_3] at h
    obtain ⟨ss, s, vs, v, e, n, m, _⟩ := h
    rw [e]
    intro u hu
    rcases List.mem_append.1 hu with hu | hu
    · exact nms_cln ss vs n u hu
    · simp at hu; subst hu; exact nm_cln m
  · rw [arg_4] at h; obtain ⟨s, v, e, n, _⟩ := h; rw [e]; intro u hu; simp at hu; subst hu; exact nm_cln n
  · rw [arg_5] at h
    obtain ⟨s, t, v, u, e, n, m, _⟩ := h
    rw [e]
    intro y hy
    simp at hy
    rcases hy with rfl | rfl
    · exact nm_cln n
    · exact nm_cln m
  · simp [Arg] at h; rw [h.1]; simp
  · rw [arg_7] at h; obtain ⟨s, v, e, n, _⟩ := h; rw [e]; intro u hu; simp at hu; subst hu; exact nm_cln n
  · rw [arg_8] at h; obtain ⟨s, v, e, n, _⟩ := h; rw [e]; intro u hu; simp at hu; subst hu; exact nm_cln n
  · rw [arg_9] at h; obtain ⟨s, u, e, _, _, n, _⟩ := h; rw [e]; intro y hy; simp at hy; subst hy; rw [← n]; exact bits_cln 8 u
  · rw [arg_10] at h; obtain ⟨s, u, e, _, _, n, _⟩ := h; rw [e]; intro y hy; simp at hy; subst hy; rw [← n]; exact bits_cln 16 u
theorem prs_cln {ws : List Wd} {x : In} (h : Prs ws x) : ∀ t ∈ ws, Cln t := by
  obtain ⟨s, r, rfl, h0, hc, ha⟩ := h
  intro t ht
  rcases List.mem_cons.1 ht with rfl | ht
  · obtain ⟨_, j, _, hj, hn, hne⟩ := code_form t (by rw [hc]; exact h0)
    rw [← hn]
    exact name_cln j hj (by rw [hn]; exact hne)
  · exact arg_cln x.op r x ha t ht
end Go.Proofs.YtngepdhhdbhglaaGreatDoor

namespace Go.Proofs.YtngepdhhdbhglaaGreatDoor
open Go.RowKit Go.Sort
set_option maxRecDepth 100000
/-- How far a property goes from the start. -/
def run (f : UInt8 → Bool) (l : Wd) : Nat := (l.takeWhile f).length
theorem run_le (f : UInt8 → Bool) (l : Wd) : run f l ≤ l.length := (List.takeWhile_sublist f).length_le
theorem run_nil (f : UInt8 → Bool) : run f [] = 0 := rfl
theorem run_cons (f : UInt8 → Bool) (c : UInt8) (l : Wd) : run f (c :: l) = if f c then run f l + 1 else 0 := by
  unfold run; rw [List.takeWhile_cons]; split <;> simp
theorem run_in : ∀ (f : UInt8 → Bool) (l : Wd) (i : Nat) (c : UInt8), i < run f l → l[i]? = some c → f c = true
  | f, [], i, c, h, e => by simp [run_nil] at h
  | f, a :: l, i, c, h, e => by
    rw [run_cons] at h
    split at h
    · rename_i ha
      cases i with
      | zero => simp at e; subst e; exact ha
      | succ i => exact run_in f l i c (by omega) (by simpa using e)
    · omega
theorem run_at : ∀ (f : UInt8 → Bool) (l : Wd) (c : UInt8), l[run f l]? = some c → f c = false
  | f, [], c, e => by simp at e
  | f, a :: l, c, e => by
    rw [run_cons] at e
    split at e
    · exact run_at f l c (by simpa using e)
    · rename_i ha; simp at e; subst e; simpa using ha
theorem run_eq {f : UInt8 → Bool} {l : Wd} {k : Nat} (h : ∀ i c, i < k → l[i]? = some c → f c = true) (hk : k = l.length ∨ ∃ c, l[k]? = some c ∧ f c = false) (hl : k ≤ l.length) : run f l = k := by
  rcases Nat.lt_trichotomy (run f l) k with h1 | h1 | h1
  · have hlt : run f l < l.length := by omega
    have e := List.getElem?_eq_getElem hlt
    have := run_at f l _ e
    rw [h _ _ h1 e] at this; cases this
  · exact h1
  · rcases hk with rfl | ⟨c, e, hc⟩
    · have := run_le f l; omega
    · have := run_in f l k c h1 e
      rw [hc] at this; cases this
def nq (c : UInt8) : Bool := !(c == 34)
def nw (c : UInt8) : Bool := !(c == 32) && !(c == 34)
/-- How long the first word is. -/
def wlen (l : Wd) : Option Nat :=
  if l.head? = some 34 then (if run nq l.tail < l.tail.length then some (run nq l.tail + 2) else none)
  else (if run nw l = 0 then none else some (run nw l))
def wordsM (l : Wd) : Option (List Wd) :=
  match wlen l with
  | none => none
  | some j => if h : j < l.length then (if l[j]? = some 32 then (wordsM (l.drop (j + 1))).map (fun r => l.take j :: r) else none) else some [l]
termination_by l.length
decreasing_by simp; omega
theorem from_plain {l : Wd} (h : l.head? ≠ some 34) : fromM l = 0 := by
  unfold fromM
  have : Lib.hasPrefix l [34] = false := by
    cases l with
    | nil => rfl
    | cons a l => simp at h; simp [Lib.hasPrefix, List.isPrefixOf]; first | exact h | exact (fun e => h (Eq.symm e)) | (intro e; trace_state; exact absurd e h)
  rw [this]; rfl
theorem end_plain {l : Wd} (h : l.head? ≠ some 34) : (endM l = l.length ∧ ∀ k : Nat, l[k]? ≠ some 32) ∨ (l[endM l]? = some 32 ∧ ∀ k : Nat, k < endM l → l[k]? ≠ some 32) := by
  unfold endM
  rw [from_plain h]
  simp only [List.drop_zero, Nat.zero_add]
  rcases idx_cases l 32 with e | ⟨o, e, ho, _⟩
  · left; rw [e]; exact ⟨by simp, Lib.indexByte_none e⟩
  · right
    rw [e, if_pos (by omega), Int.toNat_natCast]
    exact Lib.indexByte_some e
/-- Clean words: both read them alike. -/
theorem words_cln : ∀ (n : Nat) (l : Wd), l.length ≤ n → (∀ t ∈ psplit l, Cln t) → wordsM l = some (psplit l)
  | n, l, hn, hc => by
    have hfirst : ∃ t, t ∈ psplit l ∧ t = l.take (endM l) := by
      by_cases h : endM l < l.length
      · rw [psplit_more h]; exact ⟨_, by simp, rfl⟩
      · rw [psplit_last h]; exact ⟨l, by simp, (List.take_of_length_le (by omega)).symm⟩
    obtain ⟨t, ht, et⟩ := hfirst
    have hct := hc t ht
    rw [et] at hct
    have hpos : 0 < endM l := by
      rcases Nat.eq_zero_or_pos (endM l) with h | h
      · rw [h] at hct; exact absurd rfl hct.1
      · exact h
    have hin : ∀ i c, i < endM l → l[i]? = some c → c ≠ 34 := by
      intro i c hi e e34
      subst e34
      apply hct.2
      have : (l.take (endM l))[i]? = some 34 := by rw [List.getElem?_take, if_pos hi]; exact e
      exact List.mem_of_getElem? this
    have hh : l.head? ≠ some 34 := by
      intro e
      have : l[0]? = some 34 := by rw [← List.head?_eq_getElem?]; exact e
      exact hin 0 34 hpos this rfl
    have hrun : run nw l = endM l := by
      refine run_eq (fun i c hi e => ?_) ?_ (end_le l)
      · have h1 := hin i c hi e
        have h2 : c ≠ 32 := by
          rcases end_plain hh with ⟨_, k2⟩ | ⟨_, k2⟩
          · exact fun ec => k2 i (by rw [← ec]; exact e)
          · exact fun ec => k2 i hi (by rw [← ec]; exact e)
        simp [nw, h1, h2]
      · rcases end_plain hh with ⟨k1, _⟩ | ⟨k1, _⟩
        · exact .inl k1
        · exact .inr ⟨32, k1, by decide⟩
    have hw : wlen l = some (endM l) := by
      unfold wlen
      rw [if_neg hh, hrun, if_neg (by omega)]
    rw [wordsM, hw]
    simp only
    by_cases h : endM l < l.length
    · rw [dif_pos h, if_pos (end_at l h)]
      rw [psplit_more h] at hc ⊢
      rw [words_cln (n - 1) (l.drop (endM l + 1)) (by simp; omega) (fun t ht => hc t (by simp [ht]))]
      rfl
    · rw [dif_neg h, psplit_last h]
termination_by n l => l.length
decreasing_by simp; omega
theorem words_back : ∀ (n : Nat) (l : Wd) (ws : List Wd), l.length ≤ n → wordsM l = some ws → (∀ t ∈ ws, Cln t) → psplit l = ws
  | n, l, ws, hn, hw, hc => by
    rw [wordsM] at hw
    cases hj : wlen l with
    | none => rw [hj] at hw; cases hw
    | some j =>
      rw [hj] at hw
      simp only at hw
      have hplain : Cln (l.take j) → l.head? ≠ some 34 := fun hct e => by
        have hp : 0 < j := by
          rcases Nat.eq_zero_or_pos j with h | h
          · rw [h] at hct; exact absurd rfl hct.1
          · exact h
        cases l with
        | nil => cases e
        | cons a l =>
          simp at e; subst e
          apply hct.2
          obtain ⟨k, rfl⟩ : ∃ k, j = k + 1 := ⟨j - 1, by omega⟩
          simp
      have hend : l.head? ≠ some 34 → (j = l.length ∨ l[j]? = some 32) → endM l = j := fun hh hje => by
        unfold wlen at hj
        rw [if_neg hh] at hj
        split at hj
        · cases hj
        · simp at hj
          have hno : ∀ i c, i < j → l[i]? = some c → c ≠ 32 := fun i c hi e ec => by
            rw [← hj] at hi
            have := run_in nw l i c hi e
            rw [ec] at this; exact absurd this (by decide)
          have hjl : j ≤ l.length := by rw [← hj]; exact run_le _ _
          rcases end_plain hh with ⟨k1, k2⟩ | ⟨k1, k2⟩
          · rcases hje with h | h
            · omega
            · exact absurd h (k2 j)
          · rcases Nat.lt_trichotomy (endM l) j with h | h | h
            · exact absurd rfl (hno _ _ h k1)
            · exact h
            · rcases hje with h1 | h1
              · have := end_le l; omega
              · exact absurd h1 (k2 j h)
      by_cases h : j < l.length
      · rw [dif_pos h] at hw
        split at hw
        · rename_i h32
          cases hr : wordsM (l.drop (j + 1)) with
          | none => rw [hr] at hw; cases hw
          | some r =>
            rw [hr] at hw
            simp at hw
            subst hw
            have e := hend (hplain (hc _ (by simp))) (.inr h32)
            rw [psplit_more (by omega), e, words_back (n - 1) (l.drop (j + 1)) r (by simp; omega) hr (fun t ht => hc t (by simp [ht]))]
        · cases hw
      · rw [dif_neg h] at hw
        simp at hw
        subst hw
        have hcl := hc l (by simp)
        have ht : l.take j = l := List.take_of_length_le (by omega)
        have hjl : j = l.length := by
          have hh := hplain (by rw [ht]; exact hcl)
          unfold wlen at hj
          rw [if_neg hh] at hj
          split at hj
          · cases hj
          · simp at hj; have := run_le nw l; omega
        have e := hend (hplain (by rw [ht]; exact hcl)) (.inl hjl)
        rw [psplit_last (by omega)]
termination_by n l => l.length
decreasing_by simp; omega
end Go.Proofs.YtngepdhhdbhglaaGreatDoor

namespace Go.Proofs.YtngepdhhdbhglaaGreatDoor
open Go.RowKit Go.Sort
set_option maxRecDepth 100000
attribute [-go_sem] run_index_string
def SwP (l : Wd) (w : World) (e : Ending) (w' : World) : Prop :=
  ∃ v, e = .returned (.tuple #[v, .bool (wordsM l).isSome]) ∧ Below w.heap.size w w' ∧ ∀ ws, wordsM l = some ws → w'.ownsRow w.heap.size 9 1 v ws.length (Sv ws)
/-- What the outer loop keeps. -/
def Wm (l0 : Wd) (k : Nat) (r : List Wd) : Prop := wordsM l0 = (wordsM (l0.drop k)).map (r ++ ·)
theorem wm_none {l0 : Wd} {k : Nat} {r : List Wd} (h : Wm l0 k r) (hn : wlen (l0.drop k) = none) : wordsM l0 = none := by
  rw [h, wordsM, hn]; rfl
theorem wm_bad {l0 : Wd} {k j : Nat} {r : List Wd} (h : Wm l0 k r) (hn : wlen (l0.drop k) = some (j - k)) (hk : k ≤ j) (hj : j < l0.length) (hb : l0.getD j 0 ≠ 32) : wordsM l0 = none := by
  have h1 : j - k < (l0.drop k).length := by simp; omega
  have h2 : (l0.drop k)[j - k]? ≠ some 32 := by
    rw [List.getElem?_drop, show k + (j - k) = j by omega]
    intro e
    apply hb
    simp [List.getD, e]
  rw [h, wordsM, hn]
  simp only
  rw [dif_pos h1, if_neg h2]; rfl
theorem wm_end {l0 : Wd} {k j : Nat} {r : List Wd} (h : Wm l0 k r) (hn : wlen (l0.drop k) = some (j - k)) (hk : k ≤ j) (hj : j = l0.length) : wordsM l0 = some (r ++ [(l0.take j).drop k]) := by
  have h1 : ¬ j - k < (l0.drop k).length := by simp; omega
  rw [h, wordsM, hn]
  simp only
  rw [dif_neg h1, List.take_of_length_le (by omega)]; rfl
theorem wm_more {l0 : Wd} {k j : Nat} {r : List Wd} (h : Wm l0 k r) (hn : wlen (l0.drop k) = some (j - k)) (hk : k ≤ j) (hj : j < l0.length) (hb : l0.getD j 0 = 32) : Wm l0 (j + 1) (r ++ [(l0.take j).drop k]) := by
  have h1 : j - k < (l0.drop k).length := by simp; omega
  have h2 : (l0.drop k)[j - k]? = some 32 := by
    rw [List.getElem?_drop, show k + (j - k) = j by omega, List.getElem?_eq_getElem hj]
    simp [List.getD, List.getElem?_eq_getElem hj] at hb
    rw [hb]
  unfold Wm
  rw [h, wordsM, hn]
  simp only
  rw [dif_pos h1, if_pos h2, List.drop_drop, show k + (j - k + 1) = j + 1 by omega]
  rw [List.drop_take]
  cases wordsM (l0.drop (j + 1)) <;> simp
theorem sw_no {l0 : Wd} {w w' : World} {v : Value} (h : wordsM l0 = none) (hb : Below w.heap.size w w') : SwP l0 w (.returned (.tuple #[v, .bool false])) w' :=
  ⟨v, by rw [h]; rfl, hb, fun ws e => by rw [h] at e; cases e⟩
theorem sw_yes {l0 : Wd} {w w' : World} {v : Value} {r : List Wd} {x : Wd} (h : wordsM l0 = some (r ++ [x])) (hb : Below w.heap.size w w') (ho : w'.ownsRow w.heap.size 9 1 v (r.length + 1) (Sv r ++ [.string (S x)])) : SwP l0 w (.returned (.tuple #[v, .bool true])) w' :=
  ⟨v, by rw [h]; rfl, hb, fun ws e => by rw [h] at e; cases e; rw [Sv_app, List.length_append]; exact ho⟩
/-- The first word, by the place where it ends. -/
theorem wl_q {l0 : Wd} {k j : Nat} (hk : k < l0.length) (hq : l0.getD k 0 = 34) (hkj : k + 1 ≤ j) (hin : ∀ i, k + 1 ≤ i → i < j → l0.getD i 0 ≠ 34) (hj : j < l0.length) (he : l0.getD j 0 = 34) : wlen (l0.drop k) = some (j + 1 - k) := by
  have hd : l0.drop k = l0[k] :: l0.drop (k + 1) := List.drop_eq_getElem_cons hk
  have h34 : l0[k] = 34 := by simpa [List.getD, List.getElem?_eq_getElem hk] using hq
  have hr : run nq (l0.drop (k + 1)) = j - (k + 1) := by
    refine run_eq (fun i c hi e => ?_) (.inr ⟨34, ?_, by decide⟩) (by simp; omega)
    · rw [List.getElem?_drop] at e
      have := hin (k + 1 + i) (by omega) (by omega)
      simp [List.getD, e] at this
      simp [nq, this]
    · rw [List.getElem?_drop, show k + 1 + (j - (k + 1)) = j by omega, List.getElem?_eq_getElem hj]
      simp [List.getD, List.getElem?_eq_getElem hj] at he
      rw [he]
  unfold wlen
  rw [hd, if_pos (by simp [h34]), List.tail_cons, hr, if_pos (by simp; omega)]
  congr 1; omega
theorem wl_q0 {l0 : Wd} {k j : Nat} (hk : k < l0.length) (hq : l0.getD k 0 = 34) (hin : ∀ i, k + 1 ≤ i → i < j → l0.getD i 0 ≠ 34) (hj : j = l0.length) : wlen (l0.drop k) = none := by
  have hd : l0.drop k = l0[k] :: l0.drop (k + 1) := List.drop_eq_getElem_cons hk
  have h34 : l0[k] = 34 := by simpa [List.getD, List.getElem?_eq_getElem hk] using hq
  have hr : run nq (l0.drop (k + 1)) = (l0.drop (k + 1)).length := by
    refine run_eq (fun i c hi e => ?_) (.inl rfl) (Nat.le_refl _)
    rw [List.getElem?_drop] at e
    simp at hi
    have := hin (k + 1 + i) (by omega) (by omega)
    simp [List.getD, e] at this
    simp [nq, this]
  unfold wlen
  rw [hd, if_pos (by simp [h34]), List.tail_cons, hr, if_neg (by omega)]
theorem wl_run {l0 : Wd} {k j : Nat} (hkj : k ≤ j) (hin : ∀ i, k ≤ i → i < j → l0.getD i 0 ≠ 32 ∧ l0.getD i 0 ≠ 34) (hj : j = l0.length ∨ (j < l0.length ∧ (l0.getD j 0 = 32 ∨ l0.getD j 0 = 34))) (hjl : j ≤ l0.length) : run nw (l0.drop k) = j - k := by
  refine run_eq (fun i c hi e => ?_) ?_ (by simp; omega)
  · rw [List.getElem?_drop] at e
    have := hin (k + i) (by omega) (by omega)
    simp [List.getD, e] at this
    simp [nw, this]
  · rcases hj with h | ⟨h, h2⟩
    · left; simp; omega
    · right
      refine ⟨l0.getD j 0, ?_, ?_⟩
      · rw [List.getElem?_drop, show k + (j - k) = j by omega, List.getElem?_eq_getElem h]
        simp [List.getD, List.getElem?_eq_getElem h]
      · rcases h2 with h2 | h2 <;> rw [h2] <;> decide
theorem wl_w {l0 : Wd} {k j : Nat} (hq : k < l0.length → l0.getD k 0 ≠ 34) (hkj : k ≤ j) (hin : ∀ i, k ≤ i → i < j → l0.getD i 0 ≠ 32 ∧ l0.getD i 0 ≠ 34) (hj : j = l0.length ∨ (j < l0.length ∧ (l0.getD j 0 = 32 ∨ l0.getD j 0 = 34))) (hjl : j ≤ l0.length) : wlen (l0.drop k) = if j = k then none else some (j - k) := by
  have hh : (l0.drop k).head? ≠ some 34 := by
    rw [List.head?_drop]
    intro e
    have hk : k < l0.length := by
      rcases Nat.lt_or_ge k l0.length with h | h
      · exact h
      · rw [List.getElem?_eq_none h] at e; cases e
    exact hq hk (by simp [List.getD, e])
  unfold wlen
  rw [if_neg hh, wl_run hkj hin hj hjl]
  by_cases h : j = k
  · rw [if_pos (by omega), if_pos h]
  · rw [if_neg (by omega), if_neg h]
theorem wm_zero (l0 : Wd) : Wm l0 0 [] := by
  unfold Wm
  rw [List.drop_zero]
  cases wordsM l0 <;> rfl
set_option maxHeartbeats 8000000 in
theorem words_c (l0 : Wd) (w : World) (hl : l0.length ≤ 1048576) : Calls Tryz.prog 12 #[.string (S l0)] w (SwP l0 w) := by
  obtain ⟨i0, hi, hz0, hz1, hz2⟩ := info_parts Tryz.info9
  have hz : (S l0).size = l0.length := S_size l0
  go_enter Tryz.func12, Tryz.ntmps12
  go_wp2
  go_loopw [4, 5, 6] (fun vo vi vj wr => ∃ (k : Nat) (r : List Wd), vi = .int .i64 (k : Int) ∧ k ≤ l0.length ∧ r.length ≤ k ∧ Wm l0 k r ∧ wr.ownsRow w.heap.size 9 1 vo r.length (Sv r) ∧ Below w.heap.size w wr) (fun _ vi _ _ => l0.length + 1 - (intOf vi).toNat)
  case atStart => exact ⟨0, [], rfl, Nat.zero_le _, Nat.le_refl _, wm_zero l0, ⟨by simp [Sv], .inr ⟨w.heap.size, 0, #[], rfl, Nat.le_refl _, Array.getElem?_push_size, Nat.le_refl _, Nat.zero_le _, rfl, rfl⟩⟩, (Below.refl _ _).alloc (Nat.le_refl _) _⟩
  case round =>
    obtain ⟨k, r, rfl, hk, hrk, hsp, ho, hb⟩ := hrel
    have HS := Hid.mk' hsp
    have HB := Hid.mk' hb
    have hbs := hb.size
    obtain ⟨va, vc, rfl⟩ := oE_slice ho
    clear hsp hb
    by_cases hq : k < l0.length ∧ l0.getD k 0 = 34
    · obtain ⟨hkl, hc⟩ := hq
      have hki : (k : Int) < (l0.length : Int) := by omega
      have hix34 : ∀ w, (Instr.index 9 (.string (S l0)) (.int .i64 (k : Int))).run Tryz.prog w = .ok (.int .u8 34) w := fun w => by
        have := S_index l0 k w hkl
        rw [hc] at this
        exact this
      
      have w1 : IntKind.i64.wrap ((k : Int) + 1) = (k : Int) + 1 := by rw [IntKind.wrap_i64]; omega
      have HC := Hid.mk' hc
      clear hc
      go_upto_region 6 with fail
      clear hix34
      go_loop [6] (fun vj => ∃ j : Nat, vj = .int .i64 (j : Int) ∧ k + 1 ≤ j ∧ j ≤ l0.length ∧ Hid (∀ i, k + 1 ≤ i → i < j → l0.getD i 0 ≠ 34)) (fun vj => l0.length - (intOf vj).toNat)
      case atStart => exact ⟨k + 1, (by first | rfl | (congr 1; omega)), by omega, by omega, fun i h1 h2 => by omega⟩
      case round =>
        obtain ⟨j, rfl, hj1, hj2, hh⟩ := hrel
        by_cases hjl : j < l0.length
        · have hji : (j : Int) < (l0.length : Int) := by omega
          by_cases hc : l0.getD j 0 = 34
          · have hge : ¬ (l0.length : Int) ≤ (j : Int) := by omega
            obtain ⟨m, hm⟩ : ∃ m, m = j + 1 := ⟨_, rfl⟩
            have hwm : IntKind.i64.wrap ((j : Int) + 1) = ((m : Nat) : Int) := by rw [IntKind.wrap_i64]; omega
            have HWL := Hid.mk' (show wlen (l0.drop k) = some (m - k) by rw [hm]; exact wl_q hkl HC.out hj1 hh.out hjl hc)
            have hml : m ≤ l0.length := by omega
            have hkm : k + 2 ≤ m := by omega
            have hix34 : ∀ w, (Instr.index 9 (.string (S l0)) (.int .i64 (j : Int))).run Tryz.prog w = .ok (.int .u8 34) w := fun w => by
              have := S_index l0 j w hjl
              rw [hc] at this
              exact this
            clear hc hm hh
            by_cases hend : m = l0.length
            · have HR := Hid.mk' (wm_end HS.out HWL.out (by omega) hend)
              have hi9 : ((m : Int) == (l0.length : Int)) = true := by simp; omega
              have hsl1 : (k : Int) ≤ (m : Int) := by omega
              have hsl2 : (m : Int) ≤ ((S l0).size : Int) := by rw [hz]; omega
              clear hend HWL
              go_wp2_with (at_builtin; refine wpList_append_own_at _ rfl _ _ 36 rfl w.heap.size 9 i0 (.string ⟨#[]⟩) 1 16 Tryz.underlying36 hi hz0 hz1 hz2 rfl (by decide) _ _ _ rfl (ho.alloc _) ⟨wr.heap.size, 0, none⟩ 1 1 [.string ((S l0).extract k m)] rfl rfl (cell_one_new _ _ _) (oneS _) (by unfold maxLen; omega) (by omega) (by simp; omega) ?_; intro v' w2 hown' hgrow hnn hloc; have HO2 := Hid.mk' (And.intro hown' hgrow); obtain ⟨va2, vc2, rfl⟩ := oE_slice hown'; clear hown' hgrow hnn hloc)
              go_ret2
              have h4 := HO2.out.1
              rw [S_ext] at h4
              exact sw_yes HR.out (HB.out.alloc hbs _ |>.grown HO2.out.2 (by simp; omega) (fun j hj => (ho.lt j hj).1)) h4
            · have hlt : m < l0.length := by omega
              clear hend
              by_cases h32 : l0.getD m 0 = 32
              · have HR := Hid.mk' (wm_more HS.out HWL.out (by omega) hlt h32)
                have hi9 : ¬ (m : Int) = (l0.length : Int) := by omega
                have hsl1 : (k : Int) ≤ (m : Int) := by omega
                have hsl2 : (m : Int) ≤ ((S l0).size : Int) := by rw [hz]; omega
                have hixe : ∀ w, (Instr.index 9 (.string (S l0)) (.int .i64 (m : Int))).run Tryz.prog w = .ok (.int .u8 32) w := fun w => by
                  have := S_index l0 m w hlt
                  rw [h32] at this
                  exact this
                have hwj : IntKind.i64.wrap ((m : Int) + 1) = (m : Int) + 1 := by rw [IntKind.wrap_i64]; omega
                clear h32 HWL
                go_wp2_with (at_builtin; refine wpList_append_own_at _ rfl _ _ 36 rfl w.heap.size 9 i0 (.string ⟨#[]⟩) 1 16 Tryz.underlying36 hi hz0 hz1 hz2 rfl (by decide) _ _ _ rfl (ho.alloc _) ⟨wr.heap.size, 0, none⟩ 1 1 [.string ((S l0).extract k m)] rfl rfl (cell_one_new _ _ _) (oneS _) (by unfold maxLen; omega) (by omega) (by simp; omega) ?_; intro v' w2 hown' hgrow hnn hloc; have HO2 := Hid.mk' (And.intro hown' hgrow); obtain ⟨va2, vc2, rfl⟩ := oE_slice hown'; clear hown' hgrow hnn hloc)
                refine ⟨⟨m + 1, r ++ [(l0.take m).drop k], (by first | rfl | (congr 1; omega)), by omega, by simp; omega, HR.out, ?_, (HB.out.alloc hbs _ |>.grown HO2.out.2 (by simp; omega) (fun j hj => (ho.lt j hj).1))⟩, by simp [intOf]; omega⟩
                have h4 := HO2.out.1
                rw [S_ext] at h4
                rw [show (r ++ [(l0.take m).drop k]).length = r.length + 1 by simp, Sv_app]
                exact h4
              · have HR := Hid.mk' (wm_bad HS.out HWL.out (by omega) hlt h32)
                have hi9 : ¬ (m : Int) = (l0.length : Int) := by omega
                have hsl1 : (k : Int) ≤ (m : Int) := by omega
                have hsl2 : (m : Int) ≤ ((S l0).size : Int) := by rw [hz]; omega
                have hixj := fun w => S_index l0 m w hlt
                have hne : ¬ ((l0.getD m 0).toNat : Int) = 32 := fun e => h32 (UInt8.toNat_inj.1 (by have : (32 : UInt8).toNat = 32 := rfl; omega))
                generalize (l0.getD m 0).toNat = yn at hixj hne
                clear h32 HWL
                go_wp2_with (at_builtin; refine wpList_append_own_at _ rfl _ _ 36 rfl w.heap.size 9 i0 (.string ⟨#[]⟩) 1 16 Tryz.underlying36 hi hz0 hz1 hz2 rfl (by decide) _ _ _ rfl (ho.alloc _) ⟨wr.heap.size, 0, none⟩ 1 1 [.string ((S l0).extract k m)] rfl rfl (cell_one_new _ _ _) (oneS _) (by unfold maxLen; omega) (by omega) (by simp; omega) ?_; intro v' w2 hown' hgrow hnn hloc; have HO2 := Hid.mk' (And.intro hown' hgrow); obtain ⟨va2, vc2, rfl⟩ := oE_slice hown'; clear hown' hgrow hnn hloc)
                go_ret2
                exact sw_no HR.out (HB.out.alloc hbs _ |>.grown HO2.out.2 (by simp; omega) (fun j hj => (ho.lt j hj).1))
          · have hixj := fun w => S_index l0 j w hjl
            have hne : ¬ ((l0.getD j 0).toNat : Int) = 34 := fun e => hc (UInt8.toNat_inj.1 (by have : (34 : UInt8).toNat = 34 := rfl; omega))
            have HH : Hid (∀ i, k + 1 ≤ i → i < j + 1 → l0.getD i 0 ≠ 34) := fun i h1 h2 => by
              by_cases e : i = j
              · rw [e]; exact hc
              · exact hh.out i h1 (by omega)
            have w2 : IntKind.i64.wrap ((j : Int) + 1) = (j : Int) + 1 := by rw [IntKind.wrap_i64]; omega
            generalize (l0.getD j 0).toNat = yn at hixj hne
            clear hc hh
            go_wp2
            exact ⟨⟨j + 1, (by first | rfl | (congr 1; omega)), by omega, by omega, HH⟩, by simp [intOf]; omega⟩
        · have ej : j = l0.length := by omega
          have HR := Hid.mk' (wm_none HS.out (wl_q0 hkl HC.out hh.out ej))
          have hji : ¬ (j : Int) < (l0.length : Int) := by omega
          have hge : (l0.length : Int) ≤ (j : Int) := by omega
          clear ej hh
          go_wp2
          go_ret2
          exact sw_no HR.out HB.out
    · by_cases hkl : k < l0.length
      · have hc : l0.getD k 0 ≠ 34 := fun e => hq ⟨hkl, e⟩
        have HC := Hid.mk' hc
        have hki : (k : Int) < (l0.length : Int) := by omega
        have hixk := fun w => S_index l0 k w hkl
        have hnk : ¬ ((l0.getD k 0).toNat : Int) = 34 := fun e => hc (UInt8.toNat_inj.1 (by have : (34 : UInt8).toNat = 34 := rfl; omega))
        obtain ⟨yk, hyk⟩ : ∃ yk, yk = (l0.getD k 0).toNat := ⟨_, rfl⟩
        rw [← hyk] at hixk hnk
        clear hc hq hyk
        go_upto_region 11 with fail
        clear hixk hnk
        go_loop [6] (fun vj => ∃ j : Nat, vj = .int .i64 (j : Int) ∧ k ≤ j ∧ j ≤ l0.length ∧ Hid (∀ i, k ≤ i → i < j → l0.getD i 0 ≠ 32 ∧ l0.getD i 0 ≠ 34)) (fun vj => l0.length - (intOf vj).toNat)
        case atStart => exact ⟨k, rfl, by omega, by omega, fun i h1 h2 => by omega⟩
        case round =>
          obtain ⟨j, rfl, hj1, hj2, hh⟩ := hrel
          by_cases hjl : j < l0.length
          · have hji : (j : Int) < (l0.length : Int) := by omega
            by_cases hc : l0.getD j 0 = 32
            · have HWL := Hid.mk' (wl_w (fun _ => HC.out) hj1 hh.out (.inr ⟨hjl, .inl hc⟩) hj2)
              have h32 := hc
              have hix32 : ∀ w, (Instr.index 9 (.string (S l0)) (.int .i64 (j : Int))).run Tryz.prog w = .ok (.int .u8 32) w := fun w => by
                have := S_index l0 j w hjl
                rw [hc] at this
                exact this
              clear hc hh
              by_cases hjk : j = k
              · have HR := Hid.mk' (wm_none HS.out (HWL.out.trans (if_pos hjk)))
                have hjki : ((j : Int) == (k : Int)) = true := by simp; omega
                clear hjk h32 HWL
                go_wp2
                go_ret2
                exact sw_no HR.out HB.out
              · have HWL := Hid.mk' (HWL.out.trans (if_neg hjk))
                have hjki : ¬ (j : Int) = (k : Int) := by omega
                have hlt := hjl
                have HR := Hid.mk' (wm_more HS.out HWL.out (by omega) hlt h32)
                have hi9 : ¬ (j : Int) = (l0.length : Int) := by omega
                have hsl1 : (k : Int) ≤ (j : Int) := by omega
                have hsl2 : (j : Int) ≤ ((S l0).size : Int) := by rw [hz]; omega
                have hixe2 : ∀ w, (Instr.index 9 (.string (S l0)) (.int .i64 (j : Int))).run Tryz.prog w = .ok (.int .u8 32) w := fun w => by
                  have := S_index l0 j w hlt
                  rw [h32] at this
                  exact this
                have hwj : IntKind.i64.wrap ((j : Int) + 1) = (j : Int) + 1 := by rw [IntKind.wrap_i64]; omega
                clear h32 HWL
                go_wp2_with (at_builtin; refine wpList_append_own_at _ rfl _ _ 36 rfl w.heap.size 9 i0 (.string ⟨#[]⟩) 1 16 Tryz.underlying36 hi hz0 hz1 hz2 rfl (by decide) _ _ _ rfl (ho.alloc _) ⟨wr.heap.size, 0, none⟩ 1 1 [.string ((S l0).extract k j)] rfl rfl (cell_one_new _ _ _) (oneS _) (by unfold maxLen; omega) (by omega) (by simp; omega) ?_; intro v' w2 hown' hgrow hnn hloc; have HO2 := Hid.mk' (And.intro hown' hgrow); obtain ⟨va2, vc2, rfl⟩ := oE_slice hown'; clear hown' hgrow hnn hloc)
                refine ⟨⟨j + 1, r ++ [(l0.take j).drop k], (by first | rfl | (congr 1; omega)), by omega, by simp; omega, HR.out, ?_, (HB.out.alloc hbs _ |>.grown HO2.out.2 (by simp; omega) (fun j hj => (ho.lt j hj).1))⟩, by simp [intOf]; omega⟩
                have h4 := HO2.out.1
                rw [S_ext] at h4
                rw [show (r ++ [(l0.take j).drop k]).length = r.length + 1 by simp, Sv_app]
                exact h4
            · by_cases h34 : l0.getD j 0 = 34
              · have HWL := Hid.mk' (wl_w (fun _ => HC.out) hj1 hh.out (.inr ⟨hjl, .inr h34⟩) hj2)
                have h32 := hc
                clear hh
                have hixq : ∀ w, (Instr.index 9 (.string (S l0)) (.int .i64 (j : Int))).run Tryz.prog w = .ok (.int .u8 34) w := fun w => by
                  have := S_index l0 j w hjl
                  rw [h34] at this
                  exact this
                have hjk : ¬ j = k := fun e => HC.out (by rw [← e]; exact h34)
                have HWL := Hid.mk' (HWL.out.trans (if_neg hjk))
                have hjki : ¬ (j : Int) = (k : Int) := by omega
                have hlt := hjl
                have HR := Hid.mk' (wm_bad HS.out HWL.out (by omega) hlt h32)
                have hi9 : ¬ (j : Int) = (l0.length : Int) := by omega
                have hsl1 : (k : Int) ≤ (j : Int) := by omega
                have hsl2 : (j : Int) ≤ ((S l0).size : Int) := by rw [hz]; omega
                clear h32 HWL hc h34
                go_wp2_with (at_builtin; refine wpList_append_own_at _ rfl _ _ 36 rfl w.heap.size 9 i0 (.string ⟨#[]⟩) 1 16 Tryz.underlying36 hi hz0 hz1 hz2 rfl (by decide) _ _ _ rfl (ho.alloc _) ⟨wr.heap.size, 0, none⟩ 1 1 [.string ((S l0).extract k j)] rfl rfl (cell_one_new _ _ _) (oneS _) (by unfold maxLen; omega) (by omega) (by simp; omega) ?_; intro v' w2 hown' hgrow hnn hloc; have HO2 := Hid.mk' (And.intro hown' hgrow); obtain ⟨va2, vc2, rfl⟩ := oE_slice hown'; clear hown' hgrow hnn hloc)
                go_ret2
                exact sw_no HR.out (HB.out.alloc hbs _ |>.grown HO2.out.2 (by simp; omega) (fun j hj => (ho.lt j hj).1))
              · have hixj := fun w => S_index l0 j w hjl
                have hne : ¬ ((l0.getD j 0).toNat : Int) = 32 := fun e => hc (UInt8.toNat_inj.1 (by have : (32 : UInt8).toNat = 32 := rfl; omega))
                have hne2 : ¬ ((l0.getD j 0).toNat : Int) = 34 := fun e => h34 (UInt8.toNat_inj.1 (by have : (34 : UInt8).toNat = 34 := rfl; omega))
                have HH : Hid (∀ i, k ≤ i → i < j + 1 → l0.getD i 0 ≠ 32 ∧ l0.getD i 0 ≠ 34) := fun i h1 h2 => by
                  by_cases e : i = j
                  · rw [e]; exact ⟨hc, h34⟩
                  · exact hh.out i h1 (by omega)
                have w2 : IntKind.i64.wrap ((j : Int) + 1) = (j : Int) + 1 := by rw [IntKind.wrap_i64]; omega
                generalize (l0.getD j 0).toNat = yn at hixj hne hne2
                have hb1 : ((yn : Int) != 32) = true := by simpa using hne
                have hb2 : ((yn : Int) != 34) = true := by simpa using hne2
                clear hc h34 hh hne hne2
                go_wp2
                exact ⟨⟨j + 1, (by first | rfl | (congr 1; omega)), by omega, by omega, HH⟩, by simp [intOf]; omega⟩
          · have hend : j = l0.length := by omega
            have HWL := Hid.mk' (wl_w (fun _ => HC.out) hj1 hh.out (.inl hend) hj2)
            have hjk : ¬ j = k := by omega
            have HWL := Hid.mk' (HWL.out.trans (if_neg hjk))
            have hji : ¬ (j : Int) < (l0.length : Int) := by omega
            have hjki : ¬ (j : Int) = (k : Int) := by omega
            clear hh hjl
            have HR := Hid.mk' (wm_end HS.out HWL.out (by omega) hend)
            have hi9 : ((j : Int) == (l0.length : Int)) = true := by simp; omega
            have hsl1 : (k : Int) ≤ (j : Int) := by omega
            have hsl2 : (j : Int) ≤ ((S l0).size : Int) := by rw [hz]; omega
            clear hend HWL
            go_wp2_with (at_builtin; refine wpList_append_own_at _ rfl _ _ 36 rfl w.heap.size 9 i0 (.string ⟨#[]⟩) 1 16 Tryz.underlying36 hi hz0 hz1 hz2 rfl (by decide) _ _ _ rfl (ho.alloc _) ⟨wr.heap.size, 0, none⟩ 1 1 [.string ((S l0).extract k j)] rfl rfl (cell_one_new _ _ _) (oneS _) (by unfold maxLen; omega) (by omega) (by simp; omega) ?_; intro v' w2 hown' hgrow hnn hloc; have HO2 := Hid.mk' (And.intro hown' hgrow); obtain ⟨va2, vc2, rfl⟩ := oE_slice hown'; clear hown' hgrow hnn hloc)
            go_ret2
            have h4 := HO2.out.1
            rw [S_ext] at h4
            exact sw_yes HR.out (HB.out.alloc hbs _ |>.grown HO2.out.2 (by simp; omega) (fun j hj => (ho.lt j hj).1)) h4
      · have ek : k = l0.length := by omega
        have HR := Hid.mk' (wm_none HS.out ((wl_w (l0 := l0) (k := k) (j := k) (fun h => absurd h hkl) (Nat.le_refl _) (fun i h1 h2 => by omega) (.inl ek) hk).trans (if_pos rfl)))
        have hki : ¬ (k : Int) < (l0.length : Int) := by omega
        clear ek hq
        go_upto_region 11 with fail
        go_loop [6] (fun vj => vj = .int .i64 (k : Int)) (fun vj => 0)
        case atStart => exact rfl
        case round =>
          subst hrel
          go_wp2
          go_ret2
          exact sw_no HR.out HB.out
end Go.Proofs.YtngepdhhdbhglaaGreatDoor

