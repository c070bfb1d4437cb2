import Derived.Test.YtngepdhhdbhglaaGreatDoorYj
import Derived.Test.YtngepdhhdbhglaaGreatDoorC2u
import Derived.Test.YtngepdhhdbhglaaGreatDoorPy
import Derived.Laws.BytesArg
set_option linter.all false
set_option linter.unusedVariables false
namespace Go.Proofs.YtngepdhhdbhglaaGreatDoor
open Go.RowKit Go.Sort
set_option maxRecDepth 100000
theorem form_range (op : Int) : formR (rowOf op) = -1 ∨ formR (rowOf op) = 0 ∨ formR (rowOf op) = 1 ∨ formR (rowOf op) = 2 ∨ formR (rowOf op) = 3 ∨ formR (rowOf op) = 4 ∨ formR (rowOf op) = 5 ∨ formR (rowOf op) = 6 ∨ formR (rowOf op) = 7 ∨ formR (rowOf op) = 8 ∨ formR (rowOf op) = 9 ∨ formR (rowOf op) = 10 := by
  by_cases h : 0 ≤ op ∧ op < 192
  · have e := of_decide_eq_true (rng 0 192 (fun i => decide (-1 ≤ formR (tbl.getD i Z0) ∧ formR (tbl.getD i Z0) ≤ 10)) (by decide +kernel) op (by omega) (by omega))
    have er : rowOf op = tbl.getD op.toNat Z0 := by simp only [rowOf, h, and_self, if_true]
    rw [← er] at e
    omega
  · have er : rowOf op = Z0 := by simp only [rowOf, h, if_false]
    rw [er]; left; decide
theorem ins_c (q : Nat) (ws : List Wd) (op : Int) (w : World) (h : Tw w q ws false) (hl : ∀ x ∈ ws, x.length ≤ 1099511627776) (hV : Vs q w) :
    Calls Tryz.prog 17 #[.pointer (some ⟨q, 0, none⟩), .int .i64 op] w (InsP (formR (rowOf op)) op ws w q) := by
  rcases form_range op with e | e | e | e | e | e | e | e | e | e | e | e
  · rw [e]; exact ins_m1 q ws op w e h hl hV
  · rw [e]; exact ins_0 q ws op w e h hl hV
  · rw [e]; exact ins_1 q ws op w e h hl hV
  · rw [e]; exact ins_2 q ws op w e h hl hV
  · rw [e]; exact ins_3 q ws op w e h hl hV
  · rw [e]; exact ins_4 q ws op w e h hl hV
  · rw [e]; exact ins_5 q ws op w e h hl hV
  · rw [e]; exact ins_6 q ws op w e h hl hV
  · rw [e]; exact ins_7 q ws op w e h hl hV
  · rw [e]; exact ins_8 q ws op w e h hl hV
  · rw [e]; exact ins_9 q ws op w e h hl hV
  · rw [e]; exact ins_10 q ws op w e h hl hV
theorem psplit_ne (l : Wd) : psplit l ≠ [] := by
  by_cases h : endM l < l.length
  · rw [psplit_more h]; simp
  · rw [psplit_last h]; simp
theorem own_words {w : World} {B : Nat} {v : Value} {ws : List Wd} (h : w.ownsRow B 9 1 v ws.length (Sv ws)) (hne : ws ≠ []) : ∃ b c, v = .slice (some ⟨b, 0, none⟩) ws.length c ∧ b < w.heap.size ∧ ws.length ≤ c ∧ ∀ i, i < ws.length → w.cell? ⟨b, 0 + i, none⟩ = some (.string (S (ws.getD i []))) := by
  rcases h.2 with ⟨_, h0⟩ | ⟨g, cap, cur, hv, hB, hg, hc, _⟩
  · exact absurd (List.eq_nil_of_length_eq_zero h0) hne
  · subst hv
    refine ⟨g, cap, rfl, (Array.getElem?_eq_some_iff.1 hg).1, hc, fun i hi => ?_⟩
    rw [Nat.zero_add, h.cellAt i (by omega)]
    simp [Sv, List.getD, hi]
/-- What a line of words is read as. -/
def Prs (ws : List Wd) (x : In) : Prop := ∃ s r, ws = s :: r ∧ 0 ≤ x.op ∧ codeI s = x.op ∧ Arg (formR (rowOf x.op)) r x
theorem tw_new {w : World} {B : Nat} {v : Value} {ws : List Wd} (h : w.ownsRow B 9 1 v ws.length (Sv ws)) (hne : ws ≠ []) (hl : ws.length ≤ 1099511627776) : Tw (w.alloc (.cells #[v, .bool false] 58)) w.heap.size ws false := by
  obtain ⟨b, c, rfl, hb, hc, hw⟩ := own_words h hne
  refine ⟨⟨_, c, cell_new rfl rfl, .inr ⟨b, 0, rfl, hb, hc, fun i hi => ?_⟩⟩, cell_new rfl rfl, fun i => ?_, hl⟩
  · exact (World.cell?_of_block (heap_old w _ b hb)).trans (hw i hi)
  · exact World.frozen?_alloc_new w _ _ i
abbrev itV (ok : Bool) (x : In) (la : Option Addr) (lc : Nat) : Value := .agg #[.bool ok, .int .i64 x.op, .int .i64 x.a, .int .i64 x.b, .int .u64 x.v, .slice la x.l.length lc]
/-- A box of an instruction's text. -/
structure C6 (w : World) (B : Nat) (t a b c d e : Value) : Prop where
  c0 : w.cell? ⟨B, 0, none⟩ = some t
  c1 : w.cell? ⟨B, 1, none⟩ = some a
  c2 : w.cell? ⟨B, 2, none⟩ = some b
  c3 : w.cell? ⟨B, 3, none⟩ = some c
  c4 : w.cell? ⟨B, 4, none⟩ = some d
  c5 : w.cell? ⟨B, 5, none⟩ = some e
  fz : ∀ i, w.frozen? ⟨B, i, none⟩ = false
theorem C6.low {V V' : World} {B n : Nat} {t a b c d e : Value} (h : C6 V B t a b c d e) (hb : Below n V V') (hn : B < n) : C6 V' B t a b c d e :=
  ⟨(hb.cell (p := ⟨B, 0, none⟩) hn).trans h.c0, (hb.cell (p := ⟨B, 1, none⟩) hn).trans h.c1, (hb.cell (p := ⟨B, 2, none⟩) hn).trans h.c2, (hb.cell (p := ⟨B, 3, none⟩) hn).trans h.c3, (hb.cell (p := ⟨B, 4, none⟩) hn).trans h.c4, (hb.cell (p := ⟨B, 5, none⟩) hn).trans h.c5, fun i => (hb.frozen (p := ⟨B, i, none⟩) hn).trans (h.fz i)⟩
def Six (V : World) (B : Nat) (u0 u1 u2 u3 u4 u5 : Value) : World := (((((V.setCell ⟨B, 0, none⟩ u0).setCell ⟨B, 1, none⟩ u1).setCell ⟨B, 2, none⟩ u2).setCell ⟨B, 3, none⟩ u3).setCell ⟨B, 4, none⟩ u4).setCell ⟨B, 5, none⟩ u5
set_option maxHeartbeats 1000000 in
theorem C6.fin {w V : World} {B : Nat} {t a b c d e : Value} (h : C6 V B t a b c d e) (hb : Below B w V) {rv : Value} {n : Nat} {xs : List Value} (ho : V.ownsRow (B + 1) 2 1 rv n xs) (u0 u1 u2 u3 u4 u5 : Value) : C6 (Six V B u0 u1 u2 u3 u4 u5) B u0 u1 u2 u3 u4 u5 ∧ Below B w (Six V B u0 u1 u2 u3 u4 u5) ∧ (Six V B u0 u1 u2 u3 u4 u5).ownsRow B 2 1 rv n xs := by
  have hh : ∀ o, (⟨B, o, none⟩ : Addr).block < B + 1 := fun o => by show B < _; omega
  have o0 := ownsRow_setCell_below ho (hh 0) u0
  have o1 := ownsRow_setCell_below o0 (hh 1) u1
  have o2 := ownsRow_setCell_below o1 (hh 2) u2
  have o3 := ownsRow_setCell_below o2 (hh 3) u3
  have o4 := ownsRow_setCell_below o3 (hh 4) u4
  have o5 := ownsRow_setCell_below o4 (hh 5) u5
  have hg : ∀ o, B ≤ (⟨B, o, none⟩ : Addr).block := fun o => Nat.le_refl _
  have b0 := hb.setCell (hg 0) u0
  have b1 := b0.setCell (hg 1) u1
  have b2 := b1.setCell (hg 2) u2
  have b3 := b2.setCell (hg 3) u3
  have b4 := b3.setCell (hg 4) u4
  have b5 := b4.setCell (hg 5) u5
  refine ⟨⟨?_, ?_, ?_, ?_, ?_, ?_, fun i => by simp only [Six, World.frozen?_setCell]; exact h.fz i⟩, b5, o5.mono (by omega)⟩
  · exact set_off (set_off (set_off (set_off (set_off (set_same h.c0) (by decide)) (by decide)) (by decide)) (by decide)) (by decide)
  · exact set_off (set_off (set_off (set_off (set_same (set_off h.c1 (by decide))) (by decide)) (by decide)) (by decide)) (by decide)
  · exact set_off (set_off (set_off (set_same (set_off (set_off h.c2 (by decide)) (by decide))) (by decide)) (by decide)) (by decide)
  · exact set_off (set_off (set_same (set_off (set_off (set_off h.c3 (by decide)) (by decide)) (by decide))) (by decide)) (by decide)
  · exact set_off (set_same (set_off (set_off (set_off (set_off h.c4 (by decide)) (by decide)) (by decide)) (by decide))) (by decide)
  · exact set_same (set_off (set_off (set_off (set_off (set_off h.c5 (by decide)) (by decide)) (by decide)) (by decide)) (by decide))
def bytesOf (xs : List Int) : Wd := xs.map fun n => UInt8.ofNat n.toNat
/-- What ParseIns answers. -/
def PiP (L : List Wd) (w : World) (e : Ending) (w' : World) : Prop := ∃ (ok : Bool) (x : In) (la : Option Addr) (lc : Nat), e = .returned (itV ok x la lc) ∧ w'.ownsRow w.heap.size 2 1 (.slice la x.l.length lc) x.l.length (I x.l) ∧ Below w.heap.size w w' ∧ (ok = true → Prs L x) ∧ (ok = false → x = ⟨0, 0, 0, 0, []⟩ ∧ ¬ ∃ y, Prs L y)
set_option maxHeartbeats 8000000 in
theorem ipar_c (a : Option Addr) (c : Nat) (xs : List Int) (w : World) (h : By.Has w a xs) (hl : xs.length ≤ 1048576) (hV : Vs w.heap.size w) :
    Calls Tryz.prog 6 #[.slice a xs.length c] w (PiP (psplit (bytesOf xs)) w) := by
  obtain ⟨W, hW⟩ : ∃ W, W = w.alloc (.cells #[.bool false, .int .i64 0, .int .i64 0, .int .i64 0, .int .u64 0, .slice none 0 0] 28) := ⟨_, rfl⟩
  have hbW : Below w.heap.size w W := by rw [hW]; exact (Below.refl _ _).alloc (Nat.le_refl _) _
  have hsW : W.heap.size = w.heap.size + 1 := by rw [hW]; simp
  have hcv : (convert 22 9 (.slice a xs.length c)).run Tryz.prog W = .ok (.string (S (bytesOf xs))) W := by
    by_cases hx : xs = []
    · subst hx
      cases a with
      | none => exact run_convert_bytes_nil W 22 5 Tryz.underlying22 Tryz.underlying5 _ _ 9 Tryz.underlying9
      | some p => exact run_convert_bytes_back W 22 9 5 p c [] Tryz.underlying22 Tryz.underlying5 Tryz.underlying9 (fun j hj => by simp at hj)
    · rcases h with h | ⟨b, o, rfl, hc⟩
      · exact absurd h hx
      · exact run_convert_bytes_arg W 22 5 Tryz.underlying22 Tryz.underlying5 b o _ c xs rfl (fun i hi => (hbW.cell (p := ⟨b, o + i, none⟩) (World.block_lt_of_cell? w _ (hc i hi))).trans (hc i hi)) 9 Tryz.underlying9
  have h6 : C6 W w.heap.size (.bool false) (.int .i64 0) (.int .i64 0) (.int .i64 0) (.int .u64 0) (.slice none 0 0) := by
    rw [hW]
    exact ⟨cell_new rfl rfl, cell_new rfl rfl, cell_new rfl rfl, cell_new rfl rfl, cell_new rfl rfl, cell_new rfl rfl, fun i => World.frozen?_alloc_new w _ _ i⟩
  have hbl : (bytesOf xs).length ≤ 1048576 := by simpa [bytesOf] using hl
  have KS := Hid.mk' (split_c (bytesOf xs) W hbl)
  obtain ⟨hpl, hpw⟩ := psplit_len _ (bytesOf xs) (Nat.le_refl _)
  have hpn := psplit_ne (bytesOf xs)
  have hll : ∀ x ∈ psplit (bytesOf xs), x.length ≤ 1099511627776 := fun x hx => by have := hpw x hx; omega
  have hlp : (psplit (bytesOf xs)).length ≤ 1099511627776 := by omega
  have HV := Hid.mk' hV
  have HBW := Hid.mk' hbW
  have H6 := Hid.mk' h6
  have HW := Hid.mk' hW
  clear h hV hbW h6 hpl hpw hbl hW
  generalize psplit (bytesOf xs) = ws at *
  go_enter Tryz.func6, Tryz.ntmps6
  go_upto_region 1 with fail
  rw [show w.alloc (.cells #[.bool false, .int .i64 0, .int .i64 0, .int .i64 0, .int .u64 0, .slice none 0 0] 28) = W from HW.out.symm]
  obtain ⟨s, r, rfl⟩ : ∃ s r, ws = s :: r := by
    cases ws with
    | nil => exact absurd rfl hpn
    | cons s r => exact ⟨s, r, rfl⟩
  go_wp2_with fail
  refine KS.out.mono ?_
  rintro e w1 ⟨v, rfl, hO, hb1⟩
  have TN := Hid.mk' (tw_new hO hpn hlp)
  have HB1 := Hid.mk' hb1
  have hs1 := hb1.size
  obtain ⟨va, vc, rfl⟩ := oE_slice hO
  clear KS hO hb1 hcv
  go_upto_region 2 with fail
  refine wp_gen (fun U => Tw U w1.heap.size (s :: r) false ∧ Below w1.heap.size w1 U) ⟨TN.out, (Below.refl _ _).alloc (Nat.le_refl _) _⟩ ?_
  rintro U ⟨tU, bU⟩
  have hbU : Below W.heap.size W U := HB1.out.trans (bU.mono hs1)
  have TU := Hid.mk' tU
  have BU := Hid.mk' hbU
  have KN := Hid.mk' (next_g w1.heap.size (s :: r) false U tU)
  have hsU := bU.size
  clear tU bU hbU TN HB1
  go_wp2_with fail
  refine KN.out.mono ?_
  rintro e w2 ⟨rfl, t2, g2⟩
  have hb2 : Below W.heap.size W w2 := BU.out.trans ((grown_below g2 TU.out.lt).mono hs1)
  have B2 := Hid.mk' hb2
  have T2 := Hid.mk' t2
  have KC := Hid.mk' (icode_c (S s) w2 (by rw [S_size]; have := hll s (by simp); unfold maxLen; omega))
  rw [S_toList] at KC
  clear hb2 t2 g2 KN BU TU
  go_wp2_with fail
  refine KC.out.mono ?_
  rintro e w3 ⟨rfl, hb3⟩
  obtain ⟨op, hop⟩ : ∃ op, op = codeI s := ⟨_, rfl⟩
  rw [← hop]
  have HOP := Hid.mk' hop
  have T3 : Hid (Tw w3 w1.heap.size r false) := T2.out.keep hb3
  have B3 := Hid.mk' (B2.out.trans (hb3.mono B2.out.size))
  have hs3 := T3.out.lt
  have KI := Hid.mk' (ins_c w1.heap.size r op w3 T3.out (fun x hx => hll x (by simp [hx])) ((HV.out.keep (HBW.out.trans (B3.out.mono (by omega)))).up (by omega)))
  clear hb3 hop KC T2 B2 HV
  go_wp2_with fail
  refine KI.out.mono ?_
  rintro e w4 ⟨x, la, lc, ws', bd, rfl, hxo, own4, t4, g4, A1, A2⟩
  have b4 : Below W.heap.size W w4 := B3.out.trans ((grown_below g4 hs3).mono hs1)
  have HA := Hid.mk' (And.intro hxo (And.intro A1 A2))
  have TX := Hid.mk' (And.intro (t4.keep ((Below.refl _ w4).alloc (Nat.le_refl _) (.cells #[.int .i64 x.op, .int .i64 x.a, .int .i64 x.b, .int .u64 x.v, .slice la x.l.length lc] 26))) (And.intro (b4.alloc b4.size (.cells #[.int .i64 x.op, .int .i64 x.a, .int .i64 x.b, .int .u64 x.v, .slice la x.l.length lc] 26)) (And.intro ((own4.alloc (.cells #[.int .i64 x.op, .int .i64 x.a, .int .i64 x.b, .int .u64 x.v, .slice la x.l.length lc] 26)).mono (show w.heap.size + 1 ≤ w3.heap.size by have := B3.out.size; omega)) (C5.new (w := w4) (a := .int .i64 x.op) (b := .int .i64 x.a) (c := .int .i64 x.b) (d := .int .u64 x.v) (e := .slice la x.l.length lc) (t := 26)))))
  clear hxo A1 A2 own4 t4 g4 b4 KI T3 B3
  go_upto_region 4 with fail
  refine wp_gen (fun U => Tw U w1.heap.size ws' bd ∧ Below W.heap.size W U ∧ U.ownsRow (w.heap.size + 1) 2 1 (.slice la x.l.length lc) x.l.length (I x.l) ∧ C5 U w4.heap.size 0 (.int .i64 x.op) (.int .i64 x.a) (.int .i64 x.b) (.int .u64 x.v) (.slice la x.l.length lc)) TX.out ?_
  rintro V ⟨tV, bV, oV, xV⟩
  have h6 := H6.out.low bV (by omega)
  have HF := Hid.mk' (fun rv n (zs : List Value) (ho : V.ownsRow (w.heap.size + 1) 2 1 rv n zs) => h6.fin (HBW.out.trans (bV.mono (by omega))) ho)
  obtain ⟨z0, z1, z2, z3, z4, z5, zf⟩ := h6
  obtain ⟨⟨x0, x1, x2, x3, x4⟩, -⟩ := xV
  simp only [Nat.zero_add] at x0 x1 x2 x3 x4
  have zf0 := zf 0
  have zf1 := zf 1
  have zf2 := zf 2
  have zf3 := zf 3
  have zf4 := zf 4
  have zf5 := zf 5
  have OV := Hid.mk' oV
  have KG := Hid.mk' (good_c w1.heap.size ws' bd V tV)
  clear zf TX H6 HBW tV bV oV hsW hs1 hsU hs3
  by_cases hn : op < 0
  · go_wp2
    refine body_gen (fun U => C6 U w.heap.size (.bool false) (.int .i64 0) (.int .i64 0) (.int .i64 0) (.int .u64 0) (.slice none 0 0) ∧ Below w.heap.size w U ∧ U.ownsRow w.heap.size 2 1 (.slice none 0 0) 0 []) (HF.out _ _ _ (World.ownsRow_nil _ _ _ _) _ _ _ _ _ _) ?_
    rintro U ⟨⟨t0, t1, t2, t3, t4, t5, -⟩, bU, oU⟩
    have HU := Hid.mk' (And.intro bU oU)
    clear bU oU
    exact bodyPost_ret (v := itV false ⟨0, 0, 0, 0, []⟩ none 0) (by simp [results, Tryz.results6, go_sem, t0, t1, t2, t3, t4, t5]) rfl ⟨false, ⟨0, 0, 0, 0, []⟩, none, 0, rfl, HU.out.2, HU.out.1, fun h => absurd h (by decide), fun _ => ⟨rfl, fun ⟨y, s2, r2, e2, h0, hc, _⟩ => by cases e2; rw [← HOP.out] at hc; omega⟩⟩
  · have hn2 : decide (op < 0) = false := by simpa using hn
    cases hg : (!bd && ws'.isEmpty) with
    | false =>
      rw [hg] at KG
      go_wp2_with fail
      refine KG.out.mono ?_
      rintro e w5 ⟨rfl, rfl⟩
      go_wp2
      refine body_gen (fun U => C6 U w.heap.size (.bool false) (.int .i64 0) (.int .i64 0) (.int .i64 0) (.int .u64 0) (.slice none 0 0) ∧ Below w.heap.size w U ∧ U.ownsRow w.heap.size 2 1 (.slice none 0 0) 0 []) (HF.out _ _ _ (World.ownsRow_nil _ _ _ _) _ _ _ _ _ _) ?_
      rintro U ⟨⟨t0, t1, t2, t3, t4, t5, -⟩, bU, oU⟩
      have HU := Hid.mk' (And.intro bU oU)
      clear bU oU
      exact bodyPost_ret (v := itV false ⟨0, 0, 0, 0, []⟩ none 0) (by simp [results, Tryz.results6, go_sem, t0, t1, t2, t3, t4, t5]) rfl ⟨false, ⟨0, 0, 0, 0, []⟩, none, 0, rfl, HU.out.2, HU.out.1, fun h => absurd h (by decide), fun _ => ⟨rfl, fun ⟨y, s2, r2, e2, h0, hc, ha⟩ => by
        cases e2
        rw [← HOP.out] at hc
        rw [← hc] at ha
        obtain ⟨k1, k2⟩ := HA.out.2.2 ⟨y, ha⟩
        rw [k1, k2] at hg; cases hg⟩⟩
    | true =>
      rw [hg] at KG
      have hgd : bd = false ∧ ws' = [] := by simpa using hg
      have HGD := Hid.mk' hgd
      clear hgd
      go_wp2_with fail
      refine KG.out.mono ?_
      rintro e w5 ⟨rfl, rfl⟩
      go_wp2
      refine body_gen (fun U => C6 U w.heap.size (.bool true) (.int .i64 x.op) (.int .i64 x.a) (.int .i64 x.b) (.int .u64 x.v) (.slice la x.l.length lc) ∧ Below w.heap.size w U ∧ U.ownsRow w.heap.size 2 1 (.slice la x.l.length lc) x.l.length (I x.l)) (HF.out _ _ _ OV.out _ _ _ _ _ _) ?_
      rintro U ⟨⟨t0, t1, t2, t3, t4, t5, -⟩, bU, oU⟩
      have HU := Hid.mk' (And.intro bU oU)
      clear bU oU
      exact bodyPost_ret (v := itV true x la lc) (by simp [results, Tryz.results6, go_sem, t0, t1, t2, t3, t4, t5]) rfl ⟨true, x, la, lc, rfl, HU.out.2, HU.out.1, fun _ => ⟨s, r, rfl, by rw [HA.out.1]; omega, by rw [HA.out.1]; exact HOP.out.symm, by rw [HA.out.1]; exact HA.out.2.1 HGD.out.1 HGD.out.2⟩, fun h => absurd h (by decide)⟩
end Go.Proofs.YtngepdhhdbhglaaGreatDoor
