import Derived.Test.YteaegmlnacnofaaK10
import Derived.Test.YteaegmlnacnofaaK9a
import Derived.Test.YteaegmlnacnofaaK9b
import Derived.Test.YteaegmlnacnofaaK9c
import Derived.Test.YteaegmlnacnofaaK9d
set_option linter.all false
set_option linter.unusedVariables false
namespace Go.Proofs.Yteaegmlnacnofaa
open Go.RowKit Go.Sort
set_option maxRecDepth 100000
def gd (x : In) : Bool := goodF (formR (rowOf x.op)) x
theorem form_range (op : Int) : formR (rowOf op) = -1 ∨ formR (rowOf op) = 0 ∨ formR (rowOf op) = 1 ∨ formR (rowOf op) = 2 ∨ formR (rowOf op) = 3 ∨ formR (rowOf op) = 4 ∨ formR (rowOf op) = 5 ∨ formR (rowOf op) = 6 ∨ formR (rowOf op) = 7 ∨ formR (rowOf op) = 8 ∨ formR (rowOf op) = 9 ∨ formR (rowOf op) = 10 := by
  by_cases h : 0 ≤ op ∧ op < 192
  · have e := of_decide_eq_true (rng 0 192 (fun i => decide (-1 ≤ formR (tbl.getD i Z0) ∧ formR (tbl.getD i Z0) ≤ 10)) (by decide +kernel) op (by omega) (by omega))
    have er : rowOf op = tbl.getD op.toNat Z0 := by simp only [rowOf, h, and_self, if_true]
    rw [← er] at e
    omega
  · have er : rowOf op = Z0 := by simp only [rowOf, h, if_false]
    rw [er]; left; decide
theorem isIns_c (x : In) (la : Option Addr) (lc : Nat) (w : World) (hv : 0 ≤ x.v) (hln : x.l.length ≤ 1099511627776) (hH : Has w la x.l) : Calls Try.prog 71 #[inV x la lc] w fun e w' => e = .returned (.bool (gd x)) ∧ Below w.heap.size w w' := by
  obtain ⟨op, a, b, v, l⟩ := x
  rcases form_range op with h | h | h | h | h | h | h | h | h | h | h | h
  · have := igood_m1 op a b v l la lc w h hv; simp only [gd, h]; exact this
  · have := igood_0 op a b v l la lc w h hv; simp only [gd, h]; exact this
  · have := igood_1 op a b v l la lc w h hv; simp only [gd, h]; exact this
  · have := igood_2 op a b v l la lc w h hv; simp only [gd, h]; exact this
  · have := igood_3 op a b v l la lc w h hv hln hH; simp only [gd, h]; exact this
  · have := igood_4 op a b v l la lc w h hv; simp only [gd, h]; exact this
  · have := igood_5 op a b v l la lc w h hv; simp only [gd, h]; exact this
  · have := igood_6 op a b v l la lc w h hv; simp only [gd, h]; exact this
  · have := igood_7 op a b v l la lc w h hv; simp only [gd, h]; exact this
  · have := igood_8 op a b v l la lc w h hv; simp only [gd, h]; exact this
  · have := igood_9 op a b v l la lc w h hv; simp only [gd, h]; exact this
  · have := igood_10 op a b v l la lc w h hv; simp only [gd, h]; exact this
def goM : List Bool → List In → Bool
  | n, [] => n.isEmpty
  | n, x :: xs => if gd x then (match stepM n x.op with | none => false | some n' => goM n' xs) else false
def closedM (xs : List In) : Bool := goM [false] xs
theorem stepM_len {n n' : List Bool} {op : Int} (h : stepM n op = some n') : n'.length ≤ n.length + 1 := by
  unfold stepM at h
  split at h
  · cases h
  · split at h
    · cases h; simp
    · split at h
      · cases h; simp
      · split at h
        · split at h
          · cases h; simp
          · cases h
        · split at h
          · cases h; simp; omega
          · cases h; omega
theorem drop_cons (xs : List In) (k : Nat) (h : k < xs.length) : xs.drop k = xs.getD k I0 :: xs.drop (k + 1) := by
  rw [List.drop_eq_getElem_cons h]; simp [List.getD, List.getElem?_eq_getElem h]
theorem Ne.keep {B g : Nat} {v : Value} {n : List Bool} {w w1 : World} (h : Ne B g v n w) (hb : Below w.heap.size w w1) : Ne B g v n w1 := by
  refine ⟨(hb.cell (p := ⟨g, 0, none⟩) h.lt).trans h.cell, (hb.frozen (p := ⟨g, 0, none⟩) h.lt).trans h.froz, ?_, h.ne, h.ge, Nat.lt_of_lt_of_le h.lt hb.size⟩
  refine ⟨h.own.1, ?_⟩
  rcases h.own.2 with h0 | ⟨g', cap, cur, hv, hB, hh, r⟩
  · exact .inl h0
  · exact .inr ⟨g', cap, cur, hv, hB, (hb.block g' (Array.getElem?_eq_some_iff.1 hh).1).trans hh, r⟩
theorem nestNew_c (w : World) : Calls Try.prog 70 #[] w fun e w' => e = .returned (.slice (some ⟨w.heap.size, 0, none⟩) 1 1) ∧ w' = w.alloc (.cells #[.bool false] 4) := by
  go_enter Try.func70, Try.ntmps70
  go_wp2
  go_ret
  exact ⟨rfl, rfl⟩
theorem ne_start (w : World) : Ne w.heap.size (w.heap.size + 1) (.slice (some ⟨w.heap.size, 0, none⟩) 1 1) [false] ((w.alloc (.cells #[.bool false] 4)).alloc (.cells #[.slice (some ⟨w.heap.size, 0, none⟩) 1 1] 116)) := by
  have e : (w.alloc (.cells #[.bool false] 4)).heap.size = w.heap.size + 1 := by simp
  refine ⟨cell_new e.symm rfl, by rw [← e]; exact World.frozen?_alloc_new _ _ _ _, ?_, by simp [Value.ownBlock], by omega, by simp⟩
  exact (World.ownsRow_lit (base := w.heap.size) (e := 4) (size := 1) w #[.bool false] 1 (Nat.le_refl _) (by unfold maxLen; omega) rfl).alloc _
set_option maxHeartbeats 4000000 in
theorem iclosed_c (a : Option Addr) (c : Nat) (xs : List In) (w : World) (hn : xs.length ≤ 1048576) (hl : ∀ i, i < xs.length → (xs.getD i I0).l.length ≤ 1048576) (hv : ∀ i, 0 ≤ (xs.getD i I0).v) (hL : Lst w a xs) :
    Calls Try.prog 38 #[.slice a xs.length c] w fun e w' => e = .returned (.bool (closedM xs)) ∧ Below w.heap.size w w' := by
  have HL := Hid.mk' hL
  have Hl := Hid.mk' hl
  have Hv := Hid.mk' hv
  clear hL hl hv
  have HS := Hid.mk' (ne_start w)
  have H0 := Hid.mk' (nestNew_c w)
  go_enter Try.func38, Try.ntmps38
  go_wp2_with fail
  refine H0.out.mono ?_
  rintro e w1 ⟨rfl, rfl⟩
  go_wp2_with fail
  go_loopw [9] (fun i wr => ∃ (k : Nat) (n : List Bool) (v : Value), k ≤ xs.length ∧ i = .int .i64 k ∧ Ne w.heap.size (w.heap.size + 1) v n wr ∧ Below w.heap.size w wr ∧ closedM xs = goM n (xs.drop k) ∧ n.length ≤ k + 1) (fun i _ => xs.length - (intOf i).toNat)
  case atStart => exact ⟨0, [false], _, Nat.zero_le _, rfl, HS.out, ((Below.refl _ _).alloc (Nat.le_refl _) _).alloc (by simp) _, rfl, by simp⟩
  case round =>
    obtain ⟨k, n, v, hk, rfl, ne, hb, hm, hnl⟩ := hrel
    clear HS H0
    by_cases hlt : k < xs.length
    · have hki : (k : Int) < (xs.length : Int) := by omega
      rcases HL.out.keep hb with hx | ⟨b, o, ea, hc⟩
      · subst hx; simp at hlt
      obtain ⟨la, lc, c0, c1, c2, c3, c4, c5⟩ := hc k hlt
      subst ea
      rw [drop_cons xs k hlt] at hm
      have hxl := Hl.out k hlt
      have hxv := Hv.out k
      obtain ⟨x, hx⟩ : ∃ x, x = xs.getD k I0 := ⟨_, rfl⟩
      rw [← hx] at c0 c1 c2 c3 c4 c5 hm hxl hxv
      have ba : Below wr.heap.size wr (wr.alloc (.cells #[.int .i64 x.op, .int .i64 x.a, .int .i64 x.b, .int .u64 x.v, .slice la x.l.length lc] 26)) := (Below.refl _ _).alloc (Nat.le_refl _) _
      have HI := Hid.mk' (isIns_c x la lc _ hxv (by omega) (c5.keep ba))
      have hsz := ne.lt
      have NE := Hid.mk' ne
      have HB := Hid.mk' hb
      have HM := Hid.mk' hm
      have HBA := Hid.mk' ba
      clear hx hc c5 ne hb hm ba HL Hl Hv
      generalize hg : gd x = gx at *
      cases gx
      · go_wp2_with fail
        refine HI.out.mono ?_
        rintro e w2 ⟨rfl, hb2⟩
        have hb3 : Below w.heap.size w w2 := HB.out.trans ((HBA.out.trans (hb2.mono (by simp))).mono HB.out.size)
        clear hb2
        go_wp2
        go_ret
        exact ⟨by rw [HM.out]; simp [goM, hg], hb3⟩
      · go_wp2_with fail
        refine HI.out.mono ?_
        rintro e w2 ⟨rfl, hb2⟩
        have hb3 : Below wr.heap.size wr w2 := HBA.out.trans (hb2.mono (by simp))
        have hb4 : Below w.heap.size w w2 := HB.out.trans (hb3.mono HB.out.size)
        have d0 : w2.cell? ⟨wr.heap.size, 0, none⟩ = some (.int .i64 x.op) := by
          rw [hb2.cell (p := ⟨wr.heap.size, 0, none⟩) (by simp)]; exact cell_new rfl rfl
        have NS := Hid.mk' (step_c _ _ v n x.op w2 (NE.out.keep hb3) (by omega))
        have HB4 := Hid.mk' hb4
        clear hb2 hb3 hb4 HI NE
        cases hst : stepM n x.op with
        | none =>
          rw [hst] at NS
          go_wp2_with fail
          refine NS.out.mono ?_
          rintro e w3 ⟨v', rfl, hne, hb5⟩
          have hb6 := HB4.out.trans (hb5.mono (Nat.le_refl _))
          clear hne hb5
          go_wp2
          go_ret
          exact ⟨by rw [HM.out]; simp [goM, hg, hst], hb6⟩
        | some n' =>
          rw [hst] at NS
          have hnl' := stepM_len hst
          go_wp2_with fail
          refine NS.out.mono ?_
          rintro e w3 ⟨v', rfl, hne, hb5⟩
          have hb6 := Hid.mk' (HB4.out.trans (hb5.mono (Nat.le_refl _)))
          have ne2 := Hid.mk' (hne n' rfl)
          have HM2 : Hid (closedM xs = goM n' (xs.drop (k + 1))) := by
            show closedM xs = _
            rw [HM.out]; simp [goM, hg, hst]
          clear hne hb5 hst
          go_wp2
          go_roundw
          case rel => exact ⟨k + 1, n', v', by omega, by go_num, ne2.out, hb6.out, HM2.out, by omega⟩
          case measure => simp [intOf]; omega
    · have e : k = xs.length := by omega
      subst e
      obtain ⟨va, vc, rfl⟩ := ownE_slice ne.own
      have c0 := ne.cell
      have HC := Hid.mk' (closed_c va n.length vc)
      have HM : Hid (closedM xs = decide (n.length = 0)) := by
        show closedM xs = _
        rw [hm, List.drop_of_length_le (Nat.le_refl _)]
        cases n <;> simp [goM]
      clear hm ne HL Hl Hv
      generalize decide (n.length = 0) = dd at HC HM
      go_wp2_with fail
      refine (HC.out _).mono ?_
      rintro e w2 ⟨rfl, rfl⟩
      go_wp2
      go_ret
      exact ⟨by rw [HM.out]; rfl, hb⟩
end Go.Proofs.Yteaegmlnacnofaa
