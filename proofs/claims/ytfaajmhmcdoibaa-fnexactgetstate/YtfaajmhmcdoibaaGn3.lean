import Derived.Test.YtfaajmhmcdoibaaGn2
set_option linter.all false
set_option linter.unusedVariables false
namespace Go.Proofs.Ytfaajmhmcdoibaa
open Go.RowKit Go.Sort
set_option maxRecDepth 100000
theorem byt_app {a b : List Int} (ha : Byt a) (hb : Byt b) : Byt (a ++ b) := fun x hx => (List.mem_append.1 hx).elim (ha x) (hb x)
theorem byt_flat {α : Type} {e : α → List Int} {l : List α} (h : ∀ x ∈ l, Byt (e x)) : Byt (l.flatMap e) := fun x hx => by
  obtain ⟨y, hy, hx⟩ := List.mem_flatMap.1 hx
  exact h y hy x hx
theorem byt_nums {l : List Int} (h : numsO l = true) : Byt (numsE l) := byt_flat fun n hn => by
  simp only [numsO, List.all_eq_true] at h
  have := h n hn
  simp only [u32B, Bool.and_eq_true, decide_eq_true_eq] at this
  exact lebU_bytes 9 n this.1 (fitU_start (by omega))
theorem byt_list {α : Type} {e : α → List Int} {o : α → Bool} {l : List α} (h : listO o l = true) (hi : ∀ x ∈ l, o x = true → Byt (e x)) : Byt (listE e l) := by
  simp only [listO, Bool.and_eq_true, List.all_eq_true] at h
  exact byt_app (byt_nums h.1) (byt_flat fun x hx => hi x hx (h.2 x hx))
theorem byt_fx (k : Nat) (v : Int) : Byt (fx k v) := fun x hx => by
  simp only [fx, List.mem_map] at hx
  obtain ⟨i, _, rfl⟩ := hx
  omega
theorem byt_lab {x : Lab} (h : labO x = true) : Byt (labE x) := by
  simp only [labO, Bool.and_true] at h
  refine byt_app (byt_nums h) (fun y hy => ?_)
  simp only [flB, List.mem_singleton] at hy
  subst hy
  split <;> omega
theorem byt_frm {x : Frm} (h : frmO x = true) : Byt (frmE x) := by
  simp only [frmO, Bool.and_eq_true] at h
  exact byt_app (byt_nums h.1) (byt_app (byt_list h.2.1 fun y _ _ => byt_fx 8 y) (byt_app (byt_nums h.2.2.1) (byt_list h.2.2.2 fun y _ ho => byt_lab ho)))
theorem img_byt (x : Sta) : Byt (imgM x) := by
  unfold imgM
  split
  · rename_i h
    simp only [Bool.and_eq_true, decide_eq_true_eq] at h
    have h1 := h.1
    simp only [staO, Bool.and_eq_true] at h1
    refine byt_app (fun y hy => ?_) (byt_app (byt_nums h1.1) (byt_app (byt_list h1.2.1 fun y _ _ => byt_fx 8 y) (byt_list h1.2.2 fun y _ ho => byt_frm ho)))
    simp only [List.mem_cons, List.not_mem_nil, or_false] at hy
    omega
  · intro y hy; cases hy
theorem byt_allB {l : List Int} (h : Byt l) : AllB l := by
  intro i
  by_cases hi : i < l.length
  · rw [List.getD_eq_getElem?_getD, List.getElem?_eq_getElem hi]; exact h _ (List.getElem_mem hi)
  · rw [List.getD_eq_getElem?_getD, List.getElem?_eq_none (by omega)]; simp
/-- What GetState answers. -/
def GsP (bs : List Int) (A : Nat) (w' : World) (v : Value) : Prop := (v = .agg #[.bool false, .int .i64 0, .int .i64 0, .slice none 0 0, .slice none 0 0] ∧ ∀ y : Sta, y.Vs → bs ≠ [] → imgM y ≠ bs) ∨ (∃ st tr ws xs v1 v2 M, v = .agg #[.bool true, .int .i64 st, .int .i64 tr, v1, v2] ∧ StH w' A M ws xs v1 v2 ∧ bs ≠ [] ∧ imgM ⟨st, tr, ws, xs.map (·.1)⟩ = bs)
theorem StH.keep {w w' : World} {A M : Nat} {ws : List Int} {xs : List (Frm × Value × Value)} {v1 v2 : Value} (h : StH w A M ws xs v1 v2) (hs : w.heap.size ≤ w'.heap.size) (hk : ∀ q, A ≤ q → q < w.heap.size → w'.heap[q]? = w.heap[q]?) : StH w' A M ws xs v1 v2 := by
  obtain ⟨h1, h2, ⟨bd, b1, b2, b3⟩, h4, h5, h6⟩ := h
  refine ⟨ownS_of h1 (fun q hq => hk q (h1.lt q hq).1 (h1.lt q hq).2), ownS_of h2 (fun q hq => hk q (by have := (h2.lt q hq).1; omega) (h2.lt q hq).2), ⟨bd, b1, by omega, fun i hi => ?_⟩, h4, h5, h6⟩
  obtain ⟨M', c1, c2, c3⟩ := b3 i hi
  exact ⟨M', c1.keep hs (fun q hq hC => hk q (by have := (c2 q hq).1; omega) (by have := c1.2.2.2.2.2.2; omega)), c2, c3⟩
theorem StH.down {w : World} {A A' M : Nat} {ws : List Int} {xs : List (Frm × Value × Value)} {v1 v2 : Value} (h : StH w A M ws xs v1 v2) (hA : A' ≤ A) : StH w A' M ws xs v1 v2 := by
  obtain ⟨h1, h2, h3, h4, h5, h6⟩ := h
  exact ⟨ownS_down h1 hA, h2, h3, h4, by omega, h6⟩
set_option maxHeartbeats 8000000 in
theorem iget_c (ab ao c : Nat) (bs : List Int) (w : World) (hc : bs.length ≤ c) (hc2 : c ≤ 1099511627776) (hH : ∀ i, i < bs.length → w.cell? ⟨ab, ao + i, none⟩ = some (.int .u8 (bs.getD i 0))) (hB : Byt bs) :
    Calls Try.prog 16 #[.slice (some ⟨ab, ao, none⟩) bs.length c] w fun e w' => ∃ v, e = .returned v ∧ GsP bs w.heap.size w' v ∧ Below w.heap.size w w' := by
  by_cases hbig : 1000000 < bs.length
  · have hh : ((bs.length : Nat) : Int) > 1000000 := by omega
    have HN : Hid (∀ y : Sta, y.Vs → bs ≠ [] → imgM y ≠ bs) := fun y _ _ e => by have := imgM_le y; rw [e] at this; omega
    clear hH hB hbig
    go_enter Try.func16, Try.ntmps16
    go_upto_region 1 with fail
    refine wp_gen (fun W => Bk W w.heap.size [.bool false, .int .i64 0, .int .i64 0, .slice none 0 0, .slice none 0 0] ∧ Below w.heap.size w W) ⟨Bk.new, (Below.refl _ _).alloc (Nat.le_refl _) _⟩ ?_
    rintro W0 ⟨bk, hb0⟩
    have q0 : W0.cell? ⟨w.heap.size, 0, none⟩ = some (.bool false) := bk.2.1 0 _ rfl
    have q1 : W0.cell? ⟨w.heap.size, 1, none⟩ = some (.int .i64 0) := bk.2.1 1 _ rfl
    have q2 : W0.cell? ⟨w.heap.size, 2, none⟩ = some (.int .i64 0) := bk.2.1 2 _ rfl
    have q3 : W0.cell? ⟨w.heap.size, 3, none⟩ = some (.slice none 0 0) := bk.2.1 3 _ rfl
    have q4 : W0.cell? ⟨w.heap.size, 4, none⟩ = some (.slice none 0 0) := bk.2.1 4 _ rfl
    have fz := bk.2.2
    have HB := Hid.mk' (And.intro bk hb0)
    clear bk hb0
    go_wp2
    refine body_gen (fun U => Bk U w.heap.size [.bool false, .int .i64 0, .int .i64 0, .slice none 0 0, .slice none 0 0] ∧ Below w.heap.size w U) ⟨HB.out.1.set.set.set.set.set, ((((HB.out.2.setCell (Nat.le_refl _) _).setCell (Nat.le_refl _) _).setCell (Nat.le_refl _) _).setCell (Nat.le_refl _) _).setCell (Nat.le_refl _) _⟩ ?_
    rintro U ⟨bu, hbu⟩
    have s0 : U.cell? ⟨w.heap.size, 0, none⟩ = some (.bool false) := bu.2.1 0 _ rfl
    have s1 : U.cell? ⟨w.heap.size, 1, none⟩ = some (.int .i64 0) := bu.2.1 1 _ rfl
    have s2 : U.cell? ⟨w.heap.size, 2, none⟩ = some (.int .i64 0) := bu.2.1 2 _ rfl
    have s3 : U.cell? ⟨w.heap.size, 3, none⟩ = some (.slice none 0 0) := bu.2.1 3 _ rfl
    have s4 : U.cell? ⟨w.heap.size, 4, none⟩ = some (.slice none 0 0) := bu.2.1 4 _ rfl
    exact bodyPost_ret (v := .agg #[.bool false, .int .i64 0, .int .i64 0, .slice none 0 0, .slice none 0 0]) (by simp [results, Try.results16, go_sem, s0, s1, s2, s3, s4]) rfl ⟨_, rfl, .inl ⟨rfl, HN.out⟩, hbu⟩
  · have hh : ¬ ((bs.length : Nat) : Int) > 1000000 := by omega
    have HBy0 := hB
    obtain ⟨k, hk⟩ : ∃ k, k = min 2 bs.length := ⟨_, rfl⟩
    have hkl : k ≤ bs.length := by omega
    have HK := Hid.mk' hk
    have hk' : (if (bs.length : Int) < 2 then (bs.length : Int) else 2) = (k : Int) := by split <;> omega
    obtain ⟨ao', ha, hif⟩ : ∃ ao', (c = k ∨ ao' = ao + k) ∧ (if c = k then some (⟨ab, ao, none⟩ : Addr) else some ⟨ab, ao + k, none⟩) = some ⟨ab, ao', none⟩ := by
      by_cases hx : c = k
      · exact ⟨ao, .inl hx, by rw [if_pos hx]⟩
      · exact ⟨ao + k, .inr rfl, by rw [if_neg hx]⟩
    have HST : Hid (∀ t1 t2 t3 : TypeId, (fun W => Bk W w.heap.size [.bool false, .int .i64 0, .int .i64 0, .slice none 0 0, .slice none 0 0] ∧ Rb w W (w.heap.size + 1) (bs.drop k) false ∧ Bk W (w.heap.size + 1 + 1) [.int .i64 0, .int .i64 0, .slice none 0 0, .slice none 0 0] ∧ Ro W (w.heap.size + 1 + 1) 4 ∧ Below w.heap.size w W) (((w.alloc (.cells #[.bool false, .int .i64 0, .int .i64 0, .slice none 0 0, .slice none 0 0] t1)).alloc (.cells #[.slice (some ⟨ab, ao', none⟩) (bs.length - k) (c - k), .bool false] t2)).alloc (.cells #[.int .i64 0, .int .i64 0, .slice none 0 0, .slice none 0 0] t3))) := by
      intro t1 t2 t3
      have e1 : (w.alloc (.cells #[.bool false, .int .i64 0, .int .i64 0, .slice none 0 0, .slice none 0 0] t1)).heap.size = w.heap.size + 1 := by simp
      have e2 : ((w.alloc (.cells #[.bool false, .int .i64 0, .int .i64 0, .slice none 0 0, .slice none 0 0] t1)).alloc (.cells #[.slice (some ⟨ab, ao', none⟩) (bs.length - k) (c - k), .bool false] t2)).heap.size = w.heap.size + 1 + 1 := by simp
      have hbel : Below w.heap.size w (((w.alloc (.cells #[.bool false, .int .i64 0, .int .i64 0, .slice none 0 0, .slice none 0 0] t1)).alloc (.cells #[.slice (some ⟨ab, ao', none⟩) (bs.length - k) (c - k), .bool false] t2)).alloc (.cells #[.int .i64 0, .int .i64 0, .slice none 0 0, .slice none 0 0] t3)) := (((Below.refl _ _).alloc (Nat.le_refl _) _).alloc (by simp) _).alloc (by simp; omega) _
      have bR : Bk (((w.alloc (.cells #[.bool false, .int .i64 0, .int .i64 0, .slice none 0 0, .slice none 0 0] t1)).alloc (.cells #[.slice (some ⟨ab, ao', none⟩) (bs.length - k) (c - k), .bool false] t2)).alloc (.cells #[.int .i64 0, .int .i64 0, .slice none 0 0, .slice none 0 0] t3)) (w.heap.size + 1) [.slice (some ⟨ab, ao', none⟩) (bs.length - k) (c - k), .bool false] := by
        have := (Bk.new (w := w.alloc (.cells #[.bool false, .int .i64 0, .int .i64 0, .slice none 0 0, .slice none 0 0] t1)) (cs := [.slice (some ⟨ab, ao', none⟩) (bs.length - k) (c - k), .bool false]) (t := t2)).past (o := .cells #[.int .i64 0, .int .i64 0, .slice none 0 0, .slice none 0 0] t3)
        rw [e1] at this
        exact this
      have bT : Bk (((w.alloc (.cells #[.bool false, .int .i64 0, .int .i64 0, .slice none 0 0, .slice none 0 0] t1)).alloc (.cells #[.slice (some ⟨ab, ao', none⟩) (bs.length - k) (c - k), .bool false] t2)).alloc (.cells #[.int .i64 0, .int .i64 0, .slice none 0 0, .slice none 0 0] t3)) (w.heap.size + 1 + 1) [.int .i64 0, .int .i64 0, .slice none 0 0, .slice none 0 0] := by
        have := (Bk.new (w := (w.alloc (.cells #[.bool false, .int .i64 0, .int .i64 0, .slice none 0 0, .slice none 0 0] t1)).alloc (.cells #[.slice (some ⟨ab, ao', none⟩) (bs.length - k) (c - k), .bool false] t2)) (cs := [.int .i64 0, .int .i64 0, .slice none 0 0, .slice none 0 0]) (t := t3))
        rw [e2] at this
        exact this
      refine ⟨Bk.new.past.past, ⟨ab, ao', c - k, by rw [List.length_drop]; exact bR.2.1 0 _ rfl, bR.2.1 1 _ rfl, bR.2.2, by simp; omega, by omega, fun i hi => ?_, byt_allB (fun x hx => HBy0 x (List.mem_of_mem_drop hx)), hbel, by omega⟩, bT, ⟨_, t3, by rw [← e2]; exact heap_new _ _, by simp⟩, hbel⟩
      have hi' : k + i < bs.length := by simp at hi; omega
      have e : (bs.drop k).getD i 0 = bs.getD (k + i) 0 := by simp [List.getD]
      rw [e]
      rcases ha with ha | ha
      · omega
      · rw [ha, Nat.add_assoc]; exact hH (k + i) hi'
    have HBS := Hid.mk' (show Bs w (.slice (some ⟨ab, ao, none⟩) bs.length c) bs from .inr ⟨ab, ao, c, rfl, hH⟩)
    have HBy := Hid.mk' hB
    have HHK := Hid.mk' hk'
    have HIF := Hid.mk' hif
    clear hH hB hk HBy0 hk' hif ha
    go_enter Try.func16, Try.ntmps16
    go_upto_region 5 with fail
    rw [HHK.out, Int.toNat_natCast, HIF.out]
    refine wp_gen (fun W => Bk W w.heap.size [.bool false, .int .i64 0, .int .i64 0, .slice none 0 0, .slice none 0 0] ∧ Rb w W (w.heap.size + 1) (bs.drop k) false ∧ Bk W (w.heap.size + 1 + 1) [.int .i64 0, .int .i64 0, .slice none 0 0, .slice none 0 0] ∧ Ro W (w.heap.size + 1 + 1) 4 ∧ Below w.heap.size w W) (HST.out _ _ _) ?_
    rintro W2 ⟨bk0, hRb, bkT, hRo, hb2⟩
    have KS := Hid.mk' (rsta_c w (w.heap.size + 1) (bs.drop k) false (w.heap.size + 1 + 1) 4 W2 hRb hRo (by omega) (by omega) (by omega) (bkT.2.1 2 _ rfl) (bkT.2.1 3 _ rfl) (by simp; omega))
    have HB2 := Hid.mk' hb2
    have HK0 := Hid.mk' bk0
    have hT2 : w.heap.size + 1 + 1 < W2.heap.size := hRo.lt
    clear bk0 hRb bkT hRo hb2 HST HHK HIF
    go_wp2_with fail
    refine KS.out.mono ?_
    rintro e w3 ⟨rfl, st, tr, ws, xs, v1, v2, M, l', b', hR3, hC3, ⟨t0, t1, t2, t3⟩, hSt, hrp⟩
    obtain ⟨a1, c1, a2, c2, rfl, ev2, hI⟩ := hSt.is st tr
    obtain ⟨nf, hnf⟩ : ∃ nf, nf = (xs.map (·.1)).length := ⟨_, rfl⟩
    rw [← hnf] at ev2
    subst ev2
    obtain ⟨E, hE⟩ : ∃ E, E = imgM ⟨st, tr, ws, xs.map (·.1)⟩ := ⟨_, rfl⟩
    have hs3 := hC3.size
    have bk3 : Bk w3 w.heap.size [.bool false, .int .i64 0, .int .i64 0, .slice none 0 0, .slice none 0 0] := ⟨by omega, fun j v hv => (World.cell?_of_block (a := ⟨w.heap.size, j, none⟩) (hC3.block w.heap.size (by omega) (by omega) (by omega))).trans (HK0.out.2.1 j v hv), fun j => (World.frozen?_of_block (a := ⟨w.heap.size, j, none⟩) (hC3.block w.heap.size (by omega) (by omega) (by omega))).trans (HK0.out.2.2 j)⟩
    have hb3 : Below w.heap.size w w3 := hR3.bel
    have hsz : sSz ⟨st, tr, ws, xs.map (·.1)⟩ ≤ 1000002 := by have := hrp.szb; simp only [List.length_drop] at this; omega
    have hKP := iput_c ⟨st, tr, ws, xs.map (·.1)⟩ a1 c1 a2 c2 w3 hI (lb_of _ _ (by omega)) (by rw [sz_sSz]; omega) (hSt.vs st tr)
    dsimp only at hKP
    rw [← hE, ← hnf] at hKP
    have KP := Hid.mk' hKP
    clear hKP
    have HEB : Hid (Byt E) := by rw [hE]; exact img_byt _
    have HLG : Hid ((E = bs → bs ≠ []) ∧ (E ≠ bs → ∀ y : Sta, y.Vs → bs ≠ [] → imgM y ≠ bs)) := by
      have hrp2 := hrp
      rw [HK.out] at hrp2
      rw [hE]
      exact gs_logic hrp2
    have HEE := Hid.mk' hE
    have HB3 := Hid.mk' (And.intro bk3 hb3)
    have HTT := (And.intro t0 (And.intro t1 (And.intro t2 t3)))
    have HS3 := Hid.mk' hs3
    obtain ⟨nw, hnw⟩ : ∃ nw, nw = ws.length := ⟨_, rfl⟩
    rw [← hnw] at KP t2 hSt HTT
    have HSt := Hid.mk' hSt
    have HT := Hid.mk' HTT
    have HNW := Hid.mk' hnw
    clear KS hR3 hC3 hI hrp hsz bk3 hb3 hSt hs3 hE hnf hnw HTT
    go_wp2_with fail
    refine KP.out.mono ?_
    rintro e w4 ⟨u, rfl, hu, hb4⟩
    have KQ := Hid.mk' (beq_c u (.slice (some ⟨ab, ao, none⟩) bs.length c) E bs w4 (own_bs hu) (HBS.out.below (HB3.out.2.trans (hb4.mono HB3.out.2.size))) HEB.out HBy.out)
    have bk4 : Bk w4 w.heap.size [.bool false, .int .i64 0, .int .i64 0, .slice none 0 0, .slice none 0 0] := HB3.out.1.keep hb4
    have hb5 : Below w.heap.size w w4 := HB3.out.2.trans (hb4.mono HB3.out.2.size)
    have hTl : w.heap.size + 1 + 1 < w3.heap.size := by have := HS3.out; omega
    have t0' := (hb4.cell (p := ⟨w.heap.size + 1 + 1, 0, none⟩) hTl).trans HT.out.1
    have t1' := (hb4.cell (p := ⟨w.heap.size + 1 + 1, 1, none⟩) hTl).trans HT.out.2.1
    have t2' := (hb4.cell (p := ⟨w.heap.size + 1 + 1, 2, none⟩) hTl).trans HT.out.2.2.1
    have t3' := (hb4.cell (p := ⟨w.heap.size + 1 + 1, 3, none⟩) hTl).trans HT.out.2.2.2
    have HSt4 := Hid.mk' (HSt.out.keep hb4.size (fun q _ hq => hb4.block q hq))
    have q0 : w4.cell? ⟨w.heap.size, 0, none⟩ = some (.bool false) := bk4.2.1 0 _ rfl
    have q1 : w4.cell? ⟨w.heap.size, 1, none⟩ = some (.int .i64 0) := bk4.2.1 1 _ rfl
    have q2 : w4.cell? ⟨w.heap.size, 2, none⟩ = some (.int .i64 0) := bk4.2.1 2 _ rfl
    have q3 : w4.cell? ⟨w.heap.size, 3, none⟩ = some (.slice none 0 0) := bk4.2.1 3 _ rfl
    have q4 : w4.cell? ⟨w.heap.size, 4, none⟩ = some (.slice none 0 0) := bk4.2.1 4 _ rfl
    have fz := bk4.2.2
    have HB := Hid.mk' (And.intro bk4 hb5)
    clear bk4 hb5 hu hb4 KP HSt HB3 HT t0 t1 t2 t3
    go_wp2_with fail
    refine KQ.out.mono ?_
    rintro e w5 ⟨rfl, rfl⟩
    have hwsz : w.heap.size ≤ w4.heap.size := HB.out.2.size
    by_cases heq : E = bs
    · rw [decide_eq_true heq]
      have HE := Hid.mk' heq
      clear heq KQ
      go_wp2
      refine body_gen (fun U => Bk U w.heap.size [.bool true, .int .i64 st, .int .i64 tr, .slice a1 nw c1, .slice a2 nf c2] ∧ Below w.heap.size w U ∧ StH U W2.heap.size M ws xs (.slice a1 nw c1) (.slice a2 nf c2)) ⟨HB.out.1.set.set.set.set.set, ((((HB.out.2.setCell (Nat.le_refl _) _).setCell (Nat.le_refl _) _).setCell (Nat.le_refl _) _).setCell (Nat.le_refl _) _).setCell (Nat.le_refl _) _, HSt4.out.keep (by simp) (fun q hq _ => by
        have hqn : q ≠ w.heap.size := by omega
        rw [Below.heap_setCell _ _ _ _ hqn, Below.heap_setCell _ _ _ _ hqn, Below.heap_setCell _ _ _ _ hqn, Below.heap_setCell _ _ _ _ hqn, Below.heap_setCell _ _ _ _ hqn])⟩ ?_
      rintro U ⟨bu, hbu, hsu⟩
      have s0 : U.cell? ⟨w.heap.size, 0, none⟩ = some (.bool true) := bu.2.1 0 _ rfl
      have s1 : U.cell? ⟨w.heap.size, 1, none⟩ = some (.int .i64 st) := bu.2.1 1 _ rfl
      have s2 : U.cell? ⟨w.heap.size, 2, none⟩ = some (.int .i64 tr) := bu.2.1 2 _ rfl
      have s3 : U.cell? ⟨w.heap.size, 3, none⟩ = some (.slice a1 nw c1) := bu.2.1 3 _ rfl
      have s4 : U.cell? ⟨w.heap.size, 4, none⟩ = some (.slice a2 nf c2) := bu.2.1 4 _ rfl
      exact bodyPost_ret (v := .agg #[.bool true, .int .i64 st, .int .i64 tr, .slice a1 nw c1, .slice a2 nf c2]) (by simp [results, Try.results16, go_sem, s0, s1, s2, s3, s4]) rfl ⟨_, rfl, .inr ⟨st, tr, ws, xs, _, _, M, rfl, hsu.down (by have := HB2.out.size; omega), HLG.out.1 HE.out, HEE.out ▸ HE.out⟩, hbu⟩
    · rw [decide_eq_false heq]
      have HE := Hid.mk' heq
      clear heq KQ
      go_wp2
      refine body_gen (fun U => Bk U w.heap.size [.bool false, .int .i64 0, .int .i64 0, .slice none 0 0, .slice none 0 0] ∧ Below w.heap.size w U) ⟨HB.out.1.set.set.set.set.set, ((((HB.out.2.setCell (Nat.le_refl _) _).setCell (Nat.le_refl _) _).setCell (Nat.le_refl _) _).setCell (Nat.le_refl _) _).setCell (Nat.le_refl _) _⟩ ?_
      rintro U ⟨bu, hbu⟩
      have s0 : U.cell? ⟨w.heap.size, 0, none⟩ = some (.bool false) := bu.2.1 0 _ rfl
      have s1 : U.cell? ⟨w.heap.size, 1, none⟩ = some (.int .i64 0) := bu.2.1 1 _ rfl
      have s2 : U.cell? ⟨w.heap.size, 2, none⟩ = some (.int .i64 0) := bu.2.1 2 _ rfl
      have s3 : U.cell? ⟨w.heap.size, 3, none⟩ = some (.slice none 0 0) := bu.2.1 3 _ rfl
      have s4 : U.cell? ⟨w.heap.size, 4, none⟩ = some (.slice none 0 0) := bu.2.1 4 _ rfl
      exact bodyPost_ret (v := .agg #[.bool false, .int .i64 0, .int .i64 0, .slice none 0 0, .slice none 0 0]) (by simp [results, Try.results16, go_sem, s0, s1, s2, s3, s4]) rfl ⟨_, rfl, .inl ⟨rfl, HLG.out.2 HE.out⟩, hbu⟩
end Go.Proofs.Ytfaajmhmcdoibaa
