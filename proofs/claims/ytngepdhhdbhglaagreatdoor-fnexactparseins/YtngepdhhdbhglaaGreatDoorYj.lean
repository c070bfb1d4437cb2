import Derived.Test.YtngepdhhdbhglaaGreatDoorYi
import Derived.Maps.AppendAt
import Derived.Deep.Onto
import Derived.Deep.RegionLaw
set_option linter.all false
set_option linter.unusedVariables false
namespace Go.Proofs.YtngepdhhdbhglaaGreatDoor
open Go.RowKit Go.Sort
set_option maxRecDepth 100000
theorem step_append_src {P : Program} {w : World} {ops : Array Oper} {o : Oper} {a : Act} {K : Act → World → Prop} {Q : Exit → Act → World → Prop} {E : Prop} (hgd : o.guard = none) (s x : Operand) (t : TypeId)
    (ho : o.op = .call { callee := .builtin .append, args := #[s, x], argTypes := #[t, t] })
    (base : Nat) (e : TypeId) (i : TypeInfo) (z : Value) (size bytes : Nat) (ht : P.underlying t = some (.slice e)) (hi : P.info? e = some i) (hz : i.zero = some z)
    (hsize : i.size = size) (hby : i.bytes = bytes) (hzs : z.cells.size = size) (hsz : 0 < size)
    (v : Value) (n : Nat) (xs : List Value) (hs : a.eval s = v) (hown : w.ownsRow base e size v n xs)
    (ad : Addr) (m c : Nat) (news : List Value) (hx : a.eval x = .slice (some ad) m c) (hl : news.length = m * size) (hn : ∀ j u, news[j]? = some u → w.cell? (ad.add j) = some u) (h1 : ∀ u ∈ news, u.oneCell' = true)
    (h63 : n + m ≤ maxLen) (hbytes : (n + m) * bytes ≤ 140737488355328) (hbase : base ≤ w.heap.size)
    (h : ∀ v' w', w'.ownsRow base e size v' (n + m) (xs ++ news) → w.grownBy w' v.ownBlock → (v'.ownBlock = v.ownBlock ∨ v'.ownBlock = some w.heap.size) → K (a.put o.dst v') w') :
    if Region.wanted o (yielded ops a.tmps) = true then Oper.wp P o a w K Q else E := by
  have hw : Region.wanted o (yielded ops a.tmps) = true := by simp [Region.wanted, hgd]
  rw [if_pos hw]
  obtain ⟨v', w', hr, h2, h3, h4, h5⟩ := run_append_own_at (P := P) w base t o.type e i z size bytes ht hi hz hsize hby hzs hsz v n xs hown ad m c news hl hn h1 h63 hbytes hbase
  unfold Oper.wp execOp
  simp only [ho, resolve, invoke, builtin, Sem.run_bind, Sem.run_pure, Result.andThen_ok, List.map_toArray, List.map_cons, List.map_nil, hs, hx, hr]
  exact h v' w' h2 h3 h5
theorem ownE_slice {w : World} {B e : Nat} {v : Value} {n : Nat} {zs : List Value} (h : w.ownsRow B e 1 v n zs) : ∃ a c, v = .slice a n c := by
  rcases h.2 with ⟨e, h0⟩ | ⟨g, cap, cur, hv, _⟩
  · rw [h0]; exact ⟨_, _, e⟩
  · exact ⟨_, _, hv⟩
theorem ownE_grown' {w w' : World} {B e n : Nat} {v : Value} {r : Option Nat} {xs : List Value} (h : w.ownsRow B e 1 v n xs) (hg : w.grownBy w' r) (hne : ∀ k, v.ownBlock = some k → r ≠ some k) : w'.ownsRow B e 1 v n xs := by
  refine ⟨h.1, ?_⟩
  rcases h.2 with h0 | ⟨g, cap, cur, hv, hB, hh, rr⟩
  · exact .inl h0
  · subst hv
    exact .inr ⟨g, cap, cur, rfl, hB, (hg.block g (h.lt g rfl).2 (fun e => hne g rfl e.symm)).trans hh, rr⟩
theorem oneI (x : Int) : ∀ u ∈ [Value.int .i64 x], u.oneCell' = true := by
  intro u hu; simp at hu; subst hu; rfl
def lenOf (q : Nat) (w : World) : Nat := match w.cell? ⟨q, 0, none⟩ with | some (.slice _ n _) => n | _ => 0
theorem Tw.len {w : World} {q : Nat} {ws : List Wd} {bd : Bool} (h : Tw w q ws bd) : lenOf q w = ws.length := by
  obtain ⟨a, c, h0, -⟩ := h.c0
  simp [lenOf, h0]
theorem Tw.low {w w1 : World} {q n : Nat} {ws : List Wd} {bad : Bool} (h : Tw w q ws bad) (hb : Below n w w1) (hn : q < n) : Tw w1 q ws bad := by
  obtain ⟨a, c, h0, h1⟩ := h.c0
  refine ⟨⟨a, c, (hb.cell (p := ⟨q, 0, none⟩) hn).trans h0, ?_⟩, (hb.cell (p := ⟨q, 1, none⟩) hn).trans h.c1, fun i => (hb.frozen (p := ⟨q, i, none⟩) hn).trans (h.fz i), h.le⟩
  rcases h1 with h1 | ⟨b, o, e, hne, hc, hw⟩
  · exact .inl h1
  · exact .inr ⟨b, o, e, hne, hc, fun i hi => (hb.cell (p := ⟨b, o + i, none⟩) (show b < n by omega)).trans (hw i hi)⟩
theorem c5_low {V V' : World} {B n : Nat} {a b c d e : Value} (h : C5 V B 0 a b c d e) (hb : Below n V V') (hn : B < n) : C5 V' B 0 a b c d e := by
  obtain ⟨⟨h0, h1, h2, h3, h4⟩, hf⟩ := h
  exact ⟨⟨(hb.cell (p := ⟨B, _, none⟩) hn).trans h0, (hb.cell (p := ⟨B, _, none⟩) hn).trans h1, (hb.cell (p := ⟨B, _, none⟩) hn).trans h2, (hb.cell (p := ⟨B, _, none⟩) hn).trans h3, (hb.cell (p := ⟨B, _, none⟩) hn).trans h4⟩, fun i => (hb.frozen (p := ⟨B, i, none⟩) hn).trans (hf i)⟩
theorem Bx.low {w : World} {q : Nat} {ws : List Wd} {bd : Bool} {a b c d e : Value} {V V' : World} (h : Bx w q ws bd a b c d e V) (hb : Below (w.heap.size + 2) V V') : Bx w q ws bd a b c d e V' :=
  have hq := h.qq
  ⟨c5_low h.x hb (by omega), c5_low h.z hb (by omega), h.t.low hb (by omega), ⟨hb.os.trans h.g.os, hb.tape.trans h.g.tape, hb.output.trans h.g.output, Nat.le_trans h.g.size hb.size, fun k hk hne => (hb.block k (by omega)).trans (h.g.block k hk hne)⟩, h.v.keep (hb.mono (by omega)), hq⟩
theorem Bx.sz {w : World} {q : Nat} {ws : List Wd} {bd : Bool} {a b c d e : Value} {V : World} (h : Bx w q ws bd a b c d e V) : w.heap.size + 2 ≤ V.heap.size := by
  have h2 := World.block_lt_of_cell? V _ h.x.1.1
  have h3 : w.heap.size + 1 < V.heap.size := h2
  omega
theorem nms_snoc {s : Wd} {v : Int} (h : Nm 0 4294967295 s v) : ∀ (ss : List Wd) (vs : List Int), Nms ss vs → Nms (ss ++ [s]) (vs ++ [v])
  | [], [], _ => ⟨h, trivial⟩
  | [], _ :: _, g => g.elim
  | _ :: _, [], g => g.elim
  | _ :: ss, _ :: vs, g => ⟨g.1, nms_snoc h ss vs g.2⟩
theorem nms_ok : ∀ (ss : List Wd) (vs : List Int), Nms ss vs → ∀ s ∈ ss, okN 0 4294967295 s = true
  | [], _, _, s, hs => by cases hs
  | _ :: _, [], g, _, _ => g.elim
  | a :: ss, v :: vs, g, s, hs => by
    rcases List.mem_cons.1 hs with rfl | hs
    · exact g.1.1
    · exact nms_ok ss vs g.2 s hs
structure Iv3 (w : World) (q : Nat) (ws : List Wd) (op : Int) (k : Nat) (acc : List Int) (la : Option Addr) (lc : Nat) (bd : Bool) (V : World) : Prop where
  al : acc.length = k
  kl : k = 0 ∨ k < ws.length
  b : Bx w q (ws.drop k) bd (.int .i64 op) (.int .i64 0) (.int .i64 0) (.int .u64 0) (.slice la acc.length lc) V
  o : V.ownsRow (w.heap.size + 2) 2 1 (.slice la acc.length lc) acc.length (I acc)
  n : bd = false → Nms (ws.take k) acc
  f : (∀ s ∈ ws.take k, okN 0 4294967295 s = true) → bd = false
theorem Iv3.next {w : World} {q : Nat} {ws : List Wd} {op : Int} {k : Nat} {acc : List Int} {la la' : Option Addr} {lc lc' : Nat} {bd : Bool} {V W : World} {s : Wd} {r : List Wd} {v : Int} (h : Iv3 w q ws op k acc la lc bd V) (e : ws.drop k = s :: r) (hr : r ≠ [])
    (hx : okN 0 4294967295 s = true → okP s = some v) (hb : Bx w q r ((bd || false) || !okN 0 4294967295 s) (.int .i64 op) (.int .i64 0) (.int .i64 0) (.int .u64 0) (.slice la' (acc.length + 1) lc') W) (ho : W.ownsRow (w.heap.size + 2) 2 1 (.slice la' (acc.length + 1) lc') (acc.length + 1) (I acc ++ [.int .i64 v])) : Iv3 w q ws op (k + 1) (acc ++ [v]) la' lc' ((bd || false) || !okN 0 4294967295 s) W := by
  have ed : ws.drop (k + 1) = r := by rw [← List.tail_drop, e]; rfl
  have hlk : k < ws.length := by
    have := congrArg List.length e
    simp at this; omega
  have et : ws.take (k + 1) = ws.take k ++ [s] := by
    rw [List.take_succ, show ws[k]? = some s by rw [← List.head?_drop, e]; rfl]; rfl
  have hl2 : k + 1 < ws.length := by
    have := congrArg List.length e
    have h2 : 0 < r.length := List.length_pos_iff.2 hr
    simp at this; omega
  refine ⟨by simp [h.al], .inr hl2, by rw [ed]; simpa using hb, by simpa [I] using ho, fun hbd => ?_, fun hf => ?_⟩
  · simp at hbd
    rw [et]
    exact nms_snoc ⟨hbd.2, hx hbd.2⟩ _ _ (h.n hbd.1)
  · rw [et] at hf
    have h1 := h.f (fun t ht => hf t (by simp [ht]))
    have h2 := hf s (by simp)
    simp [h1, h2]
theorem Bx.fin3 {w : World} {q : Nat} {ws : List Wd} {bd : Bool} {a b c d e : Value} {V : World} (h : Bx w q ws bd a b c d e V) {rv : Value} {n : Nat} {xs : List Value} (ho : V.ownsRow (w.heap.size + 2) 2 1 rv n xs) (u0 u1 u2 u3 u4 : Value) : C5 (((((V.setCell ⟨w.heap.size, 0, none⟩ u0).setCell ⟨w.heap.size, 1, none⟩ u1).setCell ⟨w.heap.size, 2, none⟩ u2).setCell ⟨w.heap.size, 3, none⟩ u3).setCell ⟨w.heap.size, 4, none⟩ u4) w.heap.size 0 u0 u1 u2 u3 u4 ∧ Tw (((((V.setCell ⟨w.heap.size, 0, none⟩ u0).setCell ⟨w.heap.size, 1, none⟩ u1).setCell ⟨w.heap.size, 2, none⟩ u2).setCell ⟨w.heap.size, 3, none⟩ u3).setCell ⟨w.heap.size, 4, none⟩ u4) q ws bd ∧ w.grownBy (((((V.setCell ⟨w.heap.size, 0, none⟩ u0).setCell ⟨w.heap.size, 1, none⟩ u1).setCell ⟨w.heap.size, 2, none⟩ u2).setCell ⟨w.heap.size, 3, none⟩ u3).setCell ⟨w.heap.size, 4, none⟩ u4) (some q) ∧ (((((V.setCell ⟨w.heap.size, 0, none⟩ u0).setCell ⟨w.heap.size, 1, none⟩ u1).setCell ⟨w.heap.size, 2, none⟩ u2).setCell ⟨w.heap.size, 3, none⟩ u3).setCell ⟨w.heap.size, 4, none⟩ u4).ownsRow w.heap.size 2 1 rv n xs := by
  have hh : ∀ o, (⟨w.heap.size, o, none⟩ : Addr).block < w.heap.size + 2 := fun o => by show w.heap.size < _; omega
  have o0 := ownsRow_setCell_below ho (hh 0) u0
  have o1 := ownsRow_setCell_below o0 (hh 1) u1
  have o2 := ownsRow_setCell_below o1 (hh 2) u2
  have o3 := ownsRow_setCell_below o2 (hh 3) u3
  have o4 := ownsRow_setCell_below o3 (hh 4) u4
  obtain ⟨f0, f1, f2⟩ := h.fin u0 u1 u2 u3 u4
  exact ⟨f0, f1, f2, o4.mono (by omega)⟩
theorem there_3 {w : World} {q : Nat} {ws : List Wd} {op : Int} {k : Nat} {acc : List Int} {la : Option Addr} {lc : Nat} {bd : Bool} {V : World} {v : Int} (h : Iv3 w q ws op k acc la lc bd V) (hx : okN 0 4294967295 ((ws.drop k).headD []) = true → okP ((ws.drop k).headD []) = some v) (hb : ((bd || (ws.drop k).isEmpty) || !okN 0 4294967295 ((ws.drop k).headD [])) = false) (ht : (ws.drop k).tail = []) : Arg 3 ws ⟨op, v, 0, 0, acc⟩ := by
  rw [arg_3]
  cases hbd : bd with
  | true => rw [hbd] at hb; simp at hb
  | false =>
    rw [hbd] at hb
    obtain ⟨s, e, hk⟩ := one_ok hb ht
    refine ⟨ws.take k, s, acc, v, by rw [← e]; exact (List.take_append_drop k ws).symm, h.n hbd, ?_, rfl⟩
    rw [e] at hk hx
    exact ⟨hk, hx hk⟩
theorem back_3 {w : World} {q : Nat} {ws : List Wd} {op : Int} {k : Nat} {acc : List Int} {la : Option Addr} {lc : Nat} {bd : Bool} {V : World} (h : Iv3 w q ws op k acc la lc bd V) (hl : ¬ 1 < (ws.drop k).length) (hy : ∃ y, Arg 3 ws y) : ((bd || (ws.drop k).isEmpty) || !okN 0 4294967295 ((ws.drop k).headD [])) = false ∧ (ws.drop k).tail = [] := by
  obtain ⟨y, hy⟩ := hy
  rw [arg_3] at hy
  obtain ⟨ss, s, vs, v, rfl, hn, hs, -⟩ := hy
  have hk : k = ss.length := by
    have h1 := h.kl
    simp at hl h1; omega
  subst hk
  have hbd : bd = false := h.f (by rw [List.take_left']; exact nms_ok _ _ hn; rfl)
  rw [List.drop_left' rfl]
  exact ⟨by simp [hbd, hs.1], rfl⟩
set_option maxHeartbeats 8000000 in
theorem ins_3 (q : Nat) (ws : List Wd) (op : Int) (w : World) (hf : formR (rowOf op) = 3) (h : Tw w q ws false) (hl : ∀ x ∈ ws, x.length ≤ 1099511627776) (hV : Vs q w) :
    Calls Tryz.prog 17 #[.pointer (some ⟨q, 0, none⟩), .int .i64 op] w (InsP 3 op ws w q) := by
  have HF := Hid.mk' (iform_c op)
  rw [hf] at HF
  obtain ⟨W, hW⟩ : ∃ W, W = (w.alloc (.cells #[.int .i64 0, .int .i64 0, .int .i64 0, .int .u64 0, .slice none 0 0] 26)).alloc (.cells #[.int .i64 op, .int .i64 0, .int .i64 0, .int .u64 0, .slice none 0 0] 26) := ⟨_, rfl⟩
  obtain ⟨hz, hx, hb⟩ := two_box w op
  rw [← hW] at hz hx hb
  have HW := Hid.mk' hW
  have BX := Hid.mk' (show Bx w q ws false (.int .i64 op) (.int .i64 0) (.int .i64 0) (.int .u64 0) (.slice none 0 0) W from ⟨hx, hz, h.keep hb, below_gr hb, hV.keep (hb.mono (Nat.le_of_lt h.lt)), h.lt⟩)
  have hq := h.lt
  clear hf hW hz hx hb h hV
  go_enter Tryz.func17, Tryz.ntmps17
  go_wp2_with fail
  rw [show (w.alloc (.cells #[.int .i64 0, .int .i64 0, .int .i64 0, .int .u64 0, .slice none 0 0] 26)).alloc (.cells #[.int .i64 op, .int .i64 0, .int .i64 0, .int .u64 0, .slice none 0 0] 26) = W from HW.out.symm]
  refine (HF.out _).mono ?_
  rintro e w2 ⟨rfl, hb2⟩
  have B2 := Hid.mk' (BX.out.below hb2)
  clear hb2 BX HW HF
  obtain ⟨i0, hi, hz0, hz1, hz2⟩ := info_parts Tryz.info2
  have HIV := Hid.mk' (show Iv3 w q ws op 0 [] none 0 false w2 from ⟨rfl, .inl rfl, B2.out, own_nil _ _, fun _ => trivial, fun _ => rfl⟩)
  have hwl := B2.out.t.le
  clear B2
  go_upto_region 11 with fail
  go_loopw [] (fun wr => ∃ (k : Nat) (acc : List Int) (la : Option Addr) (lc : Nat) (bd : Bool), Iv3 w q ws op k acc la lc bd wr) (fun wr => lenOf q wr)
  case atStart => exact ⟨_, _, _, _, _, HIV.out⟩
  case round =>
    obtain ⟨k, acc, la, lc, bd, hI⟩ := hrel
    have HI := Hid.mk' hI
    obtain ⟨a, c, h0, -⟩ := hI.b.t.c0
    have hll : ∀ x ∈ ws.drop k, x.length ≤ 1099511627776 := fun x hx => hl x (List.mem_of_mem_drop hx)
    have hkk : acc.length ≤ 1099511627776 := by have := hI.kl; have := hI.al; omega
    clear hI HIV
    by_cases hlt : 1 < (ws.drop k).length
    · obtain ⟨s, r, e⟩ : ∃ s r, ws.drop k = s :: r := by
        cases hd : ws.drop k with
        | nil => rw [hd] at hlt; simp at hlt
        | cons s r => exact ⟨s, r, rfl⟩
      have hr : r ≠ [] := by rintro rfl; rw [e] at hlt; simp at hlt
      have HB := Hid.mk' (HI.out.b.below (Below.refl _ _).drew)
      rw [e] at HB
      have K := Hid.mk' (u32_c q (s :: r) bd wr.drew HB.out.t (by rw [← e]; exact hll) HB.out.v)
      have HO := Hid.mk' HI.out.o
      have x4 := HI.out.b.x.1.2.2.2.2
      have xf4 := HI.out.b.x.2 4
      rw [e] at h0 hlt
      simp only [List.length_cons] at h0 hlt
      simp only [Nat.zero_add] at x4 xf4
      have hki : (1 : Int) < (r.length : Int) + 1 := by omega
      have HEr := Hid.mk' (And.intro e hr)
      have hsz := HB.out.sz
      clear e hr hlt hll
      go_upto_region 12 with fail
      go_region_law (first
        | (refine step_append_src rfl (.tmp 33) (.tmp 36) 24 rfl (w.heap.size + 2) 2 i0 (.int .i64 0) 1 8 Tryz.underlying24 hi hz0 hz1 hz2 rfl (by decide) (.slice la acc.length lc) acc.length (I acc) (by simp [Act.eval, Act.put]) (O1.out.alloc _) ⟨w1.heap.size, 0, none⟩ 1 1 [.int .i64 v] (by simp [Act.eval, Act.put]) rfl (cell_one_new _ _ _) (oneI _) (by unfold maxLen; omega) (by omega) (by simp; omega) ?_
           intro v2 w3 own2 gr2 hloc
           have B3 := Hid.mk' (B1.out.low (((Below.refl _ _).alloc (by omega) _).grown gr2 (by simp; omega) (fun j hj => (O1.out.lt j hj).1)))
           obtain ⟨va, vc, rfl⟩ := ownE_slice own2
           have O3 := Hid.mk' own2
           have y4 := B3.out.x.1.2.2.2.2
           have yf4 := B3.out.x.2 4
           simp only [Nat.zero_add] at y4 yf4
           clear own2 gr2 hloc)
        | (go_simp
           refine (K.out).mono ?_
           rintro e w1 ⟨v, rfl, ht1, hg1, hx1⟩
           have B1 := Hid.mk' (HB.out.call hg1 ht1)
           have O1 := Hid.mk' (ownE_grown' (w := wr.drew) (w' := w1) (HO.out) hg1 (fun j hj => by have := (HO.out.lt j hj).1; simp; omega))
           have HX := Hid.mk' hx1
           have z4 := B1.out.x.1.2.2.2.2
           have zf4 := B1.out.x.2 4
           have hs1 := B1.out.sz
           simp only [Nat.zero_add] at z4 zf4
           have z4a : ∀ o, (w1.alloc o).cell? ⟨w.heap.size + 1, 4, none⟩ = some (.slice la acc.length lc) := fun o => (World.cell?_of_block (heap_old w1 o _ (by show w.heap.size + 1 < _; omega))).trans z4
           clear ht1 hg1 hx1))
      all_goals
        go_simp
        go_roundw
        case rel => exact ⟨_, _, _, _, _, _, _, _, _, _, _, _, _, ⟨k + 1, acc ++ [v], va, vc, _, HI.out.next HEr.out.1 HEr.out.2 HX.out B3.out.set4 (ownsRow_setCell_below O3.out (show w.heap.size + 1 < _ by omega) _)⟩, rfl⟩
        case measure =>
          have m1 := (B3.out.set4 (u := .slice va (acc.length + 1) vc)).t.len
          have m0 := HI.out.b.t.len
          rw [HEr.out.1] at m0
          rw [m1, m0]
          simp
    · have HC := Hid.mk' (u32_c q (ws.drop k) bd wr HI.out.b.t hll HI.out.b.v)
      have hln := Hid.mk' hlt
      obtain ⟨D, hD⟩ : ∃ D, D = (ws.drop k).length := ⟨_, rfl⟩
      rw [← hD] at h0 hlt
      have hki : ¬ (1 : Int) < (D : Int) := by omega
      clear hll hlt hD
      go_wp2_with fail
      refine HC.out.mono ?_
      rintro e w3 ⟨v, rfl, ht3, hg3, hx3⟩
      have B3 := Hid.mk' (And.intro (HI.out.b.call hg3 ht3) (ownE_grown' HI.out.o hg3 (fun j hj => by have := (HI.out.o.lt j hj).1; simp; omega)))
      have hx := Hid.mk' hx3
      have x1 := B3.out.1.x.1.2.1
      have xf1 := B3.out.1.x.2 1
      simp only [Nat.zero_add] at x1 xf1
      clear ht3 hg3 hx3 HC h0
      go_upto_region 25 with fail
      refine wp_gen (fun U => Bx w q (ws.drop k).tail ((bd || (ws.drop k).isEmpty) || !okN 0 4294967295 ((ws.drop k).headD [])) (.int .i64 op) (.int .i64 v) (.int .i64 0) (.int .u64 0) (.slice la acc.length lc) U ∧ U.ownsRow (w.heap.size + 2) 2 1 (.slice la acc.length lc) acc.length (I acc)) ⟨B3.out.1.set1, ownsRow_setCell_below B3.out.2 (show w.heap.size + 1 < _ by omega) _⟩ ?_
      rintro U4 ⟨BU0, OU0⟩
      have BU := Hid.mk' BU0
      have OU := Hid.mk' OU0
      clear BU0 OU0 x1 xf1 B3
      obtain ⟨⟨x0, x1, x2, x3, x4⟩, xf⟩ := BU.out.x
      obtain ⟨⟨z0, z1, z2, z3, z4⟩, zf⟩ := BU.out.z
      simp only [Nat.zero_add] at x0 x1 x2 x3 x4 z0 z1 z2 z3 z4
      have zf0 := zf 0
      have zf1 := zf 1
      have zf2 := zf 2
      have zf3 := zf 3
      have zf4 := zf 4
      clear xf zf
      go_wp2
      refine body_gen (fun U => C5 U w.heap.size 0 (.int .i64 op) (.int .i64 v) (.int .i64 0) (.int .u64 0) (.slice la acc.length lc) ∧ Tw U q (ws.drop k).tail ((bd || (ws.drop k).isEmpty) || !okN 0 4294967295 ((ws.drop k).headD [])) ∧ w.grownBy U (some q) ∧ U.ownsRow w.heap.size 2 1 (.slice la acc.length lc) acc.length (I acc)) (BU.out.fin3 OU.out _ _ _ _ _) ?_
      rintro U ⟨⟨⟨t0, t1, t2, t3, t4⟩, -⟩, tU, gU, oU⟩
      simp only [Nat.zero_add] at t0 t1 t2 t3 t4
      have HU := Hid.mk' (And.intro tU (And.intro gU oU))
      clear tU gU oU x0 x1 x2 x3 x4 z0 z1 z2 z3 z4 zf0 zf1 zf2 zf3 zf4
      exact bodyPost_ret (v := inV ⟨op, v, 0, 0, acc⟩ la lc) (by simp [results, Tryz.results17, go_sem, t0, t1, t2, t3, t4]) rfl ⟨⟨op, v, 0, 0, acc⟩, la, lc, _, _, rfl, rfl, HU.out.2.2, HU.out.1, HU.out.2.1, fun h ht => there_3 HI.out hx.out h ht, fun hy => back_3 HI.out hln.out hy⟩
end Go.Proofs.YtngepdhhdbhglaaGreatDoor
