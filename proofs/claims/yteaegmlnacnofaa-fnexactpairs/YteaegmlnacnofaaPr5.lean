import Derived.Test.YteaegmlnacnofaaPr4
import Derived.Deep.AppendLies
set_option linter.all false
set_option linter.unusedVariables false
namespace Go.Proofs.Yteaegmlnacnofaa
open Go.RowKit Go.Sort
set_option maxRecDepth 100000
/-- spec.Pairs as it loops: the struct gm with its rows, the row v of pairs. -/
structure Sq (w : World) (gm : Nat) (ve vs v : Value) (E S : List Int) (Q : List (Int × Int)) (V : World) : Prop where
  c0 : V.cell? ⟨gm, 0, none⟩ = some ve
  c1 : V.cell? ⟨gm, 1, none⟩ = some vs
  re : RI V w.heap.size ve E
  rs : RI V w.heap.size vs S
  ro : V.ownsRow w.heap.size 87 2 v Q.length (pcs Q)
  d1 : Dj v ve
  d2 : Dj v vs
  d3 : v.ownBlock ≠ some gm
  bel : Below w.heap.size w V
  lt : gm < V.heap.size
theorem Sq.push {w : World} {gm g cap : Nat} {ve vs v : Value} {E S : List Int} {Q : List (Int × Int)} {V V1 : World} {ob : Obj} {z : Int × Int} (h : Sq w gm ve vs v E S Q V) (ho : V1.ownsRow w.heap.size 87 2 (.slice (some ⟨g, 0, none⟩) (Q.length + 1) cap) (Q.length + 1) (pcs Q ++ [.int .i64 z.1, .int .i64 z.2])) (hg : (V.alloc ob).grownBy V1 v.ownBlock) (hl : v.ownBlock = some g ∨ g = (V.alloc ob).heap.size) :
    Sq w gm ve vs (.slice (some ⟨g, 0, none⟩) (Q.length + 1) cap) E S (Q ++ [z]) V1 := by
  have hs := hg.size
  have lt := h.lt
  simp only [World.size_alloc] at hs
  have hb : V1.heap[gm]? = V.heap[gm]? := (hg.block gm (by simp; omega) (fun e => h.d3 e.symm)).trans (heap_old V ob gm lt)
  have hl' : (Value.slice (some ⟨g, 0, none⟩) (Q.length + 1) cap).ownBlock = v.ownBlock ∨ (Value.slice (some ⟨g, 0, none⟩) (Q.length + 1) cap).ownBlock = some (V.alloc ob).heap.size := by
    rcases hl with e | e
    · exact .inl (by rw [e]; rfl)
    · exact .inr (by rw [← e]; rfl)
  refine ⟨(World.cell?_of_block hb).trans h.c0, (World.cell?_of_block hb).trans h.c1, h.re.grown hg h.d1.symm, h.rs.grown hg h.d2.symm, ?_, (Dj.new h.d1.symm h.re hl').symm, (Dj.new h.d2.symm h.rs hl').symm, ?_, ?_, by omega⟩
  · have e1 : (Q ++ [z]).length = Q.length + 1 := by simp
    rw [e1, pcs_app]; exact ho
  · rcases hl with e | e
    · rw [show (Value.slice (some ⟨g, 0, none⟩) (Q.length + 1) cap).ownBlock = some g from rfl, ← e]; exact h.d3
    · intro e'; have e' : g = gm := by injection e'
      simp at e; omega
  · exact (Below.alloc h.bel h.bel.size ob).grown hg (by have := h.bel.size; simp; omega) (fun j hj => (h.ro.lt j hj).1)
theorem Sq.drew {w : World} {gm : Nat} {ve vs v : Value} {E S : List Int} {Q : List (Int × Int)} {V : World} (h : Sq w gm ve vs v E S Q V) : Sq w gm ve vs v E S Q V.drew := ⟨h.c0, h.c1, h.re, h.rs, h.ro, h.d1, h.d2, h.d3, h.bel.drew, h.lt⟩
theorem pair_step {P : List (Int × Int)} {k : Nat} (hk : k < P.length) : P.take (k + 1) = P.take k ++ [((fE P P.length).getD k 0, (fS P P.length).getD k 0)] := by
  have e : ((fE P P.length).getD k 0, (fS P P.length).getD k 0) = P[k] := by simp [fE, fS, List.getD, hk]
  rw [e]
  exact take_push P k P[k] (List.getElem?_eq_getElem hk)
theorem one2 (a b : Int) : ∀ u ∈ [Value.int .i64 a, Value.int .i64 b], u.oneCell' = true := by
  intro u hu; simp at hu; rcases hu with rfl | rfl <;> rfl
theorem cells2 {V : World} {a b : Value} {t : TypeId} : ∀ j u, [a, b][j]? = some u → (V.alloc (.cells #[a, b] t)).cell? (Addr.add ⟨V.heap.size, 0, none⟩ j) = some u := by
  intro j u hj
  rw [Addr.add_lit, Nat.zero_add]
  exact cell_new rfl (by simpa using hj)
set_option maxHeartbeats 8000000 in
theorem spairs_c (a : Option Addr) (c : Nat) (xs : List In) (w : World) (hn : xs.length ≤ 1048576) (hl : ∀ i, i < xs.length → (xs.getD i I0).l.length ≤ 1048576) (hv : ∀ i, 0 ≤ (xs.getD i I0).v) (hL : Lst w a xs) :
    Calls Try.prog 14 #[.slice a xs.length c] w fun e w' => ∃ v, e = .returned v ∧ PR w' w.heap.size v (pairsM xs) ∧ Below w.heap.size w w' := by
  obtain ⟨i0, hi, hz0, hz1, hz2⟩ := info_parts Try.infoPair
  have b0 : Below w.heap.size w (w.alloc (.cells #[] 87)) := (Below.refl _ _).alloc (Nat.le_refl _) _
  have HI := Hid.mk' (sclosed_c a c xs (w.alloc (.cells #[] 87)) hn hl hv (hL.keep b0))
  have HL := Hid.mk' hL
  have HB0 := Hid.mk' b0
  clear hL hv hl b0
  by_cases hcl : closedM xs = true
  · have h0 := closed_pos hcl
    obtain ⟨b, off, rfl⟩ := lst_addr HL.out h0
    have hsz := (pi_all hcl xs.length (Nat.le_refl _)).sz
    have hM : pairsM xs = (pat xs xs.length).2 := by simp only [pairsM, hcl, if_true]
    rw [hM]
    rw [hcl] at HI
    have HR := Hid.mk' (fun (V : World) (hb : Below w.heap.size w V) => sl10_c b off c xs V hn hcl (HL.out.keep hb))
    have HZ := Hid.mk' hsz
    clear hM hsz hcl HL
    generalize (pat xs xs.length).2 = P at *
    go_enter Try.func14, Try.ntmps14
    go_wp2_with fail
    refine HI.out.mono ?_
    rintro e w1 ⟨rfl, b1⟩
    have hb1 := HB0.out.trans (b1.mono HB0.out.size)
    have H0 : Hid (w1.heap[w.heap.size]? = some (.cells #[] 87 (0, 0))) := by
      show _ = _
      rw [b1.block w.heap.size (by simp)]; exact heap_new w _
    go_wp2_with fail
    refine (HR.out _ hb1).mono ?_
    rintro e w2 ⟨ve, vs, rfl, re, rs, b2⟩
    obtain ⟨ea, ec, rfl⟩ := ownE_slice re
    obtain ⟨sa, sc, rfl⟩ := ownE_slice rs
    have hs1 : w.heap.size < w1.heap.size := by have := b1.size; simp at this; omega
    have SQ0 := Hid.mk' (show Sq w w2.heap.size (.slice ea (fE P xs.length).length ec) (.slice sa (fS P xs.length).length sc) (.slice (some ⟨w.heap.size, 0, none⟩) 0 0) (fE P xs.length) (fS P xs.length) (P.take 0) (w2.alloc (.cells #[.slice ea (fE P xs.length).length ec, .slice sa (fS P xs.length).length sc, .bool true] 84)) by
      have hs2 := b2.size
      refine ⟨cell_new rfl rfl, cell_new rfl rfl, own_down (re.alloc _) (by omega), own_down (rs.alloc _) (by omega), ⟨by simp [pcs], .inr ⟨w.heap.size, 0, #[], rfl, Nat.le_refl _, ?_, Nat.le_refl _, by decide, rfl, by simp [pcs]⟩⟩, fun k hk e => ?_, fun k hk e => ?_, fun e => ?_, (hb1.trans (b2.mono hb1.size)).alloc (by omega) _, by simp⟩
      · rw [heap_old _ _ _ (by omega), b2.block _ hs1]; exact H0.out
      · have e1 : w.heap.size = k := by simpa [Value.ownBlock] using hk
        have := (re.lt k e).1; omega
      · have e1 : w.heap.size = k := by simpa [Value.ownBlock] using hk
        have := (rs.lt k e).1; omega
      · have e1 : w.heap.size = w2.heap.size := by simpa [Value.ownBlock] using e
        omega)
    clear HR HI re rs b2 b1 hb1 H0 HB0 hs1
    go_upto_region 5 with fail
    refine wp_gen (fun V => Sq w w2.heap.size (.slice ea (fE P xs.length).length ec) (.slice sa (fS P xs.length).length sc) (.slice (some ⟨w.heap.size, 0, none⟩) 0 0) (fE P xs.length) (fS P xs.length) (P.take 0) V) SQ0.out ?_
    rintro V0 sq0
    clear SQ0
    have SQ0 := Hid.mk' sq0
    clear sq0
    go_wp2
    go_loopw [3, 5] (fun v i wr => ∃ k : Nat, k ≤ xs.length ∧ i = .int .i64 k ∧ Sq w w2.heap.size (.slice ea (fE P xs.length).length ec) (.slice sa (fS P xs.length).length sc) v (fE P xs.length) (fS P xs.length) (P.take k) wr) (fun _ i _ => xs.length - (intOf i).toNat)
    case atStart => exact ⟨0, Nat.zero_le _, rfl, SQ0.out⟩
    case round =>
      obtain ⟨k, hk, rfl, sq⟩ := hrel
      clear SQ0
      by_cases hlt : k < xs.length
      · have hki : (k : Int) < (xs.length : Int) := by omega
        have lE := fE_len (P := P) (m := xs.length) (by rw [HZ.out]; exact Nat.le_refl _)
        have lS := fS_len (P := P) (m := xs.length) (by rw [HZ.out]; exact Nat.le_refl _)
        have hst := pair_step (P := P) (k := k) (by rw [HZ.out]; exact hlt)
        rw [HZ.out] at hst
        obtain ⟨r, cap, hv, -, -, -⟩ := ri_split sq.re (by rw [lE]; omega)
        simp only [Value.slice.injEq] at hv
        obtain ⟨rfl, -, rfl⟩ := hv
        obtain ⟨r', cap', hv, -, -, -⟩ := ri_split sq.rs (by rw [lS]; omega)
        simp only [Value.slice.injEq] at hv
        obtain ⟨rfl, -, rfl⟩ := hv
        have x0 := (ri_at sq.re (j := k) (by rw [lE]; exact hlt)).1
        have x1 := (ri_at sq.rs (j := k) (by rw [lS]; exact hlt)).1
        have q0 := sq.c0
        have q1 := sq.c1
        rw [lE] at q0
        rw [lS] at q1
        have lQ : (P.take k).length = k := by simp [HZ.out]; omega
        have hro := sq.ro
        obtain ⟨va, vc, rfl⟩ : ∃ va vc, u3 = .slice va (P.take k).length vc := by
          rcases hro.2 with ⟨h1, h2⟩ | ⟨g, cap, cur, h1, _⟩
          · exact ⟨none, 0, by rw [h1, h2]⟩
          · exact ⟨_, _, h1⟩
        have HST := Hid.mk' hst
        have SQ := Hid.mk' sq
        have HRO := Hid.mk' hro
        have hBB := sq.bel.size
        have HLQ := Hid.mk' lQ
        generalize (fE P xs.length).getD k 0 = ze at *
        generalize (fS P xs.length).getD k 0 = zs at *
        have hkN : (P.take k).length ≤ 1048576 := by omega
        clear sq hro hst lE lS lQ
        go_wp2
        go_region_law (refine step_append_lies _ rfl (.tmp 19) (.tmp 31) 38 rfl w.heap.size 87 i0 (.agg #[.int .i64 0, .int .i64 0]) 2 16 Try.underlying38 hi hz0 hz1 hz2 rfl (by decide) (.slice va (P.take k).length vc) (P.take k).length (pcs (P.take k)) (by simp [Act.eval, Act.put]) (HRO.out.alloc _) ⟨wr.heap.size, 0, none⟩ 1 1 [.int .i64 ze, .int .i64 zs] (by simp [Act.eval, Act.put]) rfl cells2 (one2 _ _) (by decide) (by unfold maxLen; omega) (by omega) (by simp; omega) _ rfl ?_; intro g cap w5 ho5 hg5 hl5 hgl)
        all_goals
          have SN : Hid (Sq w w2.heap.size (.slice (some ⟨r, 0, none⟩) (fE P xs.length).length ec) (.slice (some ⟨r', 0, none⟩) (fS P xs.length).length sc) (.slice (some ⟨g, 0, none⟩) ((P.take k).length + 1) cap) (fE P xs.length) (fS P xs.length) (P.take (k + 1)) w5) := by
            show Sq _ _ _ _ _ _ _ _ _
            rw [HST.out]
            exact SQ.out.push (z := (ze, zs)) ho5 ⟨hg5.os, hg5.tape, hg5.output, hg5.size, hg5.block⟩ hl5
          clear ho5 hg5 hl5 hgl SQ HRO
          go_simp
          go_wp2
          go_roundw
          case rel => exact ⟨k + 1, by omega, by go_num, by have := SN.out; rwa [List.length_take] at this⟩
          case measure => simp [intOf]; omega
      · have e : k = xs.length := by omega
        subst e
        have hP : P.take xs.length = P := List.take_of_length_le (by rw [HZ.out]; exact Nat.le_refl _)
        rw [hP] at sq
        have SQ := Hid.mk' sq
        clear sq
        go_wp2
        go_ret
        refine ⟨_, rfl, ?_, SQ.out.bel⟩
        exact SQ.out.ro
  · have hf : closedM xs = false := by simpa using hcl
    have hM : pairsM xs = [] := by simp [pairsM, hf]
    rw [hM]
    rw [hf] at HI
    clear HL hcl hM hf
    go_enter Try.func14, Try.ntmps14
    go_wp2_with fail
    refine HI.out.mono ?_
    rintro e w1 ⟨rfl, b1⟩
    have hb := HB0.out.trans (b1.mono HB0.out.size)
    have H0 : Hid (w1.heap[w.heap.size]? = some (.cells #[] 87 (0, 0))) := by
      show _ = _
      rw [b1.block w.heap.size (by simp)]; exact heap_new w _
    clear b1 HB0
    go_wp2
    go_ret
    exact ⟨_, rfl, ⟨rfl, .inr ⟨w.heap.size, 0, #[], rfl, Nat.le_refl _, H0.out, Nat.le_refl _, by decide, rfl, rfl⟩⟩, hb⟩
end Go.Proofs.Yteaegmlnacnofaa
