import Derived.Test.YteaegmlnacnofaaPr1
import Derived.Maps.AppendAt
set_option linter.all false
set_option linter.unusedVariables false
namespace Go.Proofs.Yteaegmlnacnofaa
open Go.RowKit Go.Sort
set_option maxRecDepth 100000
def J (l : List Nat) : List Value := l.map fun (j : Nat) => Value.int .i64 (j : Int)
theorem J_app (l m : List Nat) : J (l ++ m) = J l ++ J m := by simp [J]
theorem J_len (l : List Nat) : (J l).length = l.length := by simp [J]
theorem J_at (m : List Nat) (j : Nat) : (J (m ++ [j]))[m.length]? = some (.int .i64 (j : Int)) := by simp [J]
theorem J_take (m : List Nat) (j : Nat) : (J (m ++ [j])).take m.length = J m := by
  rw [J_app, List.take_append_of_le_length (by rw [J_len]; exact Nat.le_refl _), List.take_of_length_le (by rw [J_len]; exact Nat.le_refl _)]
theorem pst_push {k : Nat} {op : Int} {s : List Nat × List (Int × Int)} (h : op = 2 ∨ op = 3 ∨ op = 4) : pst k op s = (s.1 ++ [k], s.2) := by simp only [pst, if_pos h]
theorem pst_else {k j : Nat} {m : List Nat} {P : List (Int × Int)} : pst k 5 (m ++ [j], P) = (m ++ [j], P.set j ((P.getD j (-1, -1)).1, (k : Int))) := by
  simp [pst, List.getLastD_eq_getLast?]
theorem pst_end {k j : Nat} {m : List Nat} {P : List (Int × Int)} : pst k 11 (m ++ [j], P) = (m, P.set j ((k : Int), (P.getD j (-1, -1)).2)) := by
  simp [pst, List.getLastD_eq_getLast?]
theorem pst_same {k : Nat} {op : Int} {s : List Nat × List (Int × Int)} (o1 : op ≠ 2) (o2 : op ≠ 3) (o3 : op ≠ 4) (o4 : op ≠ 5) (o5 : op ≠ 11) : pst k op s = s := by
  unfold pst; rw [if_neg (by omega), if_neg o4, if_neg o5]
theorem snoc {l : List Nat} (h : l ≠ []) : ∃ m j, l = m ++ [j] := ⟨l.dropLast, l.getLast h, (List.dropLast_concat_getLast h).symm⟩
theorem set_heapL {V : World} {g j : Nat} {v : Value} {c : List Value} {t : TypeId} (h : V.heap[g]? = some (.cells c.toArray t (0, 0))) : (V.setCell ⟨g, j, none⟩ v).heap[g]? = some (.cells (c.set j v).toArray t (0, 0)) := by
  rw [setCell_eq_setRow V g j _ t _ v h]
  simpa using setRow_heap V g _ _ t _ h
theorem frozen_row {w : World} {g j : Nat} {cur : List Value} {t : TypeId} (hg : w.heap[g]? = some (.cells cur.toArray t (0, 0))) : w.frozen? ⟨g, j, none⟩ = false := by
  simp only [World.frozen?, hg]; simp
/-- The pairs' row g, and the row of those that are open. -/
structure Rp (w : World) (g : Nat) (e : TypeId) (v : Value) (o : List Nat) (P : List (Int × Int)) (wr : World) : Prop where
  row : wr.heap[g]? = some (.cells (pcs P).toArray 87 (0, 0))
  own : wr.ownsRow (g + 1) e 1 v o.length (J o)
  bel : Below w.heap.size w wr
  ge : w.heap.size ≤ g
  lt : g < wr.heap.size
theorem Rp.ne {w : World} {g : Nat} {e : TypeId} {v : Value} {o : List Nat} {P : List (Int × Int)} {wr : World} (h : Rp w g e v o P wr) : v.ownBlock ≠ some g := fun k => by
  have := (h.own.lt g k).1; omega
theorem ownE_keep2 {w w1 : World} {B e n : Nat} {v : Value} {zs : List Value} (h : w.ownsRow B e 1 v n zs) (hb : Below w.heap.size w w1) : w1.ownsRow B e 1 v n zs := by
  refine ⟨h.1, ?_⟩
  rcases h.2 with h0 | ⟨g, cap, cur, hv, hB, hh, r⟩
  · exact .inl h0
  · exact .inr ⟨g, cap, cur, hv, hB, (hb.block g ((Array.getElem?_eq_some_iff.1 hh).1)).trans hh, r⟩
theorem Rp.keep {w : World} {g : Nat} {e : TypeId} {v : Value} {o : List Nat} {P : List (Int × Int)} {wr w1 : World} (h : Rp w g e v o P wr) (hb : Below wr.heap.size wr w1) : Rp w g e v o P w1 :=
  ⟨(hb.block g h.lt).trans h.row, ownE_keep2 h.own hb, h.bel.trans (hb.mono h.bel.size), h.ge, Nat.lt_of_lt_of_le h.lt hb.size⟩
theorem Rp.push {w : World} {g : Nat} {e : TypeId} {v v' : Value} {o : List Nat} {P : List (Int × Int)} {wr w1 : World} {ob : Obj} {k : Nat} (h : Rp w g e v o P wr) (ho : w1.ownsRow (g + 1) e 1 v' (o.length + 1) (J o ++ [.int .i64 (k : Int)])) (hg : (wr.alloc ob).grownBy w1 v.ownBlock) : Rp w g e v' (o ++ [k]) P w1 := by
  have hs := hg.size
  have lt := h.lt
  simp only [World.size_alloc] at hs
  refine ⟨?_, ?_, ?_, h.ge, by omega⟩
  · rw [hg.block g (by simp; omega) (fun e' => h.ne e'.symm)]
    exact (heap_old wr ob g lt).trans h.row
  · have e1 : (o ++ [k]).length = o.length + 1 := by simp
    rw [e1, J_app]; exact ho
  · exact (Below.alloc h.bel h.bel.size ob).grown hg (by have := h.bel.size; simp; omega) (fun j hj => by have := (h.own.lt j hj).1; have := h.ge; omega)
theorem Rp.setc {w : World} {g j : Nat} {e : TypeId} {v u : Value} {o : List Nat} {P P' : List (Int × Int)} {wr : World} (h : Rp w g e v o P wr) (hp : (pcs P).set j u = pcs P') : Rp w g e v o P' (wr.setCell ⟨g, j, none⟩ u) :=
  ⟨by rw [← hp]; exact set_heapL h.row, ownE_set h.own h.ne, h.bel.setCell h.ge _, h.ge, by simpa using h.lt⟩
theorem Rp.last {w : World} {g : Nat} {e : TypeId} {v : Value} {m : List Nat} {j : Nat} {P : List (Int × Int)} {wr : World} (h : Rp w g e v (m ++ [j]) P wr) : ∃ r cap, v = .slice (some ⟨r, 0, none⟩) (m.length + 1) cap ∧ m.length + 1 ≤ cap ∧ wr.cell? ⟨r, m.length, none⟩ = some (.int .i64 (j : Int)) ∧ (∀ wr' P', Rp w g e v (m ++ [j]) P' wr' → Rp w g e (.slice (some ⟨r, 0, none⟩) m.length cap) m P' wr') := by
  have own := h.own
  rw [show (m ++ [j]).length = m.length + 1 by simp] at own
  obtain ⟨r, cap, rfl, h1, h2, h3⟩ := ownE_split own (by omega)
  refine ⟨r, cap, rfl, h3, ?_, fun wr' P' h' => ⟨h'.row, ?_, h'.bel, h'.ge, h'.lt⟩⟩
  · rw [own.cellAt m.length (by omega)]; exact J_at m j
  · have own' := h'.own
    rw [show (m ++ [j]).length = m.length + 1 by simp] at own'
    have := ownE_take own'
    rwa [J_take] at this
theorem Try.infoInt : (Try.prog.info? 3).map (fun i => (i.zero, i.size, i.bytes)) = some (some (.int .i64 0), 1, 8) := by kernel_rfl
theorem oneK (b : Int) : ∀ u ∈ [Value.int .i64 b], u.oneCell' = true := by
  intro u hu; simp at hu; subst hu; rfl
set_option maxHeartbeats 8000000 in
theorem irp_c (b off c n : Nat) (xs : List In) (w : World) (hxl : xs.length = n + 1) (hn : n + 1 ≤ 1048576) (hc : n + 1 ≤ c) (hcl : closedM xs = true) (hL : Lst w (some ⟨b, off, none⟩) xs) :
    Calls Try.prog 39 #[.slice (some ⟨b, off, none⟩) (n + 1) c] w fun e w' => ∃ g, e = .returned (.slice (some ⟨g, 0, none⟩) (n + 1) (n + 1)) ∧ w.heap.size ≤ g ∧ w'.heap[g]? = some (.cells (pcs (pat xs n).2).toArray 87 (0, 0)) ∧ Below w.heap.size w w' := by
  obtain ⟨i0, hi, hz0, hz1, hz2⟩ := info_parts Try.infoInt
  obtain ⟨W, hW⟩ : ∃ W, W = w.alloc (.cells #[.int .i64 (-1), .int .i64 (-1)] 87) := ⟨_, rfl⟩
  have HR := Hid.mk' (rep_c w.heap.size (n + 1) W hn (by omega) (by rw [hW]; exact cell_new rfl rfl) (by rw [hW]; exact cell_new rfl rfl))
  have bW : Below w.heap.size w W := by rw [hW]; exact (Below.refl _ _).alloc (Nat.le_refl _) _
  have hsW : w.heap.size ≤ W.heap.size := bW.size
  have HBW := Hid.mk' bW
  have HWW := Hid.mk' hW
  have HL := Hid.mk' hL
  have HX := Hid.mk' hxl
  have HC := Hid.mk' hcl
  have hcn : ¬ ((c : Int) < (n : Int)) := by omega
  have hcn2 : n ≤ c := by omega
  clear hW hL hxl hcl bW
  go_enter Try.func39, Try.ntmps39
  go_wp2_with fail
  rw [show w.alloc (.cells #[.int .i64 (-1), .int .i64 (-1)] 87) = W from HWW.out.symm]
  refine HR.out.mono ?_
  rintro e w1 ⟨rfl, hrow, hb⟩
  have RP0 : Hid (Rp w W.heap.size 3 (.slice none 0 0) (pat xs 0).1 (pat xs 0).2 w1) := by
    show Rp _ _ _ _ _ _ _
    refine ⟨?_, ⟨by simp [pat, J], .inl ⟨rfl, by simp [pat]⟩⟩, HBW.out.trans (hb.mono hsW), hsW, ?_⟩
    · have := hrow.out; rw [mns] at this; simpa [pat, HX.out] using this
    · exact (Array.getElem?_eq_some_iff.1 hrow.out).1
  clear HR HWW hrow hb
  go_wp2
  go_loopw [4, 19] (fun v i wr => ∃ k : Nat, k ≤ n ∧ i = .int .i64 k ∧ Rp w W.heap.size 3 v (pat xs k).1 (pat xs k).2 wr) (fun _ i _ => n - (intOf i).toNat)
  case atStart => exact ⟨0, Nat.zero_le _, rfl, RP0.out⟩
  case round =>
    obtain ⟨k, hk, rfl, rp⟩ := hrel
    clear RP0
    by_cases hlt : k < n
    · have hki : (k : Int) < (n : Int) := by omega
      have pi := pi_all HC.out k (by have := HX.out; omega)
      have hkx : k < xs.length := by have := HX.out; omega
      rcases HL.out.keep rp.bel with hx | ⟨b', o', ea, hcc⟩
      · have := HX.out; rw [hx] at this; simp at this
      simp only [Option.some.injEq, Addr.mk.injEq, and_true] at ea
      obtain ⟨rfl, rfl⟩ := ea
      obtain ⟨la, lc, c0, c1, c2, c3, c4, c5⟩ := hcc k hkx
      have HS : Hid (pat xs (k + 1) = pst k (xs.getD k I0).op (pat xs k)) := rfl
      have HE := Hid.mk' (fun h5 => pi_else pi hkx h5)
      have HD := Hid.mk' (fun h11 => pi_end pi (by have := HX.out; omega) h11)
      have HLt := Hid.mk' pi.lt
      have HSz := Hid.mk' pi.sz
      generalize xs.getD k I0 = x at *
      obtain ⟨op, xa, xb, xv, xl⟩ := x
      simp only at c0 c1 c2 c3 c4
      clear c5 hcc pi
      generalize hpk : pat xs k = pk at *
      obtain ⟨o, P⟩ := pk
      simp only at rp
      obtain ⟨va, vc, rfl⟩ := ownE_slice rp.own
      have HP := Hid.mk' rp
      have hol : o.length ≤ 1048576 := by have := pat_len (xs := xs) k; rw [hpk] at this; simp only at this; omega
      have HPK := Hid.mk' hpk
      have hw1 : IntKind.i64.wrap ((o.length : Int) - 1) = (o.length : Int) - 1 := by rw [IntKind.wrap_i64]; omega
      clear rp hpk HL HC
      go_upto_region 8 with fail
      refine wp_gen (fun V => Rp w W.heap.size 3 (.slice va o.length vc) o P V) (HP.out.keep ((Below.refl _ _).alloc (Nat.le_refl _) _)) ?_
      rintro V rv
      clear HP c0 c1 c2 c3 c4
      by_cases h234 : op = 2 ∨ op = 3 ∨ op = 4
      · have HN : Hid (pat xs (k + 1) = (o ++ [k], P)) := by show _ = _; rw [HS.out]; exact pst_push h234
        have own := rv.own
        have lt := rv.lt
        have RV := Hid.mk' rv
        have hB : W.heap.size + 1 ≤ V.heap.size := lt
        clear rv HS HE HD HPK
        rcases h234 with rfl | rfl | rfl
        all_goals
          go_wp2_with (at_builtin; refine wpList_append_own_at _ rfl _ _ 120 rfl (W.heap.size + 1) 3 i0 (.int .i64 0) 1 8 Try.underlying120 hi hz0 hz1 hz2 rfl (by decide) _ _ _ rfl (own.alloc _) ⟨V.heap.size, 0, none⟩ 1 1 [.int .i64 (k : Int)] rfl rfl (cell_one_new _ _ _) (oneK _) (by unfold maxLen; omega) (by omega) (by simp; omega) ?_; intro v' w2 hown' hgrow hnn hloc; have HO2 := Hid.mk' (RV.out.push hown' hgrow); obtain ⟨va2, vc2, rfl⟩ := ownE_slice hown'; clear hown' hgrow hnn hloc own)
          go_roundw
          case rel => exact ⟨k + 1, by omega, by go_num, by rw [HN.out]; exact HO2.out⟩
          case measure => simp [intOf]; omega
      · have t2 : (op == 2) = false := by simp; omega
        have t3 : (op == 3) = false := by simp; omega
        have t4 : (op == 4) = false := by simp; omega
        by_cases h5 : op = 5
        · subst h5
          obtain ⟨m, j, rfl⟩ := snoc (HE.out rfl)
          have hj : j < P.length := by
            have h1 := HLt.out j (by simp)
            have h2 := HSz.out
            simp only at h2
            omega
          have HN : Hid (pat xs (k + 1) = (m ++ [j], P.set j ((P.getD j (-1, -1)).1, (k : Int)))) := by show _ = _; rw [HS.out]; exact pst_else
          obtain ⟨r, cap, hv, hcap, hcj, hdrop⟩ := rv.last
          have cp := cell_row rv.row (pcs_at1 P j hj)
          have fz := frozen_row (j := j * 2 + 1) rv.row
          have RV := Hid.mk' (rv.setc (pcs_set1 P j (k : Int) hj))
          have el : (m ++ [j]).length = m.length + 1 := by simp
          have e7 : (((m ++ [j]).length : Nat) : Int) - 1 = (m.length : Int) := by rw [el]; omega
          simp only [Value.slice.injEq] at hv
          obtain ⟨rfl, hvl, rfl⟩ := hv
          rw [e7, el]
          have hm1 : ¬ ((m.length : Int) + 1 ≤ (m.length : Int)) := by omega
          have hjn : (j : Int) < (n : Int) + 1 := by have := HLt.out j (by simp); omega
          have hm0 : (m.length : Int) < (m.length : Int) + 1 := by omega
          clear rv HS HE HD HPK hw1 el e7 hvl hdrop HLt HSz
          go_wp2
          go_roundw
          case rel => exact ⟨k + 1, by omega, by go_num, by rw [HN.out]; have := RV.out; rwa [show (m ++ [j]).length = m.length + 1 by simp] at this⟩
          case measure => simp [intOf]; omega
        · have t5 : (op == 5) = false := by simp; omega
          by_cases h11 : op = 11
          · subst h11
            obtain ⟨m, j, rfl⟩ := snoc (HD.out rfl)
            have hj : j < P.length := by
              have h1 := HLt.out j (by simp)
              have h2 := HSz.out
              simp only at h2
              omega
            have HN : Hid (pat xs (k + 1) = (m, P.set j ((k : Int), (P.getD j (-1, -1)).2))) := by show _ = _; rw [HS.out]; exact pst_end
            obtain ⟨r, cap, hv, hcap, hcj, hdrop⟩ := rv.last
            have cp := cell_row rv.row (pcs_at0 P j hj)
            have fz := frozen_row (j := j * 2) rv.row
            have RV := Hid.mk' (hdrop _ _ (rv.setc (pcs_set0 P j (k : Int) hj)))
            have el : (m ++ [j]).length = m.length + 1 := by simp
            have e7 : (((m ++ [j]).length : Nat) : Int) - 1 = (m.length : Int) := by rw [el]; omega
            simp only [Value.slice.injEq] at hv
            obtain ⟨rfl, hvl, rfl⟩ := hv
            rw [e7, el]
            have hm1 : ¬ ((m.length : Int) + 1 ≤ (m.length : Int)) := by omega
            have hjn : (j : Int) < (n : Int) + 1 := by have := HLt.out j (by simp); omega
            have hm0 : (m.length : Int) < (m.length : Int) + 1 := by omega
            have hm2 : ¬ ((vc : Int) < (m.length : Int)) := by omega
            clear rv HS HE HD HPK hw1 el e7 hvl hdrop HLt HSz
            go_wp2
            go_roundw
            case rel => exact ⟨k + 1, by omega, by go_num, by rw [HN.out]; exact RV.out⟩
            case measure => simp [intOf]; omega
          · have t11 : (op == 11) = false := by simp; omega
            have HN : Hid (pat xs (k + 1) = (o, P)) := by show _ = _; rw [HS.out]; exact pst_same (fun e => h234 (.inl e)) (fun e => h234 (.inr (.inl e))) (fun e => h234 (.inr (.inr e))) h5 h11
            have RV := Hid.mk' rv
            clear rv HS HE HD HPK hw1 HLt HSz
            go_wp2
            go_roundw
            case rel => exact ⟨k + 1, by omega, by go_num, by rw [HN.out]; exact RV.out⟩
            case measure => simp [intOf]; omega
    · have e : k = n := by omega
      subst e
      clear HL
      go_wp2
      go_ret
      exact ⟨_, rfl, hsW, rp.row, rp.bel⟩
theorem lst_addr {w : World} {a : Option Addr} {xs : List In} (h : Lst w a xs) (h0 : 0 < xs.length) : ∃ b off, a = some ⟨b, off, none⟩ := by
  rcases h with h | ⟨b, o, e, _⟩
  · rw [h] at h0; simp at h0
  · exact ⟨b, o, e⟩
/-- A list of pairs in a row of the call's own. -/
def PR (V : World) (B : Nat) (v : Value) (P : List (Int × Int)) : Prop := V.ownsRow B 87 2 v P.length (pcs P)
set_option maxHeartbeats 2000000 in
theorem ipairs_c (a : Option Addr) (c : Nat) (xs : List In) (w : World) (hn : xs.length ≤ 1048576) (hc : xs.length ≤ c) (hl : ∀ i, i < xs.length → (xs.getD i I0).l.length ≤ 1048576) (hv : ∀ i, 0 ≤ (xs.getD i I0).v) (hL : Lst w a xs) :
    Calls Try.prog 16 #[.slice a xs.length c] w fun e w' => ∃ v, e = .returned v ∧ PR w' w.heap.size v (pairsM xs) ∧ Below w.heap.size w w' := by
  have HI := Hid.mk' (iclosed_c a c xs w hn hl hv hL)
  have HL := Hid.mk' hL
  clear hL hv hl
  by_cases hcl : closedM xs = true
  · have h0 := closed_pos hcl
    obtain ⟨n, hx⟩ : ∃ n, xs.length = n + 1 := ⟨xs.length - 1, by omega⟩
    obtain ⟨b, off, rfl⟩ := lst_addr HL.out h0
    have hl := pi_last hcl hx
    have hsz := (pi_all hcl n (by omega)).sz
    have hM : pairsM xs = (pat xs n).2 := by simp only [pairsM, hcl, if_true]; rw [hx, hl.2.2]
    rw [hM]
    rw [hcl] at HI
    have HR := Hid.mk' (fun (V : World) (hb : Below w.heap.size w V) => irp_c b off c n xs V hx (by omega) (by omega) hcl (HL.out.keep hb))
    have HX := Hid.mk' hx
    have HZ := Hid.mk' hsz
    clear hl hM hsz hcl HL h0
    rw [hx] at HI ⊢
    have HNN := Hid.mk' hn
    rw [hx] at HNN
    clear hx hc hn
    go_enter Try.func16, Try.ntmps16
    go_wp2_with fail
    refine HI.out.mono ?_
    rintro e w1 ⟨rfl, b1⟩
    go_wp2_with fail
    refine (HR.out _ b1).mono ?_
    rintro e w2 ⟨g, rfl, hg, hrow, b2⟩
    have HG := Hid.mk' hrow
    have hb2 := b1.trans (b2.mono b1.size)
    have hs1 := b1.size
    clear hrow HR HI b2
    go_wp2
    go_ret
    refine ⟨_, rfl, ⟨pcs_len _, .inr ⟨g, n + 1, _, by rw [HZ.out, HX.out]; rfl, by omega, HG.out, by rw [HZ.out, HX.out]; exact Nat.le_refl _, by unfold maxLen; have := HNN.out; omega, by simp [pcs_len, HZ.out, HX.out], ?_⟩⟩, hb2⟩
    exact List.take_of_length_le (by simp [pcs_len])
  · have hf : closedM xs = false := by simpa using hcl
    have hM : pairsM xs = [] := by simp [pairsM, hf]
    rw [hM]
    rw [hf] at HI
    clear HL hcl hM hf
    go_enter Try.func16, Try.ntmps16
    go_wp2_with fail
    refine HI.out.mono ?_
    rintro e w1 ⟨rfl, b1⟩
    go_wp2
    go_ret
    exact ⟨_, rfl, ⟨rfl, .inl ⟨rfl, rfl⟩⟩, b1⟩
end Go.Proofs.Yteaegmlnacnofaa
