import Derived.Test.YtfaajmhmcdoibaaHqB
import Derived.Test.YtfaajmhmcdoibaaGsB
set_option linter.all false
set_option linter.unusedVariables false
namespace Go.Proofs.Ytfaajmhmcdoibaa
open Go.RowKit Go.Sort
set_option maxRecDepth 100000
theorem mkFs_at (xs : List Frm) (j : Nat) (hj : j < xs.length) : ∀ k : Int, (mkFs k xs).getD j Frm.z = mkFr (k + (((xs.take j).map szF).sum : Nat)) (xs.getD j Frm.z) := by
  induction xs generalizing j with
  | nil => simp at hj
  | cons y ys ih =>
    intro k
    cases j with
    | zero => simp [mkFs, List.getD]
    | succ j =>
      have h := ih j (by simp at hj; omega) (k + szF y)
      simp only [mkFs, List.take_succ_cons, List.map_cons, List.sum_cons]
      rw [show (mkFr k y :: mkFs (k + szF y) ys).getD (j + 1) Frm.z = (mkFs (k + szF y) ys).getD j Frm.z by simp [List.getD], h, show (y :: ys).getD (j + 1) Frm.z = ys.getD j Frm.z by simp [List.getD]]
      congr 1
      omega
set_option maxHeartbeats 8000000 in
theorem heldF_c (a : Option Addr) (c n : Nat) (xs : List Frm) (hn : n = xs.length) (k0 : Int) (w : World) (h0 : 0 ≤ k0) (h1 : k0 + ((xs.map szF).sum : Nat) ≤ 100000000) (hnb : n ≤ 100000000) (hL : Frm.Ls 0 w a (mkFs k0 xs)) :
    Calls Try.prog 49 #[.slice a n c, .int .i64 k0] w fun e w' => e = .returned (.int .i64 (k0 + ((xs.map szF).sum : Nat))) ∧ w = w' := by
  have HL := Hid.mk' hL
  have HN := Hid.mk' hn
  have HB := Hid.mk' (And.intro h0 h1)
  clear hL hn h0 h1
  go_enter Try.func49, Try.ntmps49
  go_wp2
  go_loop [1, 5] (fun q i => ∃ (j : Nat) (kk : Int), j ≤ n ∧ i = .int .i64 j ∧ q = .int .i64 kk ∧ kk = k0 + (((xs.take j).map szF).sum : Nat)) (fun _ i => n - (intOf i).toNat)
  case atStart => exact ⟨0, k0, Nat.zero_le _, rfl, rfl, by simp⟩
  case round =>
    obtain ⟨j, kk, hj, rfl, rfl, hkk⟩ := hrel
    by_cases hlt : j < n
    · have hji : (j : Int) < (n : Int) := by omega
      have hN := HN.out
      rcases HL.out with hx | ⟨b, o, ea, _, hc⟩
      · have := mkFs_len xs k0; rw [hx] at this; simp at this; omega
      have d := hc j (by rw [mkFs_len]; omega)
      rw [mkFs_at xs j (by omega) k0, ← hkk] at d
      have hss := sum_step' Frm.z szF xs j (by omega)
      have hle := sumk_le szF xs (j + 1)
      have hB := HB.out
      obtain ⟨a1, c1, a2, c2, ⟨q0, q1, q2, q3, q4⟩, r1, r2⟩ := d
      generalize xs.getD j Frm.z = x at *
      have HK : Hid (kk + szF x = k0 + (((xs.take (j + 1)).map szF).sum : Nat)) := by show _ = _; rw [hss]; omega
      have hk2 : kk + szF x ≤ 100000000 := by rw [HK.out]; omega
      have hk3 : 0 ≤ kk := by omega
      simp only [mkFr, mkW_len, mkL_len] at q0 q1 q2 q3 q4 r1 r2
      simp only [szF] at hk2 HK
      generalize x.loc.length = m1 at *
      generalize x.labs.length = m2 at *
      have KW := Hid.mk' (heldW_c a1 c1 m1 (kk + 1 + 1) w (by omega) (by omega) r1)
      have KL := Hid.mk' (heldL_c a2 c2 m2 (kk + 1 + 1 + m1 + 1) w (by omega) (by omega) r2)
      subst ea
      clear hss hle hB hN hc r1 r2 HL HN HB hkk
      have hw1 : IntKind.i64.wrap (kk + 1) = kk + 1 := by rw [IntKind.wrap_i64]; omega
      have hw2 : IntKind.i64.wrap (kk + 1 + 1) = kk + 1 + 1 := by rw [IntKind.wrap_i64]; omega
      go_upto_region 10 with fail
      clear hw1 hw2
      go_wp2_with fail
      refine KW.out.mono ?_
      rintro e W1 ⟨rfl, rfl⟩
      have hw3 : IntKind.i64.wrap (kk + 1 + 1 + m1 + 1) = kk + 1 + 1 + m1 + 1 := by rw [IntKind.wrap_i64]; omega
      have hnn : ¬ kk + 1 + 1 + (m1 : Int) < 0 := by omega
      go_upto_region 16 with fail
      clear hw3 hnn KW
      go_wp2_with fail
      refine KL.out.mono ?_
      rintro e W2 ⟨rfl, rfl⟩
      have hnn : ¬ kk + 1 + 1 + (m1 : Int) + 1 + 4 * (m2 : Int) < 0 := by omega
      clear KL
      go_wp2
      go_round
      case rel => exact ⟨j + 1, _, by omega, by go_num, rfl, by have := HK.out; omega⟩
      case measure => simp [intOf]; omega
    · have e : j = n := by omega
      subst e
      rw [List.take_of_length_le (by have := HN.out; omega)] at hkk
      subst hkk
      go_wp2
      go_ret
      exact ⟨rfl, rfl⟩
/-- The blocks of an answer. -/
def SA (v1 v2 : Value) (xs : List (Frm × Value × Value)) (q : Nat) : Prop := v1.ownBlock = some q ∨ SF v2 xs q
theorem StH.at {w w' : World} {A M : Nat} {ws : List Int} {xs : List (Frm × Value × Value)} {v1 v2 : Value} (h : StH w A M ws xs v1 v2) (hs : w.heap.size ≤ w'.heap.size) (hk : ∀ q, SA v1 v2 xs q → w'.heap[q]? = w.heap[q]?) : StH w' A M ws xs v1 v2 := by
  obtain ⟨h1, h2, ⟨bd, b1, b2, b3⟩, h4, h5, h6⟩ := h
  refine ⟨ownS_of h1 (fun q hq => hk q (.inl hq)), ownS_of h2 (fun q hq => hk q (.inr (.inl hq))), ⟨bd, b1, by omega, fun i hi => ?_⟩, h4, h5, h6⟩
  obtain ⟨M', c1, c2, c3⟩ := b3 i hi
  have hm : xs.getD i zF ∈ xs := by rw [List.getD_eq_getElem?_getD, List.getElem?_eq_getElem hi]; exact List.getElem_mem hi
  exact ⟨M', c1.keep hs (fun q hq hC => hk q (.inr (.inr ⟨_, hm, hq⟩))), c2, c3⟩
theorem StH.sa {w : World} {A M : Nat} {ws : List Int} {xs : List (Frm × Value × Value)} {v1 v2 : Value} (h : StH w A M ws xs v1 v2) : ∀ q, SA v1 v2 xs q → A ≤ q ∧ q < w.heap.size := by
  obtain ⟨h1, h2, ⟨bd, b1, b2, b3⟩, h4, h5, h6⟩ := h
  intro q hq
  rcases hq with hq | hq | ⟨p, hp, hq⟩
  · exact h1.lt q hq
  · have := h2.lt q hq; omega
  · obtain ⟨i, hi, e⟩ := List.getElem_of_mem hp
    obtain ⟨M', c1, c2, c3⟩ := b3 i hi
    have e2 : xs.getD i zF = p := by simp [List.getD, hi, e]
    rw [e2] at c1 c2
    have := c2 q hq
    refine ⟨by omega, ?_⟩
    rcases hq with hq | hq
    · exact (c1.1.lt q hq).2
    · exact (c1.2.1.lt q hq).2
/-- An answer's state, in rows of its own from A to C. -/
def AnsV (w : World) (A C : Nat) (ws : List Int) (fs : List Frm) (v1 v2 : Value) : Prop := ∃ xs M, xs.map (·.1) = fs ∧ StH w A M ws xs v1 v2 ∧ ∀ q, SA v1 v2 xs q → q < C
theorem AnsV.keep {w w' : World} {A C : Nat} {ws : List Int} {fs : List Frm} {v1 v2 : Value} (h : AnsV w A C ws fs v1 v2) (hs : w.heap.size ≤ w'.heap.size) (hk : ∀ q, A ≤ q → q < C → q < w.heap.size → w'.heap[q]? = w.heap[q]?) : AnsV w' A C ws fs v1 v2 := by
  obtain ⟨xs, M, e, h1, h2⟩ := h
  exact ⟨xs, M, e, h1.at hs (fun q hq => hk q (h1.sa q hq).1 (h2 q hq) (h1.sa q hq).2), h2⟩
theorem AnsV.below {w w' : World} {A C : Nat} {ws : List Int} {fs : List Frm} {v1 v2 : Value} (h : AnsV w A C ws fs v1 v2) (hb : Below w.heap.size w w') : AnsV w' A C ws fs v1 v2 := h.keep hb.size (fun q _ _ hq => hb.block q hq)
theorem AnsV.is {w : World} {A C : Nat} {ws : List Int} {fs : List Frm} {v1 v2 : Value} (h : AnsV w A C ws fs v1 v2) (st tr : Int) : ∃ a1 c1 a2 c2, v1 = .slice a1 ws.length c1 ∧ v2 = .slice a2 fs.length c2 ∧ Sta.Is 0 w ⟨st, tr, ws, fs⟩ a1 a2 := by
  obtain ⟨xs, M, rfl, h1, -⟩ := h
  exact h1.is st tr
theorem mkTs_mem (xs : List (Frm × Value × Value)) : ∀ (k : Int) p, p ∈ mkTs k xs → ∃ p0 ∈ xs, p.2 = p0.2 := by
  induction xs with
  | nil => intro k p hp; cases hp
  | cons y ys ih =>
    intro k p hp
    simp only [mkTs, List.mem_cons] at hp
    rcases hp with rfl | hp
    · exact ⟨y, by simp, rfl⟩
    · obtain ⟨p0, h0, e⟩ := ih _ p hp
      exact ⟨p0, by simp [h0], e⟩
theorem sa_mk {v1 v2 : Value} {xs : List (Frm × Value × Value)} {k : Int} {q : Nat} (h : SA v1 v2 (mkTs k xs) q) : SA v1 v2 xs q := by
  rcases h with h | h | ⟨p, hp, h⟩
  · exact .inl h
  · exact .inr (.inl h)
  · obtain ⟨p0, h0, e⟩ := mkTs_mem xs k p hp
    exact .inr (.inr ⟨p0, h0, by rw [← e]; exact h⟩)
theorem szT_eq (xs : List (Frm × Value × Value)) : szT xs = ((xs.map (·.1)).map szF).sum := by simp [szT, List.map_map, Function.comp_def]
theorem FsI.keep {W W' : World} {B : Nat} {vb : Option Nat} {xs : List (Frm × Value × Value)} (h : FsI W B vb xs) (hs : W.heap.size ≤ W'.heap.size) (hk : ∀ q, B ≤ q → q < W.heap.size → vb ≠ some q → W'.heap[q]? = W.heap[q]?) : FsI W' B vb xs := by
  obtain ⟨bd, b1, b2, b3⟩ := h
  refine ⟨bd, b1, by omega, fun i hi => ?_⟩
  obtain ⟨M', c1, c2, c3⟩ := b3 i hi
  exact ⟨M', c1.keep hs (fun q hq hC => hk q (c2 q hq).1 (by have := c1.2.2.2.2.2.2; omega) (c2 q hq).2), c2, c3⟩
theorem bel_bet {A C : Nat} {w V W : World} (h : Below w.heap.size w V) (k : Bet A C V W) (hA : A ≤ w.heap.size) : Bet A C w W :=
  ⟨k.os.trans h.os, k.tape.trans h.tape, k.output.trans h.output, Nat.le_trans h.size k.size, fun q hq => (k.block q (by have := h.size; omega)).trans (h.block q (by omega))⟩
set_option maxHeartbeats 8000000 in
theorem mS2_c (st tr : Int) (ws : List Int) (fs : List Frm) (v1 v2 : Value) (A C : Nat) (w : World) (h : AnsV w A C ws fs v1 v2) (hAC : A ≤ w.heap.size) (hs : 1 + ws.length + (fs.map szF).sum ≤ 100000000) (hl : fs.length ≤ 100000000) :
    Calls Try.prog 11 #[.agg #[.int .i64 st, .int .i64 tr, v1, v2], .int .i64 1] w fun e w' => e = .returned (.int .i64 (1 + ws.length + ((fs.map szF).sum : Nat))) ∧ AnsV w' A C (mkW 1 ws.length) (mkFs (1 + ws.length) fs) v1 v2 ∧ Bet A C w w' := by
  obtain ⟨xs, M, rfl, hSt, hSC⟩ := h
  rw [← szT_eq] at hs
  rw [← szT_eq]
  obtain ⟨a1, c1, rfl⟩ := ownS_slice hSt.1
  obtain ⟨a2, c2, rfl⟩ := ownS_slice hSt.2.1
  obtain ⟨V0, hV0⟩ : ∃ V0, V0 = w.alloc (.cells #[.int .i64 st, .int .i64 tr, .slice a1 ws.length c1, .slice a2 xs.length c2] 31) := ⟨_, rfl⟩
  have hBk : Bk V0 w.heap.size [.int .i64 st, .int .i64 tr, .slice a1 ws.length c1, .slice a2 xs.length c2] := by rw [hV0]; exact Bk.new
  have hb0 : Below w.heap.size w V0 := by rw [hV0]; exact (Below.refl _ _).alloc (Nat.le_refl _) _
  have hSt0 : StH V0 A M ws xs (.slice a1 ws.length c1) (.slice a2 xs.length c2) := hSt.keep hb0.size (fun q _ hq => hb0.block q hq)
  have hlw : ∀ q, (Value.slice a1 ws.length c1).ownBlock = some q → A ≤ q ∧ q < w.heap.size := fun q hq => hSt.1.lt q hq
  have HV0 := Hid.mk' hV0
  have hsz := hAC
  have hl' : xs.length ≤ 100000000 := by simpa using hl
  clear hV0 hl
  have KC := Hid.mk' (mW2_c a1 ws.length c1 ws rfl 1 A V0 hSt0.1 (by omega) (by omega))
  have HN : Hid (∀ V1, V1.ownsRow A 85 1 (.slice a1 ws.length c1) ws.length ((mkW 1 ws.length).flatMap ceW) → Ko (Value.slice a1 ws.length c1).ownBlock V0 V1 → V1.cell? ⟨w.heap.size, 3, none⟩ = some (.slice a2 xs.length c2) ∧ (Calls Try.prog 32 #[.slice a2 xs.length c2, .int .i64 (1 + ws.length)] V1 fun e V2 => e = .returned (.int .i64 (1 + ws.length + szT xs)) ∧ AnsV V2 A C (mkW 1 ws.length) (mkFs (1 + ws.length) (xs.map (·.1))) (.slice a1 ws.length c1) (.slice a2 xs.length c2) ∧ Bet A C w V2)) := by
    intro V1 ho hk
    obtain ⟨s1, s2, s3, s4, s5, s6⟩ := hSt0
    have hne : ∀ q, M ≤ q → (Value.slice a1 ws.length c1).ownBlock ≠ some q := fun q hq e => by have := s4 q e; omega
    refine ⟨(World.cell?_of_block (a := ⟨w.heap.size, 3, none⟩) (hk.block w.heap.size (fun e => by have := (hlw _ e).2; omega))).trans (hBk.2.1 3 _ rfl), ?_⟩
    refine (mF2_c a2 xs.length c2 xs rfl (1 + ws.length) M V1 (ownS_of s2 (fun q hq => hk.block q (hne q (s2.lt q hq).1))) (s3.keep (Nat.le_of_eq hk.size.symm) (fun q hq _ _ => hk.block q (hne q hq))) (by omega) (by omega) hl').mono ?_
    rintro e V2 ⟨rfl, g1, g2, g3⟩
    have hsa := hSt.sa
    have hM : ∀ q, SF (.slice a2 xs.length c2) xs q → M ≤ q := fun q hq => by
      rcases hq with hq | ⟨p, hp, hq⟩
      · exact (s2.lt q hq).1
      · obtain ⟨bd, b1, b2, b3⟩ := s3
        obtain ⟨i, hi, e⟩ := List.getElem_of_mem hp
        obtain ⟨M', c1, c2, c3⟩ := b3 i hi
        have e2 : xs.getD i zF = p := by simp [List.getD, hi, e]
        rw [e2] at c2
        exact (c2 q hq).1
    have hz1 : ∀ q, (Value.slice a1 ws.length c1).ownBlock = some q → ¬ SF (.slice a2 xs.length c2) xs q := fun q h1 h2 => by
      have := hM q h2; have := s4 q h1; omega
    refine ⟨rfl, ⟨mkTs (1 + ws.length) xs, M, mkTs_map _ _, ⟨?_, ?_, g2, s4, s5, mkW_rg _ _ (by omega) (by omega)⟩, fun q hq => hSC q (sa_mk hq)⟩, ?_⟩
    · rw [mkW_len]
      exact ownS_of ho (fun q hq => g3.block q (ho.lt q hq).2 (hz1 q hq))
    · rw [mkTs_len]; exact g1
    · refine ⟨g3.os.trans (hk.os.trans hb0.os), g3.tape.trans (hk.tape.trans hb0.tape), g3.output.trans (hk.output.trans hb0.output), by have := g3.size; have := hk.size; have := hb0.size; omega, fun q hq => ?_⟩
      have hns : ¬ SA (.slice a1 ws.length c1) (.slice a2 xs.length c2) xs q := fun h => by
        have := hsa q h; have := hSC q h; omega
      have hqw : q < w.heap.size := by
        have := hsz; omega
      exact ((g3.block q (by have := hk.size; have := hb0.size; omega) (fun h => hns (.inr h))).trans (hk.block q (fun h => hns (.inl h)))).trans (hb0.block q hqw)
  have hq0 := hBk.2.1 2 _ rfl
  clear hSt hSt0 hBk hb0 hlw
  go_enter Try.func11, Try.ntmps11
  go_upto_region 1 with fail
  rw [← HV0.out]
  clear HV0
  go_wp2_with fail
  refine KC.out.mono ?_
  rintro e V1 ⟨rfl, ho, hk⟩
  have hh := HN.out V1 ho hk
  have hq := hh.1
  have KF := Hid.mk' hh.2
  clear hh ho hk KC HN hq0
  go_wp2_with fail
  refine KF.out.mono ?_
  rintro e V2 ⟨rfl, h2⟩
  have H2 := Hid.mk' h2
  clear h2 KF hq
  go_wp2
  go_ret
  exact ⟨rfl, H2.out⟩
set_option maxHeartbeats 8000000 in
theorem mR2_c (ok : Bool) (st tr : Int) (ws : List Int) (fs : List Frm) (v1 v2 : Value) (A C : Nat) (w : World) (h : AnsV w A C ws fs v1 v2) (hAC : A ≤ w.heap.size) (hs : 1 + ws.length + (fs.map szF).sum ≤ 100000000) (hl : fs.length ≤ 100000000) :
    Calls Try.prog 18 #[.agg #[.bool ok, .int .i64 st, .int .i64 tr, v1, v2], .int .i64 1] w fun e w' => e = .returned (.int .i64 (1 + ws.length + ((fs.map szF).sum : Nat))) ∧ AnsV w' A C (mkW 1 ws.length) (mkFs (1 + ws.length) fs) v1 v2 ∧ Bet A C w w' := by
  obtain ⟨a1, c1, a2, c2, rfl, rfl, -⟩ := h.is st tr
  obtain ⟨V0, hV0⟩ : ∃ V0, V0 = w.alloc (.cells #[.bool ok, .int .i64 st, .int .i64 tr, .slice a1 ws.length c1, .slice a2 fs.length c2] 39) := ⟨_, rfl⟩
  have hBk : Bk V0 w.heap.size [.bool ok, .int .i64 st, .int .i64 tr, .slice a1 ws.length c1, .slice a2 fs.length c2] := by rw [hV0]; exact Bk.new
  have hb0 : Below w.heap.size w V0 := by rw [hV0]; exact (Below.refl _ _).alloc (Nat.le_refl _) _
  have KC := Hid.mk' ((mS2_c st tr ws fs (.slice a1 ws.length c1) (.slice a2 fs.length c2) A C V0 (h.below hb0) (by have := hb0.size; omega) hs hl).mono (fun _ V2 h2 => And.intro h2.1 (And.intro h2.2.1 (bel_bet hb0 h2.2.2 hAC))))
  have HV0 := Hid.mk' hV0
  have q1 := hBk.2.1 1 _ rfl
  have q2 := hBk.2.1 2 _ rfl
  have q3 := hBk.2.1 3 _ rfl
  have q4 := hBk.2.1 4 _ rfl
  clear hV0 h hBk hb0
  go_enter Try.func18, Try.ntmps18
  go_upto_region 1 with fail
  rw [← HV0.out]
  clear HV0
  go_wp2_with fail
  refine KC.out.mono ?_
  rintro e V1 ⟨rfl, h2⟩
  have H2 := Hid.mk' h2
  clear h2 KC
  go_wp2
  go_ret
  exact ⟨rfl, H2.out⟩
set_option maxHeartbeats 8000000 in
theorem hS2_c (st tr : Int) (n : Nat) (fs : List Frm) (v1 v2 : Value) (A C : Nat) (w : World) (h : AnsV w A C (mkW 1 n) (mkFs (1 + n) fs) v1 v2) (hs : 1 + n + (fs.map szF).sum ≤ 100000000) (hl : fs.length ≤ 100000000) :
    Calls Try.prog 36 #[.agg #[.int .i64 st, .int .i64 tr, v1, v2], .int .i64 1] w fun e w' => e = .returned (.int .i64 (1 + n + ((fs.map szF).sum : Nat))) ∧ Below w.heap.size w w' := by
  obtain ⟨a1, c1, a2, c2, rfl, rfl, h1, h2⟩ := h.is st tr
  rw [mkW_len, mkFs_len]
  obtain ⟨V0, hV0⟩ : ∃ V0, V0 = w.alloc (.cells #[.int .i64 st, .int .i64 tr, .slice a1 n c1, .slice a2 fs.length c2] 31) := ⟨_, rfl⟩
  have hBk : Bk V0 w.heap.size [.int .i64 st, .int .i64 tr, .slice a1 n c1, .slice a2 fs.length c2] := by rw [hV0]; exact Bk.new
  have hb0 : Below w.heap.size w V0 := by rw [hV0]; exact (Below.refl _ _).alloc (Nat.le_refl _) _
  have KC := Hid.mk' (heldW_c a1 c1 n 1 V0 (by omega) (by omega) (h1.up (up_below hb0)))
  have KF := Hid.mk' (heldF_c a2 c2 fs.length fs rfl (1 + n) V0 (by omega) (by omega) hl (h2.up (up_below hb0)))
  have HB0 := Hid.mk' hb0
  have HV0 := Hid.mk' hV0
  have q2 := hBk.2.1 2 _ rfl
  have q3 := hBk.2.1 3 _ rfl
  generalize (fs.map szF).sum = S at *
  clear hV0 h hBk hb0 h1 h2
  go_enter Try.func36, Try.ntmps36
  go_upto_region 1 with fail
  rw [← HV0.out]
  clear HV0
  go_wp2_with fail
  refine KC.out.mono ?_
  rintro e V1 ⟨rfl, rfl⟩
  have hnn : ¬ (1 : Int) + (n : Int) < 0 := by omega
  go_wp2_with fail
  refine KF.out.mono ?_
  rintro e V1 ⟨rfl, rfl⟩
  have hnn2 : ¬ (1 : Int) + (n : Int) + (S : Int) < 0 := by omega
  clear KC KF
  go_wp2
  go_ret
  exact ⟨rfl, HB0.out⟩
set_option maxHeartbeats 8000000 in
theorem hR2_c (ok : Bool) (st tr : Int) (n : Nat) (fs : List Frm) (v1 v2 : Value) (A C : Nat) (w : World) (h : AnsV w A C (mkW 1 n) (mkFs (1 + n) fs) v1 v2) (hs : 1 + n + (fs.map szF).sum ≤ 100000000) (hl : fs.length ≤ 100000000) :
    Calls Try.prog 19 #[.agg #[.bool ok, .int .i64 st, .int .i64 tr, v1, v2], .int .i64 1] w fun e w' => e = .returned (.int .i64 (1 + n + ((fs.map szF).sum : Nat))) ∧ Below w.heap.size w w' := by
  obtain ⟨a1, c1, a2, c2, rfl, rfl, -⟩ := h.is st tr
  obtain ⟨n1, hn1⟩ : ∃ m, m = (mkW 1 n).length := ⟨_, rfl⟩
  obtain ⟨n2, hn2⟩ : ∃ m, m = (mkFs (1 + n) fs).length := ⟨_, rfl⟩
  rw [← hn1, ← hn2] at h ⊢
  obtain ⟨V0, hV0⟩ : ∃ V0, V0 = w.alloc (.cells #[.bool ok, .int .i64 st, .int .i64 tr, .slice a1 n1 c1, .slice a2 n2 c2] 39) := ⟨_, rfl⟩
  have hBk : Bk V0 w.heap.size [.bool ok, .int .i64 st, .int .i64 tr, .slice a1 n1 c1, .slice a2 n2 c2] := by rw [hV0]; exact Bk.new
  have hb0 : Below w.heap.size w V0 := by rw [hV0]; exact (Below.refl _ _).alloc (Nat.le_refl _) _
  have KC := Hid.mk' ((hS2_c st tr n fs (.slice a1 n1 c1) (.slice a2 n2 c2) A C V0 (h.below hb0) hs hl).mono (fun _ V2 h2 => And.intro h2.1 (hb0.trans (h2.2.mono hb0.size))))
  have HV0 := Hid.mk' hV0
  have q1 := hBk.2.1 1 _ rfl
  have q2 := hBk.2.1 2 _ rfl
  have q3 := hBk.2.1 3 _ rfl
  have q4 := hBk.2.1 4 _ rfl
  generalize (fs.map szF).sum = S at *
  clear hV0 h hBk hb0 hn1 hn2
  go_enter Try.func19, Try.ntmps19
  go_upto_region 1 with fail
  rw [← HV0.out]
  clear HV0
  go_wp2_with fail
  refine KC.out.mono ?_
  rintro e V1 ⟨rfl, h2⟩
  have hnn : ¬ (1 : Int) + (n : Int) + (S : Int) < 0 := by omega
  have H2 := Hid.mk' h2
  clear h2 KC
  go_wp2
  go_ret
  exact ⟨rfl, H2.out⟩
set_option maxHeartbeats 8000000 in
theorem eR2_c (ok : Bool) (st tr : Int) (ws : List Int) (fs : List Frm) (v1 v2 u1 u2 : Value) (A C B D : Nat) (w : World) (h : AnsV w A C ws fs v1 v2) (h' : AnsV w B D ws fs u1 u2) (hl : Sta.LB 1048576 ⟨st, tr, ws, fs⟩) :
    Calls Try.prog 17 #[.agg #[.bool ok, .int .i64 st, .int .i64 tr, v1, v2], .agg #[.bool ok, .int .i64 st, .int .i64 tr, u1, u2]] w fun e w' => e = .returned (.bool true) ∧ Below w.heap.size w w' := by
  obtain ⟨a1, c1, a2, c2, rfl, rfl, hI⟩ := h.is st tr
  obtain ⟨a1', c1', a2', c2', rfl, rfl, hI'⟩ := h'.is st tr
  obtain ⟨V0, hV0⟩ : ∃ V0, V0 = (w.alloc (.cells #[.bool ok, .int .i64 st, .int .i64 tr, .slice a1 ws.length c1, .slice a2 fs.length c2] 39)).alloc (.cells #[.bool ok, .int .i64 st, .int .i64 tr, .slice a1' ws.length c1', .slice a2' fs.length c2'] 39) := ⟨_, rfl⟩
  have tw := two w [.bool ok, .int .i64 st, .int .i64 tr, .slice a1 ws.length c1, .slice a2 fs.length c2] [.bool ok, .int .i64 st, .int .i64 tr, .slice a1' ws.length c1', .slice a2' fs.length c2'] 39 39
  have hV0' : V0 = (w.alloc (.cells [.bool ok, .int .i64 st, .int .i64 tr, .slice a1 ws.length c1, .slice a2 fs.length c2].toArray 39)).alloc (.cells [.bool ok, .int .i64 st, .int .i64 tr, .slice a1' ws.length c1', .slice a2' fs.length c2'].toArray 39) := hV0
  rw [← hV0'] at tw
  obtain ⟨b1, b2, b3⟩ := tw
  have hKC := (reSta_c ⟨st, tr, ws, fs⟩ a1 c1 a2 c2 a1' c1' a2' c2' V0 (hI.up (up_below b3)) (hI'.up (up_below b3)) hl).mono (fun _ V2 h2 => And.intro h2.1 (b3.trans (h2.2.mono b3.size)))
  dsimp only at hKC
  have KC := Hid.mk' hKC
  have HV0 := Hid.mk' hV0
  have q0 := b1.2.1 0 _ rfl
  have q1 := b1.2.1 1 _ rfl
  have q2 := b1.2.1 2 _ rfl
  have q3 := b1.2.1 3 _ rfl
  have q4 := b1.2.1 4 _ rfl
  have p0 := b2.2.1 0 _ rfl
  have p1 := b2.2.1 1 _ rfl
  have p2 := b2.2.1 2 _ rfl
  have p3 := b2.2.1 3 _ rfl
  have p4 := b2.2.1 4 _ rfl
  clear hV0 hV0' h h' b1 b2 b3 hI hI' hKC hl
  cases ok with
  | true =>
    go_enter Try.func17, Try.ntmps17
    go_upto_region 1 with fail
    rw [← HV0.out]
    clear HV0
    go_wp2_with fail
    refine KC.out.mono ?_
    rintro e V1 ⟨rfl, h2⟩
    have H2 := Hid.mk' h2
    clear h2 KC
    go_wp2
    go_ret
    exact ⟨rfl, H2.out⟩
  | false =>
    go_enter Try.func17, Try.ntmps17
    go_upto_region 1 with fail
    rw [← HV0.out]
    clear HV0
    go_wp2_with fail
    refine KC.out.mono ?_
    rintro e V1 ⟨rfl, h2⟩
    have H2 := Hid.mk' h2
    clear h2 KC
    go_wp2
    go_ret
    exact ⟨rfl, H2.out⟩
end Go.Proofs.Ytfaajmhmcdoibaa
