import Derived.Test.YthicgblefhgbeaaEd
set_option linter.all false
set_option linter.unusedVariables false
namespace Go.Proofs.Ythicgblefhgbeaa
open Go.RowKit Go.Sort
set_option maxRecDepth 100000
theorem s5_c (x : In) (la : Option Addr) (lc : Nat) (w : World) (hg : gd x = true) (hv0 : 0 ≤ x.v) (hv1 : x.v ≤ 18446744073709551615) (hn : x.l.length ≤ 1048576) (hH : Has w la x.l) :
    Calls Try.prog 33 #[inV x la lc] w fun e w' => ∃ u, e = .returned u ∧ Out w w' u (encI x) := by
  obtain ⟨op, a, b, v, l⟩ := x
  simp only [gd, encI] at *
  rcases form_range op with h | h | h | h | h | h | h | h | h | h | h | h
  · rw [h] at hg; simp [goodF] at hg
  · rw [h]; exact s5_0 op a b v l la lc w h
  · rw [h]; exact s5_1 op a b v l la lc w h
  · rw [h] at hg ⊢
    simp [goodF, u32B_iff] at hg
    exact s5_2 op a b v l la lc w h (by omega) (by omega)
  · rw [h] at hg ⊢
    simp [goodF, u32B_iff] at hg
    refine s5_3 op a b v l la lc w h (by omega) (by omega) hn (fun i hi => ?_) hH
    have := hg.1.1.1 (l.getD i 0) (by simp [List.getD, hi])
    exact this
  · rw [h] at hg ⊢
    simp [goodF, u32B_iff] at hg
    exact s5_4 op a b v l la lc w h (by omega) (by omega)
  · rw [h] at hg ⊢
    simp [goodF, u32B_iff] at hg
    exact s5_5 op a b v l la lc w h (by omega) (by omega) (by omega) (by omega)
  · rw [h]; exact s5_6 op a b v l la lc w h
  · rw [h] at hg ⊢
    simp [goodF, u32B_iff] at hg
    exact s5_7 op a b v l la lc w h hv0 (by omega)
  · rw [h]; exact s5_8 op a b v l la lc w h hv0 hv1
  · rw [h]; exact s5_9 op a b v l la lc w h hv0 hv1
  · rw [h]; exact s5_10 op a b v l la lc w h hv0 hv1
set_option maxHeartbeats 4000000 in
theorem senc_c (x : In) (la : Option Addr) (lc : Nat) (w : World) (hv0 : 0 ≤ x.v) (hv1 : x.v ≤ 18446744073709551615) (hn : x.l.length ≤ 1048576) (hH : Has w la x.l) :
    Calls Try.prog 12 #[inV x la lc] w fun e w' => ∃ v, e = .returned v ∧ w'.ownsRow w.heap.size 5 1 v (encM x).length (U (encM x)) ∧ Below w.heap.size w w' := by
  have b0 : ∀ o, Below w.heap.size w (w.alloc o) := fun o => (Below.refl _ _).alloc (Nat.le_refl _) o
  have KG := Hid.mk' (fun o => good_c x la lc (w.alloc o) hv0 (by omega) (hH.keep (b0 o)))
  have HC := Hid.mk' (C5.new (w := w) (a := .int .i64 x.op) (b := .int .i64 x.a) (c := .int .i64 x.b) (d := .int .u64 x.v) (e := .slice la x.l.length lc) (t := 36))
  have HHH := Hid.mk' hH
  have B0 := Hid.mk' b0
  cases hg : gd x
  · have HE : Hid (encM x = []) := by show _ = _; simp [encM, hg]
    rw [hg] at KG
    clear hg hH b0
    go_enter Try.func12, Try.ntmps12
    go_wp2_with fail
    refine (KG.out _).mono ?_
    rintro e w1 ⟨rfl, hb⟩
    have HB := Hid.mk' ((B0.out _).trans (hb.mono (by simp)))
    clear hb KG HC
    go_wp2
    go_ret
    refine ⟨_, rfl, ?_, ?_⟩
    · rw [HE.out]
      exact World.ownsRow_lit w1 #[] 0 HB.out.size (Nat.zero_le _) rfl
    · exact HB.out.alloc HB.out.size _
  · have HE : Hid (encM x = encI x) := by show _ = _; simp [encM, hg]
    have HG := Hid.mk' hg
    rw [hg] at KG
    clear hg hH b0
    go_enter Try.func12, Try.ntmps12
    go_wp2_with fail
    refine (KG.out _).mono ?_
    rintro e w1 ⟨rfl, hb⟩
    have HB := Hid.mk' ((B0.out _).trans (hb.mono (by simp)))
    obtain ⟨⟨d0, d1, d2, d3, d4⟩, df⟩ := HC.out.keep hb
    have KW := Hid.mk' (s5_c x la lc w1 HG.out hv0 hv1 hn (HHH.out.keep HB.out))
    clear hb KG HC df
    go_wp2_with fail
    refine (KW.out).mono ?_
    rintro e w2 ⟨v, rfl, own, hk⟩
    have HO := Hid.mk' own
    have HK := Hid.mk' hk
    clear KW d0 d1 d2 d3 d4 own hk
    go_wp2
    go_ret
    refine ⟨_, rfl, ?_, HB.out.trans (HK.out.mono HB.out.size)⟩
    rw [HE.out]
    exact ownE_down HO.out HB.out.size
theorem encM_len (x : In) (hn : x.l.length ≤ 1048576) : (encM x).length ≤ 20971520 := by
  unfold encM
  split
  · simp only [encI, encF, List.length_cons]
    have h1 := (lebU_len 9 x.a).2
    have h2 := (lebU_len 9 x.b).2
    have h3 := (lebU_len 9 x.l.length).2
    have h4 := nums_len x.l
    have h5 := (lebS_len 9 (s32 x.v)).2
    have h6 := (lebS_len 9 (wrap64 x.v)).2
    have h7 := fx_len 4 x.v
    have h8 := fx_len 8 x.v
    repeat' split
    all_goals (try simp only [List.length_append, List.length_cons, List.length_nil])
    all_goals omega
  · simp
end Go.Proofs.Ythicgblefhgbeaa
namespace Go.Proofs.Ythicgblefhgbeaa.By
open Go.RowKit
theorem own_shape {w : World} {B : Nat} {v : Value} {xs : List Int} (h : w.ownsRow B 5 1 v xs.length (U xs)) : ∃ a c, v = .slice a xs.length c ∧ Has w a xs := by
  rcases h.2 with ⟨e, h0⟩ | ⟨g, cap, cur, hv, hB, hg, r⟩
  · rw [h0]; exact ⟨_, _, e, .inl (List.length_eq_zero_iff.1 h0)⟩
  · subst hv; exact ⟨_, _, rfl, own_has h⟩
theorem eqV (B B' : Nat) (v v' : Value) (xs : List Int) (w : World) (hl : xs.length ≤ 1099511627776) (h : w.ownsRow B 5 1 v xs.length (U xs)) (h' : w.ownsRow B' 5 1 v' xs.length (U xs)) :
    Calls Try.prog 15 #[v, v'] w fun e w' => e = .returned (.bool true) ∧ ∃ n, w' = w.drewN n := by
  obtain ⟨a, c, rfl, k⟩ := own_shape h
  obtain ⟨a', c', rfl, k'⟩ := own_shape h'
  exact eq_any a a' c c' xs w hl k k'
theorem heldV (B n : Nat) (v : Value) (w : World) (hl : n ≤ 1099511627776) (h : w.ownsRow B 5 1 v n (U (marks 1 n))) :
    Calls Try.prog 19 #[v, .int .i64 1] w fun e w' => e = .returned (.int .i64 ((1 : Int) + n)) ∧ w = w' := by
  have h2 : w.ownsRow B 5 1 v (marks 1 n).length (U (marks 1 n)) := by rw [marks_len]; exact h
  obtain ⟨a, c, rfl, k⟩ := own_shape h2
  rw [marks_len]
  exact held_any a c n w hl k
theorem mark_nil (a : Option Addr) (cap : Nat) (w : World) :
    Calls Try.prog 18 #[.slice a 0 cap, .int .i64 1] w fun e w' => e = .returned (.int .i64 1) ∧ w = w' := by
  go_enter Try.func18, Try.ntmps18
  go_wp2
  refine wp_loop_rounds 1 ?_
  rw [rounds_succ]
  go_wp2
  go_ret
  exact ⟨rfl, rfl⟩
theorem markV (B n : Nat) (v : Value) (xs : List Int) (w : World) (hl : n ≤ 1099511627776) (h : w.ownsRow B 5 1 v n (U xs)) :
    Calls Try.prog 18 #[v, .int .i64 1] w fun e w' => e = .returned (.int .i64 ((1 : Int) + n)) ∧ w'.ownsRow B 5 1 v n (U (marks 1 n)) ∧ w.grownBy w' v.ownBlock := by
  by_cases h0 : n = 0
  · subst h0
    have hx : xs = [] := List.length_eq_zero_iff.1 (own_len h)
    subst hx
    obtain ⟨a, c, e, k⟩ := own_shape (xs := []) h
    subst e
    refine (mark_nil a c w).mono fun e w' ⟨h1, h2⟩ => ?_
    subst h2
    exact ⟨by simpa using h1, by simpa [marks] using h, grown_none _ _⟩
  · obtain ⟨g, cap, rfl, _, _⟩ := own_split h (by omega)
    exact mark_any B g n cap xs w hl h
end Go.Proofs.Ythicgblefhgbeaa.By
namespace Go.Proofs.Ythicgblefhgbeaa
open Go.RowKit Go.Sort
set_option maxRecDepth 100000
theorem grown_alloc {w w1 : World} {o : Obj} {r : Option Nat} (h : (w.alloc o).grownBy w1 r) : w.grownBy w1 r :=
  ⟨h.os, h.tape, h.output, by have := h.size; simp at this; omega, fun k hk hne => (h.block k (by simp; omega) hne).trans (heap_old w o k hk)⟩
set_option maxHeartbeats 1000000 in
theorem markIn_c (B g : Nat) (x : In) (w : World) (hn : x.l.length ≤ 1048576) (hG : Got w B x g) :
    Calls Try.prog 17 #[inV x (some ⟨g, 0, none⟩) x.l.length, .int .i64 1] w fun e w' => e = .returned (.int .i64 ((1 : Int) + x.l.length)) ∧ w.grownBy w' (some g) := by
  have hl : g < w.heap.size := (hG.lt g rfl).2
  have KM := Hid.mk' (fun o => markV B 1 x.l.length _ x.l (w.alloc o) (by omega) (by omega) (show (w.alloc o).ownsRow B 2 1 _ _ _ from own_keep hG ((Below.refl _ _).alloc (Nat.le_refl _) _) (own_lt hG)))
  clear hG
  go_enter Try.func17, Try.ntmps17
  go_wp2_with fail
  refine (KM.out _).mono ?_
  rintro e w1 ⟨rfl, ho, hg⟩
  have HG := Hid.mk' hg
  clear ho hg KM
  go_wp2
  go_ret
  exact ⟨rfl, grown_alloc HG.out⟩
end Go.Proofs.Ythicgblefhgbeaa
