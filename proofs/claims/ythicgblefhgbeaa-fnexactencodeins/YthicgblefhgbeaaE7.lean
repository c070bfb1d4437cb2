import Derived.Test.YthicgblefhgbeaaEb
set_option linter.all false
set_option linter.unusedVariables false
namespace Go.Proofs.Ythicgblefhgbeaa
open Go.RowKit Go.Sort
set_option maxRecDepth 100000
def encI (x : In) : List Int := x.op % 256 :: encF (formR (rowOf x.op)) x
theorem u32B_iff (x : Int) : u32B x = true ↔ 0 ≤ x ∧ x ≤ 4294967295 := by simp [u32B]
theorem wins_c (p : Nat) (S : Nat → Prop) (xs : List Int) (x : In) (la : Option Addr) (lc : Nat) (w : World) (hg : gd x = true) (hv0 : 0 ≤ x.v) (hv1 : x.v ≤ 18446744073709551615) (hn : x.l.length ≤ 1048576) (hH : ∀ w', Kept S w w' → Has w' la x.l) (hl : xs.length ≤ 1048000) (hW : Wr w p S xs) :
    Calls Try.prog 35 #[.pointer (some ⟨p, 0, none⟩), inV x la lc] w fun e w' => e = .returned (.tuple #[]) ∧ Wr w' p S (xs ++ encI x) ∧ Kept S w w' := by
  obtain ⟨op, a, b, v, l⟩ := x
  simp only [gd, encI] at *
  rcases form_range op with h | h | h | h | h | h | h | h | h | h | h | h
  · rw [h] at hg; simp [goodF] at hg
  · rw [h]; exact wins_0 p S xs op a b v l la lc w h hl hW
  · rw [h]; exact wins_1 p S xs op a b v l la lc w h hl hW
  · rw [h] at hg ⊢
    simp [goodF, u32B_iff] at hg
    exact wins_2 p S xs op a b v l la lc w h (by omega) (by omega) hl hW
  · rw [h] at hg ⊢
    simp [goodF, u32B_iff] at hg
    refine wins_3 p S xs op a b v l la lc w h (by omega) (by omega) hn (fun i hi => ?_) hH hl hW
    have := hg.1.1.1 (l.getD i 0) (by simp [List.getD, hi])
    exact this
  · rw [h] at hg ⊢
    simp [goodF, u32B_iff] at hg
    exact wins_4 p S xs op a b v l la lc w h (by omega) (by omega) hl hW
  · rw [h] at hg ⊢
    simp [goodF, u32B_iff] at hg
    exact wins_5 p S xs op a b v l la lc w h (by omega) (by omega) (by omega) (by omega) hl hW
  · rw [h]; exact wins_6 p S xs op a b v l la lc w h hl hW
  · rw [h] at hg ⊢
    simp [goodF, u32B_iff] at hg
    exact wins_7 p S xs op a b v l la lc w h hv0 (by omega) hl hW
  · rw [h]; exact wins_8 p S xs op a b v l la lc w h hv0 hv1 hl hW
  · rw [h]; exact wins_9 p S xs op a b v l la lc w h hv0 hv1 hl hW
  · rw [h]; exact wins_10 p S xs op a b v l la lc w h hv0 hv1 hl hW
def encM (x : In) : List Int := if gd x then encI x else []
theorem wr_new (w : World) (S : Nat → Prop) (hS : ∀ k, S k → k < w.heap.size) : Wr (w.alloc (.cells #[.slice none 0 0] 62)) w.heap.size S [] :=
  ⟨.slice none 0 0, cell_new rfl rfl, World.frozen?_alloc_new w _ _ _, World.ownsRow_nil _ _ _ _, fun h => by have := hS _ h; omega, fun k hk => by simp [Value.ownBlock] at hk, fun k hk => by have := hS k hk; simp; omega⟩
set_option maxHeartbeats 4000000 in
theorem ienc_c (x : In) (la : Option Addr) (lc : Nat) (w : World) (hv0 : 0 ≤ x.v) (hv1 : x.v ≤ 18446744073709551615) (hn : x.l.length ≤ 1048576) (hH : Has w la x.l) :
    Calls Try.prog 14 #[inV x la lc] w fun e w' => ∃ v, e = .returned v ∧ w'.ownsRow w.heap.size 5 1 v (encM x).length (U (encM x)) ∧ Below w.heap.size w w' := by
  have b0 : ∀ o, Below w.heap.size w (w.alloc o) := fun o => (Below.refl _ _).alloc (Nat.le_refl _) o
  have KG := Hid.mk' (fun o => isIns_c x la lc (w.alloc o) hv0 (by omega) (hH.keep (b0 o)))
  have HC := Hid.mk' (C5.new (w := w) (a := .int .i64 x.op) (b := .int .i64 x.a) (c := .int .i64 x.b) (d := .int .u64 x.v) (e := .slice la x.l.length lc) (t := 36))
  have HHH := Hid.mk' hH
  have B0 := Hid.mk' b0
  cases hg : gd x
  · have HE : Hid (encM x = []) := by show _ = _; simp [encM, hg]
    rw [hg] at KG
    clear hg hH b0
    go_enter Try.func14, Try.ntmps14
    go_wp2_with fail
    refine (KG.out _).mono ?_
    rintro e w1 ⟨rfl, hb⟩
    have HB := Hid.mk' ((B0.out _).trans (hb.mono (by simp)))
    clear hb KG HC
    go_wp2
    go_ret
    refine ⟨_, rfl, ?_, ?_⟩
    · rw [HE.out]
      exact World.ownsRow_lit w1 #[] 0 HB.out.size (Nat.zero_le _) rfl
    · exact HB.out.alloc HB.out.size _
  · have HE : Hid (encM x = encI x) := by show _ = _; simp [encM, hg]
    have HG := Hid.mk' hg
    rw [hg] at KG
    clear hg hH b0
    go_enter Try.func14, Try.ntmps14
    go_wp2_with fail
    refine (KG.out _).mono ?_
    rintro e w1 ⟨rfl, hb⟩
    have HB := Hid.mk' ((B0.out _).trans (hb.mono (by simp)))
    obtain ⟨⟨d0, d1, d2, d3, d4⟩, df⟩ := (HC.out.keep hb).past (o := .cells #[.slice none 0 0] 62)
    have KW := Hid.mk' (wins_c w1.heap.size (fun k => k < w1.heap.size) [] x la lc (w1.alloc (.cells #[.slice none 0 0] 62)) HG.out hv0 hv1 hn (fun w' h => (HHH.out.keep HB.out).keep (((Below.refl _ _).alloc (Nat.le_refl _) _).trans h.below)) (by simp) (wr_new w1 _ fun k hk => hk))
    clear hb KG HC df
    go_wp2_with fail
    refine (KW.out).mono ?_
    rintro e w2 ⟨rfl, ⟨v, c0, f0, own, hp, hr, hS⟩, hk⟩
    have HO := Hid.mk' own
    have HK := Hid.mk' hk.below
    clear KW d0 d1 d2 d3 d4 own hp hr hS hk f0
    go_wp2
    go_ret
    refine ⟨_, rfl, ?_, HB.out.trans (((Below.refl w1.heap.size w1).alloc (Nat.le_refl _) (.cells #[.slice none 0 0] 62) |>.trans HK.out).mono HB.out.size)⟩
    rw [HE.out]
    have h := HO.out
    simp only [List.nil_append] at h
    exact ownE_down h (by have := HB.out.size; omega)
end Go.Proofs.Ythicgblefhgbeaa
