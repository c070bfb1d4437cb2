import Derived.Test.YtgjpgcfpgeonlaaDoorPg
set_option linter.all false
set_option linter.unusedVariables false
namespace Go.Proofs.YtgjpgcfpgeonlaaDoor
open Go.RowKit Go.Sort
set_option maxRecDepth 100000
/-- The line of an instruction. -/
def lnX (x : In) : List UInt8 := lnT (formR (rowOf x.op)) x
theorem u32B_iff (x : Int) : u32B x = true ↔ 0 ≤ x ∧ x ≤ 4294967295 := by simp [u32B]
theorem s8_c (x : In) (la : Option Addr) (lc : Nat) (w : World) (hg : gd x = true) (hv0 : 0 ≤ x.v) (hv1 : x.v ≤ 18446744073709551615) (hn : x.l.length ≤ 1048576) (hH : Has w la x.l) :
    Calls Tryd.prog 15 #[inV x la lc] w fun e w' => e = .returned (.string (S (lnX x))) ∧ Below w.heap.size w w' := by
  obtain ⟨op, a, b, v, l⟩ := x
  simp only [gd, lnX] at *
  rcases form_range op with h | h | h | h | h | h | h | h | h | h | h | h
  · rw [h] at hg; simp [goodF] at hg
  · rw [h]; exact s8_0 op a b v l la lc w h
  · rw [h]
    by_cases ha : a = 64
    · subst ha; exact s8_1 op b v l la lc w h
    · exact s8_1n op a b v l la lc w h ha
  · rw [h] at hg ⊢
    simp [goodF, u32B_iff] at hg
    exact s8_2 op a b v l la lc w h (by omega) (by omega)
  · rw [h] at hg ⊢
    simp [goodF, u32B_iff] at hg
    refine s8_3 op a b v l la lc w h (by omega) (by omega) hn (fun i hi => ?_) hH
    have := hg.1.1.1 (l.getD i 0) (by simp [List.getD, hi])
    omega
  · rw [h] at hg ⊢
    simp [goodF, u32B_iff] at hg
    exact s8_4 op a b v l la lc w h (by omega) (by omega)
  · rw [h] at hg ⊢
    simp [goodF, u32B_iff] at hg
    exact s8_5 op a b v l la lc w h (by omega) (by omega) (by omega) (by omega)
  · rw [h]; exact s8_6 op a b v l la lc w h
  · rw [h] at hg ⊢
    simp [goodF, u32B_iff] at hg
    exact s8_7 op a b v l la lc w h hv0 (by omega)
  · rw [h]; exact s8_8 op a b v l la lc w h hv0 hv1
  · rw [h]; exact s8_9 op a b v l la lc w h hv0 hv1
  · rw [h]; exact s8_10 op a b v l la lc w h hv0 hv1
def prtM (x : In) : List Int := if gd x then bI (lnX x) else []
/-- A row of bytes that lies at or behind B. -/
def RowB (w : World) (B : Nat) (v : Value) (M : List Int) : Prop := ∃ a c, v = .slice a M.length c ∧ By.Has w a M ∧ ∀ k, v.ownBlock = some k → B ≤ k ∧ k < w.heap.size
theorem bytesOf_S (l : List UInt8) : bytesOf (S l) = bI l := by simp [bytesOf, bI, S]
set_option maxHeartbeats 4000000 in
theorem sprt_c (x : In) (la : Option Addr) (lc : Nat) (w : World) (hv0 : 0 ≤ x.v) (hv1 : x.v ≤ 18446744073709551615) (hn : x.l.length ≤ 1048576) (hH : Has w la x.l) :
    Calls Tryd.prog 5 #[inV x la lc] w fun e w' => ∃ v, e = .returned v ∧ RowB w' w.heap.size v (prtM x) ∧ Below w.heap.size w w' := by
  have b0 : ∀ o, Below w.heap.size w (w.alloc o) := fun o => (Below.refl _ _).alloc (Nat.le_refl _) o
  have KG := Hid.mk' (fun o => good_c x la lc (w.alloc o) hv0 (by omega) (hH.keep (b0 o)))
  have HC := Hid.mk' (C5.new (w := w) (a := .int .i64 x.op) (b := .int .i64 x.a) (c := .int .i64 x.b) (d := .int .u64 x.v) (e := .slice la x.l.length lc) (t := 29))
  have HHH := Hid.mk' hH
  have B0 := Hid.mk' b0
  cases hg : gd x
  · have HE : Hid (prtM x = []) := by show _ = _; simp [prtM, hg]
    rw [hg] at KG
    clear hg hH b0
    go_enter Tryd.func5, Tryd.ntmps5
    go_wp2_with fail
    refine (KG.out _).mono ?_
    rintro e w1 ⟨rfl, hb⟩
    have HB := Hid.mk' ((B0.out _).trans (hb.mono (by simp)))
    clear hb KG HC
    go_wp2
    go_ret
    refine ⟨_, rfl, ?_, HB.out.alloc HB.out.size _⟩
    rw [HE.out]
    refine ⟨_, _, rfl, .inl rfl, fun k hk => ?_⟩
    have hk : w1.heap.size = k := by simpa [Value.ownBlock] using hk
    have := HB.out.size
    simp
    omega
  · have HE : Hid (prtM x = bI (lnX x)) := by show _ = _; simp [prtM, hg]
    have HG := Hid.mk' hg
    rw [hg] at KG
    have hcv := fun (w : World) (s : ByteArray) => run_bytes_of_string (P := Tryd.prog) w 9 27 5 s Tryd.underlying9 Tryd.underlying27 Tryd.underlying5
    have HCV := Hid.mk' hcv
    clear hg hH b0 hcv
    go_enter Tryd.func5, Tryd.ntmps5
    go_wp2_with fail
    refine (KG.out _).mono ?_
    rintro e w1 ⟨rfl, hb⟩
    have HB := Hid.mk' ((B0.out _).trans (hb.mono (by simp)))
    obtain ⟨⟨d0, d1, d2, d3, d4⟩, df⟩ := HC.out.keep hb
    have KW := Hid.mk' (s8_c x la lc w1 HG.out hv0 hv1 hn (HHH.out.keep HB.out))
    clear hb KG HC df
    go_wp2_with fail
    refine (KW.out).mono ?_
    rintro e w2 ⟨rfl, hk⟩
    have HK := Hid.mk' (HB.out.trans (hk.mono HB.out.size))
    have hcv := HCV.out w2 (S (lnX x))
    clear KW d0 d1 d2 d3 d4 hk
    go_wp2
    go_ret
    refine ⟨_, rfl, ?_, (HK.out.drew).alloc HK.out.size _⟩
    rw [HE.out]
    have hl : (S (lnX x)).size = (bI (lnX x)).length := by rw [S_size, bI_len]
    refine ⟨_, _, by rw [hl]; rfl, .inr ⟨_, _, rfl, fun i hi => ?_⟩, fun k hk => ?_⟩
    · have := bytesRow_cells (S (lnX x)) (grownCap w2 (S (lnX x)).size 0 5) w2 5 ((bytesRow (S (lnX x)) (grownCap w2 (S (lnX x)).size 0 5)).size, (bytesRow (S (lnX x)) (grownCap w2 (S (lnX x)).size 0 5)).size + 1) i (by rw [bytesOf_S]; exact hi)
      rw [bytesOf_S] at this
      exact this
    · have hk : w2.heap.size = k := by simpa [Value.ownBlock] using hk
      have := HK.out.size
      simp
      omega
end Go.Proofs.YtgjpgcfpgeonlaaDoor
