import Derived.Test.YtnbplhlpcojlhaaGetW
namespace Go.Proofs.Ytnbplhlpcojlhaa
open Go.RowKit

set_option maxHeartbeats 1000000 in
theorem lawGetU (a : Option Addr) (cap : Nat) (xs : List Int) (p b : Int) (w : World) (hm : xs.length ≤ maxLen) (ha : Has w a xs) (hB : AllB xs) :
    Calls Try.prog 7 #[.slice a xs.length cap, .int .i64 p, .int .i64 b] w fun e w' => e = .returned (.bool true) ∧ Below w.heap.size w w' := by
  unfold maxLen at hm
  by_cases hbig : 1048576 < xs.length
  · have hbi : (1048576 : Int) < (xs.length : Int) := by omega
    clear ha hB
    go_enter Try.func7, Try.ntmps7
    go_wp2
    go_ret
    exact ⟨rfl, Below.refl _ _⟩
  · have hbi : ¬ (1048576 : Int) < (xs.length : Int) := by omega
    have hl : xs.length ≤ 1099511627776 := by omega
    have HA : Hid (Has w a xs) := ha
    have HB : Hid (AllB xs) := hB
    clear ha hB hbig
    have CS := fun c g W (h : Has W g xs) => specGetU_any g c xs p b W hl h HB.out
    have CI := fun c g W (h : Has W g xs) => implGetU_any g c xs p b W hl h HB.out
    obtain ⟨⟨r1, r2, r3⟩, hR⟩ : ∃ r, r = getA false xs p b := ⟨_, rfl⟩
    rw [← hR] at CS CI
    have HS := Hid.mk' CS
    have HI := Hid.mk' CI
    clear CS CI hR
    go_enter Try.func7, Try.ntmps7
    go_wp2_with fail
    refine (toBytes_any a cap xs w hl HA.out).mono ?_
    rintro e w1 ⟨rfl, ho1, hb1⟩
    go_wp2_with fail
    refine (HS.out _ _ _ (own_has ho1)).mono ?_
    rintro e w2 ⟨rfl, hb2⟩
    have H2 : Hid (Below w.heap.size w w2) := hb1.trans (hb2.mono hb1.size)
    simp only [RV]
    clear ho1 hb1 hb2
    go_wp2_with fail
    have hb3 := H2.out.alloc (H2.out.size) (Obj.cells #[Value.int .i64 r1, Value.int .u64 r2, Value.int .i64 r3] 34)
    refine (toBytes_any a cap xs _ hl (by exact HA.out.below hb3)).mono ?_
    rintro e w3 ⟨rfl, ho3, hb3'⟩
    have hlt3 : w2.heap.size + 1 < w3.heap.size := by
      rcases ho3.2 with ⟨h, _⟩ | ⟨g, _, _, h, _, hg, _⟩
      · simp at h
      · simp only [Value.slice.injEq, Option.some.injEq, Addr.mk.injEq, and_true, true_and] at h
        obtain ⟨rfl, _⟩ := h
        have := (Array.getElem?_eq_some_iff.1 hg).1
        simpa using this
    have H3 : Hid (Below w.heap.size w w3) := hb3.trans (hb3'.mono hb3.size)
    obtain ⟨c3, f3⟩ := bcell hb3'
    have q0 : w3.cell? ⟨w2.heap.size, 0, none⟩ = some (.int .i64 r1) := (c3 _ _ (by simp)).trans (by simp)
    have q1 : w3.cell? ⟨w2.heap.size, 1, none⟩ = some (.int .u64 r2) := (c3 _ _ (by simp)).trans (by simp)
    have q2 : w3.cell? ⟨w2.heap.size, 2, none⟩ = some (.int .i64 r3) := (c3 _ _ (by simp)).trans (by simp)
    clear c3 f3 hb3 hb3' H2
    have eS : ∀ (W : World) o, (W.alloc o).heap.size = W.heap.size + 1 := fun W o => by simp
    rw [eS] at ho3
    have ES := Hid.mk' eS
    clear eS
    go_wp2_with fail
    refine (HI.out _ _ _ (own_has ho3)).mono ?_
    rintro e w4 ⟨rfl, hb4⟩
    have ho4 := own_below ho3 hb4 hlt3
    obtain ⟨c4, f4⟩ := bcell hb4
    have t0 : w4.cell? ⟨w2.heap.size, 0, none⟩ = some (.int .i64 r1) := (c4 _ _ (by omega)).trans q0
    have t1 : w4.cell? ⟨w2.heap.size, 1, none⟩ = some (.int .u64 r2) := (c4 _ _ (by omega)).trans q1
    have t2 : w4.cell? ⟨w2.heap.size, 2, none⟩ = some (.int .i64 r3) := (c4 _ _ (by omega)).trans q2
    have hlt0 : w2.heap.size < w4.heap.size := by have := hb4.size; omega
    have s0 : ∀ o, (w4.alloc o).cell? ⟨w2.heap.size, 0, none⟩ = some (.int .i64 r1) := fun o => (World.cell?_alloc_past _ _ _ hlt0).trans t0
    have s1 : ∀ o, (w4.alloc o).cell? ⟨w2.heap.size, 1, none⟩ = some (.int .u64 r2) := fun o => (World.cell?_alloc_past _ _ _ hlt0).trans t1
    have s2 : ∀ o, (w4.alloc o).cell? ⟨w2.heap.size, 2, none⟩ = some (.int .i64 r3) := fun o => (World.cell?_alloc_past _ _ _ hlt0).trans t2
    clear t0 t1 t2
    have H4 : Hid (Below w.heap.size w w4) := H3.out.trans (hb4.mono H3.out.size)
    have hlt4 : w2.heap.size + 1 < w4.heap.size := by have := hb4.size; omega
    simp only [RV]
    clear ho3 hb4 c4 f4 q0 q1 q2 H3 hlt3
    go_wp2_with fail
    refine (eqRes_any r1 r2 r3 _).mono ?_
    rintro e w5 ⟨rfl, hb5⟩
    have hb4' := H4.out.alloc H4.out.size (Obj.cells #[Value.int .i64 r1, Value.int .u64 r2, Value.int .i64 r3] 34)
    have H5 : Hid (Below w.heap.size w w5) := hb4'.trans (hb5.mono hb4'.size)
    have ho5 := own_below (own_below ho4 ((Below.refl w4.heap.size w4).alloc (Nat.le_refl _) _) hlt4) hb5 (by simp; omega)
    have hlt5 : w2.heap.size + 1 < w5.heap.size := by have := hb5.size; simp at this; omega
    clear ho4 hb5 hb4' H4 s0 s1 s2 hlt4
    go_wp2_with fail
    refine (toBytes_any a cap xs _ hl (by exact HA.out.below H5.out)).mono ?_
    rintro e w6 ⟨rfl, ho6, hb6⟩
    have ho7 := own_below ho5 hb6 hlt5
    clear ho5
    go_wp2_with fail
    refine (eq_any _ _ _ _ xs _ hl (own_has ho7) (own_has ho6)).mono ?_
    rintro e w7 ⟨rfl, n7, rfl⟩
    go_wp2
    go_ret
    exact ⟨rfl, below_drewN' (H5.out.trans (hb6.mono H5.out.size)) n7⟩

set_option maxHeartbeats 1000000 in
theorem lawGetS (a : Option Addr) (cap : Nat) (xs : List Int) (p b : Int) (w : World) (hm : xs.length ≤ maxLen) (ha : Has w a xs) (hB : AllB xs) :
    Calls Try.prog 8 #[.slice a xs.length cap, .int .i64 p, .int .i64 b] w fun e w' => e = .returned (.bool true) ∧ Below w.heap.size w w' := by
  unfold maxLen at hm
  by_cases hbig : 1048576 < xs.length
  · have hbi : (1048576 : Int) < (xs.length : Int) := by omega
    clear ha hB
    go_enter Try.func8, Try.ntmps8
    go_wp2
    go_ret
    exact ⟨rfl, Below.refl _ _⟩
  · have hbi : ¬ (1048576 : Int) < (xs.length : Int) := by omega
    have hl : xs.length ≤ 1099511627776 := by omega
    have HA : Hid (Has w a xs) := ha
    have HB : Hid (AllB xs) := hB
    clear ha hB hbig
    have CS := fun c g W (h : Has W g xs) => specGetS_any g c xs p b W hl h HB.out
    have CI := fun c g W (h : Has W g xs) => implGetS_any g c xs p b W hl h HB.out
    obtain ⟨⟨r1, r2, r3⟩, hR⟩ : ∃ r, r = getA true xs p b := ⟨_, rfl⟩
    rw [← hR] at CS CI
    have HS := Hid.mk' CS
    have HI := Hid.mk' CI
    clear CS CI hR
    go_enter Try.func8, Try.ntmps8
    go_wp2_with fail
    refine (toBytes_any a cap xs w hl HA.out).mono ?_
    rintro e w1 ⟨rfl, ho1, hb1⟩
    go_wp2_with fail
    refine (HS.out _ _ _ (own_has ho1)).mono ?_
    rintro e w2 ⟨rfl, hb2⟩
    have H2 : Hid (Below w.heap.size w w2) := hb1.trans (hb2.mono hb1.size)
    simp only [RV]
    clear ho1 hb1 hb2
    go_wp2_with fail
    have hb3 := H2.out.alloc (H2.out.size) (Obj.cells #[Value.int .i64 r1, Value.int .u64 r2, Value.int .i64 r3] 34)
    refine (toBytes_any a cap xs _ hl (by exact HA.out.below hb3)).mono ?_
    rintro e w3 ⟨rfl, ho3, hb3'⟩
    have hlt3 : w2.heap.size + 1 < w3.heap.size := by
      rcases ho3.2 with ⟨h, _⟩ | ⟨g, _, _, h, _, hg, _⟩
      · simp at h
      · simp only [Value.slice.injEq, Option.some.injEq, Addr.mk.injEq, and_true, true_and] at h
        obtain ⟨rfl, _⟩ := h
        have := (Array.getElem?_eq_some_iff.1 hg).1
        simpa using this
    have H3 : Hid (Below w.heap.size w w3) := hb3.trans (hb3'.mono hb3.size)
    obtain ⟨c3, f3⟩ := bcell hb3'
    have q0 : w3.cell? ⟨w2.heap.size, 0, none⟩ = some (.int .i64 r1) := (c3 _ _ (by simp)).trans (by simp)
    have q1 : w3.cell? ⟨w2.heap.size, 1, none⟩ = some (.int .u64 r2) := (c3 _ _ (by simp)).trans (by simp)
    have q2 : w3.cell? ⟨w2.heap.size, 2, none⟩ = some (.int .i64 r3) := (c3 _ _ (by simp)).trans (by simp)
    clear c3 f3 hb3 hb3' H2
    have eS : ∀ (W : World) o, (W.alloc o).heap.size = W.heap.size + 1 := fun W o => by simp
    rw [eS] at ho3
    have ES := Hid.mk' eS
    clear eS
    go_wp2_with fail
    refine (HI.out _ _ _ (own_has ho3)).mono ?_
    rintro e w4 ⟨rfl, hb4⟩
    have ho4 := own_below ho3 hb4 hlt3
    obtain ⟨c4, f4⟩ := bcell hb4
    have t0 : w4.cell? ⟨w2.heap.size, 0, none⟩ = some (.int .i64 r1) := (c4 _ _ (by omega)).trans q0
    have t1 : w4.cell? ⟨w2.heap.size, 1, none⟩ = some (.int .u64 r2) := (c4 _ _ (by omega)).trans q1
    have t2 : w4.cell? ⟨w2.heap.size, 2, none⟩ = some (.int .i64 r3) := (c4 _ _ (by omega)).trans q2
    have hlt0 : w2.heap.size < w4.heap.size := by have := hb4.size; omega
    have s0 : ∀ o, (w4.alloc o).cell? ⟨w2.heap.size, 0, none⟩ = some (.int .i64 r1) := fun o => (World.cell?_alloc_past _ _ _ hlt0).trans t0
    have s1 : ∀ o, (w4.alloc o).cell? ⟨w2.heap.size, 1, none⟩ = some (.int .u64 r2) := fun o => (World.cell?_alloc_past _ _ _ hlt0).trans t1
    have s2 : ∀ o, (w4.alloc o).cell? ⟨w2.heap.size, 2, none⟩ = some (.int .i64 r3) := fun o => (World.cell?_alloc_past _ _ _ hlt0).trans t2
    clear t0 t1 t2
    have H4 : Hid (Below w.heap.size w w4) := H3.out.trans (hb4.mono H3.out.size)
    have hlt4 : w2.heap.size + 1 < w4.heap.size := by have := hb4.size; omega
    simp only [RV]
    clear ho3 hb4 c4 f4 q0 q1 q2 H3 hlt3
    go_wp2_with fail
    refine (eqRes_any r1 r2 r3 _).mono ?_
    rintro e w5 ⟨rfl, hb5⟩
    have hb4' := H4.out.alloc H4.out.size (Obj.cells #[Value.int .i64 r1, Value.int .u64 r2, Value.int .i64 r3] 34)
    have H5 : Hid (Below w.heap.size w w5) := hb4'.trans (hb5.mono hb4'.size)
    have ho5 := own_below (own_below ho4 ((Below.refl w4.heap.size w4).alloc (Nat.le_refl _) _) hlt4) hb5 (by simp; omega)
    have hlt5 : w2.heap.size + 1 < w5.heap.size := by have := hb5.size; simp at this; omega
    clear ho4 hb5 hb4' H4 s0 s1 s2 hlt4
    go_wp2_with fail
    refine (toBytes_any a cap xs _ hl (by exact HA.out.below H5.out)).mono ?_
    rintro e w6 ⟨rfl, ho6, hb6⟩
    have ho7 := own_below ho5 hb6 hlt5
    clear ho5
    go_wp2_with fail
    refine (eq_any _ _ _ _ xs _ hl (own_has ho7) (own_has ho6)).mono ?_
    rintro e w7 ⟨rfl, n7, rfl⟩
    go_wp2
    go_ret
    exact ⟨rfl, below_drewN' (H5.out.trans (hb6.mono H5.out.size)) n7⟩
end Go.Proofs.Ytnbplhlpcojlhaa
