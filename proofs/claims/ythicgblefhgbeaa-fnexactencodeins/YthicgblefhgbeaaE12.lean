import Derived.Test.YthicgblefhgbeaaE11
import Derived.Test.YthicgblefhgbeaaK15
import Derived.Deep.RegionHeld3
set_option linter.all false
set_option linter.unusedVariables false
namespace Go.Proofs.Ythicgblefhgbeaa
open Go.RowKit Go.Sort
set_option maxRecDepth 100000
theorem ownE_grown {w w' : World} {B e n : Nat} {v : Value} {r : Option Nat} {xs : List Value} (h : w.ownsRow B e 1 v n xs) (hg : w.grownBy w' r) (hne : ∀ k, v.ownBlock = some k → r ≠ some k) : w'.ownsRow B e 1 v n xs := by
  refine ⟨h.1, ?_⟩
  rcases h.2 with h0 | ⟨g, cap, cur, hv, hB, hh, rr⟩
  · exact .inl h0
  · subst hv
    exact .inr ⟨g, cap, cur, rfl, hB, (hg.block g (h.lt g rfl).2 (fun e => hne g rfl e.symm)).trans hh, rr⟩
theorem C5.grown {w w1 : World} {g o : Nat} {r : Option Nat} {a b c d e : Value} (h : C5 w g o a b c d e) (hg : w.grownBy w1 r) (hne : some g ≠ r) : C5 w1 g o a b c d e := by
  have hb : w1.heap[g]? = w.heap[g]? := hg.block g (World.block_lt_of_cell? w _ h.1.1) hne
  obtain ⟨⟨h0, h1, h2, h3, h4⟩, f⟩ := h
  exact ⟨⟨(World.cell?_of_block hb).trans h0, (World.cell?_of_block hb).trans h1, (World.cell?_of_block hb).trans h2, (World.cell?_of_block hb).trans h3, (World.cell?_of_block hb).trans h4⟩, fun i => (World.frozen?_of_block hb).trans (f i)⟩
abbrev cA (w : World) (g : Nat) (x : In) (la : Option Addr) (lc : Nat) : Prop := C5 w g 0 (.int .i64 x.op) (.int .i64 x.a) (.int .i64 x.b) (.int .u64 x.v) (.slice la x.l.length lc)
theorem s10 {V : World} {b1 b2 : Nat} {x : In} {la la2 : Option Addr} {lc lc2 : Nat} (h1 : cA V b1 x la lc) (h2 : cA V b2 x la2 lc2) : V.cell? ⟨b1, 0, none⟩ = some (.int .i64 x.op) ∧ V.cell? ⟨b1, 1, none⟩ = some (.int .i64 x.a) ∧ V.cell? ⟨b1, 2, none⟩ = some (.int .i64 x.b) ∧ V.cell? ⟨b1, 3, none⟩ = some (.int .u64 x.v) ∧ V.cell? ⟨b1, 4, none⟩ = some (.slice la x.l.length lc) ∧ V.cell? ⟨b2, 0, none⟩ = some (.int .i64 x.op) ∧ V.cell? ⟨b2, 1, none⟩ = some (.int .i64 x.a) ∧ V.cell? ⟨b2, 2, none⟩ = some (.int .i64 x.b) ∧ V.cell? ⟨b2, 3, none⟩ = some (.int .u64 x.v) ∧ V.cell? ⟨b2, 4, none⟩ = some (.slice la2 x.l.length lc2) :=
  ⟨h1.1.1, h1.1.2.1, h1.1.2.2.1, h1.1.2.2.2.1, h1.1.2.2.2.2, h2.1.1, h2.1.2.1, h2.1.2.2.1, h2.1.2.2.2.1, h2.1.2.2.2.2⟩
set_option maxHeartbeats 8000000 in
theorem lawEnc (x : In) (la : Option Addr) (lc : Nat) (w : World) (hv0 : 0 ≤ x.v) (hv1 : x.v ≤ 18446744073709551615) (hln : x.l.length ≤ 9223372036854775807) (hH : Has w la x.l) :
    Calls Try.prog 4 #[inV x la lc] w fun e w' => e = .returned (.bool true) ∧ Below w.heap.size w w' := by
  obtain ⟨W, hW⟩ : ∃ W, W = w.alloc (.cells #[.int .i64 x.op, .int .i64 x.a, .int .i64 x.b, .int .u64 x.v, .slice la x.l.length lc] 32) := ⟨_, rfl⟩
  have hC : cA W w.heap.size x la lc := by rw [hW]; exact C5.new
  have bW : Below w.heap.size w W := by rw [hW]; exact (Below.refl _ _).alloc (Nat.le_refl _) _
  have hws : W.heap.size = w.heap.size + 1 := by rw [hW]; simp
  have HZ := Hid.mk' (zIn_c x la lc 1048576 W (by omega) (by omega) hln)
  have HW := Hid.mk' hW
  have HC := Hid.mk' hC
  have BW := Hid.mk' bW
  have HH := Hid.mk' (hH.keep bW)
  obtain ⟨⟨a0, a1, a2, a3, a4⟩, af⟩ := id hC
  clear hW hC bW hH af
  go_enter Try.func4, Try.ntmps4
  go_wp2_with fail
  rw [show w.alloc (.cells #[.int .i64 x.op, .int .i64 x.a, .int .i64 x.b, .int .u64 x.v, .slice la x.l.length lc] 32) = W from HW.out.symm]
  refine HZ.out.mono ?_
  rintro e w1 ⟨r, rfl, b1, hr⟩
  have B1 := Hid.mk' b1
  clear HW HZ b1 a0 a1 a2 a3 a4
  rcases hr with rfl | ⟨hr, hr0⟩
  · go_wp2
    go_ret
    exact ⟨rfl, BW.out.trans (B1.out.mono (by omega))⟩
  have hn : x.l.length ≤ 1048576 := by omega
  have f : ¬ r < 0 := by omega
  have KT := Hid.mk' (fun (V : World) (h : Below W.heap.size W V) => toIn_c x la lc V hn (HH.out.keep h))
  have KS := Hid.mk' (fun (a : Option Addr) (c : Nat) (V : World) (h : Has V a x.l) => senc_c x a c V hv0 hv1 hn h)
  have KI := Hid.mk' (fun (a : Option Addr) (c : Nat) (V : World) (h : Has V a x.l) => ienc_c x a c V hv0 hv1 hn h)
  have KE := Hid.mk' (fun (a a' : Option Addr) (c c' : Nat) (V : World) (h : Has V a x.l) (h' : Has V a' x.l) => eqIn_c x a a' c c' V (by omega) h h')
  have KM := Hid.mk' (fun (B g : Nat) (V : World) (h : Got V B x g) => markIn_c B g x V hn h)
  have hML := encM_len x hn
  generalize encM x = M at *
  have hMl : M.length ≤ 1099511627776 := by omega
  clear hr hr0
  obtain ⟨⟨a0, a1, a2, a3, a4⟩, af⟩ := HC.out.keep B1.out
  clear af
  go_wp2_with fail
  refine (KT.out _ B1.out).mono ?_
  rintro e w2 ⟨g2, rfl, hg2, b2⟩
  have H2 := Hid.mk' (own_has hg2)
  have B2 := Hid.mk' (B1.out.trans (b2.mono B1.out.size))
  clear hg2 b2 a0 a1 a2 a3 a4
  go_wp2_with fail
  refine (KS.out _ _ _ H2.out).mono ?_
  rintro e w3 ⟨v0, rfl, o0, b3⟩
  have B3 := Hid.mk' (B2.out.trans (b3.mono B2.out.size))
  have O0 := Hid.mk' o0
  obtain ⟨⟨a0, a1, a2, a3, a4⟩, af⟩ := HC.out.keep B3.out
  clear o0 b3 H2 af
  go_wp2_with fail
  refine (KT.out _ B3.out).mono ?_
  rintro e w4 ⟨g4, rfl, hg4, b4⟩
  have B4 := Hid.mk' (B3.out.trans (b4.mono B3.out.size))
  have O4 := Hid.mk' (ownE_keep O0.out b4 (Nat.le_refl _))
  have lo4 : ∀ k, v0.ownBlock = some k → k < w3.heap.size := fun k hk => (O0.out.lt k hk).2
  obtain ⟨z4, z4'⟩ := hg4.lt g4 rfl
  obtain ⟨V, hV⟩ : ∃ V, V = w4.alloc (.cells #[.int .i64 x.op, .int .i64 x.a, .int .i64 x.b, .int .u64 x.v, .slice (some ⟨g4, 0, none⟩) x.l.length x.l.length] 36) := ⟨_, rfl⟩
  have bV : Below w4.heap.size w4 V := by rw [hV]; exact (Below.refl _ _).alloc (Nat.le_refl _) _
  have hVs : V.heap.size = w4.heap.size + 1 := by rw [hV]; simp
  have XC := Hid.mk' (show cA V w4.heap.size x (some ⟨g4, 0, none⟩) x.l.length by rw [hV]; exact C5.new)
  have B5 := Hid.mk' (B4.out.trans (bV.mono B4.out.size))
  have O5 := Hid.mk' (ownE_keep O4.out bV (Nat.le_refl _))
  have G5 := Hid.mk' (hg4.keep bV)
  have HV := Hid.mk' hV
  have LO := Hid.mk' lo4
  obtain ⟨⟨x0, x1, x2, x3, x4⟩, xf⟩ := XC.out
  clear hg4 b4 a0 a1 a2 a3 a4 hV bV O0 O4 lo4 xf
  go_wp2_with fail
  rw [show w4.alloc (.cells #[.int .i64 x.op, .int .i64 x.a, .int .i64 x.b, .int .u64 x.v, .slice (some ⟨g4, 0, none⟩) x.l.length x.l.length] 36) = V from HV.out.symm]
  refine (KI.out _ _ _ (own_has G5.out)).mono ?_
  rintro e w6 ⟨v1, rfl, o1, b6⟩
  have B6 := Hid.mk' (B5.out.trans (b6.mono B5.out.size))
  have O06 := Hid.mk' (ownE_keep O5.out b6 (Nat.le_refl _))
  have O16 := Hid.mk' o1
  have X6 := Hid.mk' (XC.out.keep b6)
  have A6 := Hid.mk' (HC.out.keep B6.out)
  have G6 := Hid.mk' (G5.out.keep b6)
  have z6 := b6.size
  clear o1 b6 HV O5 XC G5 x0 x1 x2 x3 x4
  go_wp2_with fail
  refine (By.eqV _ _ _ _ M _ hMl O16.out O06.out).mono ?_
  rintro e w7 ⟨rfl, n7, rfl⟩
  have B7 := Hid.mk' (below_drewN' B6.out n7)
  have O07 := Hid.mk' (show (w6.drewN n7).ownsRow w2.heap.size 5 1 v0 M.length (U M) from O06.out)
  have O17 := Hid.mk' (show (w6.drewN n7).ownsRow V.heap.size 5 1 v1 M.length (U M) from O16.out)
  have X7 := Hid.mk' (show cA (w6.drewN n7) w4.heap.size x (some ⟨g4, 0, none⟩) x.l.length from X6.out)
  have A7 := Hid.mk' (show cA (w6.drewN n7) w.heap.size x la lc from A6.out)
  have G7 := Hid.mk' (show Got (w6.drewN n7) w3.heap.size x g4 from G6.out)
  have z7 : V.heap.size ≤ (w6.drewN n7).heap.size := z6
  clear B6 O06 O16 X6 A6 G6 z6
  generalize w6.drewN n7 = w7 at *
  have KA := Hid.mk' (show cA w7.drew w.heap.size x la lc from A7.out)
  have KX := Hid.mk' (show cA w7.drew w4.heap.size x (some ⟨g4, 0, none⟩) x.l.length from X7.out)
  go_wp2_with fail
  go_region_held3 (fun w' => w'.cell? ⟨w.heap.size, 0, none⟩ = some (.int .i64 x.op) ∧ w'.cell? ⟨w.heap.size, 1, none⟩ = some (.int .i64 x.a) ∧ w'.cell? ⟨w.heap.size, 2, none⟩ = some (.int .i64 x.b) ∧ w'.cell? ⟨w.heap.size, 3, none⟩ = some (.int .u64 x.v) ∧ w'.cell? ⟨w.heap.size, 4, none⟩ = some (.slice la x.l.length lc) ∧ w'.cell? ⟨w4.heap.size, 0, none⟩ = some (.int .i64 x.op) ∧ w'.cell? ⟨w4.heap.size, 1, none⟩ = some (.int .i64 x.a) ∧ w'.cell? ⟨w4.heap.size, 2, none⟩ = some (.int .i64 x.b) ∧ w'.cell? ⟨w4.heap.size, 3, none⟩ = some (.int .u64 x.v) ∧ w'.cell? ⟨w4.heap.size, 4, none⟩ = some (.slice (some ⟨g4, 0, none⟩) x.l.length x.l.length)) (exact s10 KA.out KX.out)
    (first
      | (go_at_call 13
         refine (KT.out _ B7.out.drew).mono ?_
         rintro e w8 ⟨g8, rfl, hg8, b8⟩
         have B8 := Hid.mk' (B7.out.drew.trans (b8.mono B7.out.size))
         have H8 := Hid.mk' (own_has hg8)
         have H48 := Hid.mk' (own_has (Got.keep (show Got w7.drew w3.heap.size x g4 from G7.out) b8))
         have S8 := Hid.mk' (show Below w7.heap.size w7 w8 from ⟨b8.os, b8.tape, b8.output, b8.size, b8.block⟩)
         replace KA := Hid.mk' (A7.out.keep S8.out)
         replace KX := Hid.mk' (X7.out.keep S8.out)
         clear hg8 b8)
      | (go_at_call 16
         refine (KE.out _ _ _ _ _ H48.out H8.out).mono ?_
         rintro e w9 ⟨rfl, b9⟩
         have B9 := Hid.mk' (B8.out.trans (b9.mono B8.out.size))
         have S9 := Hid.mk' (S8.out.trans (b9.mono S8.out.size))
         replace KA := Hid.mk' (A7.out.keep S9.out)
         replace KX := Hid.mk' (X7.out.keep S9.out)
         clear b9 H8 H48 B8 S8))
  have O09 := Hid.mk' (ownE_keep O07.out S9.out (Nat.le_refl _))
  have O19 := Hid.mk' (ownE_keep O17.out S9.out (Nat.le_refl _))
  have G9 := Hid.mk' (G7.out.keep S9.out)
  have z9 : V.heap.size ≤ w9.heap.size := Nat.le_trans z7 S9.out.size
  obtain ⟨⟨x0, x1, x2, x3, x4⟩, xf⟩ := KX.out
  clear O07 O17 G7 S9 A7 X7 B7 xf
  go_wp2_with fail
  refine (KM.out _ _ _ G9.out).mono ?_
  rintro e w10 ⟨rfl, hg10⟩
  have z10 := hg10.size
  have l3 := B3.out.size
  have B10 := Hid.mk' (B9.out.grown hg10 B9.out.size (fun k hk => by simp at hk; omega))
  have O010 := Hid.mk' (ownE_grown O09.out hg10 (fun k hk => by have := LO.out k hk; simp; omega))
  have O110 := Hid.mk' (ownE_grown O19.out hg10 (fun k hk => by have := (O19.out.lt k hk).1; simp; omega))
  clear O09 O19 hg10 G9 KA KX x0 x1 x2 x3 x4 KM KE
  have hk1 : ¬ (1 + (x.l.length : Int)) < 0 := by omega
  have hd1 : decide ((1 + (x.l.length : Int)) < 0) = false := decide_eq_false hk1
  go_wp2_with fail
  refine (By.eqV _ _ _ _ M _ hMl O110.out O010.out).mono ?_
  rintro e w11 ⟨rfl, n11, rfl⟩
  have B11 := Hid.mk' (below_drewN' B10.out n11)
  have O011 := Hid.mk' (show (w10.drewN n11).ownsRow w2.heap.size 5 1 v0 M.length (U M) from O010.out)
  have O111 := Hid.mk' (show (w10.drewN n11).ownsRow V.heap.size 5 1 v1 M.length (U M) from O110.out)
  have z11 : V.heap.size ≤ (w10.drewN n11).heap.size := Nat.le_trans z9 z10
  clear O010 O110
  generalize w10.drewN n11 = w11 at *
  go_wp2_with fail
  refine (By.markV _ _ _ M _ hMl O111.out).mono ?_
  rintro e w12 ⟨rfl, o12, hg12⟩
  have z12 := hg12.size
  have B12 := Hid.mk' (B11.out.grown hg12 B11.out.size (fun k hk => by have := (O111.out.lt k hk).1; have := B5.out.size; omega))
  have O012 := Hid.mk' (ownE_grown O011.out hg12 (fun k hk e => by have := LO.out k hk; have := (O111.out.lt k e).1; omega))
  have O112 := Hid.mk' o12
  clear O011 O111 hg12 o12
  go_wp2_with fail
  refine (By.heldV _ _ _ _ hMl O112.out).mono ?_
  rintro e w13 ⟨rfl, rfl⟩
  have hq1 : ¬ (1 + (M.length : Int)) < 0 := by omega
  have hq2 : ((1 + (M.length : Int)) != (1 + (M.length : Int))) = false := by simp
  obtain ⟨⟨a0, a1, a2, a3, a4⟩, af⟩ := HC.out.keep B12.out
  clear af
  go_wp2_with fail
  refine (KT.out _ B12.out).mono ?_
  rintro e w14 ⟨g14, rfl, hg14, b14⟩
  have O014 := Hid.mk' (ownE_keep O012.out b14 (Nat.le_refl _))
  have O114 := Hid.mk' (ownE_keep O112.out b14 (Nat.le_refl _))
  have B14 := Hid.mk' (B12.out.trans (b14.mono B12.out.size))
  have H14 := Hid.mk' (own_has hg14)
  clear hg14 b14 a0 a1 a2 a3 a4 O012 O112
  go_wp2_with fail
  refine (KI.out _ _ _ H14.out).mono ?_
  rintro e w15 ⟨v2, rfl, o15, b15⟩
  have O015 := Hid.mk' (ownE_keep O014.out b15 (Nat.le_refl _))
  have O115 := Hid.mk' (ownE_keep O114.out b15 (Nat.le_refl _))
  have O215 := Hid.mk' o15
  have B15 := Hid.mk' (B14.out.trans (b15.mono B14.out.size))
  clear o15 b15 O014 O114
  go_wp2_with fail
  refine (By.eqV _ _ _ _ M _ hMl O215.out O015.out).mono ?_
  rintro e w16 ⟨rfl, n16, rfl⟩
  have O116 := Hid.mk' (show (w15.drewN n16).ownsRow V.heap.size 5 1 v1 M.length (U (By.marks 1 M.length)) from O115.out)
  have B16 := Hid.mk' (below_drewN' B15.out n16)
  go_wp2_with fail
  refine (By.heldV _ _ _ _ hMl O116.out).mono ?_
  rintro e w17 ⟨rfl, rfl⟩
  go_wp2
  go_ret
  exact ⟨rfl, BW.out.trans (B16.out.mono (by omega))⟩
end Go.Proofs.Ythicgblefhgbeaa
