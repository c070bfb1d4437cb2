import Derived.Test.YthicgblefhgbeaaK14
set_option linter.all false
set_option linter.unusedVariables false
namespace Go.Proofs.Ythicgblefhgbeaa
open Go.RowKit Go.Sort
set_option maxRecDepth 100000
theorem zI_c (a : Option Addr) (n c : Nat) (left : Int) (w : World) (h0 : 0 ≤ left) (h1 : left ≤ 1048576) (hn : n ≤ 9223372036854775807) :
    Calls Try.prog 32 #[.slice a n c, .int .i64 left] w fun e w' => ∃ r : Int, e = .returned (.int .i64 r) ∧ w = w' ∧ (r = -1 ∨ (r = left - n ∧ 0 ≤ r)) := by
  have hw : IntKind.i64.wrap (left - n) = left - n := by rw [IntKind.wrap_i64]; omega
  by_cases h : left - n < 0
  · go_enter Try.func32, Try.ntmps32
    go_wp2
    go_ret
    exact ⟨-1, rfl, rfl, .inl rfl⟩
  · go_enter Try.func32, Try.ntmps32
    go_wp2
    go_ret
    exact ⟨left - n, rfl, rfl, .inr ⟨rfl, by omega⟩⟩
theorem zIn_c (x : In) (la : Option Addr) (lc : Nat) (left : Int) (w : World) (h0 : 0 ≤ left) (h1 : left ≤ 1048576) (hn : x.l.length ≤ 9223372036854775807) :
    Calls Try.prog 11 #[inV x la lc, .int .i64 left] w fun e w' => ∃ r : Int, e = .returned (.int .i64 r) ∧ Below w.heap.size w w' ∧ (r = -1 ∨ (r = left - x.l.length ∧ 0 ≤ r)) := by
  have H := Hid.mk' (fun w => zI_c la x.l.length lc left w h0 h1 hn)
  go_enter Try.func11, Try.ntmps11
  go_wp2_with fail
  refine (H.out _).mono ?_
  rintro e w1 ⟨r, rfl, rfl, hr⟩
  rcases hr with rfl | ⟨hr, hr0⟩
  · go_wp2
    go_ret
    exact ⟨-1, rfl, (Below.refl _ _).alloc (Nat.le_refl _) _, .inl rfl⟩
  · have f : ¬ r < 0 := by omega
    have HR := Hid.mk' hr
    clear hr
    go_wp2
    go_ret
    exact ⟨r, rfl, (Below.refl _ _).alloc (Nat.le_refl _) _, .inr ⟨HR.out, hr0⟩⟩
set_option maxHeartbeats 1000000 in
theorem zIs_c (a : Option Addr) (c : Nat) (xs : List In) (left : Int) (w : World) (h0 : 0 ≤ left) (h1 : left ≤ 1048576) (hn : xs.length ≤ 9223372036854775807) (hL : Lst w a xs) (hl : ∀ i, (xs.getD i I0).l.length ≤ 9223372036854775807) :
    Calls Try.prog 6 #[.slice a xs.length c, .int .i64 left] w fun e w' => ∃ r : Int, e = .returned (.int .i64 r) ∧ Below w.heap.size w w' ∧ (r = -1 ∨ (0 ≤ r ∧ (xs.length : Int) ≤ left ∧ ∀ i, i < xs.length → ((xs.getD i I0).l.length : Int) ≤ left)) := by
  have hw : IntKind.i64.wrap (left - xs.length) = left - xs.length := by rw [IntKind.wrap_i64]; omega
  by_cases h : left - xs.length < 0
  · clear hL
    go_enter Try.func6, Try.ntmps6
    go_wp2
    go_ret
    exact ⟨-1, rfl, Below.refl _ _, .inl rfl⟩
  · have HL := Hid.mk' hL
    have Hl := Hid.mk' hl
    clear hL hl
    go_enter Try.func6, Try.ntmps6
    go_wp2
    go_loopw [1, 5] (fun q i wr => ∃ (k : Nat) (r : Int), k ≤ xs.length ∧ i = .int .i64 k ∧ q = .int .i64 r ∧ 0 ≤ r ∧ r ≤ left ∧ (∀ i, i < k → ((xs.getD i I0).l.length : Int) ≤ left) ∧ Below w.heap.size w wr) (fun _ i _ => xs.length - (intOf i).toNat)
    case atStart => exact ⟨0, _, Nat.zero_le _, rfl, rfl, by omega, by omega, fun i hi => by omega, Below.refl _ _⟩
    case round =>
      obtain ⟨k, r, hk, rfl, rfl, hr0, hr1, hall, hb⟩ := hrel
      by_cases hlt : k < xs.length
      · rcases HL.out.keep hb with hx | ⟨b, o, ea, hc⟩
        · subst hx; simp at hlt
        subst ea
        obtain ⟨la, lc, c0, c1, c2, c3, c4, c5⟩ := hc k hlt
        have hki : (k : Int) < (xs.length : Int) := by omega
        have hxl := Hl.out k
        obtain ⟨x, hx⟩ : ∃ x, x = xs.getD k I0 := ⟨_, rfl⟩
        rw [← hx] at c0 c1 c2 c3 c4 c5 hxl
        have HX := Hid.mk' hx
        have HA := Hid.mk' hall
        have HS := Hid.mk' (fun w => zIn_c x la lc r w hr0 (by omega) hxl)
        clear hx hc hall HL
        go_wp2_with fail
        refine (HS.out wr).mono ?_
        rintro e w1 ⟨r1, rfl, hb1, hr1'⟩
        have hb2 : Below w.heap.size w w1 := hb.trans (hb1.mono hb.size)
        clear hb1 c0 c1 c2 c3 c4 c5 HS
        rcases hr1' with rfl | ⟨hr1', hr2⟩
        · go_wp2
          go_ret
          exact ⟨-1, rfl, hb2, .inl rfl⟩
        · have f : ¬ r1 < 0 := by omega
          have HR := Hid.mk' hr1'
          clear hr1'
          go_wp2
          go_roundw
          case rel => exact ⟨k + 1, r1, by omega, by go_num, rfl, hr2, by have := HR.out; omega, fun i hi => by
            rcases (by omega : i < k ∨ i = k) with h | h
            · exact HA.out i h
            · subst h; rw [← HX.out]; have := HR.out; omega, hb2⟩
          case measure => simp [intOf]; omega
      · have e : k = xs.length := by omega
        subst e
        go_wp2
        go_ret
        exact ⟨r, rfl, hb, .inr ⟨hr0, by omega, hall⟩⟩
set_option maxHeartbeats 4000000 in
theorem lawClosed (a : Option Addr) (c : Nat) (xs : List In) (w : World) (hn : xs.length ≤ 9223372036854775807) (hl : ∀ i, (xs.getD i I0).l.length ≤ 9223372036854775807) (hv : ∀ i, 0 ≤ (xs.getD i I0).v) (hL : Lst w a xs) :
    Calls Try.prog 3 #[.slice a xs.length c] w fun e w' => e = .returned (.bool true) ∧ Below w.heap.size w w' := by
  have HZ := Hid.mk' (zIs_c a c xs 1048576 w (by omega) (by omega) hn hL hl)
  have HV := Hid.mk' hv
  have HL := Hid.mk' hL
  clear hv hL hl
  go_enter Try.func3, Try.ntmps3
  go_wp2_with fail
  refine HZ.out.mono ?_
  rintro e w1 ⟨r, rfl, b1, hr⟩
  rcases hr with rfl | ⟨hr0, hr1, hr2⟩
  · go_wp2
    go_ret
    exact ⟨rfl, b1⟩
  · have hn2 : xs.length ≤ 1048576 := by omega
    have HL2 : Hid (∀ i, i < xs.length → (xs.getD i I0).l.length ≤ 1048576) := fun i hi => by have := hr2 i hi; omega
    have f : ¬ r < 0 := by omega
    have KT := Hid.mk' (fun (W : World) (h : Below w.heap.size w W) => toIs_c a c xs W hn2 HL2.out (HL.out.keep h))
    have KS := Hid.mk' (fun (a : Option Addr) (c : Nat) (W : World) (h : Lst W a xs) => sclosed_c a c xs W hn2 HL2.out HV.out h)
    have KI := Hid.mk' (fun (a : Option Addr) (c : Nat) (W : World) (h : Lst W a xs) => iclosed_c a c xs W hn2 HL2.out HV.out h)
    have KE := Hid.mk' (fun (a a' : Option Addr) (c c' : Nat) (W : World) (h : Lst W a xs) (h' : Lst W a' xs) => eqIs_c a a' c c' xs W (by omega) (fun i hi => by have := HL2.out i hi; omega) h h')
    generalize closedM xs = cm at *
    clear hr1 hr2 HZ HL HV HL2
    go_wp2_with fail
    refine (KT.out _ b1).mono ?_
    rintro e w2 ⟨rfl, cp2⟩
    have l2 := cp2.lst
    have b2 : Below w.heap.size w w2 := b1.trans (cp2.bel.mono b1.size)
    go_wp2_with fail
    refine (KS.out _ _ _ l2).mono ?_
    rintro e w3 ⟨rfl, b3⟩
    have b3 : Below w.heap.size w w3 := b2.trans (b3.mono b2.size)
    clear l2 cp2 b2 b1
    go_wp2_with fail
    refine (KT.out _ b3).mono ?_
    rintro e w4 ⟨rfl, cp4⟩
    have l4 := cp4.lst
    have b4 : Below w.heap.size w w4 := b3.trans (cp4.bel.mono b3.size)
    clear cp4
    go_wp2_with fail
    refine (KI.out _ _ _ l4).mono ?_
    rintro e w5 ⟨rfl, b5⟩
    have l5 := l4.keep b5
    have b5 : Below w.heap.size w w5 := b4.trans (b5.mono b4.size)
    clear l4 b4 b3
    have hcm : (cm != cm) = false := by simp
    go_wp2_with fail
    refine (KT.out _ b5).mono ?_
    rintro e w6 ⟨rfl, cp6⟩
    have l6 := cp6.lst
    have l56 := l5.keep cp6.bel
    have b6 : Below w.heap.size w w6 := b5.trans (cp6.bel.mono b5.size)
    clear cp6 l5 b5
    go_wp2_with fail
    refine (KE.out _ _ _ _ _ l56 l6).mono ?_
    rintro e w7 ⟨rfl, b7⟩
    have b7 : Below w.heap.size w w7 := b6.trans (b7.mono b6.size)
    clear l56 l6 b6
    go_wp2
    go_ret
    exact ⟨rfl, b7⟩
end Go.Proofs.Ythicgblefhgbeaa
