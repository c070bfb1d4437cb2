import Derived.Test.YtfaajmhmcdoibaaRq1
set_option linter.all false
set_option linter.unusedVariables false
namespace Go.Proofs.Ytfaajmhmcdoibaa
open Go.RowKit Go.Sort
set_option maxRecDepth 100000
theorem sum_step {α : Type} {f : α → Nat} (z : α) (xs : List α) (k : Nat) (h : k < xs.length) : ((xs.take (k + 1)).map f).sum = ((xs.take k).map f).sum + f (xs.getD k z) := by
  rw [List.take_add_one, List.getElem?_eq_getElem h]
  rw [show xs.getD k z = xs[k] by simp [List.getD, h]]
  simp only [Option.toList, List.map_append, List.map_cons, List.map_nil, List.sum_append, List.sum_cons, List.sum_nil, Nat.add_zero]
def Frm.sz (x : Frm) : Nat := x.loc.length + x.labs.length
def Sta.sz (x : Sta) : Nat := x.stk.length + (x.frs.length + (x.frs.map Frm.sz).sum)
theorem qzWords_c (a : Option Addr) (n c : Nat) (left : Int) (w : World) (h0 : 0 ≤ left) (h1 : left ≤ 1048576) (hn : n ≤ 9223372036854775807) :
    Calls Try.prog 20 #[.slice a n c, .int .i64 left] w fun e w' => ∃ r : Int, e = .returned (.int .i64 r) ∧ Below w.heap.size w w' ∧ (r = -1 ∨ (0 ≤ r ∧ r + (n : Int) ≤ left ∧ n ≤ 1048576)) := by
  have hw : IntKind.i64.wrap (left - n) = left - n := by rw [IntKind.wrap_i64]; omega
  by_cases h : left - n < 0
  · go_enter Try.func20, Try.ntmps20
    go_wp2
    go_ret
    exact ⟨-1, rfl, Below.refl _ _, .inl rfl⟩
  · go_enter Try.func20, Try.ntmps20
    go_wp2
    go_ret
    exact ⟨left - n, rfl, Below.refl _ _, .inr ⟨by omega, by omega, by omega⟩⟩
theorem qzLabs_c (a : Option Addr) (n c : Nat) (left : Int) (w : World) (h0 : 0 ≤ left) (h1 : left ≤ 1048576) (hn : n ≤ 9223372036854775807) :
    Calls Try.prog 50 #[.slice a n c, .int .i64 left] w fun e w' => ∃ r : Int, e = .returned (.int .i64 r) ∧ Below w.heap.size w w' ∧ (r = -1 ∨ (0 ≤ r ∧ r + (n : Int) ≤ left ∧ n ≤ 1048576)) := by
  have hw : IntKind.i64.wrap (left - n) = left - n := by rw [IntKind.wrap_i64]; omega
  by_cases h : left - n < 0
  · go_enter Try.func50, Try.ntmps50
    go_wp2
    go_ret
    exact ⟨-1, rfl, Below.refl _ _, .inl rfl⟩
  · go_enter Try.func50, Try.ntmps50
    go_wp2
    go_ret
    exact ⟨left - n, rfl, Below.refl _ _, .inr ⟨by omega, by omega, by omega⟩⟩
set_option maxHeartbeats 4000000 in
theorem qzFrm_c (x : Frm) (a1 : Option Addr) (c1 : Nat) (a2 : Option Addr) (c2 : Nat) (left : Int) (w : World) (h0 : 0 ≤ left) (h1 : left ≤ 1048576) (hI : Frm.Is 0 w x a1 a2) (hl : Frm.LB 9223372036854775807 x) :
    Calls Try.prog 37 #[.agg #[.int .i64 x.fn, .int .i64 x.pc, .slice a1 x.loc.length c1, .int .i64 x.ht, .slice a2 x.labs.length c2], .int .i64 left] w fun e w' => ∃ r : Int, e = .returned (.int .i64 r) ∧ Below w.heap.size w w' ∧ (r = -1 ∨ (0 ≤ r ∧ r + (Frm.sz x : Int) ≤ left ∧ Frm.LB 1048576 x)) := by
  obtain ⟨l2, l4⟩ := hl
  obtain ⟨r1, r2⟩ := hI
  have R1 := Hid.mk' r1
  have R2 := Hid.mk' r2
  clear r1 r2
  go_enter Try.func37, Try.ntmps37
  go_upto_region 1 with fail
  refine wp_gen (fun W => (W.cell? ⟨w.heap.size, 2, none⟩ = some (.slice a1 x.loc.length c1) ∧ W.cell? ⟨w.heap.size, 4, none⟩ = some (.slice a2 x.labs.length c2)) ∧ Below w.heap.size w W ∧ w.heap.size < W.heap.size) ⟨⟨cell_new rfl rfl, cell_new rfl rfl⟩, (Below.refl _ _).alloc (Nat.le_refl _) _, by simp⟩ ?_
  rintro W ⟨⟨q2, q4⟩, hb, hlt⟩
  have HC2 := Hid.mk' (qzWords_c a1 x.loc.length c1 left W (by omega) (by omega) l2)
  go_wp2_with fail
  refine HC2.out.mono ?_
  rintro e W2 ⟨m2, rfl, hb2, hm2⟩
  have hB2 : Below w.heap.size w W2 := hb.trans (hb2.mono hb.size)
  have hL2 : w.heap.size < W2.heap.size := Nat.lt_of_lt_of_le hlt hb2.size
  have q4 := (hb2.cell (p := ⟨w.heap.size, 4, none⟩) hlt).trans q4
  clear hb2 HC2 q2
  rcases hm2 with rfl | ⟨hm02, hm12, k2⟩
  · go_wp2
    go_ret
    exact ⟨-1, rfl, hB2, .inl rfl⟩
  have hn2 : ¬ m2 < 0 := by omega
  generalize hg2 : x.loc.length = g2 at hm12
  go_upto_region 4 with fail
  have HC4 := Hid.mk' (qzLabs_c a2 x.labs.length c2 m2 W2 (by omega) (by omega) l4.1)
  go_wp2_with fail
  refine HC4.out.mono ?_
  rintro e W4 ⟨m4, rfl, hb4, hm4⟩
  have hB4 : Below w.heap.size w W4 := hB2.trans (hb4.mono hB2.size)
  have hL4 : w.heap.size < W4.heap.size := Nat.lt_of_lt_of_le hL2 hb4.size
  clear hb4 HC4 q4
  rcases hm4 with rfl | ⟨hm04, hm14, k4⟩
  · go_wp2
    go_ret
    exact ⟨-1, rfl, hB4, .inl rfl⟩
  have hn4 : ¬ m4 < 0 := by omega
  generalize hg4 : x.labs.length = g4 at hm14
  have k4 : x.labs.length ≤ 1048576 ∧ ∀ i, i < x.labs.length → Lab.LB 1048576 (x.labs.getD i Lab.z) := ⟨k4, fun _ _ => trivial⟩
  go_wp2
  go_ret
  exact ⟨m4, rfl, hB4, .inr ⟨hm04, by simp only [Frm.sz]; omega, ⟨k2, k4⟩⟩⟩
set_option maxHeartbeats 4000000 in
theorem qzFrms_c (a : Option Addr) (c : Nat) (xs : List Frm) (left : Int) (w : World) (h0 : 0 ≤ left) (h1 : left ≤ 1048576) (hL : Frm.Ls 0 w a xs) (hl : xs.length ≤ 9223372036854775807 ∧ ∀ i, i < xs.length → Frm.LB 9223372036854775807 (xs.getD i Frm.z)) :
    Calls Try.prog 21 #[.slice a xs.length c, .int .i64 left] w fun e w' => ∃ r : Int, e = .returned (.int .i64 r) ∧ Below w.heap.size w w' ∧ (r = -1 ∨ (0 ≤ r ∧ r + ((xs.length + (xs.map Frm.sz).sum : Nat) : Int) ≤ left ∧ xs.length ≤ 1048576 ∧ ∀ i, i < xs.length → Frm.LB 1048576 (xs.getD i Frm.z))) := by
  obtain ⟨hn, hl⟩ := hl
  have hw : IntKind.i64.wrap (left - xs.length) = left - xs.length := by rw [IntKind.wrap_i64]; omega
  by_cases h : left - xs.length < 0
  · clear hL
    go_enter Try.func21, Try.ntmps21
    go_wp2
    go_ret
    exact ⟨-1, rfl, Below.refl _ _, .inl rfl⟩
  · have HL := Hid.mk' hL
    have Hl := Hid.mk' hl
    clear hL hl
    go_enter Try.func21, Try.ntmps21
    go_wp2
    go_loopw [1, 5] (fun q i wr => ∃ (k : Nat) (r : Int), k ≤ xs.length ∧ i = .int .i64 k ∧ q = .int .i64 r ∧ 0 ≤ r ∧ r + (((xs.take k).map Frm.sz).sum : Int) ≤ left - xs.length ∧ (∀ i, i < k → Frm.LB 1048576 (xs.getD i Frm.z)) ∧ Below w.heap.size w wr) (fun _ i _ => xs.length - (intOf i).toNat)
    case atStart => exact ⟨0, _, Nat.zero_le _, rfl, rfl, by omega, by simp, fun i hi => by omega, Below.refl _ _⟩
    case round =>
      obtain ⟨k, r, hk, rfl, rfl, hr0, hr1, hall, hb⟩ := hrel
      by_cases hlt : k < xs.length
      · rcases HL.out.up (up_below hb) with hx | ⟨b, o, ea, _, hc⟩
        · subst hx; simp at hlt
        subst ea
        have hxk := hc k hlt
        have hlk := Hl.out k hlt
        have hki : (k : Int) < (xs.length : Int) := by omega
        obtain ⟨x, hx⟩ : ∃ x, x = xs.getD k Frm.z := ⟨_, rfl⟩
        rw [← hx] at hxk hlk
        obtain ⟨a1, c1, a2, c2, ⟨q0, q1, q2, q3, q4⟩, hi⟩ := hxk
        have HX := Hid.mk' hx
        have HT := Hid.mk' (sum_step (f := Frm.sz) Frm.z xs k hlt)
        have HA := Hid.mk' hall
        have HS := Hid.mk' (qzFrm_c x a1 c1 a2 c2 r wr hr0 (by omega) hi hlk)
        clear hx hc hall HL hi hlk Hl
        go_wp2_with fail
        refine HS.out.mono ?_
        rintro e w1 ⟨r1, rfl, hb1, hr1'⟩
        have hb2 : Below w.heap.size w w1 := hb.trans (hb1.mono hb.size)
        clear hb1 q0 q1 q2 q3 q4 HS
        rcases hr1' with rfl | ⟨hr2, hr3, hr4⟩
        · go_wp2
          go_ret
          exact ⟨-1, rfl, hb2, .inl rfl⟩
        · have f : ¬ r1 < 0 := by omega
          have HR := Hid.mk' hr4
          clear hr4
          go_wp2
          go_roundw
          case rel => exact ⟨k + 1, r1, by omega, by go_num, rfl, hr2, by rw [HT.out, ← HX.out]; push_cast; omega, fun i hi => by
            rcases (by omega : i < k ∨ i = k) with h | h
            · exact HA.out i h
            · subst h; rw [← HX.out]; exact HR.out, hb2⟩
          case measure => simp [intOf]; omega
      · have e : k = xs.length := by omega
        subst e
        go_wp2
        go_ret
        exact ⟨r, rfl, hb, .inr ⟨hr0, by rw [List.take_length] at hr1; push_cast; omega, by omega, hall⟩⟩
set_option maxHeartbeats 4000000 in
theorem qzSta_c (x : Sta) (a1 : Option Addr) (c1 : Nat) (a2 : Option Addr) (c2 : Nat) (left : Int) (w : World) (h0 : 0 ≤ left) (h1 : left ≤ 1048576) (hI : Sta.Is 0 w x a1 a2) (hl : Sta.LB 9223372036854775807 x) :
    Calls Try.prog 5 #[.agg #[.int .i64 x.st, .int .i64 x.tr, .slice a1 x.stk.length c1, .slice a2 x.frs.length c2], .int .i64 left] w fun e w' => ∃ r : Int, e = .returned (.int .i64 r) ∧ Below w.heap.size w w' ∧ (r = -1 ∨ (0 ≤ r ∧ r + (Sta.sz x : Int) ≤ left ∧ Sta.LB 1048576 x)) := by
  obtain ⟨l2, l3⟩ := hl
  obtain ⟨r1, r2⟩ := hI
  have R1 := Hid.mk' r1
  have R2 := Hid.mk' r2
  clear r1 r2
  go_enter Try.func5, Try.ntmps5
  go_upto_region 1 with fail
  refine wp_gen (fun W => (W.cell? ⟨w.heap.size, 2, none⟩ = some (.slice a1 x.stk.length c1) ∧ W.cell? ⟨w.heap.size, 3, none⟩ = some (.slice a2 x.frs.length c2)) ∧ Below w.heap.size w W ∧ w.heap.size < W.heap.size) ⟨⟨cell_new rfl rfl, cell_new rfl rfl⟩, (Below.refl _ _).alloc (Nat.le_refl _) _, by simp⟩ ?_
  rintro W ⟨⟨q2, q3⟩, hb, hlt⟩
  have HC2 := Hid.mk' (qzWords_c a1 x.stk.length c1 left W (by omega) (by omega) l2)
  go_wp2_with fail
  refine HC2.out.mono ?_
  rintro e W2 ⟨m2, rfl, hb2, hm2⟩
  have hB2 : Below w.heap.size w W2 := hb.trans (hb2.mono hb.size)
  have hL2 : w.heap.size < W2.heap.size := Nat.lt_of_lt_of_le hlt hb2.size
  have q3 := (hb2.cell (p := ⟨w.heap.size, 3, none⟩) hlt).trans q3
  clear hb2 HC2 q2
  rcases hm2 with rfl | ⟨hm02, hm12, k2⟩
  · go_wp2
    go_ret
    exact ⟨-1, rfl, hB2, .inl rfl⟩
  have hn2 : ¬ m2 < 0 := by omega
  generalize hg2 : x.stk.length = g2 at hm12
  go_upto_region 4 with fail
  have HC3 := Hid.mk' (qzFrms_c a2 c2 x.frs m2 W2 (by omega) (by omega) (R2.out.up (up_below hB2)) l3)
  go_wp2_with fail
  refine HC3.out.mono ?_
  rintro e W3 ⟨m3, rfl, hb3, hm3⟩
  have hB3 : Below w.heap.size w W3 := hB2.trans (hb3.mono hB2.size)
  have hL3 : w.heap.size < W3.heap.size := Nat.lt_of_lt_of_le hL2 hb3.size
  clear hb3 HC3 q3
  rcases hm3 with rfl | ⟨hm03, hm13, k3⟩
  · go_wp2
    go_ret
    exact ⟨-1, rfl, hB3, .inl rfl⟩
  have hn3 : ¬ m3 < 0 := by omega
  generalize hg3 : (x.frs.length + (x.frs.map Frm.sz).sum) = g3 at hm13
  go_wp2
  go_ret
  exact ⟨m3, rfl, hB3, .inr ⟨hm03, by simp only [Sta.sz]; omega, ⟨k2, k3⟩⟩⟩
end Go.Proofs.Ytfaajmhmcdoibaa
