import Derived.Test.YtdbmolambolmgaaGreatR1
import Derived.Test.YtdbmolambolmgaaGreatK14
set_option linter.all false
set_option linter.unusedVariables false
namespace Go.Proofs.YtdbmolambolmgaaGreat
open Go.RowKit Go.Sort
set_option maxRecDepth 100000
theorem rzInts_c (a : Option Addr) (n c : Nat) (left : Int) (w : World) (h0 : 0 ≤ left) (h1 : left ≤ 1048576) (hn : n ≤ 9223372036854775807) :
    Calls Tryz.prog 21 #[.slice a n c, .int .i64 left] w fun e w' => ∃ r : Int, e = .returned (.int .i64 r) ∧ Below w.heap.size w w' ∧ (r = -1 ∨ (0 ≤ r ∧ r ≤ left ∧ n ≤ 1048576)) := by
  have hw : IntKind.i64.wrap (left - n) = left - n := by rw [IntKind.wrap_i64]; omega
  by_cases h : left - n < 0
  · go_enter Tryz.func21, Tryz.ntmps21
    go_wp2
    go_ret
    exact ⟨-1, rfl, Below.refl _ _, .inl rfl⟩
  · go_enter Tryz.func21, Tryz.ntmps21
    go_wp2
    go_ret
    exact ⟨left - n, rfl, Below.refl _ _, .inr ⟨by omega, by omega, by omega⟩⟩
theorem rzBytes_c (a : Option Addr) (n c : Nat) (left : Int) (w : World) (h0 : 0 ≤ left) (h1 : left ≤ 1048576) (hn : n ≤ 9223372036854775807) :
    Calls Tryz.prog 168 #[.slice a n c, .int .i64 left] w fun e w' => ∃ r : Int, e = .returned (.int .i64 r) ∧ Below w.heap.size w w' ∧ (r = -1 ∨ (0 ≤ r ∧ r ≤ left ∧ n ≤ 1048576)) := by
  have hw : IntKind.i64.wrap (left - n) = left - n := by rw [IntKind.wrap_i64]; omega
  by_cases h : left - n < 0
  · go_enter Tryz.func168, Tryz.ntmps168
    go_wp2
    go_ret
    exact ⟨-1, rfl, Below.refl _ _, .inl rfl⟩
  · go_enter Tryz.func168, Tryz.ntmps168
    go_wp2
    go_ret
    exact ⟨left - n, rfl, Below.refl _ _, .inr ⟨by omega, by omega, by omega⟩⟩
theorem rzLimitss_c (a : Option Addr) (n c : Nat) (left : Int) (w : World) (h0 : 0 ≤ left) (h1 : left ≤ 1048576) (hn : n ≤ 9223372036854775807) :
    Calls Tryz.prog 22 #[.slice a n c, .int .i64 left] w fun e w' => ∃ r : Int, e = .returned (.int .i64 r) ∧ Below w.heap.size w w' ∧ (r = -1 ∨ (0 ≤ r ∧ r ≤ left ∧ n ≤ 1048576)) := by
  have hw : IntKind.i64.wrap (left - n) = left - n := by rw [IntKind.wrap_i64]; omega
  by_cases h : left - n < 0
  · go_enter Tryz.func22, Tryz.ntmps22
    go_wp2
    go_ret
    exact ⟨-1, rfl, Below.refl _ _, .inl rfl⟩
  · go_enter Tryz.func22, Tryz.ntmps22
    go_wp2
    go_ret
    exact ⟨left - n, rfl, Below.refl _ _, .inr ⟨by omega, by omega, by omega⟩⟩
theorem rzGrps_c (a : Option Addr) (n c : Nat) (left : Int) (w : World) (h0 : 0 ≤ left) (h1 : left ≤ 1048576) (hn : n ≤ 9223372036854775807) :
    Calls Tryz.prog 167 #[.slice a n c, .int .i64 left] w fun e w' => ∃ r : Int, e = .returned (.int .i64 r) ∧ Below w.heap.size w w' ∧ (r = -1 ∨ (0 ≤ r ∧ r ≤ left ∧ n ≤ 1048576)) := by
  have hw : IntKind.i64.wrap (left - n) = left - n := by rw [IntKind.wrap_i64]; omega
  by_cases h : left - n < 0
  · go_enter Tryz.func167, Tryz.ntmps167
    go_wp2
    go_ret
    exact ⟨-1, rfl, Below.refl _ _, .inl rfl⟩
  · go_enter Tryz.func167, Tryz.ntmps167
    go_wp2
    go_ret
    exact ⟨left - n, rfl, Below.refl _ _, .inr ⟨by omega, by omega, by omega⟩⟩
set_option maxHeartbeats 4000000 in
theorem rzFType_c (x : FType) (a1 : Option Addr) (c1 : Nat) (a2 : Option Addr) (c2 : Nat) (left : Int) (w : World) (h0 : 0 ≤ left) (h1 : left ≤ 1048576) (hI : FType.Is 0 w x a1 a2) (hl : FType.LB 9223372036854775807 x) :
    Calls Tryz.prog 100 #[.agg #[.slice a1 x.ps.length c1, .slice a2 x.rs.length c2], .int .i64 left] w fun e w' => ∃ r : Int, e = .returned (.int .i64 r) ∧ Below w.heap.size w w' ∧ (r = -1 ∨ (0 ≤ r ∧ r ≤ left ∧ FType.LB 1048576 x)) := by
  obtain ⟨l0, l1⟩ := hl
  obtain ⟨r1, r2⟩ := hI
  have R1 := Hid.mk' r1
  have R2 := Hid.mk' r2
  clear r1 r2
  go_enter Tryz.func100, Tryz.ntmps100
  go_upto_region 1 with fail
  refine wp_gen (fun W => (W.cell? ⟨w.heap.size, 0, none⟩ = some (.slice a1 x.ps.length c1) ∧ W.cell? ⟨w.heap.size, 1, none⟩ = some (.slice a2 x.rs.length c2)) ∧ Below w.heap.size w W ∧ w.heap.size < W.heap.size) ⟨⟨cell_new rfl rfl, cell_new rfl rfl⟩, (Below.refl _ _).alloc (Nat.le_refl _) _, by simp⟩ ?_
  rintro W ⟨⟨q0, q1⟩, hb, hlt⟩
  have HC0 := Hid.mk' (rzInts_c a1 x.ps.length c1 left W (by omega) (by omega) l0)
  go_wp2_with fail
  refine HC0.out.mono ?_
  rintro e W0 ⟨m0, rfl, hb0, hm0⟩
  have hB0 : Below w.heap.size w W0 := hb.trans (hb0.mono hb.size)
  have hL0 : w.heap.size < W0.heap.size := Nat.lt_of_lt_of_le hlt hb0.size
  have q1 := (hb0.cell (p := ⟨w.heap.size, 1, none⟩) hlt).trans q1
  clear hb0 HC0 q0
  rcases hm0 with rfl | ⟨hm00, hm10, k0⟩
  · go_wp2
    go_ret
    exact ⟨-1, rfl, hB0, .inl rfl⟩
  have hn0 : ¬ m0 < 0 := by omega
  have hm10 : m0 ≤ left := by omega
  go_upto_region 4 with fail
  have HC1 := Hid.mk' (rzInts_c a2 x.rs.length c2 m0 W0 (by omega) (by omega) l1)
  go_wp2_with fail
  refine HC1.out.mono ?_
  rintro e W1 ⟨m1, rfl, hb1, hm1⟩
  have hB1 : Below w.heap.size w W1 := hB0.trans (hb1.mono hB0.size)
  have hL1 : w.heap.size < W1.heap.size := Nat.lt_of_lt_of_le hL0 hb1.size
  clear hb1 HC1 q1
  rcases hm1 with rfl | ⟨hm01, hm11, k1⟩
  · go_wp2
    go_ret
    exact ⟨-1, rfl, hB1, .inl rfl⟩
  have hn1 : ¬ m1 < 0 := by omega
  have hm11 : m1 ≤ left := by omega
  go_wp2
  go_ret
  exact ⟨m1, rfl, hB1, .inr ⟨hm01, hm11, ⟨k0, k1⟩⟩⟩
set_option maxHeartbeats 4000000 in
theorem rzFTypes_c (a : Option Addr) (c : Nat) (xs : List FType) (left : Int) (w : World) (h0 : 0 ≤ left) (h1 : left ≤ 1048576) (hL : FType.Ls 0 w a xs) (hl : xs.length ≤ 9223372036854775807 ∧ ∀ i, i < xs.length → FType.LB 9223372036854775807 (xs.getD i FType.z)) :
    Calls Tryz.prog 19 #[.slice a xs.length c, .int .i64 left] w fun e w' => ∃ r : Int, e = .returned (.int .i64 r) ∧ Below w.heap.size w w' ∧ (r = -1 ∨ (0 ≤ r ∧ r ≤ left ∧ xs.length ≤ 1048576 ∧ ∀ i, i < xs.length → FType.LB 1048576 (xs.getD i FType.z))) := by
  obtain ⟨hn, hl⟩ := hl
  have hw : IntKind.i64.wrap (left - xs.length) = left - xs.length := by rw [IntKind.wrap_i64]; omega
  by_cases h : left - xs.length < 0
  · clear hL
    go_enter Tryz.func19, Tryz.ntmps19
    go_wp2
    go_ret
    exact ⟨-1, rfl, Below.refl _ _, .inl rfl⟩
  · have HL := Hid.mk' hL
    have Hl := Hid.mk' hl
    clear hL hl
    go_enter Tryz.func19, Tryz.ntmps19
    go_wp2
    go_loopw [1, 5] (fun q i wr => ∃ (k : Nat) (r : Int), k ≤ xs.length ∧ i = .int .i64 k ∧ q = .int .i64 r ∧ 0 ≤ r ∧ r ≤ left ∧ (∀ i, i < k → FType.LB 1048576 (xs.getD i FType.z)) ∧ Below w.heap.size w wr) (fun _ i _ => xs.length - (intOf i).toNat)
    case atStart => exact ⟨0, _, Nat.zero_le _, rfl, rfl, by omega, by omega, fun i hi => by omega, Below.refl _ _⟩
    case round =>
      obtain ⟨k, r, hk, rfl, rfl, hr0, hr1, hall, hb⟩ := hrel
      by_cases hlt : k < xs.length
      · rcases HL.out.up (up_below hb) with hx | ⟨b, o, ea, _, hc⟩
        · subst hx; simp at hlt
        subst ea
        have hxk := hc k hlt
        have hlk := Hl.out k hlt
        have hki : (k : Int) < (xs.length : Int) := by omega
        obtain ⟨x, hx⟩ : ∃ x, x = xs.getD k FType.z := ⟨_, rfl⟩
        rw [← hx] at hxk hlk
        obtain ⟨a1, c1, a2, c2, ⟨q0, q1⟩, hi⟩ := hxk
        have HX := Hid.mk' hx
        have HA := Hid.mk' hall
        have HS := Hid.mk' (rzFType_c x a1 c1 a2 c2 r wr hr0 (by omega) hi hlk)
        clear hx hc hall HL hi hlk Hl
        go_wp2_with fail
        refine HS.out.mono ?_
        rintro e w1 ⟨r1, rfl, hb1, hr1'⟩
        have hb2 : Below w.heap.size w w1 := hb.trans (hb1.mono hb.size)
        clear hb1 q0 q1 HS
        rcases hr1' with rfl | ⟨hr2, hr3, hr4⟩
        · go_wp2
          go_ret
          exact ⟨-1, rfl, hb2, .inl rfl⟩
        · have f : ¬ r1 < 0 := by omega
          have HR := Hid.mk' hr4
          clear hr4
          go_wp2
          go_roundw
          case rel => exact ⟨k + 1, r1, by omega, by go_num, rfl, hr2, by omega, fun i hi => by
            rcases (by omega : i < k ∨ i = k) with h | h
            · exact HA.out i h
            · subst h; rw [← HX.out]; exact HR.out, hb2⟩
          case measure => simp [intOf]; omega
      · have e : k = xs.length := by omega
        subst e
        go_wp2
        go_ret
        exact ⟨r, rfl, hb, .inr ⟨hr0, hr1, by omega, hall⟩⟩
set_option maxHeartbeats 4000000 in
theorem rzIn_c (x : In) (a1 : Option Addr) (c1 : Nat) (left : Int) (w : World) (h0 : 0 ≤ left) (h1 : left ≤ 1048576) (hI : In.Is 0 w x a1) (hl : In.LB 9223372036854775807 x) :
    Calls Tryz.prog 213 #[.agg #[.int .i64 x.op, .int .i64 x.a, .int .i64 x.b, .int .u64 x.v, .slice a1 x.l.length c1], .int .i64 left] w fun e w' => ∃ r : Int, e = .returned (.int .i64 r) ∧ Below w.heap.size w w' ∧ (r = -1 ∨ (0 ≤ r ∧ r ≤ left ∧ In.LB 1048576 x)) := by
  have l4 : x.l.length ≤ 9223372036854775807 := hl
  have r1 := hI
  clear hI
  have R1 := Hid.mk' r1
  clear r1
  go_enter Tryz.func213, Tryz.ntmps213
  go_upto_region 1 with fail
  refine wp_gen (fun W => (W.cell? ⟨w.heap.size, 4, none⟩ = some (.slice a1 x.l.length c1)) ∧ Below w.heap.size w W ∧ w.heap.size < W.heap.size) ⟨cell_new rfl rfl, (Below.refl _ _).alloc (Nat.le_refl _) _, by simp⟩ ?_
  rintro W ⟨q4, hb, hlt⟩
  have HC4 := Hid.mk' (rzInts_c a1 x.l.length c1 left W (by omega) (by omega) l4)
  go_wp2_with fail
  refine HC4.out.mono ?_
  rintro e W4 ⟨m4, rfl, hb4, hm4⟩
  have hB4 : Below w.heap.size w W4 := hb.trans (hb4.mono hb.size)
  have hL4 : w.heap.size < W4.heap.size := Nat.lt_of_lt_of_le hlt hb4.size
  clear hb4 HC4 q4
  rcases hm4 with rfl | ⟨hm04, hm14, k4⟩
  · go_wp2
    go_ret
    exact ⟨-1, rfl, hB4, .inl rfl⟩
  have hn4 : ¬ m4 < 0 := by omega
  have hm14 : m4 ≤ left := by omega
  go_wp2
  go_ret
  exact ⟨m4, rfl, hB4, .inr ⟨hm04, hm14, k4⟩⟩
set_option maxHeartbeats 4000000 in
theorem rzIns_c (a : Option Addr) (c : Nat) (xs : List In) (left : Int) (w : World) (h0 : 0 ≤ left) (h1 : left ≤ 1048576) (hL : In.Ls 0 w a xs) (hl : xs.length ≤ 9223372036854775807 ∧ ∀ i, i < xs.length → In.LB 9223372036854775807 (xs.getD i I0)) :
    Calls Tryz.prog 166 #[.slice a xs.length c, .int .i64 left] w fun e w' => ∃ r : Int, e = .returned (.int .i64 r) ∧ Below w.heap.size w w' ∧ (r = -1 ∨ (0 ≤ r ∧ r ≤ left ∧ xs.length ≤ 1048576 ∧ ∀ i, i < xs.length → In.LB 1048576 (xs.getD i I0))) := by
  obtain ⟨hn, hl⟩ := hl
  have hw : IntKind.i64.wrap (left - xs.length) = left - xs.length := by rw [IntKind.wrap_i64]; omega
  by_cases h : left - xs.length < 0
  · clear hL
    go_enter Tryz.func166, Tryz.ntmps166
    go_wp2
    go_ret
    exact ⟨-1, rfl, Below.refl _ _, .inl rfl⟩
  · have HL := Hid.mk' hL
    have Hl := Hid.mk' hl
    clear hL hl
    go_enter Tryz.func166, Tryz.ntmps166
    go_wp2
    go_loopw [1, 5] (fun q i wr => ∃ (k : Nat) (r : Int), k ≤ xs.length ∧ i = .int .i64 k ∧ q = .int .i64 r ∧ 0 ≤ r ∧ r ≤ left ∧ (∀ i, i < k → In.LB 1048576 (xs.getD i I0)) ∧ Below w.heap.size w wr) (fun _ i _ => xs.length - (intOf i).toNat)
    case atStart => exact ⟨0, _, Nat.zero_le _, rfl, rfl, by omega, by omega, fun i hi => by omega, Below.refl _ _⟩
    case round =>
      obtain ⟨k, r, hk, rfl, rfl, hr0, hr1, hall, hb⟩ := hrel
      by_cases hlt : k < xs.length
      · rcases HL.out.up (up_below hb) with hx | ⟨b, o, ea, _, hc⟩
        · subst hx; simp at hlt
        subst ea
        have hxk := hc k hlt
        have hlk := Hl.out k hlt
        have hki : (k : Int) < (xs.length : Int) := by omega
        obtain ⟨x, hx⟩ : ∃ x, x = xs.getD k I0 := ⟨_, rfl⟩
        rw [← hx] at hxk hlk
        obtain ⟨a1, c1, ⟨q0, q1, q2, q3, q4⟩, hi⟩ := hxk
        have HX := Hid.mk' hx
        have HA := Hid.mk' hall
        have HS := Hid.mk' (rzIn_c x a1 c1 r wr hr0 (by omega) hi hlk)
        clear hx hc hall HL hi hlk Hl
        go_wp2_with fail
        refine HS.out.mono ?_
        rintro e w1 ⟨r1, rfl, hb1, hr1'⟩
        have hb2 : Below w.heap.size w w1 := hb.trans (hb1.mono hb.size)
        clear hb1 q0 q1 q2 q3 q4 HS
        rcases hr1' with rfl | ⟨hr2, hr3, hr4⟩
        · go_wp2
          go_ret
          exact ⟨-1, rfl, hb2, .inl rfl⟩
        · have f : ¬ r1 < 0 := by omega
          have HR := Hid.mk' hr4
          clear hr4
          go_wp2
          go_roundw
          case rel => exact ⟨k + 1, r1, by omega, by go_num, rfl, hr2, by omega, fun i hi => by
            rcases (by omega : i < k ∨ i = k) with h | h
            · exact HA.out i h
            · subst h; rw [← HX.out]; exact HR.out, hb2⟩
          case measure => simp [intOf]; omega
      · have e : k = xs.length := by omega
        subst e
        go_wp2
        go_ret
        exact ⟨r, rfl, hb, .inr ⟨hr0, hr1, by omega, hall⟩⟩
set_option maxHeartbeats 4000000 in
theorem rzImp_c (x : Imp) (left : Int) (w : World) (h0 : 0 ≤ left) (h1 : left ≤ 1048576) (hI : Imp.Is 0 w x) (hl : Imp.LB 9223372036854775807 x) :
    Calls Tryz.prog 101 #[.agg #[.string x.mod, .string x.nm, .int .i64 x.kind, .int .i64 x.ty, .int .i64 x.lim.min, .int .i64 x.lim.max, .bool x.lim.has, .int .i64 x.gl.ty, .bool x.gl.mu], .int .i64 left] w fun e w' => ∃ r : Int, e = .returned (.int .i64 r) ∧ Below w.heap.size w w' ∧ (r = -1 ∨ (0 ≤ r ∧ r ≤ left ∧ Imp.LB 1048576 x)) := by
  obtain ⟨l0, l1⟩ := hl
  go_enter Tryz.func101, Tryz.ntmps101
  go_upto_region 1 with fail
  refine wp_gen (fun W => (W.cell? ⟨w.heap.size, 0, none⟩ = some (.string x.mod) ∧ W.cell? ⟨w.heap.size, 1, none⟩ = some (.string x.nm)) ∧ Below w.heap.size w W ∧ w.heap.size < W.heap.size) ⟨⟨cell_new rfl rfl, cell_new rfl rfl⟩, (Below.refl _ _).alloc (Nat.le_refl _) _, by simp⟩ ?_
  rintro W ⟨⟨q0, q1⟩, hb, hlt⟩
  have hw0 : IntKind.i64.wrap (left - (x.mod.size : Int)) = left - (x.mod.size : Int) := by rw [IntKind.wrap_i64]; omega
  by_cases hn0 : left - (x.mod.size : Int) < 0
  · go_wp2
    go_ret
    exact ⟨-1, rfl, hb, .inl rfl⟩
  have k0 : x.mod.size ≤ 1048576 := by omega
  have hm00 : 0 ≤ left - (x.mod.size : Int) := by omega
  have hm10 : left - (x.mod.size : Int) ≤ left := by omega
  go_upto_region 4 with fail
  have hw1 : IntKind.i64.wrap ((left - (x.mod.size : Int)) - (x.nm.size : Int)) = (left - (x.mod.size : Int)) - (x.nm.size : Int) := by rw [IntKind.wrap_i64]; omega
  by_cases hn1 : (left - (x.mod.size : Int)) - (x.nm.size : Int) < 0
  · go_wp2
    go_ret
    exact ⟨-1, rfl, hb, .inl rfl⟩
  have k1 : x.nm.size ≤ 1048576 := by omega
  have hm01 : 0 ≤ (left - (x.mod.size : Int)) - (x.nm.size : Int) := by omega
  have hm11 : (left - (x.mod.size : Int)) - (x.nm.size : Int) ≤ left := by omega
  go_wp2
  go_ret
  exact ⟨((left - (x.mod.size : Int)) - (x.nm.size : Int)), rfl, hb, .inr ⟨hm01, hm11, ⟨k0, k1⟩⟩⟩
set_option maxHeartbeats 4000000 in
theorem rzImps_c (a : Option Addr) (c : Nat) (xs : List Imp) (left : Int) (w : World) (h0 : 0 ≤ left) (h1 : left ≤ 1048576) (hL : Imp.Ls 0 w a xs) (hl : xs.length ≤ 9223372036854775807 ∧ ∀ i, i < xs.length → Imp.LB 9223372036854775807 (xs.getD i Imp.z)) :
    Calls Tryz.prog 20 #[.slice a xs.length c, .int .i64 left] w fun e w' => ∃ r : Int, e = .returned (.int .i64 r) ∧ Below w.heap.size w w' ∧ (r = -1 ∨ (0 ≤ r ∧ r ≤ left ∧ xs.length ≤ 1048576 ∧ ∀ i, i < xs.length → Imp.LB 1048576 (xs.getD i Imp.z))) := by
  obtain ⟨hn, hl⟩ := hl
  have hw : IntKind.i64.wrap (left - xs.length) = left - xs.length := by rw [IntKind.wrap_i64]; omega
  by_cases h : left - xs.length < 0
  · clear hL
    go_enter Tryz.func20, Tryz.ntmps20
    go_wp2
    go_ret
    exact ⟨-1, rfl, Below.refl _ _, .inl rfl⟩
  · have HL := Hid.mk' hL
    have Hl := Hid.mk' hl
    clear hL hl
    go_enter Tryz.func20, Tryz.ntmps20
    go_wp2
    go_loopw [1, 5] (fun q i wr => ∃ (k : Nat) (r : Int), k ≤ xs.length ∧ i = .int .i64 k ∧ q = .int .i64 r ∧ 0 ≤ r ∧ r ≤ left ∧ (∀ i, i < k → Imp.LB 1048576 (xs.getD i Imp.z)) ∧ Below w.heap.size w wr) (fun _ i _ => xs.length - (intOf i).toNat)
    case atStart => exact ⟨0, _, Nat.zero_le _, rfl, rfl, by omega, by omega, fun i hi => by omega, Below.refl _ _⟩
    case round =>
      obtain ⟨k, r, hk, rfl, rfl, hr0, hr1, hall, hb⟩ := hrel
      by_cases hlt : k < xs.length
      · rcases HL.out.up (up_below hb) with hx | ⟨b, o, ea, _, hc⟩
        · subst hx; simp at hlt
        subst ea
        have hxk := hc k hlt
        have hlk := Hl.out k hlt
        have hki : (k : Int) < (xs.length : Int) := by omega
        obtain ⟨x, hx⟩ : ∃ x, x = xs.getD k Imp.z := ⟨_, rfl⟩
        rw [← hx] at hxk hlk
        obtain ⟨⟨q0, q1, q2, q3, q4, q5, q6, q7, q8⟩, hi⟩ := hxk
        have HX := Hid.mk' hx
        have HA := Hid.mk' hall
        have HS := Hid.mk' (rzImp_c x r wr hr0 (by omega) hi hlk)
        clear hx hc hall HL hi hlk Hl
        go_wp2_with fail
        refine HS.out.mono ?_
        rintro e w1 ⟨r1, rfl, hb1, hr1'⟩
        have hb2 : Below w.heap.size w w1 := hb.trans (hb1.mono hb.size)
        clear hb1 q0 q1 q2 q3 q4 q5 q6 q7 q8 HS
        rcases hr1' with rfl | ⟨hr2, hr3, hr4⟩
        · go_wp2
          go_ret
          exact ⟨-1, rfl, hb2, .inl rfl⟩
        · have f : ¬ r1 < 0 := by omega
          have HR := Hid.mk' hr4
          clear hr4
          go_wp2
          go_roundw
          case rel => exact ⟨k + 1, r1, by omega, by go_num, rfl, hr2, by omega, fun i hi => by
            rcases (by omega : i < k ∨ i = k) with h | h
            · exact HA.out i h
            · subst h; rw [← HX.out]; exact HR.out, hb2⟩
          case measure => simp [intOf]; omega
      · have e : k = xs.length := by omega
        subst e
        go_wp2
        go_ret
        exact ⟨r, rfl, hb, .inr ⟨hr0, hr1, by omega, hall⟩⟩
end Go.Proofs.YtdbmolambolmgaaGreat

set_option linter.unusedVariables false
namespace Go.Proofs.YtdbmolambolmgaaGreat
open Go.RowKit Go.Sort
set_option maxRecDepth 100000
set_option maxHeartbeats 4000000 in
theorem rzGlob_c (x : Glob) (a1 : Option Addr) (c1 : Nat) (left : Int) (w : World) (h0 : 0 ≤ left) (h1 : left ≤ 1048576) (hI : Glob.Is 0 w x a1) (hl : Glob.LB 9223372036854775807 x) :
    Calls Tryz.prog 102 #[.agg #[.int .i64 x.ty.ty, .bool x.ty.mu, .slice a1 x.ini.length c1], .int .i64 left] w fun e w' => ∃ r : Int, e = .returned (.int .i64 r) ∧ Below w.heap.size w w' ∧ (r = -1 ∨ (0 ≤ r ∧ r ≤ left ∧ Glob.LB 1048576 x)) := by
  have l2 := hl
  have r1 := hI
  clear hI
  have R1 := Hid.mk' r1
  clear r1
  go_enter Tryz.func102, Tryz.ntmps102
  go_upto_region 1 with fail
  refine wp_gen (fun W => (W.cell? ⟨w.heap.size, 2, none⟩ = some (.slice a1 x.ini.length c1)) ∧ Below w.heap.size w W ∧ w.heap.size < W.heap.size) ⟨cell_new rfl rfl, (Below.refl _ _).alloc (Nat.le_refl _) _, by simp⟩ ?_
  rintro W ⟨q2, hb, hlt⟩
  have HC2 := Hid.mk' (rzIns_c a1 c1 x.ini left W (by omega) (by omega) (R1.out.up (up_below hb)) l2)
  go_wp2_with fail
  refine HC2.out.mono ?_
  rintro e W2 ⟨m2, rfl, hb2, hm2⟩
  have hB2 : Below w.heap.size w W2 := hb.trans (hb2.mono hb.size)
  have hL2 : w.heap.size < W2.heap.size := Nat.lt_of_lt_of_le hlt hb2.size
  clear hb2 HC2 q2
  rcases hm2 with rfl | ⟨hm02, hm12, k2⟩
  · go_wp2
    go_ret
    exact ⟨-1, rfl, hB2, .inl rfl⟩
  have hn2 : ¬ m2 < 0 := by omega
  have hm12 : m2 ≤ left := by omega
  go_wp2
  go_ret
  exact ⟨m2, rfl, hB2, .inr ⟨hm02, hm12, k2⟩⟩
set_option maxHeartbeats 4000000 in
theorem rzGlobs_c (a : Option Addr) (c : Nat) (xs : List Glob) (left : Int) (w : World) (h0 : 0 ≤ left) (h1 : left ≤ 1048576) (hL : Glob.Ls 0 w a xs) (hl : xs.length ≤ 9223372036854775807 ∧ ∀ i, i < xs.length → Glob.LB 9223372036854775807 (xs.getD i Glob.z)) :
    Calls Tryz.prog 23 #[.slice a xs.length c, .int .i64 left] w fun e w' => ∃ r : Int, e = .returned (.int .i64 r) ∧ Below w.heap.size w w' ∧ (r = -1 ∨ (0 ≤ r ∧ r ≤ left ∧ xs.length ≤ 1048576 ∧ ∀ i, i < xs.length → Glob.LB 1048576 (xs.getD i Glob.z))) := by
  obtain ⟨hn, hl⟩ := hl
  have hw : IntKind.i64.wrap (left - xs.length) = left - xs.length := by rw [IntKind.wrap_i64]; omega
  by_cases h : left - xs.length < 0
  · clear hL
    go_enter Tryz.func23, Tryz.ntmps23
    go_wp2
    go_ret
    exact ⟨-1, rfl, Below.refl _ _, .inl rfl⟩
  · have HL := Hid.mk' hL
    have Hl := Hid.mk' hl
    clear hL hl
    go_enter Tryz.func23, Tryz.ntmps23
    go_wp2
    go_loopw [1, 5] (fun q i wr => ∃ (k : Nat) (r : Int), k ≤ xs.length ∧ i = .int .i64 k ∧ q = .int .i64 r ∧ 0 ≤ r ∧ r ≤ left ∧ (∀ i, i < k → Glob.LB 1048576 (xs.getD i Glob.z)) ∧ Below w.heap.size w wr) (fun _ i _ => xs.length - (intOf i).toNat)
    case atStart => exact ⟨0, _, Nat.zero_le _, rfl, rfl, by omega, by omega, fun i hi => by omega, Below.refl _ _⟩
    case round =>
      obtain ⟨k, r, hk, rfl, rfl, hr0, hr1, hall, hb⟩ := hrel
      by_cases hlt : k < xs.length
      · rcases HL.out.up (up_below hb) with hx | ⟨b, o, ea, _, hc⟩
        · subst hx; simp at hlt
        subst ea
        have hxk := hc k hlt
        have hlk := Hl.out k hlt
        have hki : (k : Int) < (xs.length : Int) := by omega
        obtain ⟨x, hx⟩ : ∃ x, x = xs.getD k Glob.z := ⟨_, rfl⟩
        rw [← hx] at hxk hlk
        obtain ⟨a1, c1, ⟨q0, q1, q2⟩, hi⟩ := hxk
        have HX := Hid.mk' hx
        have HA := Hid.mk' hall
        have HS := Hid.mk' (rzGlob_c x a1 c1 r wr hr0 (by omega) hi hlk)
        clear hx hc hall HL hi hlk Hl
        go_wp2_with fail
        refine HS.out.mono ?_
        rintro e w1 ⟨r1, rfl, hb1, hr1'⟩
        have hb2 : Below w.heap.size w w1 := hb.trans (hb1.mono hb.size)
        clear hb1 q0 q1 q2 HS
        rcases hr1' with rfl | ⟨hr2, hr3, hr4⟩
        · go_wp2
          go_ret
          exact ⟨-1, rfl, hb2, .inl rfl⟩
        · have f : ¬ r1 < 0 := by omega
          have HR := Hid.mk' hr4
          clear hr4
          go_wp2
          go_roundw
          case rel => exact ⟨k + 1, r1, by omega, by go_num, rfl, hr2, by omega, fun i hi => by
            rcases (by omega : i < k ∨ i = k) with h | h
            · exact HA.out i h
            · subst h; rw [← HX.out]; exact HR.out, hb2⟩
          case measure => simp [intOf]; omega
      · have e : k = xs.length := by omega
        subst e
        go_wp2
        go_ret
        exact ⟨r, rfl, hb, .inr ⟨hr0, hr1, by omega, hall⟩⟩
set_option maxHeartbeats 4000000 in
theorem rzExp_c (x : Exp) (left : Int) (w : World) (h0 : 0 ≤ left) (h1 : left ≤ 1048576) (hI : Exp.Is 0 w x) (hl : Exp.LB 9223372036854775807 x) :
    Calls Tryz.prog 103 #[.agg #[.string x.nm, .int .i64 x.kind, .int .i64 x.ix], .int .i64 left] w fun e w' => ∃ r : Int, e = .returned (.int .i64 r) ∧ Below w.heap.size w w' ∧ (r = -1 ∨ (0 ≤ r ∧ r ≤ left ∧ Exp.LB 1048576 x)) := by
  have l0 : x.nm.size ≤ 9223372036854775807 := hl
  go_enter Tryz.func103, Tryz.ntmps103
  go_upto_region 1 with fail
  refine wp_gen (fun W => (W.cell? ⟨w.heap.size, 0, none⟩ = some (.string x.nm)) ∧ Below w.heap.size w W ∧ w.heap.size < W.heap.size) ⟨cell_new rfl rfl, (Below.refl _ _).alloc (Nat.le_refl _) _, by simp⟩ ?_
  rintro W ⟨q0, hb, hlt⟩
  have hw0 : IntKind.i64.wrap (left - (x.nm.size : Int)) = left - (x.nm.size : Int) := by rw [IntKind.wrap_i64]; omega
  by_cases hn0 : left - (x.nm.size : Int) < 0
  · go_wp2
    go_ret
    exact ⟨-1, rfl, hb, .inl rfl⟩
  have k0 : x.nm.size ≤ 1048576 := by omega
  have hm00 : 0 ≤ left - (x.nm.size : Int) := by omega
  have hm10 : left - (x.nm.size : Int) ≤ left := by omega
  go_wp2
  go_ret
  exact ⟨(left - (x.nm.size : Int)), rfl, hb, .inr ⟨hm00, hm10, k0⟩⟩
set_option maxHeartbeats 4000000 in
theorem rzExps_c (a : Option Addr) (c : Nat) (xs : List Exp) (left : Int) (w : World) (h0 : 0 ≤ left) (h1 : left ≤ 1048576) (hL : Exp.Ls 0 w a xs) (hl : xs.length ≤ 9223372036854775807 ∧ ∀ i, i < xs.length → Exp.LB 9223372036854775807 (xs.getD i Exp.z)) :
    Calls Tryz.prog 24 #[.slice a xs.length c, .int .i64 left] w fun e w' => ∃ r : Int, e = .returned (.int .i64 r) ∧ Below w.heap.size w w' ∧ (r = -1 ∨ (0 ≤ r ∧ r ≤ left ∧ xs.length ≤ 1048576 ∧ ∀ i, i < xs.length → Exp.LB 1048576 (xs.getD i Exp.z))) := by
  obtain ⟨hn, hl⟩ := hl
  have hw : IntKind.i64.wrap (left - xs.length) = left - xs.length := by rw [IntKind.wrap_i64]; omega
  by_cases h : left - xs.length < 0
  · clear hL
    go_enter Tryz.func24, Tryz.ntmps24
    go_wp2
    go_ret
    exact ⟨-1, rfl, Below.refl _ _, .inl rfl⟩
  · have HL := Hid.mk' hL
    have Hl := Hid.mk' hl
    clear hL hl
    go_enter Tryz.func24, Tryz.ntmps24
    go_wp2
    go_loopw [1, 5] (fun q i wr => ∃ (k : Nat) (r : Int), k ≤ xs.length ∧ i = .int .i64 k ∧ q = .int .i64 r ∧ 0 ≤ r ∧ r ≤ left ∧ (∀ i, i < k → Exp.LB 1048576 (xs.getD i Exp.z)) ∧ Below w.heap.size w wr) (fun _ i _ => xs.length - (intOf i).toNat)
    case atStart => exact ⟨0, _, Nat.zero_le _, rfl, rfl, by omega, by omega, fun i hi => by omega, Below.refl _ _⟩
    case round =>
      obtain ⟨k, r, hk, rfl, rfl, hr0, hr1, hall, hb⟩ := hrel
      by_cases hlt : k < xs.length
      · rcases HL.out.up (up_below hb) with hx | ⟨b, o, ea, _, hc⟩
        · subst hx; simp at hlt
        subst ea
        have hxk := hc k hlt
        have hlk := Hl.out k hlt
        have hki : (k : Int) < (xs.length : Int) := by omega
        obtain ⟨x, hx⟩ : ∃ x, x = xs.getD k Exp.z := ⟨_, rfl⟩
        rw [← hx] at hxk hlk
        obtain ⟨⟨q0, q1, q2⟩, hi⟩ := hxk
        have HX := Hid.mk' hx
        have HA := Hid.mk' hall
        have HS := Hid.mk' (rzExp_c x r wr hr0 (by omega) hi hlk)
        clear hx hc hall HL hi hlk Hl
        go_wp2_with fail
        refine HS.out.mono ?_
        rintro e w1 ⟨r1, rfl, hb1, hr1'⟩
        have hb2 : Below w.heap.size w w1 := hb.trans (hb1.mono hb.size)
        clear hb1 q0 q1 q2 HS
        rcases hr1' with rfl | ⟨hr2, hr3, hr4⟩
        · go_wp2
          go_ret
          exact ⟨-1, rfl, hb2, .inl rfl⟩
        · have f : ¬ r1 < 0 := by omega
          have HR := Hid.mk' hr4
          clear hr4
          go_wp2
          go_roundw
          case rel => exact ⟨k + 1, r1, by omega, by go_num, rfl, hr2, by omega, fun i hi => by
            rcases (by omega : i < k ∨ i = k) with h | h
            · exact HA.out i h
            · subst h; rw [← HX.out]; exact HR.out, hb2⟩
          case measure => simp [intOf]; omega
      · have e : k = xs.length := by omega
        subst e
        go_wp2
        go_ret
        exact ⟨r, rfl, hb, .inr ⟨hr0, hr1, by omega, hall⟩⟩
set_option maxHeartbeats 4000000 in
theorem rzEle_c (x : Ele) (a1 : Option Addr) (c1 : Nat) (a2 : Option Addr) (c2 : Nat) (left : Int) (w : World) (h0 : 0 ≤ left) (h1 : left ≤ 1048576) (hI : Ele.Is 0 w x a1 a2) (hl : Ele.LB 9223372036854775807 x) :
    Calls Tryz.prog 104 #[.agg #[.slice a1 x.off.length c1, .slice a2 x.fs.length c2], .int .i64 left] w fun e w' => ∃ r : Int, e = .returned (.int .i64 r) ∧ Below w.heap.size w w' ∧ (r = -1 ∨ (0 ≤ r ∧ r ≤ left ∧ Ele.LB 1048576 x)) := by
  obtain ⟨l0, l1⟩ := hl
  obtain ⟨r1, r2⟩ := hI
  have R1 := Hid.mk' r1
  have R2 := Hid.mk' r2
  clear r1 r2
  go_enter Tryz.func104, Tryz.ntmps104
  go_upto_region 1 with fail
  refine wp_gen (fun W => (W.cell? ⟨w.heap.size, 0, none⟩ = some (.slice a1 x.off.length c1) ∧ W.cell? ⟨w.heap.size, 1, none⟩ = some (.slice a2 x.fs.length c2)) ∧ Below w.heap.size w W ∧ w.heap.size < W.heap.size) ⟨⟨cell_new rfl rfl, cell_new rfl rfl⟩, (Below.refl _ _).alloc (Nat.le_refl _) _, by simp⟩ ?_
  rintro W ⟨⟨q0, q1⟩, hb, hlt⟩
  have HC0 := Hid.mk' (rzIns_c a1 c1 x.off left W (by omega) (by omega) (R1.out.up (up_below hb)) l0)
  go_wp2_with fail
  refine HC0.out.mono ?_
  rintro e W0 ⟨m0, rfl, hb0, hm0⟩
  have hB0 : Below w.heap.size w W0 := hb.trans (hb0.mono hb.size)
  have hL0 : w.heap.size < W0.heap.size := Nat.lt_of_lt_of_le hlt hb0.size
  have q1 := (hb0.cell (p := ⟨w.heap.size, 1, none⟩) hlt).trans q1
  clear hb0 HC0 q0
  rcases hm0 with rfl | ⟨hm00, hm10, k0⟩
  · go_wp2
    go_ret
    exact ⟨-1, rfl, hB0, .inl rfl⟩
  have hn0 : ¬ m0 < 0 := by omega
  have hm10 : m0 ≤ left := by omega
  go_upto_region 4 with fail
  have HC1 := Hid.mk' (rzInts_c a2 x.fs.length c2 m0 W0 (by omega) (by omega) l1)
  go_wp2_with fail
  refine HC1.out.mono ?_
  rintro e W1 ⟨m1, rfl, hb1, hm1⟩
  have hB1 : Below w.heap.size w W1 := hB0.trans (hb1.mono hB0.size)
  have hL1 : w.heap.size < W1.heap.size := Nat.lt_of_lt_of_le hL0 hb1.size
  clear hb1 HC1 q1
  rcases hm1 with rfl | ⟨hm01, hm11, k1⟩
  · go_wp2
    go_ret
    exact ⟨-1, rfl, hB1, .inl rfl⟩
  have hn1 : ¬ m1 < 0 := by omega
  have hm11 : m1 ≤ left := by omega
  go_wp2
  go_ret
  exact ⟨m1, rfl, hB1, .inr ⟨hm01, hm11, ⟨k0, k1⟩⟩⟩
set_option maxHeartbeats 4000000 in
theorem rzEles_c (a : Option Addr) (c : Nat) (xs : List Ele) (left : Int) (w : World) (h0 : 0 ≤ left) (h1 : left ≤ 1048576) (hL : Ele.Ls 0 w a xs) (hl : xs.length ≤ 9223372036854775807 ∧ ∀ i, i < xs.length → Ele.LB 9223372036854775807 (xs.getD i Ele.z)) :
    Calls Tryz.prog 25 #[.slice a xs.length c, .int .i64 left] w fun e w' => ∃ r : Int, e = .returned (.int .i64 r) ∧ Below w.heap.size w w' ∧ (r = -1 ∨ (0 ≤ r ∧ r ≤ left ∧ xs.length ≤ 1048576 ∧ ∀ i, i < xs.length → Ele.LB 1048576 (xs.getD i Ele.z))) := by
  obtain ⟨hn, hl⟩ := hl
  have hw : IntKind.i64.wrap (left - xs.length) = left - xs.length := by rw [IntKind.wrap_i64]; omega
  by_cases h : left - xs.length < 0
  · clear hL
    go_enter Tryz.func25, Tryz.ntmps25
    go_wp2
    go_ret
    exact ⟨-1, rfl, Below.refl _ _, .inl rfl⟩
  · have HL := Hid.mk' hL
    have Hl := Hid.mk' hl
    clear hL hl
    go_enter Tryz.func25, Tryz.ntmps25
    go_wp2
    go_loopw [1, 5] (fun q i wr => ∃ (k : Nat) (r : Int), k ≤ xs.length ∧ i = .int .i64 k ∧ q = .int .i64 r ∧ 0 ≤ r ∧ r ≤ left ∧ (∀ i, i < k → Ele.LB 1048576 (xs.getD i Ele.z)) ∧ Below w.heap.size w wr) (fun _ i _ => xs.length - (intOf i).toNat)
    case atStart => exact ⟨0, _, Nat.zero_le _, rfl, rfl, by omega, by omega, fun i hi => by omega, Below.refl _ _⟩
    case round =>
      obtain ⟨k, r, hk, rfl, rfl, hr0, hr1, hall, hb⟩ := hrel
      by_cases hlt : k < xs.length
      · rcases HL.out.up (up_below hb) with hx | ⟨b, o, ea, _, hc⟩
        · subst hx; simp at hlt
        subst ea
        have hxk := hc k hlt
        have hlk := Hl.out k hlt
        have hki : (k : Int) < (xs.length : Int) := by omega
        obtain ⟨x, hx⟩ : ∃ x, x = xs.getD k Ele.z := ⟨_, rfl⟩
        rw [← hx] at hxk hlk
        obtain ⟨a1, c1, a2, c2, ⟨q0, q1⟩, hi⟩ := hxk
        have HX := Hid.mk' hx
        have HA := Hid.mk' hall
        have HS := Hid.mk' (rzEle_c x a1 c1 a2 c2 r wr hr0 (by omega) hi hlk)
        clear hx hc hall HL hi hlk Hl
        go_wp2_with fail
        refine HS.out.mono ?_
        rintro e w1 ⟨r1, rfl, hb1, hr1'⟩
        have hb2 : Below w.heap.size w w1 := hb.trans (hb1.mono hb.size)
        clear hb1 q0 q1 HS
        rcases hr1' with rfl | ⟨hr2, hr3, hr4⟩
        · go_wp2
          go_ret
          exact ⟨-1, rfl, hb2, .inl rfl⟩
        · have f : ¬ r1 < 0 := by omega
          have HR := Hid.mk' hr4
          clear hr4
          go_wp2
          go_roundw
          case rel => exact ⟨k + 1, r1, by omega, by go_num, rfl, hr2, by omega, fun i hi => by
            rcases (by omega : i < k ∨ i = k) with h | h
            · exact HA.out i h
            · subst h; rw [← HX.out]; exact HR.out, hb2⟩
          case measure => simp [intOf]; omega
      · have e : k = xs.length := by omega
        subst e
        go_wp2
        go_ret
        exact ⟨r, rfl, hb, .inr ⟨hr0, hr1, by omega, hall⟩⟩
set_option maxHeartbeats 4000000 in
theorem rzCod_c (x : Cod) (a1 : Option Addr) (c1 : Nat) (a2 : Option Addr) (c2 : Nat) (left : Int) (w : World) (h0 : 0 ≤ left) (h1 : left ≤ 1048576) (hI : Cod.Is 0 w x a1 a2) (hl : Cod.LB 9223372036854775807 x) :
    Calls Tryz.prog 105 #[.agg #[.slice a1 x.locs.length c1, .slice a2 x.body.length c2], .int .i64 left] w fun e w' => ∃ r : Int, e = .returned (.int .i64 r) ∧ Below w.heap.size w w' ∧ (r = -1 ∨ (0 ≤ r ∧ r ≤ left ∧ Cod.LB 1048576 x)) := by
  obtain ⟨l0, l1⟩ := hl
  obtain ⟨r1, r2⟩ := hI
  have R1 := Hid.mk' r1
  have R2 := Hid.mk' r2
  clear r1 r2
  go_enter Tryz.func105, Tryz.ntmps105
  go_upto_region 1 with fail
  refine wp_gen (fun W => (W.cell? ⟨w.heap.size, 0, none⟩ = some (.slice a1 x.locs.length c1) ∧ W.cell? ⟨w.heap.size, 1, none⟩ = some (.slice a2 x.body.length c2)) ∧ Below w.heap.size w W ∧ w.heap.size < W.heap.size) ⟨⟨cell_new rfl rfl, cell_new rfl rfl⟩, (Below.refl _ _).alloc (Nat.le_refl _) _, by simp⟩ ?_
  rintro W ⟨⟨q0, q1⟩, hb, hlt⟩
  have HC0 := Hid.mk' (rzGrps_c a1 x.locs.length c1 left W (by omega) (by omega) l0.1)
  go_wp2_with fail
  refine HC0.out.mono ?_
  rintro e W0 ⟨m0, rfl, hb0, hm0⟩
  have hB0 : Below w.heap.size w W0 := hb.trans (hb0.mono hb.size)
  have hL0 : w.heap.size < W0.heap.size := Nat.lt_of_lt_of_le hlt hb0.size
  have q1 := (hb0.cell (p := ⟨w.heap.size, 1, none⟩) hlt).trans q1
  clear hb0 HC0 q0
  rcases hm0 with rfl | ⟨hm00, hm10, k0⟩
  · go_wp2
    go_ret
    exact ⟨-1, rfl, hB0, .inl rfl⟩
  have hn0 : ¬ m0 < 0 := by omega
  have hm10 : m0 ≤ left := by omega
  have k0 : x.locs.length ≤ 1048576 ∧ ∀ i, i < x.locs.length → Grp.LB 1048576 (x.locs.getD i Grp.z) := ⟨k0, fun _ _ => trivial⟩
  go_upto_region 4 with fail
  have HC1 := Hid.mk' (rzIns_c a2 c2 x.body m0 W0 (by omega) (by omega) (R2.out.up (up_below hB0)) l1)
  go_wp2_with fail
  refine HC1.out.mono ?_
  rintro e W1 ⟨m1, rfl, hb1, hm1⟩
  have hB1 : Below w.heap.size w W1 := hB0.trans (hb1.mono hB0.size)
  have hL1 : w.heap.size < W1.heap.size := Nat.lt_of_lt_of_le hL0 hb1.size
  clear hb1 HC1 q1
  rcases hm1 with rfl | ⟨hm01, hm11, k1⟩
  · go_wp2
    go_ret
    exact ⟨-1, rfl, hB1, .inl rfl⟩
  have hn1 : ¬ m1 < 0 := by omega
  have hm11 : m1 ≤ left := by omega
  go_wp2
  go_ret
  exact ⟨m1, rfl, hB1, .inr ⟨hm01, hm11, ⟨k0, k1⟩⟩⟩
set_option maxHeartbeats 4000000 in
theorem rzCods_c (a : Option Addr) (c : Nat) (xs : List Cod) (left : Int) (w : World) (h0 : 0 ≤ left) (h1 : left ≤ 1048576) (hL : Cod.Ls 0 w a xs) (hl : xs.length ≤ 9223372036854775807 ∧ ∀ i, i < xs.length → Cod.LB 9223372036854775807 (xs.getD i Cod.z)) :
    Calls Tryz.prog 26 #[.slice a xs.length c, .int .i64 left] w fun e w' => ∃ r : Int, e = .returned (.int .i64 r) ∧ Below w.heap.size w w' ∧ (r = -1 ∨ (0 ≤ r ∧ r ≤ left ∧ xs.length ≤ 1048576 ∧ ∀ i, i < xs.length → Cod.LB 1048576 (xs.getD i Cod.z))) := by
  obtain ⟨hn, hl⟩ := hl
  have hw : IntKind.i64.wrap (left - xs.length) = left - xs.length := by rw [IntKind.wrap_i64]; omega
  by_cases h : left - xs.length < 0
  · clear hL
    go_enter Tryz.func26, Tryz.ntmps26
    go_wp2
    go_ret
    exact ⟨-1, rfl, Below.refl _ _, .inl rfl⟩
  · have HL := Hid.mk' hL
    have Hl := Hid.mk' hl
    clear hL hl
    go_enter Tryz.func26, Tryz.ntmps26
    go_wp2
    go_loopw [1, 5] (fun q i wr => ∃ (k : Nat) (r : Int), k ≤ xs.length ∧ i = .int .i64 k ∧ q = .int .i64 r ∧ 0 ≤ r ∧ r ≤ left ∧ (∀ i, i < k → Cod.LB 1048576 (xs.getD i Cod.z)) ∧ Below w.heap.size w wr) (fun _ i _ => xs.length - (intOf i).toNat)
    case atStart => exact ⟨0, _, Nat.zero_le _, rfl, rfl, by omega, by omega, fun i hi => by omega, Below.refl _ _⟩
    case round =>
      obtain ⟨k, r, hk, rfl, rfl, hr0, hr1, hall, hb⟩ := hrel
      by_cases hlt : k < xs.length
      · rcases HL.out.up (up_below hb) with hx | ⟨b, o, ea, _, hc⟩
        · subst hx; simp at hlt
        subst ea
        have hxk := hc k hlt
        have hlk := Hl.out k hlt
        have hki : (k : Int) < (xs.length : Int) := by omega
        obtain ⟨x, hx⟩ : ∃ x, x = xs.getD k Cod.z := ⟨_, rfl⟩
        rw [← hx] at hxk hlk
        obtain ⟨a1, c1, a2, c2, ⟨q0, q1⟩, hi⟩ := hxk
        have HX := Hid.mk' hx
        have HA := Hid.mk' hall
        have HS := Hid.mk' (rzCod_c x a1 c1 a2 c2 r wr hr0 (by omega) hi hlk)
        clear hx hc hall HL hi hlk Hl
        go_wp2_with fail
        refine HS.out.mono ?_
        rintro e w1 ⟨r1, rfl, hb1, hr1'⟩
        have hb2 : Below w.heap.size w w1 := hb.trans (hb1.mono hb.size)
        clear hb1 q0 q1 HS
        rcases hr1' with rfl | ⟨hr2, hr3, hr4⟩
        · go_wp2
          go_ret
          exact ⟨-1, rfl, hb2, .inl rfl⟩
        · have f : ¬ r1 < 0 := by omega
          have HR := Hid.mk' hr4
          clear hr4
          go_wp2
          go_roundw
          case rel => exact ⟨k + 1, r1, by omega, by go_num, rfl, hr2, by omega, fun i hi => by
            rcases (by omega : i < k ∨ i = k) with h | h
            · exact HA.out i h
            · subst h; rw [← HX.out]; exact HR.out, hb2⟩
          case measure => simp [intOf]; omega
      · have e : k = xs.length := by omega
        subst e
        go_wp2
        go_ret
        exact ⟨r, rfl, hb, .inr ⟨hr0, hr1, by omega, hall⟩⟩
set_option maxHeartbeats 4000000 in
theorem rzDat_c (x : Dat) (a1 : Option Addr) (c1 : Nat) (a2 : Option Addr) (c2 : Nat) (left : Int) (w : World) (h0 : 0 ≤ left) (h1 : left ≤ 1048576) (hI : Dat.Is 0 w x a1 a2) (hl : Dat.LB 9223372036854775807 x) :
    Calls Tryz.prog 106 #[.agg #[.slice a1 x.off.length c1, .slice a2 x.bs.length c2], .int .i64 left] w fun e w' => ∃ r : Int, e = .returned (.int .i64 r) ∧ Below w.heap.size w w' ∧ (r = -1 ∨ (0 ≤ r ∧ r ≤ left ∧ Dat.LB 1048576 x)) := by
  obtain ⟨l0, l1⟩ := hl
  obtain ⟨r1, r2⟩ := hI
  have R1 := Hid.mk' r1
  have R2 := Hid.mk' r2
  clear r1 r2
  go_enter Tryz.func106, Tryz.ntmps106
  go_upto_region 1 with fail
  refine wp_gen (fun W => (W.cell? ⟨w.heap.size, 0, none⟩ = some (.slice a1 x.off.length c1) ∧ W.cell? ⟨w.heap.size, 1, none⟩ = some (.slice a2 x.bs.length c2)) ∧ Below w.heap.size w W ∧ w.heap.size < W.heap.size) ⟨⟨cell_new rfl rfl, cell_new rfl rfl⟩, (Below.refl _ _).alloc (Nat.le_refl _) _, by simp⟩ ?_
  rintro W ⟨⟨q0, q1⟩, hb, hlt⟩
  have HC0 := Hid.mk' (rzIns_c a1 c1 x.off left W (by omega) (by omega) (R1.out.up (up_below hb)) l0)
  go_wp2_with fail
  refine HC0.out.mono ?_
  rintro e W0 ⟨m0, rfl, hb0, hm0⟩
  have hB0 : Below w.heap.size w W0 := hb.trans (hb0.mono hb.size)
  have hL0 : w.heap.size < W0.heap.size := Nat.lt_of_lt_of_le hlt hb0.size
  have q1 := (hb0.cell (p := ⟨w.heap.size, 1, none⟩) hlt).trans q1
  clear hb0 HC0 q0
  rcases hm0 with rfl | ⟨hm00, hm10, k0⟩
  · go_wp2
    go_ret
    exact ⟨-1, rfl, hB0, .inl rfl⟩
  have hn0 : ¬ m0 < 0 := by omega
  have hm10 : m0 ≤ left := by omega
  go_upto_region 4 with fail
  have HC1 := Hid.mk' (rzBytes_c a2 x.bs.length c2 m0 W0 (by omega) (by omega) l1)
  go_wp2_with fail
  refine HC1.out.mono ?_
  rintro e W1 ⟨m1, rfl, hb1, hm1⟩
  have hB1 : Below w.heap.size w W1 := hB0.trans (hb1.mono hB0.size)
  have hL1 : w.heap.size < W1.heap.size := Nat.lt_of_lt_of_le hL0 hb1.size
  clear hb1 HC1 q1
  rcases hm1 with rfl | ⟨hm01, hm11, k1⟩
  · go_wp2
    go_ret
    exact ⟨-1, rfl, hB1, .inl rfl⟩
  have hn1 : ¬ m1 < 0 := by omega
  have hm11 : m1 ≤ left := by omega
  go_wp2
  go_ret
  exact ⟨m1, rfl, hB1, .inr ⟨hm01, hm11, ⟨k0, k1⟩⟩⟩
set_option maxHeartbeats 4000000 in
theorem rzDats_c (a : Option Addr) (c : Nat) (xs : List Dat) (left : Int) (w : World) (h0 : 0 ≤ left) (h1 : left ≤ 1048576) (hL : Dat.Ls 0 w a xs) (hl : xs.length ≤ 9223372036854775807 ∧ ∀ i, i < xs.length → Dat.LB 9223372036854775807 (xs.getD i Dat.z)) :
    Calls Tryz.prog 27 #[.slice a xs.length c, .int .i64 left] w fun e w' => ∃ r : Int, e = .returned (.int .i64 r) ∧ Below w.heap.size w w' ∧ (r = -1 ∨ (0 ≤ r ∧ r ≤ left ∧ xs.length ≤ 1048576 ∧ ∀ i, i < xs.length → Dat.LB 1048576 (xs.getD i Dat.z))) := by
  obtain ⟨hn, hl⟩ := hl
  have hw : IntKind.i64.wrap (left - xs.length) = left - xs.length := by rw [IntKind.wrap_i64]; omega
  by_cases h : left - xs.length < 0
  · clear hL
    go_enter Tryz.func27, Tryz.ntmps27
    go_wp2
    go_ret
    exact ⟨-1, rfl, Below.refl _ _, .inl rfl⟩
  · have HL := Hid.mk' hL
    have Hl := Hid.mk' hl
    clear hL hl
    go_enter Tryz.func27, Tryz.ntmps27
    go_wp2
    go_loopw [1, 5] (fun q i wr => ∃ (k : Nat) (r : Int), k ≤ xs.length ∧ i = .int .i64 k ∧ q = .int .i64 r ∧ 0 ≤ r ∧ r ≤ left ∧ (∀ i, i < k → Dat.LB 1048576 (xs.getD i Dat.z)) ∧ Below w.heap.size w wr) (fun _ i _ => xs.length - (intOf i).toNat)
    case atStart => exact ⟨0, _, Nat.zero_le _, rfl, rfl, by omega, by omega, fun i hi => by omega, Below.refl _ _⟩
    case round =>
      obtain ⟨k, r, hk, rfl, rfl, hr0, hr1, hall, hb⟩ := hrel
      by_cases hlt : k < xs.length
      · rcases HL.out.up (up_below hb) with hx | ⟨b, o, ea, _, hc⟩
        · subst hx; simp at hlt
        subst ea
        have hxk := hc k hlt
        have hlk := Hl.out k hlt
        have hki : (k : Int) < (xs.length : Int) := by omega
        obtain ⟨x, hx⟩ : ∃ x, x = xs.getD k Dat.z := ⟨_, rfl⟩
        rw [← hx] at hxk hlk
        obtain ⟨a1, c1, a2, c2, ⟨q0, q1⟩, hi⟩ := hxk
        have HX := Hid.mk' hx
        have HA := Hid.mk' hall
        have HS := Hid.mk' (rzDat_c x a1 c1 a2 c2 r wr hr0 (by omega) hi hlk)
        clear hx hc hall HL hi hlk Hl
        go_wp2_with fail
        refine HS.out.mono ?_
        rintro e w1 ⟨r1, rfl, hb1, hr1'⟩
        have hb2 : Below w.heap.size w w1 := hb.trans (hb1.mono hb.size)
        clear hb1 q0 q1 HS
        rcases hr1' with rfl | ⟨hr2, hr3, hr4⟩
        · go_wp2
          go_ret
          exact ⟨-1, rfl, hb2, .inl rfl⟩
        · have f : ¬ r1 < 0 := by omega
          have HR := Hid.mk' hr4
          clear hr4
          go_wp2
          go_roundw
          case rel => exact ⟨k + 1, r1, by omega, by go_num, rfl, hr2, by omega, fun i hi => by
            rcases (by omega : i < k ∨ i = k) with h | h
            · exact HA.out i h
            · subst h; rw [← HX.out]; exact HR.out, hb2⟩
          case measure => simp [intOf]; omega
      · have e : k = xs.length := by omega
        subst e
        go_wp2
        go_ret
        exact ⟨r, rfl, hb, .inr ⟨hr0, hr1, by omega, hall⟩⟩
set_option maxHeartbeats 4000000 in
theorem rzCus_c (x : Cus) (a1 : Option Addr) (c1 : Nat) (left : Int) (w : World) (h0 : 0 ≤ left) (h1 : left ≤ 1048576) (hI : Cus.Is 0 w x a1) (hl : Cus.LB 9223372036854775807 x) :
    Calls Tryz.prog 107 #[.agg #[.int .i64 x.aft, .string x.nm, .slice a1 x.bs.length c1], .int .i64 left] w fun e w' => ∃ r : Int, e = .returned (.int .i64 r) ∧ Below w.heap.size w w' ∧ (r = -1 ∨ (0 ≤ r ∧ r ≤ left ∧ Cus.LB 1048576 x)) := by
  obtain ⟨l1, l2⟩ := hl
  have r1 := hI
  clear hI
  have R1 := Hid.mk' r1
  clear r1
  go_enter Tryz.func107, Tryz.ntmps107
  go_upto_region 1 with fail
  refine wp_gen (fun W => (W.cell? ⟨w.heap.size, 1, none⟩ = some (.string x.nm) ∧ W.cell? ⟨w.heap.size, 2, none⟩ = some (.slice a1 x.bs.length c1)) ∧ Below w.heap.size w W ∧ w.heap.size < W.heap.size) ⟨⟨cell_new rfl rfl, cell_new rfl rfl⟩, (Below.refl _ _).alloc (Nat.le_refl _) _, by simp⟩ ?_
  rintro W ⟨⟨q1, q2⟩, hb, hlt⟩
  have hw1 : IntKind.i64.wrap (left - (x.nm.size : Int)) = left - (x.nm.size : Int) := by rw [IntKind.wrap_i64]; omega
  by_cases hn1 : left - (x.nm.size : Int) < 0
  · go_wp2
    go_ret
    exact ⟨-1, rfl, hb, .inl rfl⟩
  have k1 : x.nm.size ≤ 1048576 := by omega
  have hm01 : 0 ≤ left - (x.nm.size : Int) := by omega
  have hm11 : left - (x.nm.size : Int) ≤ left := by omega
  go_upto_region 4 with fail
  have HC2 := Hid.mk' (rzBytes_c a1 x.bs.length c1 (left - (x.nm.size : Int)) W (by omega) (by omega) l2)
  go_wp2_with fail
  refine HC2.out.mono ?_
  rintro e W2 ⟨m2, rfl, hb2, hm2⟩
  have hB2 : Below w.heap.size w W2 := hb.trans (hb2.mono hb.size)
  have hL2 : w.heap.size < W2.heap.size := Nat.lt_of_lt_of_le hlt hb2.size
  clear hb2 HC2 q2
  rcases hm2 with rfl | ⟨hm02, hm12, k2⟩
  · go_wp2
    go_ret
    exact ⟨-1, rfl, hB2, .inl rfl⟩
  have hn2 : ¬ m2 < 0 := by omega
  have hm12 : m2 ≤ left := by omega
  go_wp2
  go_ret
  exact ⟨m2, rfl, hB2, .inr ⟨hm02, hm12, ⟨k1, k2⟩⟩⟩
set_option maxHeartbeats 4000000 in
theorem rzCuss_c (a : Option Addr) (c : Nat) (xs : List Cus) (left : Int) (w : World) (h0 : 0 ≤ left) (h1 : left ≤ 1048576) (hL : Cus.Ls 0 w a xs) (hl : xs.length ≤ 9223372036854775807 ∧ ∀ i, i < xs.length → Cus.LB 9223372036854775807 (xs.getD i Cus.z)) :
    Calls Tryz.prog 28 #[.slice a xs.length c, .int .i64 left] w fun e w' => ∃ r : Int, e = .returned (.int .i64 r) ∧ Below w.heap.size w w' ∧ (r = -1 ∨ (0 ≤ r ∧ r ≤ left ∧ xs.length ≤ 1048576 ∧ ∀ i, i < xs.length → Cus.LB 1048576 (xs.getD i Cus.z))) := by
  obtain ⟨hn, hl⟩ := hl
  have hw : IntKind.i64.wrap (left - xs.length) = left - xs.length := by rw [IntKind.wrap_i64]; omega
  by_cases h : left - xs.length < 0
  · clear hL
    go_enter Tryz.func28, Tryz.ntmps28
    go_wp2
    go_ret
    exact ⟨-1, rfl, Below.refl _ _, .inl rfl⟩
  · have HL := Hid.mk' hL
    have Hl := Hid.mk' hl
    clear hL hl
    go_enter Tryz.func28, Tryz.ntmps28
    go_wp2
    go_loopw [1, 5] (fun q i wr => ∃ (k : Nat) (r : Int), k ≤ xs.length ∧ i = .int .i64 k ∧ q = .int .i64 r ∧ 0 ≤ r ∧ r ≤ left ∧ (∀ i, i < k → Cus.LB 1048576 (xs.getD i Cus.z)) ∧ Below w.heap.size w wr) (fun _ i _ => xs.length - (intOf i).toNat)
    case atStart => exact ⟨0, _, Nat.zero_le _, rfl, rfl, by omega, by omega, fun i hi => by omega, Below.refl _ _⟩
    case round =>
      obtain ⟨k, r, hk, rfl, rfl, hr0, hr1, hall, hb⟩ := hrel
      by_cases hlt : k < xs.length
      · rcases HL.out.up (up_below hb) with hx | ⟨b, o, ea, _, hc⟩
        · subst hx; simp at hlt
        subst ea
        have hxk := hc k hlt
        have hlk := Hl.out k hlt
        have hki : (k : Int) < (xs.length : Int) := by omega
        obtain ⟨x, hx⟩ : ∃ x, x = xs.getD k Cus.z := ⟨_, rfl⟩
        rw [← hx] at hxk hlk
        obtain ⟨a1, c1, ⟨q0, q1, q2⟩, hi⟩ := hxk
        have HX := Hid.mk' hx
        have HA := Hid.mk' hall
        have HS := Hid.mk' (rzCus_c x a1 c1 r wr hr0 (by omega) hi hlk)
        clear hx hc hall HL hi hlk Hl
        go_wp2_with fail
        refine HS.out.mono ?_
        rintro e w1 ⟨r1, rfl, hb1, hr1'⟩
        have hb2 : Below w.heap.size w w1 := hb.trans (hb1.mono hb.size)
        clear hb1 q0 q1 q2 HS
        rcases hr1' with rfl | ⟨hr2, hr3, hr4⟩
        · go_wp2
          go_ret
          exact ⟨-1, rfl, hb2, .inl rfl⟩
        · have f : ¬ r1 < 0 := by omega
          have HR := Hid.mk' hr4
          clear hr4
          go_wp2
          go_roundw
          case rel => exact ⟨k + 1, r1, by omega, by go_num, rfl, hr2, by omega, fun i hi => by
            rcases (by omega : i < k ∨ i = k) with h | h
            · exact HA.out i h
            · subst h; rw [← HX.out]; exact HR.out, hb2⟩
          case measure => simp [intOf]; omega
      · have e : k = xs.length := by omega
        subst e
        go_wp2
        go_ret
        exact ⟨r, rfl, hb, .inr ⟨hr0, hr1, by omega, hall⟩⟩
end Go.Proofs.YtdbmolambolmgaaGreat

set_option linter.unusedVariables false
namespace Go.Proofs.YtdbmolambolmgaaGreat
open Go.RowKit Go.Sort
set_option maxRecDepth 100000
set_option maxHeartbeats 4000000 in
theorem rzMod_c (x : Mod) (a1 : Option Addr) (c1 : Nat) (a2 : Option Addr) (c2 : Nat) (a3 : Option Addr) (c3 : Nat) (a4 : Option Addr) (c4 : Nat) (a5 : Option Addr) (c5 : Nat) (a6 : Option Addr) (c6 : Nat) (a7 : Option Addr) (c7 : Nat) (a8 : Option Addr) (c8 : Nat) (a9 : Option Addr) (c9 : Nat) (a10 : Option Addr) (c10 : Nat) (a11 : Option Addr) (c11 : Nat) (left : Int) (w : World) (h0 : 0 ≤ left) (h1 : left ≤ 1048576) (hI : Mod.Is 0 w x a1 a2 a3 a4 a5 a6 a7 a8 a9 a10 a11) (hl : Mod.LB 9223372036854775807 x) :
    Calls Tryz.prog 6 #[.agg #[.slice a1 x.types.length c1, .slice a2 x.imps.length c2, .slice a3 x.funcs.length c3, .slice a4 x.tabs.length c4, .slice a5 x.mems.length c5, .slice a6 x.globs.length c6, .slice a7 x.exps.length c7, .bool x.hasS, .int .i64 x.start, .slice a8 x.elems.length c8, .slice a9 x.codes.length c9, .slice a10 x.datas.length c10, .slice a11 x.customs.length c11], .int .i64 left] w fun e w' => ∃ r : Int, e = .returned (.int .i64 r) ∧ Below w.heap.size w w' ∧ (r = -1 ∨ (0 ≤ r ∧ r ≤ left ∧ Mod.LB 1048576 x)) := by
  obtain ⟨l0, l1, l2, l3, l4, l5, l6, l9, l10, l11, l12⟩ := hl
  obtain ⟨r1, r2, r3, r4, r5, r6, r7, r8, r9, r10, r11⟩ := hI
  have R1 := Hid.mk' r1
  have R2 := Hid.mk' r2
  have R3 := Hid.mk' r3
  have R4 := Hid.mk' r4
  have R5 := Hid.mk' r5
  have R6 := Hid.mk' r6
  have R7 := Hid.mk' r7
  have R8 := Hid.mk' r8
  have R9 := Hid.mk' r9
  have R10 := Hid.mk' r10
  have R11 := Hid.mk' r11
  clear r1 r2 r3 r4 r5 r6 r7 r8 r9 r10 r11
  go_enter Tryz.func6, Tryz.ntmps6
  go_upto_region 1 with fail
  refine wp_gen (fun W => (W.cell? ⟨w.heap.size, 0, none⟩ = some (.slice a1 x.types.length c1) ∧ W.cell? ⟨w.heap.size, 1, none⟩ = some (.slice a2 x.imps.length c2) ∧ W.cell? ⟨w.heap.size, 2, none⟩ = some (.slice a3 x.funcs.length c3) ∧ W.cell? ⟨w.heap.size, 3, none⟩ = some (.slice a4 x.tabs.length c4) ∧ W.cell? ⟨w.heap.size, 4, none⟩ = some (.slice a5 x.mems.length c5) ∧ W.cell? ⟨w.heap.size, 5, none⟩ = some (.slice a6 x.globs.length c6) ∧ W.cell? ⟨w.heap.size, 6, none⟩ = some (.slice a7 x.exps.length c7) ∧ W.cell? ⟨w.heap.size, 9, none⟩ = some (.slice a8 x.elems.length c8) ∧ W.cell? ⟨w.heap.size, 10, none⟩ = some (.slice a9 x.codes.length c9) ∧ W.cell? ⟨w.heap.size, 11, none⟩ = some (.slice a10 x.datas.length c10) ∧ W.cell? ⟨w.heap.size, 12, none⟩ = some (.slice a11 x.customs.length c11)) ∧ Below w.heap.size w W ∧ w.heap.size < W.heap.size) ⟨⟨cell_new rfl rfl, cell_new rfl rfl, cell_new rfl rfl, cell_new rfl rfl, cell_new rfl rfl, cell_new rfl rfl, cell_new rfl rfl, cell_new rfl rfl, cell_new rfl rfl, cell_new rfl rfl, cell_new rfl rfl⟩, (Below.refl _ _).alloc (Nat.le_refl _) _, by simp⟩ ?_
  rintro W ⟨⟨q0, q1, q2, q3, q4, q5, q6, q9, q10, q11, q12⟩, hb, hlt⟩
  have HC0 := Hid.mk' (rzFTypes_c a1 c1 x.types left W (by omega) (by omega) (R1.out.up (up_below hb)) l0)
  go_wp2_with fail
  refine HC0.out.mono ?_
  rintro e W0 ⟨m0, rfl, hb0, hm0⟩
  have hB0 : Below w.heap.size w W0 := hb.trans (hb0.mono hb.size)
  have hL0 : w.heap.size < W0.heap.size := Nat.lt_of_lt_of_le hlt hb0.size
  have q1 := (hb0.cell (p := ⟨w.heap.size, 1, none⟩) hlt).trans q1
  have q2 := (hb0.cell (p := ⟨w.heap.size, 2, none⟩) hlt).trans q2
  have q3 := (hb0.cell (p := ⟨w.heap.size, 3, none⟩) hlt).trans q3
  have q4 := (hb0.cell (p := ⟨w.heap.size, 4, none⟩) hlt).trans q4
  have q5 := (hb0.cell (p := ⟨w.heap.size, 5, none⟩) hlt).trans q5
  have q6 := (hb0.cell (p := ⟨w.heap.size, 6, none⟩) hlt).trans q6
  have q9 := (hb0.cell (p := ⟨w.heap.size, 9, none⟩) hlt).trans q9
  have q10 := (hb0.cell (p := ⟨w.heap.size, 10, none⟩) hlt).trans q10
  have q11 := (hb0.cell (p := ⟨w.heap.size, 11, none⟩) hlt).trans q11
  have q12 := (hb0.cell (p := ⟨w.heap.size, 12, none⟩) hlt).trans q12
  clear hb0 HC0 q0
  rcases hm0 with rfl | ⟨hm00, hm10, k0⟩
  · go_wp2
    go_ret
    exact ⟨-1, rfl, hB0, .inl rfl⟩
  have hn0 : ¬ m0 < 0 := by omega
  have hm10 : m0 ≤ left := by omega
  go_upto_region 4 with fail
  have HC1 := Hid.mk' (rzImps_c a2 c2 x.imps m0 W0 (by omega) (by omega) (R2.out.up (up_below hB0)) l1)
  go_wp2_with fail
  refine HC1.out.mono ?_
  rintro e W1 ⟨m1, rfl, hb1, hm1⟩
  have hB1 : Below w.heap.size w W1 := hB0.trans (hb1.mono hB0.size)
  have hL1 : w.heap.size < W1.heap.size := Nat.lt_of_lt_of_le hL0 hb1.size
  have q2 := (hb1.cell (p := ⟨w.heap.size, 2, none⟩) hL0).trans q2
  have q3 := (hb1.cell (p := ⟨w.heap.size, 3, none⟩) hL0).trans q3
  have q4 := (hb1.cell (p := ⟨w.heap.size, 4, none⟩) hL0).trans q4
  have q5 := (hb1.cell (p := ⟨w.heap.size, 5, none⟩) hL0).trans q5
  have q6 := (hb1.cell (p := ⟨w.heap.size, 6, none⟩) hL0).trans q6
  have q9 := (hb1.cell (p := ⟨w.heap.size, 9, none⟩) hL0).trans q9
  have q10 := (hb1.cell (p := ⟨w.heap.size, 10, none⟩) hL0).trans q10
  have q11 := (hb1.cell (p := ⟨w.heap.size, 11, none⟩) hL0).trans q11
  have q12 := (hb1.cell (p := ⟨w.heap.size, 12, none⟩) hL0).trans q12
  clear hb1 HC1 q1
  rcases hm1 with rfl | ⟨hm01, hm11, k1⟩
  · go_wp2
    go_ret
    exact ⟨-1, rfl, hB1, .inl rfl⟩
  have hn1 : ¬ m1 < 0 := by omega
  have hm11 : m1 ≤ left := by omega
  go_upto_region 7 with fail
  have HC2 := Hid.mk' (rzInts_c a3 x.funcs.length c3 m1 W1 (by omega) (by omega) l2)
  go_wp2_with fail
  refine HC2.out.mono ?_
  rintro e W2 ⟨m2, rfl, hb2, hm2⟩
  have hB2 : Below w.heap.size w W2 := hB1.trans (hb2.mono hB1.size)
  have hL2 : w.heap.size < W2.heap.size := Nat.lt_of_lt_of_le hL1 hb2.size
  have q3 := (hb2.cell (p := ⟨w.heap.size, 3, none⟩) hL1).trans q3
  have q4 := (hb2.cell (p := ⟨w.heap.size, 4, none⟩) hL1).trans q4
  have q5 := (hb2.cell (p := ⟨w.heap.size, 5, none⟩) hL1).trans q5
  have q6 := (hb2.cell (p := ⟨w.heap.size, 6, none⟩) hL1).trans q6
  have q9 := (hb2.cell (p := ⟨w.heap.size, 9, none⟩) hL1).trans q9
  have q10 := (hb2.cell (p := ⟨w.heap.size, 10, none⟩) hL1).trans q10
  have q11 := (hb2.cell (p := ⟨w.heap.size, 11, none⟩) hL1).trans q11
  have q12 := (hb2.cell (p := ⟨w.heap.size, 12, none⟩) hL1).trans q12
  clear hb2 HC2 q2
  rcases hm2 with rfl | ⟨hm02, hm12, k2⟩
  · go_wp2
    go_ret
    exact ⟨-1, rfl, hB2, .inl rfl⟩
  have hn2 : ¬ m2 < 0 := by omega
  have hm12 : m2 ≤ left := by omega
  go_upto_region 10 with fail
  have HC3 := Hid.mk' (rzLimitss_c a4 x.tabs.length c4 m2 W2 (by omega) (by omega) l3.1)
  go_wp2_with fail
  refine HC3.out.mono ?_
  rintro e W3 ⟨m3, rfl, hb3, hm3⟩
  have hB3 : Below w.heap.size w W3 := hB2.trans (hb3.mono hB2.size)
  have hL3 : w.heap.size < W3.heap.size := Nat.lt_of_lt_of_le hL2 hb3.size
  have q4 := (hb3.cell (p := ⟨w.heap.size, 4, none⟩) hL2).trans q4
  have q5 := (hb3.cell (p := ⟨w.heap.size, 5, none⟩) hL2).trans q5
  have q6 := (hb3.cell (p := ⟨w.heap.size, 6, none⟩) hL2).trans q6
  have q9 := (hb3.cell (p := ⟨w.heap.size, 9, none⟩) hL2).trans q9
  have q10 := (hb3.cell (p := ⟨w.heap.size, 10, none⟩) hL2).trans q10
  have q11 := (hb3.cell (p := ⟨w.heap.size, 11, none⟩) hL2).trans q11
  have q12 := (hb3.cell (p := ⟨w.heap.size, 12, none⟩) hL2).trans q12
  clear hb3 HC3 q3
  rcases hm3 with rfl | ⟨hm03, hm13, k3⟩
  · go_wp2
    go_ret
    exact ⟨-1, rfl, hB3, .inl rfl⟩
  have hn3 : ¬ m3 < 0 := by omega
  have hm13 : m3 ≤ left := by omega
  have k3 : x.tabs.length ≤ 1048576 ∧ ∀ i, i < x.tabs.length → Limits.LB 1048576 (x.tabs.getD i Limits.z) := ⟨k3, fun _ _ => trivial⟩
  go_upto_region 13 with fail
  have HC4 := Hid.mk' (rzLimitss_c a5 x.mems.length c5 m3 W3 (by omega) (by omega) l4.1)
  go_wp2_with fail
  refine HC4.out.mono ?_
  rintro e W4 ⟨m4, rfl, hb4, hm4⟩
  have hB4 : Below w.heap.size w W4 := hB3.trans (hb4.mono hB3.size)
  have hL4 : w.heap.size < W4.heap.size := Nat.lt_of_lt_of_le hL3 hb4.size
  have q5 := (hb4.cell (p := ⟨w.heap.size, 5, none⟩) hL3).trans q5
  have q6 := (hb4.cell (p := ⟨w.heap.size, 6, none⟩) hL3).trans q6
  have q9 := (hb4.cell (p := ⟨w.heap.size, 9, none⟩) hL3).trans q9
  have q10 := (hb4.cell (p := ⟨w.heap.size, 10, none⟩) hL3).trans q10
  have q11 := (hb4.cell (p := ⟨w.heap.size, 11, none⟩) hL3).trans q11
  have q12 := (hb4.cell (p := ⟨w.heap.size, 12, none⟩) hL3).trans q12
  clear hb4 HC4 q4
  rcases hm4 with rfl | ⟨hm04, hm14, k4⟩
  · go_wp2
    go_ret
    exact ⟨-1, rfl, hB4, .inl rfl⟩
  have hn4 : ¬ m4 < 0 := by omega
  have hm14 : m4 ≤ left := by omega
  have k4 : x.mems.length ≤ 1048576 ∧ ∀ i, i < x.mems.length → Limits.LB 1048576 (x.mems.getD i Limits.z) := ⟨k4, fun _ _ => trivial⟩
  go_upto_region 16 with fail
  have HC5 := Hid.mk' (rzGlobs_c a6 c6 x.globs m4 W4 (by omega) (by omega) (R6.out.up (up_below hB4)) l5)
  go_wp2_with fail
  refine HC5.out.mono ?_
  rintro e W5 ⟨m5, rfl, hb5, hm5⟩
  have hB5 : Below w.heap.size w W5 := hB4.trans (hb5.mono hB4.size)
  have hL5 : w.heap.size < W5.heap.size := Nat.lt_of_lt_of_le hL4 hb5.size
  have q6 := (hb5.cell (p := ⟨w.heap.size, 6, none⟩) hL4).trans q6
  have q9 := (hb5.cell (p := ⟨w.heap.size, 9, none⟩) hL4).trans q9
  have q10 := (hb5.cell (p := ⟨w.heap.size, 10, none⟩) hL4).trans q10
  have q11 := (hb5.cell (p := ⟨w.heap.size, 11, none⟩) hL4).trans q11
  have q12 := (hb5.cell (p := ⟨w.heap.size, 12, none⟩) hL4).trans q12
  clear hb5 HC5 q5
  rcases hm5 with rfl | ⟨hm05, hm15, k5⟩
  · go_wp2
    go_ret
    exact ⟨-1, rfl, hB5, .inl rfl⟩
  have hn5 : ¬ m5 < 0 := by omega
  have hm15 : m5 ≤ left := by omega
  go_upto_region 19 with fail
  have HC6 := Hid.mk' (rzExps_c a7 c7 x.exps m5 W5 (by omega) (by omega) (R7.out.up (up_below hB5)) l6)
  go_wp2_with fail
  refine HC6.out.mono ?_
  rintro e W6 ⟨m6, rfl, hb6, hm6⟩
  have hB6 : Below w.heap.size w W6 := hB5.trans (hb6.mono hB5.size)
  have hL6 : w.heap.size < W6.heap.size := Nat.lt_of_lt_of_le hL5 hb6.size
  have q9 := (hb6.cell (p := ⟨w.heap.size, 9, none⟩) hL5).trans q9
  have q10 := (hb6.cell (p := ⟨w.heap.size, 10, none⟩) hL5).trans q10
  have q11 := (hb6.cell (p := ⟨w.heap.size, 11, none⟩) hL5).trans q11
  have q12 := (hb6.cell (p := ⟨w.heap.size, 12, none⟩) hL5).trans q12
  clear hb6 HC6 q6
  rcases hm6 with rfl | ⟨hm06, hm16, k6⟩
  · go_wp2
    go_ret
    exact ⟨-1, rfl, hB6, .inl rfl⟩
  have hn6 : ¬ m6 < 0 := by omega
  have hm16 : m6 ≤ left := by omega
  go_upto_region 22 with fail
  have HC9 := Hid.mk' (rzEles_c a8 c8 x.elems m6 W6 (by omega) (by omega) (R8.out.up (up_below hB6)) l9)
  go_wp2_with fail
  refine HC9.out.mono ?_
  rintro e W9 ⟨m9, rfl, hb9, hm9⟩
  have hB9 : Below w.heap.size w W9 := hB6.trans (hb9.mono hB6.size)
  have hL9 : w.heap.size < W9.heap.size := Nat.lt_of_lt_of_le hL6 hb9.size
  have q10 := (hb9.cell (p := ⟨w.heap.size, 10, none⟩) hL6).trans q10
  have q11 := (hb9.cell (p := ⟨w.heap.size, 11, none⟩) hL6).trans q11
  have q12 := (hb9.cell (p := ⟨w.heap.size, 12, none⟩) hL6).trans q12
  clear hb9 HC9 q9
  rcases hm9 with rfl | ⟨hm09, hm19, k9⟩
  · go_wp2
    go_ret
    exact ⟨-1, rfl, hB9, .inl rfl⟩
  have hn9 : ¬ m9 < 0 := by omega
  have hm19 : m9 ≤ left := by omega
  go_upto_region 25 with fail
  have HC10 := Hid.mk' (rzCods_c a9 c9 x.codes m9 W9 (by omega) (by omega) (R9.out.up (up_below hB9)) l10)
  go_wp2_with fail
  refine HC10.out.mono ?_
  rintro e W10 ⟨m10, rfl, hb10, hm10⟩
  have hB10 : Below w.heap.size w W10 := hB9.trans (hb10.mono hB9.size)
  have hL10 : w.heap.size < W10.heap.size := Nat.lt_of_lt_of_le hL9 hb10.size
  have q11 := (hb10.cell (p := ⟨w.heap.size, 11, none⟩) hL9).trans q11
  have q12 := (hb10.cell (p := ⟨w.heap.size, 12, none⟩) hL9).trans q12
  clear hb10 HC10 q10
  rcases hm10 with rfl | ⟨hm010, hm110, k10⟩
  · go_wp2
    go_ret
    exact ⟨-1, rfl, hB10, .inl rfl⟩
  have hn10 : ¬ m10 < 0 := by omega
  have hm110 : m10 ≤ left := by omega
  go_upto_region 28 with fail
  have HC11 := Hid.mk' (rzDats_c a10 c10 x.datas m10 W10 (by omega) (by omega) (R10.out.up (up_below hB10)) l11)
  go_wp2_with fail
  refine HC11.out.mono ?_
  rintro e W11 ⟨m11, rfl, hb11, hm11⟩
  have hB11 : Below w.heap.size w W11 := hB10.trans (hb11.mono hB10.size)
  have hL11 : w.heap.size < W11.heap.size := Nat.lt_of_lt_of_le hL10 hb11.size
  have q12 := (hb11.cell (p := ⟨w.heap.size, 12, none⟩) hL10).trans q12
  clear hb11 HC11 q11
  rcases hm11 with rfl | ⟨hm011, hm111, k11⟩
  · go_wp2
    go_ret
    exact ⟨-1, rfl, hB11, .inl rfl⟩
  have hn11 : ¬ m11 < 0 := by omega
  have hm111 : m11 ≤ left := by omega
  go_upto_region 31 with fail
  have HC12 := Hid.mk' (rzCuss_c a11 c11 x.customs m11 W11 (by omega) (by omega) (R11.out.up (up_below hB11)) l12)
  go_wp2_with fail
  refine HC12.out.mono ?_
  rintro e W12 ⟨m12, rfl, hb12, hm12⟩
  have hB12 : Below w.heap.size w W12 := hB11.trans (hb12.mono hB11.size)
  have hL12 : w.heap.size < W12.heap.size := Nat.lt_of_lt_of_le hL11 hb12.size
  clear hb12 HC12 q12
  rcases hm12 with rfl | ⟨hm012, hm112, k12⟩
  · go_wp2
    go_ret
    exact ⟨-1, rfl, hB12, .inl rfl⟩
  have hn12 : ¬ m12 < 0 := by omega
  have hm112 : m12 ≤ left := by omega
  go_wp2
  go_ret
  exact ⟨m12, rfl, hB12, .inr ⟨hm012, hm112, ⟨k0, k1, k2, k3, k4, k5, k6, k9, k10, k11, k12⟩⟩⟩
end Go.Proofs.YtdbmolambolmgaaGreat
