import Derived.Test.YteaegmlnacnofaaT3
set_option linter.all false
set_option linter.unusedVariables false
namespace Go.Proofs.Yteaegmlnacnofaa
open Go.RowKit
structure In where
  op : Int
  a : Int
  b : Int
  v : Int
  l : List Int
abbrev inV (x : In) (la : Option Addr) (lc : Nat) : Value := .agg #[.int .i64 x.op, .int .i64 x.a, .int .i64 x.b, .int .u64 x.v, .slice la x.l.length lc]
def InAt (w : World) (b o : Nat) (x : In) : Prop := ∃ la lc, w.cell? ⟨b, o, none⟩ = some (.int .i64 x.op) ∧ w.cell? ⟨b, o + 1, none⟩ = some (.int .i64 x.a) ∧ w.cell? ⟨b, o + 2, none⟩ = some (.int .i64 x.b) ∧ w.cell? ⟨b, o + 3, none⟩ = some (.int .u64 x.v) ∧ w.cell? ⟨b, o + 4, none⟩ = some (.slice la x.l.length lc) ∧ Has w la x.l
def I0 : In := ⟨0, 0, 0, 0, []⟩
def Lst (w : World) (a : Option Addr) (xs : List In) : Prop := xs = [] ∨ ∃ b off, a = some ⟨b, off, none⟩ ∧ ∀ i, i < xs.length → InAt w b (off + i * 5) (xs.getD i I0)
theorem szI_c (a : Option Addr) (n c : Nat) (left : Int) (w : World) (h0 : 0 ≤ left) (h1 : left ≤ 1048576) (hn : n ≤ 1099511627776) :
    Calls Try.prog 66 #[.slice a n c, .int .i64 left] w fun e w' => ∃ r : Int, e = .returned (.int .i64 r) ∧ w = w' ∧ (r = -1 ∨ (r = left - n ∧ 0 ≤ r)) := by
  have hw : IntKind.i64.wrap (left - n) = left - n := by rw [IntKind.wrap_i64]; omega
  by_cases h : left - n < 0
  · go_enter Try.func66, Try.ntmps66
    go_wp2
    go_ret
    exact ⟨-1, rfl, rfl, .inl rfl⟩
  · go_enter Try.func66, Try.ntmps66
    go_wp2
    go_ret
    exact ⟨left - n, rfl, rfl, .inr ⟨rfl, by omega⟩⟩
theorem szIn_c (x : In) (la : Option Addr) (lc : Nat) (left : Int) (w : World) (h0 : 0 ≤ left) (h1 : left ≤ 1048576) (hn : x.l.length ≤ 1099511627776) :
    Calls Try.prog 34 #[inV x la lc, .int .i64 left] w fun e w' => ∃ r : Int, e = .returned (.int .i64 r) ∧ Below w.heap.size w w' ∧ (r = -1 ∨ (r = left - x.l.length ∧ 0 ≤ r)) := by
  have H := Hid.mk' (fun w => szI_c la x.l.length lc left w h0 h1 hn)
  go_enter Try.func34, Try.ntmps34
  go_wp2_with fail
  refine (H.out _).mono ?_
  rintro e w1 ⟨r, rfl, rfl, hr⟩
  rcases hr with rfl | ⟨hr, hr0⟩
  · go_wp2
    go_ret
    exact ⟨-1, rfl, (Below.refl _ _).alloc (Nat.le_refl _) _, .inl rfl⟩
  · have f : ¬ r < 0 := by omega
    have HR := Hid.mk' hr
    clear hr
    go_wp2
    go_ret
    exact ⟨r, rfl, (Below.refl _ _).alloc (Nat.le_refl _) _, .inr ⟨HR.out, hr0⟩⟩
theorem InAt.keep {w w1 : World} {b o : Nat} {x : In} (h : InAt w b o x) (hb : Below w.heap.size w w1) : InAt w1 b o x := by
  obtain ⟨la, lc, h0, h1, h2, h3, h4, h5⟩ := h
  have hl := World.block_lt_of_cell? w _ h0
  refine ⟨la, lc, (hb.cell (p := ⟨b, o, none⟩) hl).trans h0, (hb.cell (p := ⟨b, o + 1, none⟩) hl).trans h1, (hb.cell (p := ⟨b, o + 2, none⟩) hl).trans h2, (hb.cell (p := ⟨b, o + 3, none⟩) hl).trans h3, (hb.cell (p := ⟨b, o + 4, none⟩) hl).trans h4, ?_⟩
  rcases h5 with h | ⟨b', o', e, hc⟩
  · exact .inl h
  · exact .inr ⟨b', o', e, fun i hi => (hb.cell (World.block_lt_of_cell? w _ (hc i hi))).trans (hc i hi)⟩
theorem Lst.keep {w w1 : World} {a : Option Addr} {xs : List In} (h : Lst w a xs) (hb : Below w.heap.size w w1) : Lst w1 a xs := by
  rcases h with h | ⟨b, o, e, hc⟩
  · exact .inl h
  · exact .inr ⟨b, o, e, fun i hi => (hc i hi).keep hb⟩
set_option maxHeartbeats 1000000 in
theorem szIs_c (a : Option Addr) (c : Nat) (xs : List In) (left : Int) (w : World) (h0 : 0 ≤ left) (h1 : left ≤ 1048576) (hn : xs.length ≤ 1099511627776) (hL : Lst w a xs) (hl : ∀ i, (xs.getD i I0).l.length ≤ 1099511627776) :
    Calls Try.prog 13 #[.slice a xs.length c, .int .i64 left] w fun e w' => ∃ r : Int, e = .returned (.int .i64 r) ∧ Below w.heap.size w w' ∧ (r = -1 ∨ (0 ≤ r ∧ (xs.length : Int) ≤ left ∧ ∀ i, i < xs.length → ((xs.getD i I0).l.length : Int) ≤ left)) := by
  have hw : IntKind.i64.wrap (left - xs.length) = left - xs.length := by rw [IntKind.wrap_i64]; omega
  by_cases h : left - xs.length < 0
  · clear hL
    go_enter Try.func13, Try.ntmps13
    go_wp2
    go_ret
    exact ⟨-1, rfl, Below.refl _ _, .inl rfl⟩
  · have HL := Hid.mk' hL
    have Hl := Hid.mk' hl
    clear hL hl
    go_enter Try.func13, Try.ntmps13
    go_wp2
    go_loopw [1, 5] (fun q i wr => ∃ (k : Nat) (r : Int), k ≤ xs.length ∧ i = .int .i64 k ∧ q = .int .i64 r ∧ 0 ≤ r ∧ r ≤ left ∧ (∀ i, i < k → ((xs.getD i I0).l.length : Int) ≤ left) ∧ Below w.heap.size w wr) (fun _ i _ => xs.length - (intOf i).toNat)
    case atStart => exact ⟨0, _, Nat.zero_le _, rfl, rfl, by omega, by omega, fun i hi => by omega, Below.refl _ _⟩
    case round =>
      obtain ⟨k, r, hk, rfl, rfl, hr0, hr1, hall, hb⟩ := hrel
      by_cases hlt : k < xs.length
      · rcases HL.out.keep hb with hx | ⟨b, o, ea, hc⟩
        · subst hx; simp at hlt
        subst ea
        obtain ⟨la, lc, c0, c1, c2, c3, c4, c5⟩ := hc k hlt
        have hki : (k : Int) < (xs.length : Int) := by omega
        have hxl := Hl.out k
        obtain ⟨x, hx⟩ : ∃ x, x = xs.getD k I0 := ⟨_, rfl⟩
        rw [← hx] at c0 c1 c2 c3 c4 c5 hxl
        have HX := Hid.mk' hx
        have HA := Hid.mk' hall
        have HS := Hid.mk' (fun w => szIn_c x la lc r w hr0 (by omega) hxl)
        clear hx hc hall HL
        go_wp2_with fail
        refine (HS.out wr).mono ?_
        rintro e w1 ⟨r1, rfl, hb1, hr1'⟩
        have hb2 : Below w.heap.size w w1 := hb.trans (hb1.mono hb.size)
        clear hb1 c0 c1 c2 c3 c4 c5 HS
        rcases hr1' with rfl | ⟨hr1', hr2⟩
        · go_wp2
          go_ret
          exact ⟨-1, rfl, hb2, .inl rfl⟩
        · have f : ¬ r1 < 0 := by omega
          have HR := Hid.mk' hr1'
          clear hr1'
          go_wp2
          go_roundw
          case rel => exact ⟨k + 1, r1, by omega, by go_num, rfl, hr2, by have := HR.out; omega, fun i hi => by
            rcases (by omega : i < k ∨ i = k) with h | h
            · exact HA.out i h
            · subst h; rw [← HX.out]; have := HR.out; omega, hb2⟩
          case measure => simp [intOf]; omega
      · have e : k = xs.length := by omega
        subst e
        go_wp2
        go_ret
        exact ⟨r, rfl, hb, .inr ⟨hr0, by omega, hall⟩⟩
end Go.Proofs.Yteaegmlnacnofaa
