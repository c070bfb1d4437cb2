import Derived.Test.YteaegmlnacnofaaR1
set_option linter.all false
set_option linter.unusedVariables false
namespace Go.Proofs.Yteaegmlnacnofaa
open Go.RowKit Go.Sort
set_option maxRecDepth 100000
theorem sum_step {α : Type} {f : α → Nat} (z : α) (xs : List α) (k : Nat) (h : k < xs.length) : ((xs.take (k + 1)).map f).sum = ((xs.take k).map f).sum + f (xs.getD k z) := by
  rw [List.take_add_one, List.getElem?_eq_getElem h]
  rw [show xs.getD k z = xs[k] by simp [List.getD, h]]
  simp only [Option.toList, List.map_append, List.map_cons, List.map_nil, List.sum_append, List.sum_cons, List.sum_nil, Nat.add_zero]
def FType.sz (x : FType) : Nat := x.ps.length + x.rs.length
def In.sz (x : In) : Nat := x.l.length
def Imp.sz (x : Imp) : Nat := x.mod.size + x.nm.size
def Glob.sz (x : Glob) : Nat := (x.ini.length + (x.ini.map In.sz).sum)
def Exp.sz (x : Exp) : Nat := x.nm.size
def Ele.sz (x : Ele) : Nat := (x.off.length + (x.off.map In.sz).sum) + x.fs.length
def Cod.sz (x : Cod) : Nat := x.locs.length + (x.body.length + (x.body.map In.sz).sum)
def Dat.sz (x : Dat) : Nat := (x.off.length + (x.off.map In.sz).sum) + x.bs.length
def Cus.sz (x : Cus) : Nat := x.nm.size + x.bs.length
def Mod.sz (x : Mod) : Nat := (x.types.length + (x.types.map FType.sz).sum) + (x.imps.length + (x.imps.map Imp.sz).sum) + x.funcs.length + x.tabs.length + x.mems.length + (x.globs.length + (x.globs.map Glob.sz).sum) + (x.exps.length + (x.exps.map Exp.sz).sum) + (x.elems.length + (x.elems.map Ele.sz).sum) + (x.codes.length + (x.codes.map Cod.sz).sum) + (x.datas.length + (x.datas.map Dat.sz).sum) + (x.customs.length + (x.customs.map Cus.sz).sum)
theorem qzInts_c (a : Option Addr) (n c : Nat) (left : Int) (w : World) (h0 : 0 ≤ left) (h1 : left ≤ 1048576) (hn : n ≤ 9223372036854775807) :
    Calls Try.prog 66 #[.slice a n c, .int .i64 left] w fun e w' => ∃ r : Int, e = .returned (.int .i64 r) ∧ Below w.heap.size w w' ∧ (r = -1 ∨ (0 ≤ r ∧ r + (n : Int) ≤ left ∧ n ≤ 1048576)) := by
  have hw : IntKind.i64.wrap (left - n) = left - n := by rw [IntKind.wrap_i64]; omega
  by_cases h : left - n < 0
  · go_enter Try.func66, Try.ntmps66
    go_wp2
    go_ret
    exact ⟨-1, rfl, Below.refl _ _, .inl rfl⟩
  · go_enter Try.func66, Try.ntmps66
    go_wp2
    go_ret
    exact ⟨left - n, rfl, Below.refl _ _, .inr ⟨by omega, by omega, by omega⟩⟩
set_option maxHeartbeats 4000000 in
theorem qzIn_c (x : In) (a1 : Option Addr) (c1 : Nat) (left : Int) (w : World) (h0 : 0 ≤ left) (h1 : left ≤ 1048576) (hI : In.Is 0 w x a1) (hl : In.LB 9223372036854775807 x) :
    Calls Try.prog 34 #[.agg #[.int .i64 x.op, .int .i64 x.a, .int .i64 x.b, .int .u64 x.v, .slice a1 x.l.length c1], .int .i64 left] w fun e w' => ∃ r : Int, e = .returned (.int .i64 r) ∧ Below w.heap.size w w' ∧ (r = -1 ∨ (0 ≤ r ∧ r + (In.sz x : Int) ≤ left ∧ In.LB 1048576 x)) := by
  have l4 : x.l.length ≤ 9223372036854775807 := hl
  have r1 := hI
  clear hI
  have R1 := Hid.mk' r1
  clear r1
  go_enter Try.func34, Try.ntmps34
  go_upto_region 1 with fail
  refine wp_gen (fun W => (W.cell? ⟨w.heap.size, 4, none⟩ = some (.slice a1 x.l.length c1)) ∧ Below w.heap.size w W ∧ w.heap.size < W.heap.size) ⟨cell_new rfl rfl, (Below.refl _ _).alloc (Nat.le_refl _) _, by simp⟩ ?_
  rintro W ⟨q4, hb, hlt⟩
  have HC4 := Hid.mk' (qzInts_c a1 x.l.length c1 left W (by omega) (by omega) l4)
  go_wp2_with fail
  refine HC4.out.mono ?_
  rintro e W4 ⟨m4, rfl, hb4, hm4⟩
  have hB4 : Below w.heap.size w W4 := hb.trans (hb4.mono hb.size)
  have hL4 : w.heap.size < W4.heap.size := Nat.lt_of_lt_of_le hlt hb4.size
  clear hb4 HC4 q4
  rcases hm4 with rfl | ⟨hm04, hm14, k4⟩
  · go_wp2
    go_ret
    exact ⟨-1, rfl, hB4, .inl rfl⟩
  have hn4 : ¬ m4 < 0 := by omega
  generalize hg4 : x.l.length = g4 at hm14
  go_wp2
  go_ret
  exact ⟨m4, rfl, hB4, .inr ⟨hm04, by simp only [In.sz]; omega, k4⟩⟩
set_option maxHeartbeats 4000000 in
theorem qzIns_c (a : Option Addr) (c : Nat) (xs : List In) (left : Int) (w : World) (h0 : 0 ≤ left) (h1 : left ≤ 1048576) (hL : In.Ls 0 w a xs) (hl : xs.length ≤ 9223372036854775807 ∧ ∀ i, i < xs.length → In.LB 9223372036854775807 (xs.getD i I0)) :
    Calls Try.prog 13 #[.slice a xs.length c, .int .i64 left] w fun e w' => ∃ r : Int, e = .returned (.int .i64 r) ∧ Below w.heap.size w w' ∧ (r = -1 ∨ (0 ≤ r ∧ r + ((xs.length + (xs.map In.sz).sum : Nat) : Int) ≤ left ∧ xs.length ≤ 1048576 ∧ ∀ i, i < xs.length → In.LB 1048576 (xs.getD i I0))) := by
  obtain ⟨hn, hl⟩ := hl
  have hw : IntKind.i64.wrap (left - xs.length) = left - xs.length := by rw [IntKind.wrap_i64]; omega
  by_cases h : left - xs.length < 0
  · clear hL
    go_enter Try.func13, Try.ntmps13
    go_wp2
    go_ret
    exact ⟨-1, rfl, Below.refl _ _, .inl rfl⟩
  · have HL := Hid.mk' hL
    have Hl := Hid.mk' hl
    clear hL hl
    go_enter Try.func13, Try.ntmps13
    go_wp2
    go_loopw [1, 5] (fun q i wr => ∃ (k : Nat) (r : Int), k ≤ xs.length ∧ i = .int .i64 k ∧ q = .int .i64 r ∧ 0 ≤ r ∧ r + (((xs.take k).map In.sz).sum : Int) ≤ left - xs.length ∧ (∀ i, i < k → In.LB 1048576 (xs.getD i I0)) ∧ Below w.heap.size w wr) (fun _ i _ => xs.length - (intOf i).toNat)
    case atStart => exact ⟨0, _, Nat.zero_le _, rfl, rfl, by omega, by simp, fun i hi => by omega, Below.refl _ _⟩
    case round =>
      obtain ⟨k, r, hk, rfl, rfl, hr0, hr1, hall, hb⟩ := hrel
      by_cases hlt : k < xs.length
      · rcases HL.out.up (up_below hb) with hx | ⟨b, o, ea, _, hc⟩
        · subst hx; simp at hlt
        subst ea
        have hxk := hc k hlt
        have hlk := Hl.out k hlt
        have hki : (k : Int) < (xs.length : Int) := by omega
        obtain ⟨x, hx⟩ : ∃ x, x = xs.getD k I0 := ⟨_, rfl⟩
        rw [← hx] at hxk hlk
        obtain ⟨a1, c1, ⟨q0, q1, q2, q3, q4⟩, hi⟩ := hxk
        have HX := Hid.mk' hx
        have HT := Hid.mk' (sum_step (f := In.sz) I0 xs k hlt)
        have HA := Hid.mk' hall
        have HS := Hid.mk' (qzIn_c x a1 c1 r wr hr0 (by omega) hi hlk)
        clear hx hc hall HL hi hlk Hl
        go_wp2_with fail
        refine HS.out.mono ?_
        rintro e w1 ⟨r1, rfl, hb1, hr1'⟩
        have hb2 : Below w.heap.size w w1 := hb.trans (hb1.mono hb.size)
        clear hb1 q0 q1 q2 q3 q4 HS
        rcases hr1' with rfl | ⟨hr2, hr3, hr4⟩
        · go_wp2
          go_ret
          exact ⟨-1, rfl, hb2, .inl rfl⟩
        · have f : ¬ r1 < 0 := by omega
          have HR := Hid.mk' hr4
          clear hr4
          go_wp2
          go_roundw
          case rel => exact ⟨k + 1, r1, by omega, by go_num, rfl, hr2, by rw [HT.out, ← HX.out]; push_cast; omega, fun i hi => by
            rcases (by omega : i < k ∨ i = k) with h | h
            · exact HA.out i h
            · subst h; rw [← HX.out]; exact HR.out, hb2⟩
          case measure => simp [intOf]; omega
      · have e : k = xs.length := by omega
        subst e
        go_wp2
        go_ret
        exact ⟨r, rfl, hb, .inr ⟨hr0, by rw [List.take_length] at hr1; push_cast; omega, by omega, hall⟩⟩
end Go.Proofs.Yteaegmlnacnofaa
