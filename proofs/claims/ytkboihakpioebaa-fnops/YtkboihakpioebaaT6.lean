import Derived.Test.YtkboihakpioebaaT5
import Derived.Test.YtkboihakpioebaaLawName
set_option linter.all false
set_option linter.unusedVariables false
namespace Go.Proofs.Ytkboihakpioebaa
open Go.RowKit
def tyOf (s : ByteArray) : Int := if s.size < 3 then 0 else
  if (s.extract 0 3).data.toList = [105, 51, 50] then 127 else if (s.extract 0 3).data.toList = [105, 54, 52] then 126 else if (s.extract 0 3).data.toList = [102, 51, 50] then 125 else if (s.extract 0 3).data.toList = [102, 54, 52] then 124 else 0
theorem typeOf_c (s : ByteArray) (w : World) : Calls Try.prog 35 #[.string s] w fun e w' => e = .returned (.int .i64 (tyOf s)) ∧ w = w' := by
  by_cases h : s.size < 3
  · have f1 : (s.size : Int) < 3 := by omega
    go_enter Try.func35, Try.ntmps35
    go_wp2
    go_ret
    exact ⟨by simp [tyOf, h], rfl⟩
  · have f1 : ¬ (s.size : Int) < 3 := by omega
    go_enter Try.func35, Try.ntmps35
    go_wp2
    all_goals
      go_ret
      refine ⟨?_, rfl⟩
      simp only [ByteArray.toList_eq, beq_iff_eq, beq_eq_false_iff_ne, ne_eq] at *
      simp_all [tyOf]
theorem sig_c (a : Option Addr) (n c : Nat) (t : Int) (w : World) : Calls Try.prog 36 #[.slice a n c, .int .i64 t] w fun e w' => ∃ ga gc, e = .returned (.agg #[.slice a n c, .slice ga 1 gc]) ∧ w'.ownsRow w.heap.size 2 1 (.slice ga 1 gc) 1 (I [t]) ∧ Below w.heap.size w w' := by
  go_enter Try.func36, Try.ntmps36
  go_wp2
  exact bodyPost_ret (v := .agg #[.slice a n c, .slice (some ⟨w.heap.size + 1, 0, none⟩) 1 1]) (by simp [results, Try.results36, go_sem]) rfl ⟨_, _, rfl, by
    have := World.ownsRow_lit (base := w.heap.size) (e := 2) (size := 1) (w.alloc (.cells #[.slice a n c, .slice (some ⟨w.heap.size + 1, 0, none⟩) 1 1] 29)) #[.int .i64 t] 1 (by simp) (by unfold maxLen; omega) rfl
    simpa using this, ((Below.refl _ _).alloc (Nat.le_refl _) _).alloc (by simp) _⟩
structure RB (w : World) (wr : World) : Prop where
  r0 : wr.cell? ⟨w.heap.size, 0, none⟩ = some (.slice none 0 0)
  r1 : wr.cell? ⟨w.heap.size, 1, none⟩ = some (.slice none 0 0)
  rf0 : wr.frozen? ⟨w.heap.size, 0, none⟩ = false
  rf1 : wr.frozen? ⟨w.heap.size, 1, none⟩ = false
  lt : w.heap.size < wr.heap.size
  bel : Below w.heap.size w wr
theorem RB.new (w : World) : RB w (w.alloc (.cells #[.slice none 0 0, .slice none 0 0] 29)) :=
  ⟨cell_new rfl rfl, cell_new rfl rfl, World.frozen?_alloc_new _ _ _ _, World.frozen?_alloc_new _ _ _ _, by simp, (Below.refl _ _).alloc (Nat.le_refl _) _⟩
theorem RB.keep {w wr w1 : World} (h : RB w wr) (hb : Below wr.heap.size wr w1) : RB w w1 :=
  ⟨(hb.cell (p := ⟨w.heap.size, 0, none⟩) h.lt).trans h.r0, (hb.cell (p := ⟨w.heap.size, 1, none⟩) h.lt).trans h.r1, (hb.frozen (p := ⟨w.heap.size, 0, none⟩) h.lt).trans h.rf0, (hb.frozen (p := ⟨w.heap.size, 1, none⟩) h.lt).trans h.rf1, Nat.lt_of_lt_of_le h.lt hb.size, h.bel.trans (hb.mono (Nat.le_of_lt h.lt))⟩
theorem RB.past {w wr : World} (h : RB w wr) (o : Obj) : RB w (wr.alloc o) := h.keep ((Below.refl _ _).alloc (Nat.le_refl _) _)
theorem base_down {w : World} {B B' n : Nat} {v : Value} {zs : List Value} (h : w.ownsRow B 2 1 v n zs) (hB : B' ≤ B) : w.ownsRow B' 2 1 v n zs := by
  refine ⟨h.1, ?_⟩
  rcases h.2 with h0 | ⟨g, cap, cur, hv, hb, r⟩
  · exact .inl h0
  · exact .inr ⟨g, cap, cur, hv, by omega, r⟩
/-- A slice literal, then a call that only makes new blocks: both slices. -/
theorem RB.both {w w1 w2 : World} (h : RB w w1) (xs ys : List Int) (cs : Array Value) (hcs : cs = (I xs).toArray) (n : Nat) (hn : n = xs.length) (hx : xs.length ≤ 1000) {r : Value} (hr : w2.ownsRow (w1.alloc (.cells cs 2)).heap.size 2 1 r ys.length (I ys)) (hb : Below (w1.alloc (.cells cs 2)).heap.size (w1.alloc (.cells cs 2)) w2) :
    FT w2 (w.heap.size + 1) w2.heap.size (.slice (some ⟨w1.heap.size, 0, none⟩) n n) r xs.length ys.length xs ys ∧ RB w w2 := by
  subst hcs hn
  have hlt := h.lt
  have hs : (w1.alloc (.cells (I xs).toArray 2)).heap.size = w1.heap.size + 1 := by simp
  have o1 := World.ownsRow_lit (base := w.heap.size + 1) (e := 2) (size := 1) w1 (I xs).toArray xs.length (by omega) (by unfold maxLen; omega) (by simp)
  have o2 := own_keep o1 hb (fun j hj => by cases hj; show w1.heap.size < _; rw [hs]; omega)
  refine ⟨⟨by simpa using o2, base_down hr (by rw [hs]; omega), ?_, own_lt o2, own_lt hr, Nat.le_refl _⟩, (h.past _).keep hb⟩
  intro i j hi hj
  cases hi
  have := (hr.lt j hj).1
  rw [hs] at this
  show w1.heap.size ≠ j
  omega
theorem RB.one {w w1 : World} (h : RB w w1) (xs : List Int) (cs : Array Value) (hcs : cs = (I xs).toArray) (n : Nat) (hn : n = xs.length) (hx : xs.length ≤ 1000) :
    FT (w1.alloc (.cells cs 2)) (w.heap.size + 1) (w1.alloc (.cells cs 2)).heap.size (.slice (some ⟨w1.heap.size, 0, none⟩) n n) (.slice none 0 0) xs.length 0 xs [] ∧ RB w (w1.alloc (.cells cs 2)) :=
  h.both xs [] cs hcs n hn hx (World.ownsRow_nil _ _ _ _) (Below.refl _ _)
theorem RB.none {w w1 : World} (h : RB w w1) : FT w1 (w.heap.size + 1) w1.heap.size (.slice none 0 0) (.slice none 0 0) 0 0 [] [] :=
  ⟨World.ownsRow_nil _ _ _ _, World.ownsRow_nil _ _ _ _, fun _ _ hi => (by cases hi), fun _ hi => (by cases hi), fun _ hi => (by cases hi), Nat.le_refl _⟩
end Go.Proofs.Ytkboihakpioebaa
