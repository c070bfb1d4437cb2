import Derived.Test.YtkboihakpioebaaT2
set_option linter.all false
set_option linter.unusedVariables false
namespace Go.Proofs.Ytkboihakpioebaa
open Go.RowKit
theorem own_shape {w : World} {B : Nat} {v : Value} {xs : List Int} (h : w.ownsRow B 2 1 v xs.length (I xs)) : ∃ a c, v = .slice a xs.length c ∧ Has w a xs := by
  rcases h.2 with ⟨e, h0⟩ | ⟨g, cap, cur, hv, hB, hg, r⟩
  · rw [h0]; exact ⟨_, _, e, .inl (List.length_eq_zero_iff.1 h0)⟩
  · subst hv; exact ⟨_, _, rfl, own_has h⟩
theorem own_keep {w w' : World} {B C n : Nat} {v : Value} {xs : List Value} (h : w.ownsRow B 2 1 v n xs) (hb : Below C w w') (hg : ∀ j, v.ownBlock = some j → j < C) : w'.ownsRow B 2 1 v n xs := by
  refine ⟨h.1, ?_⟩
  rcases h.2 with h0 | ⟨g, cap, cur, hv, hB, hh, r⟩
  · exact .inl h0
  · subst hv
    exact .inr ⟨g, cap, cur, rfl, hB, (hb.block g (hg g rfl)).trans hh, r⟩
theorem own_lt {w : World} {B n : Nat} {v : Value} {xs : List Value} (h : w.ownsRow B 2 1 v n xs) : ∀ j, v.ownBlock = some j → j < w.heap.size := by
  intro j hj; exact (h.lt j hj).2
theorem own_drewN {w : World} {B n : Nat} {v : Value} {xs : List Value} (h : w.ownsRow B 2 1 v n xs) (k : Nat) : (w.drewN k).ownsRow B 2 1 v n xs := h
theorem heap_new (w : World) (o : Obj) : (w.alloc o).heap[w.heap.size]? = some o := by show (w.heap.push o)[w.heap.size]? = _; simp
theorem heap_old (w : World) (o : Obj) (k : Nat) (h : k < w.heap.size) : (w.alloc o).heap[k]? = w.heap[k]? := by show (w.heap.push o)[k]? = _; rw [Array.getElem?_push_lt h, Array.getElem?_eq_getElem h]
theorem eqV (B B' : Nat) (v v' : Value) (xs : List Int) (w : World) (hl : xs.length ≤ 1099511627776) (h : w.ownsRow B 2 1 v xs.length (I xs)) (h' : w.ownsRow B' 2 1 v' xs.length (I xs)) :
    Calls Try.prog 37 #[v, v'] w fun e w' => e = .returned (.bool true) ∧ ∃ n, w' = w.drewN n := by
  obtain ⟨a, c, rfl, k⟩ := own_shape h
  obtain ⟨a', c', rfl, k'⟩ := own_shape h'
  exact eq_any a a' c c' xs w hl k k'
theorem heldV (B s n : Nat) (v : Value) (w : World) (hs : s ≤ 1000000) (hl : n ≤ 1099511627776) (h : w.ownsRow B 2 1 v n (I (marks s n))) :
    Calls Try.prog 39 #[v, .int .i64 s] w fun e w' => e = .returned (.int .i64 ((s : Int) + n)) ∧ w = w' := by
  have h2 : w.ownsRow B 2 1 v (marks s n).length (I (marks s n)) := by rw [marks_len]; exact h
  obtain ⟨a, c, rfl, k⟩ := own_shape h2
  rw [marks_len]
  exact held_any a c n s w hs hl k
theorem grown_none (w : World) (r : Option Nat) : w.grownBy w r := World.grownBy.refl _ _
theorem markV (B s n : Nat) (v : Value) (xs : List Int) (w : World) (hs : s ≤ 1000000) (hl : n ≤ 1099511627776) (h : w.ownsRow B 2 1 v n (I xs)) :
    Calls Try.prog 38 #[v, .int .i64 s] w fun e w' => e = .returned (.int .i64 ((s : Int) + n)) ∧ w'.ownsRow B 2 1 v n (I (marks s n)) ∧ w.grownBy w' v.ownBlock := by
  by_cases h0 : n = 0
  · subst h0
    have hx : xs = [] := List.length_eq_zero_iff.1 (own_len h)
    subst hx
    obtain ⟨a, c, e, k⟩ := own_shape (xs := []) h
    subst e
    refine (mark_nil a c s w).mono fun e w' ⟨h1, h2⟩ => ?_
    subst h2
    exact ⟨by simpa using h1, by simpa [marks] using h, grown_none _ _⟩
  · obtain ⟨g, cap, rfl, _, _⟩ := own_split h (by omega)
    exact mark_any B g n cap s xs w hs hl h
/-- Two slices of numbers, each in a block of its own (the first's below B2, both in [B, C)). -/
structure FT (w : World) (B C : Nat) (p r : Value) (n m : Nat) (xs ys : List Int) : Prop where
  hp : w.ownsRow B 2 1 p n (I xs)
  hr : w.ownsRow B 2 1 r m (I ys)
  ne : ∀ i j, p.ownBlock = some i → r.ownBlock = some j → i ≠ j
  ltp : ∀ j, p.ownBlock = some j → j < C
  ltr : ∀ j, r.ownBlock = some j → j < C
  le : C ≤ w.heap.size
theorem FT.below {w w' : World} {B C : Nat} {p r : Value} {n m : Nat} {xs ys : List Int} (h : FT w B C p r n m xs ys) {D : Nat} (hb : Below D w w') (hD : C ≤ D) : FT w' B C p r n m xs ys :=
  ⟨own_keep h.hp hb (fun j hj => Nat.lt_of_lt_of_le (h.ltp j hj) hD), own_keep h.hr hb (fun j hj => Nat.lt_of_lt_of_le (h.ltr j hj) hD), h.ne, h.ltp, h.ltr, Nat.le_trans h.le hb.size⟩
/-- Nothing but blocks in [B, C) and new ones has changed. -/
structure Bet (B C : Nat) (w w' : World) : Prop where
  os : w'.os = w.os
  tape : w'.tape = w.tape
  output : w'.output = w.output
  size : w.heap.size ≤ w'.heap.size
  block : ∀ k, k < B ∨ (C ≤ k ∧ k < w.heap.size) → w'.heap[k]? = w.heap[k]?
theorem Bet.below {B C : Nat} {w w' : World} (h : Bet B C w w') : Below B w w' := ⟨h.os, h.tape, h.output, h.size, fun k hk => h.block k (.inl hk)⟩
theorem Bet.cell {B C : Nat} {w w' : World} (h : Bet B C w w') {b o : Nat} (hk : b < B ∨ (C ≤ b ∧ b < w.heap.size)) : w'.cell? ⟨b, o, none⟩ = w.cell? ⟨b, o, none⟩ := World.cell?_of_block (h.block b hk)
theorem Bet.frozen {B C : Nat} {w w' : World} (h : Bet B C w w') {b o : Nat} (hk : b < B ∨ (C ≤ b ∧ b < w.heap.size)) : w'.frozen? ⟨b, o, none⟩ = w.frozen? ⟨b, o, none⟩ := World.frozen?_of_block (h.block b hk)
theorem eqFT (B C B' C' : Nat) (p r p' r' : Value) (xs ys : List Int) (w : World) (hx : xs.length ≤ 1000) (hy : ys.length ≤ 1000) (h : FT w B C p r xs.length ys.length xs ys) (h' : FT w B' C' p' r' xs.length ys.length xs ys) :
    Calls Try.prog 17 #[.agg #[p, r], .agg #[p', r']] w fun e w' => e = .returned (.bool true) ∧ Below w.heap.size w w' := by
  have a1 := h.hp
  have a2 := h'.hp
  have a3 := h.hr
  have a4 := h'.hr
  clear h h'
  have K1 := fun w => eqV B B' p p' xs w (by omega)
  have K2 := fun w => eqV B B' r r' ys w (by omega)
  have H1 := Hid.mk' K1
  have H2 := Hid.mk' K2
  clear K1 K2
  go_enter Try.func17, Try.ntmps17
  go_wp2_with fail
  refine (H1.out _ ((a1.alloc _).alloc _) ((a2.alloc _).alloc _)).mono ?_
  rintro e w1 ⟨rfl, n1, rfl⟩
  go_wp2_with fail
  refine (H2.out _ (own_drewN ((a3.alloc _).alloc _) n1) (own_drewN ((a4.alloc _).alloc _) n1)).mono ?_
  rintro e w1 ⟨rfl, n2, rfl⟩
  go_wp2
  go_ret
  exact ⟨rfl, below_drewN' (((Below.refl _ _).alloc (Nat.le_refl _) _).alloc (by simp) _) _⟩
theorem heldFT (B C n m : Nat) (p r : Value) (w : World) (hx : n ≤ 1000) (hy : m ≤ 1000) (h : FT w B C p r n m (marks 1 n) (marks (1 + n) m)) :
    Calls Try.prog 19 #[.agg #[p, r], .int .i64 1] w fun e w' => e = .returned (.int .i64 ((1 : Int) + n + m)) ∧ Below w.heap.size w w' := by
  have a1 := h.hp
  have a3 := h.hr
  clear h
  have K1 := fun w => heldV B 1 n p w (by omega) (by omega)
  have K2 := fun w => heldV B (1 + n) m r w (by omega) (by omega)
  simp only [Int.natCast_add, Int.natCast_one] at K1 K2
  have H1 := Hid.mk' K1
  have H2 := Hid.mk' K2
  clear K1 K2
  have f1 : ¬ (1 : Int) + n < 0 := by omega
  have f2 : ¬ (1 : Int) + n + m < 0 := by omega
  go_enter Try.func19, Try.ntmps19
  go_wp2_with fail
  refine (H1.out _ (a1.alloc _)).mono ?_
  rintro e w1 ⟨rfl, rfl⟩
  go_wp2_with fail
  refine (H2.out _ (a3.alloc _)).mono ?_
  rintro e w1 ⟨rfl, rfl⟩
  go_wp2
  go_ret
  exact ⟨rfl, (Below.refl _ _).alloc (Nat.le_refl _) _⟩
theorem markFT (B C n m : Nat) (p r : Value) (xs ys : List Int) (w : World) (hB : B ≤ w.heap.size) (hx : n ≤ 1000) (hy : m ≤ 1000) (h : FT w B C p r n m xs ys) :
    Calls Try.prog 18 #[.agg #[p, r], .int .i64 1] w fun e w' => e = .returned (.int .i64 ((1 : Int) + n + m)) ∧ FT w' B C p r n m (marks 1 n) (marks (1 + n) m) ∧ Bet B C w w' := by
  have a1 := h.hp
  have a3 := h.hr
  have K1 := fun w => markV B 1 n p xs w (by omega) (by omega)
  have K2 := fun w => markV B (1 + n) m r ys w (by omega) (by omega)
  simp only [Int.natCast_add, Int.natCast_one] at K1 K2
  have H1 := Hid.mk' K1
  have H2 := Hid.mk' K2
  clear K1 K2
  have HF := Hid.mk' h
  clear h
  have hnew : ∀ (w1 : World) (o : Obj), (w.alloc o).grownBy w1 p.ownBlock → w1.heap[w.heap.size]? = some o := by
    intro w1 o hg
    rw [hg.block w.heap.size (by simp) (fun e => by have := HF.out.ltp _ e.symm; have := HF.out.le; omega)]
    exact heap_new w o
  go_enter Try.func18, Try.ntmps18
  go_wp2_with fail
  refine (H1.out _ (a1.alloc _)).mono ?_
  rintro e w1 ⟨rfl, o1, g1⟩
  have c0 : w1.cell? ⟨w.heap.size, 0, none⟩ = some p := by simp [World.cell?, hnew w1 _ g1]
  have c1 : w1.cell? ⟨w.heap.size, 1, none⟩ = some r := by simp [World.cell?, hnew w1 _ g1]
  have o3 : w1.ownsRow B 2 1 r m (I ys) := (a3.alloc _).kept g1 (by
    cases hr : r.ownBlock with
    | none => exact .inl rfl
    | some j =>
      refine .inr (fun e => ?_)
      exact HF.out.ne j j e.symm hr rfl)
  have G1 := Hid.mk' g1
  clear g1 hnew
  go_wp2_with fail
  refine (H2.out _ o3).mono ?_
  rintro e w2 ⟨rfl, o2, g2⟩
  have o4 : w2.ownsRow B 2 1 p n (I (marks 1 n)) := o1.kept g2 (by
    cases hp : p.ownBlock with
    | none => exact .inl rfl
    | some i =>
      refine .inr (fun e => ?_)
      exact HF.out.ne i i hp e.symm rfl)
  have s1 := G1.out.size
  have s2 := g2.size
  have hle := HF.out.le
  have hbet : Bet B C w w2 := by
    refine ⟨g2.os.trans G1.out.os, g2.tape.trans G1.out.tape, g2.output.trans G1.out.output, by simp at s1; omega, fun k hk => ?_⟩
    have hkw : k < w.heap.size := by omega
    have e1 : w1.heap[k]? = (w.alloc (.cells #[p, r] 29)).heap[k]? := G1.out.block k (by simp; omega) (fun e => by
      have := HF.out.ltp k e.symm
      have h1 := (a1.lt k e.symm).1
      omega)
    have e2 : w2.heap[k]? = w1.heap[k]? := g2.block k (by simp at s1; omega) (fun e => by
      have := HF.out.ltr k e.symm
      have h1 := (a3.lt k e.symm).1
      omega)
    rw [e2, e1]
    exact heap_old w _ k hkw
  have hft : FT w2 B C p r n m (marks 1 n) (marks (1 + n) m) := ⟨o4, o2, HF.out.ne, HF.out.ltp, HF.out.ltr, by simp at s1; omega⟩
  clear G1 g2 o1 o2 o3 o4 a1 a3 HF s1 s2 hle
  go_wp2
  go_ret
  exact ⟨rfl, hft, hbet⟩
end Go.Proofs.Ytkboihakpioebaa
