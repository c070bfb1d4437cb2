import Derived.Test.YtngepdhhdbhglaaGreatDoorT2
set_option linter.all false
set_option linter.unusedVariables false
namespace Go.Proofs.YtngepdhhdbhglaaGreatDoor
open Go.RowKit
theorem own_shape {w : World} {B : Nat} {v : Value} {xs : List Int} (h : w.ownsRow B 2 1 v xs.length (I xs)) : ∃ a c, v = .slice a xs.length c ∧ Has w a xs := by
  rcases h.2 with ⟨e, h0⟩ | ⟨g, cap, cur, hv, hB, hg, r⟩
  · rw [h0]; exact ⟨_, _, e, .inl (List.length_eq_zero_iff.1 h0)⟩
  · subst hv; exact ⟨_, _, rfl, own_has h⟩
theorem own_keep {w w' : World} {B C n : Nat} {v : Value} {xs : List Value} (h : w.ownsRow B 2 1 v n xs) (hb : Below C w w') (hg : ∀ j, v.ownBlock = some j → j < C) : w'.ownsRow B 2 1 v n xs := by
  refine ⟨h.1, ?_⟩
  rcases h.2 with h0 | ⟨g, cap, cur, hv, hB, hh, r⟩
  · exact .inl h0
  · subst hv
    exact .inr ⟨g, cap, cur, rfl, hB, (hb.block g (hg g rfl)).trans hh, r⟩
theorem own_lt {w : World} {B n : Nat} {v : Value} {xs : List Value} (h : w.ownsRow B 2 1 v n xs) : ∀ j, v.ownBlock = some j → j < w.heap.size := by
  intro j hj; exact (h.lt j hj).2
theorem own_drewN {w : World} {B n : Nat} {v : Value} {xs : List Value} (h : w.ownsRow B 2 1 v n xs) (k : Nat) : (w.drewN k).ownsRow B 2 1 v n xs := h
theorem heap_new (w : World) (o : Obj) : (w.alloc o).heap[w.heap.size]? = some o := by show (w.heap.push o)[w.heap.size]? = _; simp
theorem heap_old (w : World) (o : Obj) (k : Nat) (h : k < w.heap.size) : (w.alloc o).heap[k]? = w.heap[k]? := by show (w.heap.push o)[k]? = _; rw [Array.getElem?_push_lt h, Array.getElem?_eq_getElem h]
theorem eqV (B B' : Nat) (v v' : Value) (xs : List Int) (w : World) (hl : xs.length ≤ 1099511627776) (h : w.ownsRow B 2 1 v xs.length (I xs)) (h' : w.ownsRow B' 2 1 v' xs.length (I xs)) :
    Calls Tryz.prog 37 #[v, v'] w fun e w' => e = .returned (.bool true) ∧ ∃ n, w' = w.drewN n := by
  obtain ⟨a, c, rfl, k⟩ := own_shape h
  obtain ⟨a', c', rfl, k'⟩ := own_shape h'
  exact eq_any a a' c c' xs w hl k k'
theorem heldV (B s n : Nat) (v : Value) (w : World) (hs : s ≤ 1000000) (hl : n ≤ 1099511627776) (h : w.ownsRow B 2 1 v n (I (marks s n))) :
    Calls Tryz.prog 39 #[v, .int .i64 s] w fun e w' => e = .returned (.int .i64 ((s : Int) + n)) ∧ w = w' := by
  have h2 : w.ownsRow B 2 1 v (marks s n).length (I (marks s n)) := by rw [marks_len]; exact h
  obtain ⟨a, c, rfl, k⟩ := own_shape h2
  rw [marks_len]
  exact held_any a c n s w hs hl k
theorem grown_none (w : World) (r : Option Nat) : w.grownBy w r := World.grownBy.refl _ _
theorem markV (B s n : Nat) (v : Value) (xs : List Int) (w : World) (hs : s ≤ 1000000) (hl : n ≤ 1099511627776) (h : w.ownsRow B 2 1 v n (I xs)) :
    Calls Tryz.prog 38 #[v, .int .i64 s] w fun e w' => e = .returned (.int .i64 ((s : Int) + n)) ∧ w'.ownsRow B 2 1 v n (I (marks s n)) ∧ w.grownBy w' v.ownBlock := by
  by_cases h0 : n = 0
  · subst h0
    have hx : xs = [] := List.length_eq_zero_iff.1 (own_len h)
    subst hx
    obtain ⟨a, c, e, k⟩ := own_shape (xs := []) h
    subst e
    refine (mark_nil a c s w).mono fun e w' ⟨h1, h2⟩ => ?_
    subst h2
    exact ⟨by simpa using h1, by simpa [marks] using h, grown_none _ _⟩
  · obtain ⟨g, cap, rfl, _, _⟩ := own_split h (by omega)
    exact mark_any B g n cap s xs w hs hl h
/-- Two slices of numbers, each in a block of its own (the first's below B2, both in [B, C)). -/
structure FT (w : World) (B C : Nat) (p r : Value) (n m : Nat) (xs ys : List Int) : Prop where
  hp : w.ownsRow B 2 1 p n (I xs)
  hr : w.ownsRow B 2 1 r m (I ys)
  ne : ∀ i j, p.ownBlock = some i → r.ownBlock = some j → i ≠ j
  ltp : ∀ j, p.ownBlock = some j → j < C
  ltr : ∀ j, r.ownBlock = some j → j < C
  le : C ≤ w.heap.size
theorem FT.below {w w' : World} {B C : Nat} {p r : Value} {n m : Nat} {xs ys : List Int} (h : FT w B C p r n m xs ys) {D : Nat} (hb : Below D w w') (hD : C ≤ D) : FT w' B C p r n m xs ys :=
  ⟨own_keep h.hp hb (fun j hj => Nat.lt_of_lt_of_le (h.ltp j hj) hD), own_keep h.hr hb (fun j hj => Nat.lt_of_lt_of_le (h.ltr j hj) hD), h.ne, h.ltp, h.ltr, Nat.le_trans h.le hb.size⟩
/-- Nothing but blocks in [B, C) and new ones has changed. -/
structure Bet (B C : Nat) (w w' : World) : Prop where
  os : w'.os = w.os
  tape : w'.tape = w.tape
  output : w'.output = w.output
  size : w.heap.size ≤ w'.heap.size
  block : ∀ k, k < B ∨ (C ≤ k ∧ k < w.heap.size) → w'.heap[k]? = w.heap[k]?
theorem Bet.below {B C : Nat} {w w' : World} (h : Bet B C w w') : Below B w w' := ⟨h.os, h.tape, h.output, h.size, fun k hk => h.block k (.inl hk)⟩
theorem Bet.cell {B C : Nat} {w w' : World} (h : Bet B C w w') {b o : Nat} (hk : b < B ∨ (C ≤ b ∧ b < w.heap.size)) : w'.cell? ⟨b, o, none⟩ = w.cell? ⟨b, o, none⟩ := World.cell?_of_block (h.block b hk)
theorem Bet.frozen {B C : Nat} {w w' : World} (h : Bet B C w w') {b o : Nat} (hk : b < B ∨ (C ≤ b ∧ b < w.heap.size)) : w'.frozen? ⟨b, o, none⟩ = w.frozen? ⟨b, o, none⟩ := World.frozen?_of_block (h.block b hk)
end Go.Proofs.YtngepdhhdbhglaaGreatDoor
