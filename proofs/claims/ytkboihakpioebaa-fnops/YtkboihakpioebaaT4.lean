import Derived.Test.YtkboihakpioebaaT3
set_option linter.all false
set_option linter.unusedVariables false
namespace Go.Proofs.Ytkboihakpioebaa
open Go.RowKit
theorem oneI (b : Int) : ∀ u ∈ [Value.int .i64 b], u.oneCell' = true := by
  intro u hu; simp at hu; subst hu; rfl
theorem gcell {w w' : World} {row : Option Nat} (h : w.grownBy w' row) {b o : Nat} (hb : b < w.heap.size) (hne : some b ≠ row) : w'.cell? ⟨b, o, none⟩ = w.cell? ⟨b, o, none⟩ := World.cell?_of_block (h.block b hb hne)
theorem gfroz {w w' : World} {row : Option Nat} (h : w.grownBy w' row) {b o : Nat} (hb : b < w.heap.size) (hne : some b ≠ row) : w'.frozen? ⟨b, o, none⟩ = w.frozen? ⟨b, o, none⟩ := World.frozen?_of_block (h.block b hb hne)
structure OT (w : World) (G3 G4 : Nat) (v : Value) (pre : List Int) (g : Int) (wr : World) : Prop where
  own : wr.ownsRow (G4 + 1) 2 1 v pre.length (I pre)
  t0 : wr.cell? ⟨G4, 0, none⟩ = some v
  t1 : wr.cell? ⟨G4, 1, none⟩ = some (.slice none 0 0)
  tf0 : wr.frozen? ⟨G4, 0, none⟩ = false
  tf1 : wr.frozen? ⟨G4, 1, none⟩ = false
  g3 : wr.cell? ⟨G3, 4, none⟩ = some (.int .i64 g)
  r0 : wr.cell? ⟨w.heap.size, 0, none⟩ = some (.slice none 0 0)
  r1 : wr.cell? ⟨w.heap.size, 1, none⟩ = some (.slice none 0 0)
  rf0 : wr.frozen? ⟨w.heap.size, 0, none⟩ = false
  rf1 : wr.frozen? ⟨w.heap.size, 1, none⟩ = false
  bel : Below w.heap.size w wr
  l1 : w.heap.size < G3
  l2 : G3 < G4
  l3 : G4 < wr.heap.size
theorem OT.push {w wr w1 : World} {G3 G4 : Nat} {v v' : Value} {pre : List Int} {g x : Int} {o : Obj} (h : OT w G3 G4 v pre g wr) (ho : w1.ownsRow (G4 + 1) 2 1 v' (pre.length + 1) (I pre ++ [.int .i64 x])) (hg : (wr.alloc o).grownBy w1 v.ownBlock) :
    OT w G3 G4 v' (pre ++ [x]) g (w1.setCell ⟨G4, 0, none⟩ v') ∧ w1.cell? ⟨G4, 0, none⟩ = some v ∧ w1.frozen? ⟨G4, 0, none⟩ = false := by
  have l1 := h.l1
  have l2 := h.l2
  have l3 := h.l3
  have sz := hg.size
  simp only [World.size_alloc] at sz
  have hb : ∀ b, b ≤ G4 → w1.heap[b]? = wr.heap[b]? := fun b hbb => by
    rw [hg.block b (by simp; omega) (fun e => by have := (h.own.lt b e.symm).1; omega)]
    exact heap_old wr o b (by omega)
  have hc : ∀ b o, b ≤ G4 → w1.cell? ⟨b, o, none⟩ = wr.cell? ⟨b, o, none⟩ := fun b o hbb => World.cell?_of_block (hb b hbb)
  have hf : ∀ b o, b ≤ G4 → w1.frozen? ⟨b, o, none⟩ = wr.frozen? ⟨b, o, none⟩ := fun b o hbb => World.frozen?_of_block (hb b hbb)
  have c0 : w1.cell? ⟨G4, 0, none⟩ = some v := by rw [hc _ _ (Nat.le_refl _)]; exact h.t0
  have hk : ∀ b, b ≠ G4 → (w1.setCell ⟨G4, 0, none⟩ v').heap[b]? = w1.heap[b]? := fun b hbb => Below.heap_setCell _ _ _ _ hbb
  have hc' : ∀ b o, b < G4 → (w1.setCell ⟨G4, 0, none⟩ v').cell? ⟨b, o, none⟩ = wr.cell? ⟨b, o, none⟩ := fun b o hbb => World.cell?_of_block ((hk b (by omega)).trans (hb b (by omega)))
  have hf' : ∀ b o, b ≤ G4 → (w1.setCell ⟨G4, 0, none⟩ v').frozen? ⟨b, o, none⟩ = wr.frozen? ⟨b, o, none⟩ := fun b o hbb => by rw [World.frozen?_setCell]; exact hf b o hbb
  have own' : (w1.setCell ⟨G4, 0, none⟩ v').ownsRow (G4 + 1) 2 1 v' (pre ++ [x]).length (I (pre ++ [x])) := by
    have h1 : w1.ownsRow (G4 + 1) 2 1 v' (pre ++ [x]).length (I (pre ++ [x])) := by simpa using ho
    refine ⟨h1.1, ?_⟩
    rcases h1.2 with h0 | ⟨g, cap, cur, hv, hB, hh, r⟩
    · exact .inl h0
    · exact .inr ⟨g, cap, cur, hv, hB, (hk g (by omega)).trans hh, r⟩
  have bel' : Below w.heap.size w (w1.setCell ⟨G4, 0, none⟩ v') :=
    Below.setCell (((h.bel.alloc h.bel.size o).grown hg (by have := h.bel.size; simp; omega) (fun j hj => by have := (h.own.lt j hj).1; omega))) (by show w.heap.size ≤ G4; omega) _
  have t1' : w1.cell? ⟨G4, 1, none⟩ = some (.slice none 0 0) := by rw [hc _ _ (Nat.le_refl _)]; exact h.t1
  refine ⟨⟨own', World.cell?_setCell_same _ _ _ c0, ?_, ?_, ?_, ?_, ?_, ?_, ?_, ?_, bel', l1, l2, by simp; omega⟩, c0, by rw [hf _ _ (Nat.le_refl _)]; exact h.tf0⟩
  · rw [World.cell?_setCell_other _ _ _ _ (fun hj => by simp at hj)]; exact t1'
  · rw [hf' _ _ (Nat.le_refl _)]; exact h.tf0
  · rw [hf' _ _ (Nat.le_refl _)]; exact h.tf1
  · rw [hc' _ _ l2]; exact h.g3
  · rw [hc' _ _ (by omega)]; exact h.r0
  · rw [hc' _ _ (by omega)]; exact h.r1
  · rw [hf' _ _ (by omega)]; exact h.rf0
  · rw [hf' _ _ (by omega)]; exact h.rf1
theorem ix44_0 (a b : Int) (w : World) : (Instr.index 44 (.agg #[.int .i64 a, .int .i64 b]) (.int .i64 0)).run Try.prog w = .ok (.int .i64 a) w := by kernel_rfl
theorem ix44_1 (a b : Int) (w : World) : (Instr.index 44 (.agg #[.int .i64 a, .int .i64 b]) (.int .i64 1)).run Try.prog w = .ok (.int .i64 b) w := by kernel_rfl
theorem ix44 (a b : Int) (k : Nat) (hk : k < 2) (w : World) : (Instr.index 44 (.agg #[.int .i64 a, .int .i64 b]) (.int .i64 k)).run Try.prog w = .ok (.int .i64 ([a, b].getD k 0)) w := by
  match k, hk with
  | 0, _ => exact ix44_0 a b w
  | 1, _ => exact ix44_1 a b w
def nz (xs : List Int) : List Int := xs.filter fun x => x != 0
theorem nz_step (a b : Int) (k : Nat) (hk : k < 2) : nz ([a, b].take (k + 1)) = nz ([a, b].take k) ++ (if [a, b].getD k 0 = 0 then [] else [[a, b].getD k 0]) := by
  match k, hk with
  | 0, _ => by_cases h : a = 0 <;> simp [nz, h]
  | 1, _ => by_cases h : a = 0 <;> by_cases h' : b = 0 <;> simp [nz, h, h']
theorem nz_len (xs : List Int) : (nz xs).length ≤ xs.length := List.length_filter_le _ _
theorem OT.fin {w wr : World} {G3 G4 : Nat} {v : Value} {pre : List Int} {g : Int} (h : OT w G3 G4 v pre g wr) : FT wr w.heap.size wr.heap.size v (.slice none 0 0) pre.length 0 pre [] ∧ Below w.heap.size w wr := by
  have l1 := h.l1
  have l2 := h.l2
  refine ⟨⟨?_, World.ownsRow_nil _ _ _ _, ?_, own_lt h.own, ?_, Nat.le_refl _⟩, h.bel⟩
  · refine ⟨h.own.1, ?_⟩
    rcases h.own.2 with h0 | ⟨g, cap, cur, hv, hB, r⟩
    · exact .inl h0
    · exact .inr ⟨g, cap, cur, hv, by omega, r⟩
  · intro i j _ hj; cases hj
  · intro j hj; cases hj
end Go.Proofs.Ytkboihakpioebaa
