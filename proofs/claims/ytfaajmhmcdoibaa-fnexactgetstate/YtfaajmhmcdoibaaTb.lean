import Derived.Test.YtfaajmhmcdoibaaBase
import Derived.OwnWalk
import Derived.Handy
import Derived.Deep.OwnRows
import Derived.Laws.MakeOwn
import Derived.Laws.OwnMore
import Derived.Laws.AppendOwn
import Derived.Deep.RegionLaw
import Derived.Deep.Cut
import Derived.Deep.DeepCutAuto
import Derived.Lib.QuietBelow
import Derived.Deep.RegionHeld3
import Derived.Deep.RegionWith
set_option linter.all false
set_option linter.unusedVariables false
namespace Go.Proofs.Ytfaajmhmcdoibaa
open Go.RowKit
theorem Try.info2 : (Try.prog.info? 2).map (fun i => (i.zero, i.size, i.bytes)) = some (some (.int .i64 0), 1, 8) := by kernel_rfl
abbrev I (xs : List Int) : List Value := xs.map fun x => Value.int .i64 x
theorem grown_trans {a b c : World} {row : Option Nat} (h : a.grownBy b row) (k : b.grownBy c row) : a.grownBy c row :=
  ⟨k.os.trans h.os, k.tape.trans h.tape, k.output.trans h.output, Nat.le_trans h.size k.size, fun i hi hne => (k.block i (Nat.lt_of_lt_of_le hi h.size) hne).trans (h.block i hi hne)⟩
theorem below_drewN' {B : Nat} {w w' : World} (h : Below B w w') (n : Nat) : Below B w (w'.drewN n) := ⟨h.os, h.tape, h.output, h.size, h.block⟩
theorem heap_new (w : World) (o : Obj) : (w.alloc o).heap[w.heap.size]? = some o := by show (w.heap.push o)[w.heap.size]? = _; simp
theorem heap_old (w : World) (o : Obj) (k : Nat) (h : k < w.heap.size) : (w.alloc o).heap[k]? = w.heap[k]? := by show (w.heap.push o)[k]? = _; rw [Array.getElem?_push_lt h, Array.getElem?_eq_getElem h]
/-- Nothing but blocks in [B, C) and new ones has changed. -/
structure Bet (B C : Nat) (w w' : World) : Prop where
  os : w'.os = w.os
  tape : w'.tape = w.tape
  output : w'.output = w.output
  size : w.heap.size ≤ w'.heap.size
  block : ∀ k, k < B ∨ (C ≤ k ∧ k < w.heap.size) → w'.heap[k]? = w.heap[k]?
theorem Bet.below {B C : Nat} {w w' : World} (h : Bet B C w w') : Below B w w' := ⟨h.os, h.tape, h.output, h.size, fun k hk => h.block k (.inl hk)⟩
theorem Bet.cell {B C : Nat} {w w' : World} (h : Bet B C w w') {b o : Nat} (hk : b < B ∨ (C ≤ b ∧ b < w.heap.size)) : w'.cell? ⟨b, o, none⟩ = w.cell? ⟨b, o, none⟩ := World.cell?_of_block (h.block b hk)
theorem Bet.frozen {B C : Nat} {w w' : World} (h : Bet B C w w') {b o : Nat} (hk : b < B ∨ (C ≤ b ∧ b < w.heap.size)) : w'.frozen? ⟨b, o, none⟩ = w.frozen? ⟨b, o, none⟩ := World.frozen?_of_block (h.block b hk)
theorem set_same {w : World} {p : Addr} {u v : Value} (h : w.cell? p = some u) : (w.setCell p v).cell? p = some v := World.cell?_setCell_same _ _ _ h
theorem set_off {w : World} {g i j : Nat} {u v : Value} (h : w.cell? ⟨g, j, none⟩ = some u) (hn : i ≠ j) : (w.setCell ⟨g, i, none⟩ v).cell? ⟨g, j, none⟩ = some u := by
  rw [World.cell?_setCell_other _ _ _ _ (fun hj => hn (congrArg Addr.off hj))]; exact h
theorem ownE_slice {w : World} {B e : Nat} {v : Value} {n : Nat} {zs : List Value} (h : w.ownsRow B e 1 v n zs) : ∃ a c, v = .slice a n c := by
  rcases h.2 with ⟨e, h0⟩ | ⟨g, cap, cur, hv, _⟩
  · rw [h0]; exact ⟨_, _, e⟩
  · exact ⟨_, _, hv⟩
theorem ownE_split {w : World} {B e : Nat} {v : Value} {n : Nat} {L : List Value} (h : w.ownsRow B e 1 v n L) (hn : 1 ≤ n) : ∃ g cap, v = .slice (some ⟨g, 0, none⟩) n cap ∧ B ≤ g ∧ g < w.heap.size ∧ n ≤ cap := by
  rcases h.2 with ⟨_, h0⟩ | ⟨g, cap, cur, hv, hB, hg, hc, _⟩
  · omega
  · exact ⟨g, cap, hv, hB, (Array.getElem?_eq_some_iff.1 hg).1, hc⟩
theorem ownE_set {w : World} {B e : Nat} {v u : Value} {n b o : Nat} {zs : List Value} (h : w.ownsRow B e 1 v n zs) (hb : v.ownBlock ≠ some b) : (w.setCell ⟨b, o, none⟩ u).ownsRow B e 1 v n zs := by
  refine ⟨h.1, ?_⟩
  rcases h.2 with h0 | ⟨g', cap', cur, hv, hB, hh, r⟩
  · exact .inl h0
  · subst hv
    exact .inr ⟨g', cap', cur, rfl, hB, (Below.heap_setCell _ _ _ _ (fun e => hb (by simp [Value.ownBlock, e]))).trans hh, r⟩
theorem wp_gen {P : Program} {c : Code} {Q : Exit → Act → World → Prop} {a : Act} {w0 : World} (R : World → Prop) (hR : R w0) (h : ∀ W, R W → c.wp P Q a W) : c.wp P Q a w0 := h w0 hR
theorem body_gen {P : Program} {fn : Func} {Rr : Ending → World → Prop} {ex : Exit} {a : Act} {w0 : World} (R : World → Prop) (hR : R w0) (h : ∀ W, R W → bodyPost P fn Rr ex a W) : bodyPost P fn Rr ex a w0 := h w0 hR
end Go.Proofs.Ytfaajmhmcdoibaa
