import Derived.Test.YtgjpgcfpgeonlaaDoorPe
import Derived.Test.YtgjpgcfpgeonlaaDoorPs4
import Derived.Laws.IdiomStrings
set_option linter.all false
set_option linter.unusedVariables false
namespace Go.Proofs.YtgjpgcfpgeonlaaDoor
open Go.RowKit Go.Sort
set_option maxRecDepth 100000
def gd (x : In) : Bool := goodF (formR (rowOf x.op)) x
theorem form_range (op : Int) : formR (rowOf op) = -1 ∨ formR (rowOf op) = 0 ∨ formR (rowOf op) = 1 ∨ formR (rowOf op) = 2 ∨ formR (rowOf op) = 3 ∨ formR (rowOf op) = 4 ∨ formR (rowOf op) = 5 ∨ formR (rowOf op) = 6 ∨ formR (rowOf op) = 7 ∨ formR (rowOf op) = 8 ∨ formR (rowOf op) = 9 ∨ formR (rowOf op) = 10 := by
  by_cases h : 0 ≤ op ∧ op < 192
  · have e := of_decide_eq_true (rng 0 192 (fun i => decide (-1 ≤ formR (tbl.getD i Z0) ∧ formR (tbl.getD i Z0) ≤ 10)) (by decide +kernel) op (by omega) (by omega))
    have er : rowOf op = tbl.getD op.toNat Z0 := by simp only [rowOf, h, and_self, if_true]
    rw [← er] at e
    omega
  · have er : rowOf op = Z0 := by simp only [rowOf, h, if_false]
    rw [er]; left; decide
theorem isIns_c (x : In) (la : Option Addr) (lc : Nat) (w : World) (hv : 0 ≤ x.v) (hln : x.l.length ≤ 1099511627776) (hH : Has w la x.l) : Calls Tryd.prog 17 #[inV x la lc] w fun e w' => e = .returned (.bool (gd x)) ∧ Below w.heap.size w w' := by
  obtain ⟨op, a, b, v, l⟩ := x
  rcases form_range op with h | h | h | h | h | h | h | h | h | h | h | h
  · have := igood_m1 op a b v l la lc w h hv; simp only [gd, h]; exact this
  · have := igood_0 op a b v l la lc w h hv; simp only [gd, h]; exact this
  · have := igood_1 op a b v l la lc w h hv; simp only [gd, h]; exact this
  · have := igood_2 op a b v l la lc w h hv; simp only [gd, h]; exact this
  · have := igood_3 op a b v l la lc w h hv hln hH; simp only [gd, h]; exact this
  · have := igood_4 op a b v l la lc w h hv; simp only [gd, h]; exact this
  · have := igood_5 op a b v l la lc w h hv; simp only [gd, h]; exact this
  · have := igood_6 op a b v l la lc w h hv; simp only [gd, h]; exact this
  · have := igood_7 op a b v l la lc w h hv; simp only [gd, h]; exact this
  · have := igood_8 op a b v l la lc w h hv; simp only [gd, h]; exact this
  · have := igood_9 op a b v l la lc w h hv; simp only [gd, h]; exact this
  · have := igood_10 op a b v l la lc w h hv; simp only [gd, h]; exact this
end Go.Proofs.YtgjpgcfpgeonlaaDoor

namespace Go.Proofs.YtgjpgcfpgeonlaaDoor
open Go.RowKit Go.Sort
set_option maxRecDepth 100000
theorem good_c (x : In) (la : Option Addr) (lc : Nat) (w : World) (hv : 0 ≤ x.v) (hln : x.l.length ≤ 1099511627776) (hH : Has w la x.l) : Calls Tryd.prog 14 #[inV x la lc] w fun e w' => e = .returned (.bool (gd x)) ∧ Below w.heap.size w w' := by
  rcases form_range x.op with h | h | h | h | h | h | h | h | h | h | h | h
  · simp only [gd, h]; exact sgood_m1 x la lc w h hv
  · simp only [gd, h]; exact sgood_0 x la lc w h hv
  · simp only [gd, h]; exact sgood_1 x la lc w h hv
  · simp only [gd, h]; exact sgood_2 x la lc w h hv
  · simp only [gd, h]; exact sgood_3 x la lc w h hv hln hH
  · simp only [gd, h]; exact sgood_4 x la lc w h hv
  · simp only [gd, h]; exact sgood_5 x la lc w h hv
  · simp only [gd, h]; exact sgood_6 x la lc w h hv
  · simp only [gd, h]; exact sgood_7 x la lc w h hv
  · simp only [gd, h]; exact sgood_8 x la lc w h hv
  · simp only [gd, h]; exact sgood_9 x la lc w h hv
  · simp only [gd, h]; exact sgood_10 x la lc w h hv
end Go.Proofs.YtgjpgcfpgeonlaaDoor

namespace Go.Proofs.YtgjpgcfpgeonlaaDoor
open Go.RowKit Go.Sort
set_option maxRecDepth 100000
def bytesOf (s : ByteArray) : List Int := s.data.toList.map fun b => (b.toNat : Int)
theorem bytes_len (s : ByteArray) : (bytesOf s).length = s.size := by simp [bytesOf]
theorem bytes_at (s : ByteArray) (c i : Nat) (hi : i < (bytesOf s).length) : (bytesRow s c)[i]? = some (.int .u8 ((bytesOf s).getD i 0)) := by
  have hl : i < s.data.size := by simpa [bytesOf] using hi
  unfold bytesRow
  rw [Array.getElem?_append_left (by simpa using hl)]
  have e : s.data[i]? = some s.data[i] := Array.getElem?_eq_getElem hl
  simp [bytesOf, List.getD, e]
theorem bytesRow_cells (s : ByteArray) (c : Nat) (w : World) (e : TypeId) (f : Nat × Nat) : ∀ i, i < (bytesOf s).length → (w.drew.alloc (.cells (bytesRow s c) e f)).cell? ⟨w.heap.size, 0 + i, none⟩ = some (.int .u8 ((bytesOf s).getD i 0)) := by
  intro i hi
  have h : (w.drew.alloc (.cells (bytesRow s c) e f)).heap[w.heap.size]? = some (.cells (bytesRow s c) e f) := heap_new w.drew _
  rw [Nat.zero_add]
  simp only [World.cell?, h]
  exact bytes_at s c i hi
end Go.Proofs.YtgjpgcfpgeonlaaDoor

