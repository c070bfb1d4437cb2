import Derived.Test.YthmppcfhbbjhlaaDoorRt
import Derived.Test.YthmppcfhbbjhlaaDoorRtM
import Derived.Test.YthmppcfhbbjhlaaDoorIw
set_option linter.all false
namespace Go.Proofs.YthmppcfhbbjhlaaDoor
open Go.RowKit Go.Sort

theorem undrewA {w w6 : World} {o : Obj} (h : Below (w.alloc o).drew.heap.size (w.alloc o).drew w6) : Below w.heap.size w w6 :=
  below_box (show Below (w.alloc o).heap.size (w.alloc o) w6 from undrew h)
theorem c2_drewA {w w6 : World} {a b : Value} {t : TypeId} (h : Below (w.alloc (.cells #[a, b] t)).drew.heap.size (w.alloc (.cells #[a, b] t)).drew w6) : C2 w6 w.heap.size a b :=
  c2_new.keep (show Below (w.alloc (.cells #[a, b] t)).heap.size (w.alloc (.cells #[a, b] t)) w6 from undrew h)
theorem C2.set01 {w : World} {g : Nat} {a b a' b' : Value} (h : C2 w g a b) : C2 ((w.setCell ⟨g, 0, none⟩ a').setCell ⟨g, 1, none⟩ b') g a' b' := by
  obtain ⟨⟨h0, h1⟩, f0, f1⟩ := h
  refine ⟨⟨set_off (set_same h0) (by decide), set_same (set_off h1 (by decide))⟩, ?_, ?_⟩
  · rw [World.frozen?_setCell, World.frozen?_setCell]; exact f0
  · rw [World.frozen?_setCell, World.frozen?_setCell]; exact f1
theorem or_bit (R j : Nat) (hR : R % 2 ^ (j + 1) = 0) (hl : R + 2 ^ (j + 1) ≤ 18446744073709551616) : bits .or .u64 (R : Int) ((2 ^ j : Nat) : Int) = ((R + 2 ^ j : Nat) : Int) := by
  have hp : 2 ^ (j + 1) = 2 * 2 ^ j := by rw [Nat.pow_succ, Nat.mul_comm]
  have hj := Nat.two_pow_pos j
  rw [bits_or_u64_nat R (2 ^ j) (by omega) (by omega)]
  have e := Nat.mod_add_div R (2 ^ (j + 1))
  have h := or_add (R / 2 ^ (j + 1)) (2 ^ j) (j + 1) (by omega)
  rw [Nat.mul_comm (R / 2 ^ (j + 1)), show 2 ^ (j + 1) * (R / 2 ^ (j + 1)) = R by omega] at h
  rw [h]
theorem mod_half (R j : Nat) (h : R % 2 ^ (j + 1) = 0) : R % 2 ^ j = 0 ∧ (R + 2 ^ j) % 2 ^ j = 0 := by
  have hp : 2 ^ (j + 1) = 2 ^ j * 2 := by rw [Nat.pow_succ]
  have h1 : R % 2 ^ j = 0 := by
    rw [hp] at h
    have := Nat.mod_mul_right_mod R (2 ^ j) 2
    rw [h, Nat.zero_mod] at this
    exact this.symm
  exact ⟨h1, by rw [Nat.add_mod_right]; exact h1⟩

end Go.Proofs.YthmppcfhbbjhlaaDoor
