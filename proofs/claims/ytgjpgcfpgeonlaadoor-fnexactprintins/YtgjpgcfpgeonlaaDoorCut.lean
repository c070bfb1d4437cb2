import Derived.Test.YtgjpgcfpgeonlaaDoorBase
import Derived.Test.YtgjpgcfpgeonlaaDoorMath
import Derived.WalkKit
import Derived.WalkSpells
import Derived.WalkLawsBesides
set_option linter.all false
namespace Go.Proofs.YtgjpgcfpgeonlaaDoor
open Go.RowKit
theorem Tryd.info5 : (Tryd.prog.info? 5).map (fun i => (i.zero, i.size, i.bytes)) = some (some (.int .u8 0), 1, 1) := by kernel_rfl

/-- Behind an append of one byte to a row of the call's own. -/
theorem below_push {B : Nat} {w wr w1 : World} {v : Value} {n : Nat} {xs : List Value} {o : Obj} (hown : wr.ownsRow B 5 1 v n xs) (hbel : Below B w wr) (hB : B ≤ wr.heap.size) (hgrow : (wr.alloc o).grownBy w1 v.ownBlock) : Below B w w1 :=
  (hbel.alloc hB o).grown hgrow (by simp; omega) (fun j hj => (hown.lt j hj).1)

theorem oneB (b : Int) : ∀ u ∈ [Value.int .u8 b], u.oneCell' = true := by
  intro u hu; simp at hu; subst hu; rfl

theorem owns_push {B : Nat} {w1 : World} {v : Value} {pre : List Int} {b : Int} (h : w1.ownsRow B 5 1 v (pre.length + 1) (U pre ++ [.int .u8 b])) : w1.ownsRow B 5 1 v (pre ++ [b]).length (U (pre ++ [b])) := by
  simpa using h
end Go.Proofs.YtgjpgcfpgeonlaaDoor
