import Derived.Test.YtfaajmhmcdoibaaBase
import Derived.Test.YtfaajmhmcdoibaaMath
import Derived.WalkKit
import Derived.WalkSpells
import Derived.WalkLawsBesides
set_option linter.all false
namespace Go.Proofs.Ytfaajmhmcdoibaa
open Go.RowKit
theorem cutU_any (x wd : Int) (w : World) (_h0 : 0 ≤ x) (_h1 : x ≤ 18446744073709551615) (hw : 1 ≤ wd) (hw2 : wd ≤ 1000) :
    Calls Try.prog 89 #[.int .u64 x, .int .i64 wd] w fun e w' => e = .returned (.int .u64 (cutU x wd)) ∧ w = w' := by
  by_cases h : 64 ≤ wd
  · have e : cutU x wd = x := by unfold cutU; rw [if_pos h]
    rw [e]
    clear e
    go_enter Try.func89, Try.ntmps89
    go_wp2
    go_ret
    exact ⟨rfl, rfl⟩
  · have e : cutU x wd = IntKind.u64.wrap (x * 2 ^ (64 - wd).toNat) / 2 ^ (64 - wd).toNat := by unfold cutU; rw [if_neg h]
    rw [e]
    clear e
    go_enter Try.func89, Try.ntmps89
    go_wp2
    go_ret
    exact ⟨rfl, rfl⟩
theorem Try.info5 : (Try.prog.info? 5).map (fun i => (i.zero, i.size, i.bytes)) = some (some (.int .u8 0), 1, 1) := by kernel_rfl

/-- Behind an append of one byte to a row of the call's own. -/
theorem below_push {B : Nat} {w wr w1 : World} {v : Value} {n : Nat} {xs : List Value} {o : Obj} (hown : wr.ownsRow B 5 1 v n xs) (hbel : Below B w wr) (hB : B ≤ wr.heap.size) (hgrow : (wr.alloc o).grownBy w1 v.ownBlock) : Below B w w1 :=
  (hbel.alloc hB o).grown hgrow (by simp; omega) (fun j hj => (hown.lt j hj).1)

theorem oneB (b : Int) : ∀ u ∈ [Value.int .u8 b], u.oneCell' = true := by
  intro u hu; simp at hu; subst hu; rfl

theorem owns_push {B : Nat} {w1 : World} {v : Value} {pre : List Int} {b : Int} (h : w1.ownsRow B 5 1 v (pre.length + 1) (U pre ++ [.int .u8 b])) : w1.ownsRow B 5 1 v (pre ++ [b]).length (U (pre ++ [b])) := by
  simpa using h
end Go.Proofs.Ytfaajmhmcdoibaa
