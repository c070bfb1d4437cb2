import Derived.Test.YtngepdhhdbhglaaGreatDoorK1
import Derived.Deep.OwnRows
import Derived.Laws.MakeOwn
import Derived.Laws.OwnMore
set_option linter.all false
set_option linter.unusedVariables false
namespace Go.Proofs.YtngepdhhdbhglaaGreatDoor
open Go.RowKit
theorem copy_step (k : Nat) (xs : List Int) (h : k < xs.length) : (I (xs.take k ++ (List.replicate xs.length 0).drop k)).set k (.int .i64 (xs.getD k 0)) = I (xs.take (k + 1) ++ (List.replicate xs.length 0).drop (k + 1)) := by
  have hd : (List.replicate xs.length (0 : Int)).drop k = 0 :: (List.replicate xs.length (0 : Int)).drop (k + 1) := by
    rw [List.drop_eq_getElem_cons (by simpa using h)]; simp
  have ht : xs.take (k + 1) = xs.take k ++ [xs.getD k 0] := by
    rw [List.take_succ_eq_append_getElem h]; simp [List.getD, h]
  rw [hd, ht]
  simp only [I, List.map_append, List.map_cons, List.append_assoc, List.cons_append, List.nil_append, List.map_nil]
  rw [List.set_append_right _ _ (by simp; omega)]
  simp [Nat.min_eq_left (Nat.le_of_lt h)]
end Go.Proofs.YtngepdhhdbhglaaGreatDoor
