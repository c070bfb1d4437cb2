import Derived.Test.YtfaajmhmcdoibaaWq2
import Derived.Test.YtfaajmhmcdoibaaGM
import Derived.Handy
import Derived.Deep.Cut
import Derived.Deep.DeepCutAuto
import Derived.Deep.RegionHeld3
set_option linter.all false
set_option linter.unusedVariables false
namespace Go.Proofs.Ytfaajmhmcdoibaa
open Go.RowKit Go.Sort
def AllB (bs : List Int) : Prop := ∀ i, 0 ≤ bs.getD i 0 ∧ bs.getD i 0 ≤ 255
theorem By.Has.keep {w w1 : World} {a : Option Addr} {xs : List Int} (h : By.Has w a xs) (hb : Below w.heap.size w w1) : By.Has w1 a xs := by
  rcases h with h | ⟨b, o, e, hc⟩
  · exact .inl h
  · exact .inr ⟨b, o, e, fun i hi => (hb.cell (World.block_lt_of_cell? w _ (hc i hi))).trans (hc i hi)⟩
theorem By.Has.grown {w w1 : World} {a : Option Addr} {xs : List Int} {q : Nat} (h : By.Has w a xs) (hg : w.grownBy w1 (some q)) (hne : ∀ x, a = some x → x.block ≠ q) : By.Has w1 a xs := by
  rcases h with h | ⟨b, o, e, hc⟩
  · exact .inl h
  · refine .inr ⟨b, o, e, fun i hi => ?_⟩
    exact hg.cell (hc i hi) (by have := hne _ e; simpa using this)
end Go.Proofs.Ytfaajmhmcdoibaa
