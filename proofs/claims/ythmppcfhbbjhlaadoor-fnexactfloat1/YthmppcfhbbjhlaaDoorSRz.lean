import Derived.Test.YthmppcfhbbjhlaaDoorDg6
import Derived.Test.YthmppcfhbbjhlaaDoorSt
import Derived.Test.YthmppcfhbbjhlaaDoorRtM
set_option linter.all false
namespace Go.Proofs.YthmppcfhbbjhlaaDoor
open Go.RowKit Go.Sort

theorem szero_key (k : Int) (g : Bool) (v : Value) (x : Int) (s : Nat) (w : World) (hs : bl s ≤ 4000) (hS : SN w v s) :
    Calls Tryd.prog 66 #[SV k g v x] w fun e w' => e = .returned (.bool (decide (k = 0) && decide (s = 0))) ∧ Below w.heap.size w w' := by
  obtain ⟨a, cap, rfl, -⟩ := hS
  have hl : (dg s).length = 0 ↔ s = 0 := by
    constructor
    · intro h
      have := dg_lt s; rw [h] at this; simpa using this
    · intro h; subst h; simp [dg_zero]
  have sh := dg_short (x := s) (by omega)
  by_cases hk : k = 0
  · subst hk
    by_cases h0 : s = 0
    · have e : (dg s).length = 0 := hl.2 h0
      rw [e, show (decide ((0 : Int) = 0) && decide (s = 0)) = true by simp [h0]]
      clear e h0 hl sh hs
      go_enter Tryd.func66, Tryd.ntmps66
      go_wp2
      go_ret
      exact ⟨rfl, by repeat (first | exact Below.refl _ _ | refine Below.alloc ?_ (by first | (simp; done) | (simp; omega)) _ | refine Below.drew ?_)⟩
    · have e : (dg s).length ≠ 0 := fun h => h0 (hl.1 h)
      rw [show (decide ((0 : Int) = 0) && decide (s = 0)) = false by simp [h0]]
      generalize (dg s).length = n at *
      have e2 : ((n : Int) == 0) = false := beq_eq_false_iff_ne.2 (by omega)
      clear h0 hl hs
      go_enter Tryd.func66, Tryd.ntmps66
      go_wp2
      go_ret
      exact ⟨rfl, by repeat (first | exact Below.refl _ _ | refine Below.alloc ?_ (by first | (simp; done) | (simp; omega)) _ | refine Below.drew ?_)⟩
  · have e0 : (k == 0) = false := by simpa using hk
    rw [show (decide (k = 0) && decide (s = 0)) = false by simp [hk]]
    clear hl sh hs
    go_enter Tryd.func66, Tryd.ntmps66
    go_wp2
    go_ret
    exact ⟨rfl, by repeat (first | exact Below.refl _ _ | refine Below.alloc ?_ (by first | (simp; done) | (simp; omega)) _ | refine Below.drew ?_)⟩

end Go.Proofs.YthmppcfhbbjhlaaDoor
