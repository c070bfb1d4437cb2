import Derived.Test.YtngepdhhdbhglaaGreatDoorK3
import Derived.Lib.QuietBelow
set_option linter.all false
set_option linter.unusedVariables false
namespace Go.Proofs.YtngepdhhdbhglaaGreatDoor
open Go.RowKit Go.Sort
theorem Cp.lst {w wr : World} {g : Nat} {xs : List In} (h : Cp w g xs.length xs.length xs wr) : Lst wr (some ⟨g, 0, none⟩) xs := by
  refine .inr ⟨g, 0, rfl, fun i hi => ?_⟩
  obtain ⟨q, c, o⟩ := h.done i hi
  obtain ⟨⟨h0, h1, h2, h3, h4⟩, _⟩ := c
  rw [Nat.zero_add]
  exact ⟨_, _, h0, h1, h2, h3, h4, own_has o⟩
set_option maxHeartbeats 1000000 in
theorem eqIn_c (x : In) (la la' : Option Addr) (lc lc' : Nat) (w : World) (hl : x.l.length ≤ 1099511627776) (h : Has w la x.l) (h' : Has w la' x.l) :
    Calls Tryz.prog 19 #[inV x la lc, inV x la' lc'] w fun e w' => e = .returned (.bool true) ∧ Below w.heap.size w w' := by
  have b2 : ∀ o1 o2, Below w.heap.size w ((w.alloc o1).alloc o2) := fun o1 o2 => ((Below.refl _ _).alloc (Nat.le_refl _) _).alloc (by simp) _
  have H := Hid.mk' (fun o1 o2 => eq_any la la' lc lc' x.l ((w.alloc o1).alloc o2) hl (h.keep (b2 o1 o2)) (h'.keep (b2 o1 o2)))
  have HB := Hid.mk' b2
  clear h h' b2
  go_enter Tryz.func19, Tryz.ntmps19
  go_wp2_with fail
  refine (H.out _ _).mono ?_
  rintro e w1 ⟨rfl, n1, rfl⟩
  go_wp2
  go_ret
  exact ⟨rfl, below_drewN' (HB.out _ _) n1⟩
end Go.Proofs.YtngepdhhdbhglaaGreatDoor
