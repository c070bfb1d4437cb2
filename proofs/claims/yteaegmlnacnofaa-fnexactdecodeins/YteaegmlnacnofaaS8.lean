import Derived.Test.YteaegmlnacnofaaSB
import Derived.Test.YteaegmlnacnofaaK5
import Derived.Test.YteaegmlnacnofaaDC
set_option linter.all false
set_option linter.unusedVariables false
namespace Go.Proofs.Yteaegmlnacnofaa
open Go.RowKit Go.Sort
set_option maxRecDepth 100000
theorem slow32 (x : Int) (w : World) (h0 : 0 ≤ x) (h1 : x ≤ 18446744073709551615) : Calls Try.prog 48 #[.int .u64 x, .int .i64 32] w fun e w' => e = .returned (.int .u64 (x % 4294967296)) ∧ w = w' := by
  have hp : By.P2 32 = 4294967296 := by decide
  go_enter Try.func48, Try.ntmps48
  go_wp2_with (go_at_call 75; refine (By.pow_any _ _ (by omega) (by omega)).mono ?_; rintro e w' ⟨rfl, rfl⟩)
  go_ret
  exact ⟨rfl, rfl⟩
def SiP (M : Rs In) (w : World) (s : Nat) (ba : Option Addr) (n : Nat) (bs : List Int) (e : Ending) (w' : World) : Prop :=
  w.grownBy w' (some s) ∧ ∃ x la lc, e = .returned (inV x la lc) ∧ (match M with
    | .bad er a => er ≠ 0 ∧ ∃ p' ev, Sr w' s ba ⟨n, ev⟩ bs p' er a
    | .ok x' p' => x = x' ∧ w'.ownsRow w.heap.size 2 1 (.slice la x.l.length lc) x.l.length (I x.l) ∧ ∃ ev, Sr w' s ba ⟨n, ev⟩ bs p' 0 0)
theorem Sr.far {W : World} {s X : Nat} {ba : Option Addr} {bc : BC} {bs : List Int} {p : Nat} {er at_ : Int} (h : Sr W s ba bc bs p er at_) (hX : s < X) (o : Nat) (v : Value) : Sr (W.setCell ⟨X, o, none⟩ v) s ba bc bs p er at_ :=
  h.grown (grown_set W X o v) (by simp; omega) (fun k hk => by simp at hk; omega)
theorem sg_far {w W : World} {s X : Nat} (h : w.grownBy W (some s)) (hX : w.heap.size ≤ X) (o : Nat) (v : Value) : w.grownBy (W.setCell ⟨X, o, none⟩ v) (some s) :=
  grown_past h (grown_set W X o v) (fun k hk => by simp at hk; omega)
/-- Behind the five stores of the answer. -/
theorem sr_fin {w W : World} {s : Nat} {ba : Option Addr} {bc : BC} {bs : List Int} {p : Nat} {er at_ : Int} {v0 v1 v2 v3 v4 : Value} (hR : Sr W s ba bc bs p er at_) (hG : w.grownBy W (some s)) (hs : s < w.heap.size) :
    w.grownBy (((((W.setCell ⟨w.heap.size, 0, none⟩ v0).setCell ⟨w.heap.size, 1, none⟩ v1).setCell ⟨w.heap.size, 2, none⟩ v2).setCell ⟨w.heap.size, 3, none⟩ v3).setCell ⟨w.heap.size, 4, none⟩ v4) (some s) ∧ Sr (((((W.setCell ⟨w.heap.size, 0, none⟩ v0).setCell ⟨w.heap.size, 1, none⟩ v1).setCell ⟨w.heap.size, 2, none⟩ v2).setCell ⟨w.heap.size, 3, none⟩ v3).setCell ⟨w.heap.size, 4, none⟩ v4) s ba bc bs p er at_ :=
  ⟨sg_far (sg_far (sg_far (sg_far (sg_far hG (Nat.le_refl _) _ _) (Nat.le_refl _) _ _) (Nat.le_refl _) _ _) (Nat.le_refl _) _ _) (Nat.le_refl _) _ _, ((((hR.far hs _ _).far hs _ _).far hs _ _).far hs _ _).far hs _ _⟩
end Go.Proofs.Yteaegmlnacnofaa
