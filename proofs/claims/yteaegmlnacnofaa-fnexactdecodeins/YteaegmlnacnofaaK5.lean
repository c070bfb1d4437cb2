import Derived.Test.YteaegmlnacnofaaK4
set_option linter.all false
set_option linter.unusedVariables false
namespace Go.Proofs.Yteaegmlnacnofaa
open Go.RowKit Go.Sort
def u32B (x : Int) : Bool := decide (0 ≤ x ∧ x ≤ 4294967295)
def tyB (x : Int) : Bool := decide (124 ≤ x ∧ x ≤ 127)
theorem u32_c (x : Int) (w : World) : Calls Try.prog 83 #[.int .i64 x] w fun e w' => e = .returned (.bool (u32B x)) ∧ w = w' := by
  have H := Hid.mk' (l1In_c x 0 4294967295)
  go_enter Try.func83, Try.ntmps83
  go_wp2_with fail
  refine (H.out _).mono ?_
  rintro e w1 ⟨rfl, rfl⟩
  generalize hb : decide (0 ≤ x ∧ x ≤ 4294967295) = bb
  go_wp2
  go_ret
  exact ⟨by rw [← hb]; rfl, rfl⟩
theorem ty_c (x : Int) (w : World) : Calls Try.prog 45 #[.int .i64 x] w fun e w' => e = .returned (.bool (tyB x)) ∧ w = w' := by
  have H := Hid.mk' (l1In_c x 124 127)
  go_enter Try.func45, Try.ntmps45
  go_wp2_with fail
  refine (H.out _).mono ?_
  rintro e w1 ⟨rfl, rfl⟩
  generalize hb : decide (124 ≤ x ∧ x ≤ 127) = bb
  go_wp2
  go_ret
  exact ⟨by rw [← hb]; rfl, rfl⟩
theorem iu32_c (x : Int) (w : World) : Calls Try.prog 84 #[.int .i64 x] w fun e w' => e = .returned (.bool (u32B x)) ∧ w = w' := by
  go_enter Try.func84, Try.ntmps84
  go_wp2
  all_goals
    go_ret
    refine ⟨?_, rfl⟩
    simp [u32B, *]
    try omega
theorem ity_c (x : Int) (w : World) : Calls Try.prog 78 #[.int .i64 x] w fun e w' => e = .returned (.bool (tyB x)) ∧ w = w' := by
  go_enter Try.func78, Try.ntmps78
  go_wp2
  all_goals
    go_ret
    refine ⟨?_, rfl⟩
    simp [tyB, *]
    try omega
theorem u32B_zero : u32B 0 = true := rfl
theorem len0 (l : List Int) : ((l.length : Int) == 0) = l.isEmpty := by
  cases l with
  | nil => rfl
  | cons a t => simp; omega
def goodF (f : Int) (x : In) : Bool :=
  if f = 0 ∨ f = 6 then decide (x.a = 0) && decide (x.b = 0) && decide (x.v = 0) && x.l.isEmpty
  else if f = 1 then (decide (x.a = 64) || tyB x.a) && decide (x.b = 0) && decide (x.v = 0) && x.l.isEmpty
  else if f = 2 ∨ f = 4 then u32B x.a && decide (x.b = 0) && decide (x.v = 0) && x.l.isEmpty
  else if f = 3 then x.l.all u32B && u32B x.a && decide (x.b = 0) && decide (x.v = 0)
  else if f = 5 then u32B x.a && u32B x.b && decide (x.v = 0) && x.l.isEmpty
  else if f = 7 ∨ f = 9 then decide (x.a = 0) && decide (x.b = 0) && decide (x.v < 4294967296) && x.l.isEmpty
  else if f = 8 ∨ f = 10 then decide (x.a = 0) && decide (x.b = 0) && x.l.isEmpty
  else false
end Go.Proofs.Yteaegmlnacnofaa
