import Derived.Test.YtngepdhhdbhglaaGreatDoorBase
import Derived.Test.YtngepdhhdbhglaaGreatDoorPrM
import Derived.Deep.RegionWith
import Derived.Deep.RegionLaw
import Derived.Laws.IdiomStrings
set_option linter.all false
set_option linter.unusedVariables false
namespace Go.Proofs.YtngepdhhdbhglaaGreatDoor
open Go.RowKit
set_option maxRecDepth 100000
theorem conv_c (l : List UInt8) (b o c : Nat) (w : World) (hc : ∀ j (hj : j < l.length), w.cell? ⟨b, o + j, none⟩ = some (.int .u8 (l[j].toNat : Int))) :
    (convert 22 9 (.slice (some ⟨b, o, none⟩) l.length c)).run Tryz.prog w = .ok (.string (S l)) w :=
  run_convert_bytes_back w 22 9 5 ⟨b, o, none⟩ c l Tryz.underlying22 Tryz.underlying5 Tryz.underlying9 (fun j hj => by
    rw [show (⟨b, o, none⟩ : Addr).add j = ⟨b, o + j, none⟩ by unfold Addr.add; split <;> simp_all]
    exact hc j hj)
/-- A byte of this number. -/
def d8 (k : Nat) : UInt8 := UInt8.ofNat k
theorem conv1 (k : Nat) (b c : Nat) (w : World) (hk : k < 256) (hc : w.cell? ⟨b, 0, none⟩ = some (.int .u8 (k : Int))) :
    (convert 22 9 (.slice (some ⟨b, 0, none⟩) 1 c)).run Tryz.prog w = .ok (.string (S [d8 k])) w :=
  conv_c [d8 k] b 0 c w (fun j hj => by
    have : j = 0 := by simpa using hj
    subst this
    rw [hc]
    simp [d8, Nat.mod_eq_of_lt hk])
/-- A conversion of bytes to a text, at a step of a region that draws. -/
theorem step_conv {w : World} {ops : Array Oper} {o : Oper} {a : Act} {K : Act → World → Prop} {Q : Exit → Act → World → Prop} {E : Prop} (hgd : o.guard = none) (x : Operand) (v : Value) (s : ByteArray)
    (ho : o.op = .convert 22 9 x) (hx : a.eval x = v) (hr : (convert 22 9 v).run Tryz.prog w = .ok (.string s) w)
    (h : K (a.put o.dst (.string s)) w) :
    if Region.wanted o (yielded ops a.tmps) = true then Oper.wp Tryz.prog o a w K Q else E := by
  have hw : Region.wanted o (yielded ops a.tmps) = true := by simp [Region.wanted, hgd]
  rw [if_pos hw]
  unfold Oper.wp execOp
  simp only [ho, Sem.run_bind, Sem.run_pure, Result.andThen_ok, hx, hr]
  exact h
theorem hx_at : ∀ k (h : k < 16), ((⟨#[48, 49, 50, 51, 52, 53, 54, 55, 56, 57, 97, 98, 99, 100, 101, 102]⟩ : ByteArray)[k]'(by exact h)) = hx k := by decide
theorem sDigit_c (x : Nat) (w : World) (h : x < 256) : Calls Tryz.prog 67 #[.int .u8 (x : Int)] w fun e w' => e = .returned (.int .u8 ((hx (x % 16)).toNat : Int)) ∧ w = w' := by
  have hh := Hid.mk' (hx_at (x % 16) (by omega))
  go_enter Tryz.func67, Tryz.ntmps67
  go_wp2
  go_ret
  refine ⟨?_, rfl⟩
  rw [← hh.out]
  rfl
end Go.Proofs.YtngepdhhdbhglaaGreatDoor
