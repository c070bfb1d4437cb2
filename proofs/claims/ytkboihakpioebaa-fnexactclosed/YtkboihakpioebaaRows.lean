/-
  No cell of these rows narrows 'for every input' (looked for: loops, veiled, ifaces, maps, wideKeys, modest, calm, conditions, laid).
  DERIVED. THE GIVEN ROWS OF THIS SEAT. 6 by the template 'for every input the law returns true; each argument reads behind the call as it read before'; 0 by the template 'total and deterministic' (their statements: YtkboihakpioebaaTotals.lean).
  GIVEN WITH THE SEED: the statements are not yours to turn. If you find one false, say at which input.
  Laid BY PROGRAM, IN A SANDBOX (cutbox-rows.mjs): the forced cells as the released guide's own fill.sh prints them over the translation 2a5d4102e2518623… (all of the seat's roots in one cut). By AI agents, Wed Nov 11 2026. No macro, syntax, notation, axiom, sorry.
-/
import Derived.Test.YtkboihakpioebaaChecked
import GoSem.Claim
import GoSem.ClaimJoined
import GoSem.ClaimMapViews
import Derived.JoinedTies
import Derived.KernelRfl
namespace Go.Proofs.Ytkboihakpioebaa
/- THE CELL 'sum', in the pinned program and in every row, IS THE sha256 OF THE DUMP (.gsa) THAT YtkboihakpioebaaProg.lean LOADS. Nothing in Lean hashes anything: it is a label: what it is worth is what the hold of that sum in a sandbox is worth. -/
noncomputable def Try.pinned : Pinned := { name := "ytkboihakpioebaa", sum := "2a5d4102e2518623a89e3c788e715d6b44149ae578c73ef3474e02e75330cc48", checked := Try.checked }
namespace Rows
def none {H : Type} : Left H := { results := [], args := [] }

/-- 'laws.FnExactOpForm': WHATEVER THE INPUT: true; the input reads as it did. -/
def fnExactOpFormSpec : ChangeSpec := { name := "fnExactOpForm", fn := fun _ => fun
  | [d] => { results := [.lit (.bool true)], args := [d] }
  | _ => none }
def fnExactOpFormRow : OpenClaim := { program := "ytkboihakpioebaa", sum := "2a5d4102e2518623a89e3c788e715d6b44149ae578c73ef3474e02e75330cc48", func := "loop.example/s00119/laws.FnExactOpForm", spec := "fnExactOpForm", apart := false }
def FnExactOpFormSaid : Prop := fnExactOpFormRow.holds Try.pinned (OpenSpec.ofChange fnExactOpFormSpec)

/-- ITS FALSE NEIGHBOUR: 'it returns false'. Refute it at one input. -/
def fnExactOpFormWrong : ChangeSpec := { name := "fnExactOpForm", fn := fun _ => fun
  | [d] => { results := [.lit (.bool false)], args := [d] }
  | _ => none }
def FnExactOpFormWrongFalsely : Prop := fnExactOpFormRow.holds Try.pinned (OpenSpec.ofChange fnExactOpFormWrong)

/-- 'laws.FnExactOpName': WHATEVER THE INPUT: true; the input reads as it did. -/
def fnExactOpNameSpec : ChangeSpec := { name := "fnExactOpName", fn := fun _ => fun
  | [d] => { results := [.lit (.bool true)], args := [d] }
  | _ => none }
def fnExactOpNameRow : OpenClaim := { program := "ytkboihakpioebaa", sum := "2a5d4102e2518623a89e3c788e715d6b44149ae578c73ef3474e02e75330cc48", func := "loop.example/s00119/laws.FnExactOpName", spec := "fnExactOpName", apart := false }
def FnExactOpNameSaid : Prop := fnExactOpNameRow.holds Try.pinned (OpenSpec.ofChange fnExactOpNameSpec)

/-- ITS FALSE NEIGHBOUR: 'it returns false'. Refute it at one input. -/
def fnExactOpNameWrong : ChangeSpec := { name := "fnExactOpName", fn := fun _ => fun
  | [d] => { results := [.lit (.bool false)], args := [d] }
  | _ => none }
def FnExactOpNameWrongFalsely : Prop := fnExactOpNameRow.holds Try.pinned (OpenSpec.ofChange fnExactOpNameWrong)

/-- 'laws.FnExactOpCode': WHATEVER THE INPUT: true; the input reads as it did. -/
def fnExactOpCodeSpec : ChangeSpec := { name := "fnExactOpCode", fn := fun _ => fun
  | [d] => { results := [.lit (.bool true)], args := [d] }
  | _ => none }
def fnExactOpCodeRow : OpenClaim := { program := "ytkboihakpioebaa", sum := "2a5d4102e2518623a89e3c788e715d6b44149ae578c73ef3474e02e75330cc48", func := "loop.example/s00119/laws.FnExactOpCode", spec := "fnExactOpCode", apart := false }
def FnExactOpCodeSaid : Prop := fnExactOpCodeRow.holds Try.pinned (OpenSpec.ofChange fnExactOpCodeSpec)

/-- ITS FALSE NEIGHBOUR: 'it returns false'. Refute it at one input. -/
def fnExactOpCodeWrong : ChangeSpec := { name := "fnExactOpCode", fn := fun _ => fun
  | [d] => { results := [.lit (.bool false)], args := [d] }
  | _ => none }
def FnExactOpCodeWrongFalsely : Prop := fnExactOpCodeRow.holds Try.pinned (OpenSpec.ofChange fnExactOpCodeWrong)

/-- 'laws.FnExactOpType': WHATEVER THE INPUT: true; the input reads as it did. -/
def fnExactOpTypeSpec : ChangeSpec := { name := "fnExactOpType", fn := fun _ => fun
  | [d] => { results := [.lit (.bool true)], args := [d] }
  | _ => none }
def fnExactOpTypeRow : OpenClaim := { program := "ytkboihakpioebaa", sum := "2a5d4102e2518623a89e3c788e715d6b44149ae578c73ef3474e02e75330cc48", func := "loop.example/s00119/laws.FnExactOpType", spec := "fnExactOpType", apart := false }
def FnExactOpTypeSaid : Prop := fnExactOpTypeRow.holds Try.pinned (OpenSpec.ofChange fnExactOpTypeSpec)

/-- ITS FALSE NEIGHBOUR: 'it returns false'. Refute it at one input. -/
def fnExactOpTypeWrong : ChangeSpec := { name := "fnExactOpType", fn := fun _ => fun
  | [d] => { results := [.lit (.bool false)], args := [d] }
  | _ => none }
def FnExactOpTypeWrongFalsely : Prop := fnExactOpTypeRow.holds Try.pinned (OpenSpec.ofChange fnExactOpTypeWrong)

/-- 'laws.FnExactClosed': WHATEVER THE INPUT: true; the input reads as it did. -/
def fnExactClosedSpec : ChangeSpec := { name := "fnExactClosed", fn := fun _ => fun
  | [d] => { results := [.lit (.bool true)], args := [d] }
  | _ => none }
def fnExactClosedRow : OpenClaim := { program := "ytkboihakpioebaa", sum := "2a5d4102e2518623a89e3c788e715d6b44149ae578c73ef3474e02e75330cc48", func := "loop.example/s00119/laws.FnExactClosed", spec := "fnExactClosed", unfollowed := true, recurses := true, apart := false }
def FnExactClosedSaid : Prop := fnExactClosedRow.holds Try.pinned (OpenSpec.ofChange fnExactClosedSpec)

/-- ITS FALSE NEIGHBOUR: 'it returns false'. Refute it at one input. -/
def fnExactClosedWrong : ChangeSpec := { name := "fnExactClosed", fn := fun _ => fun
  | [d] => { results := [.lit (.bool false)], args := [d] }
  | _ => none }
def FnExactClosedWrongFalsely : Prop := fnExactClosedRow.holds Try.pinned (OpenSpec.ofChange fnExactClosedWrong)

/-- 'laws.FnOps': WHATEVER THE INPUT: true; the input reads as it did. -/
def fnOpsSpec : ChangeSpec := { name := "fnOps", fn := fun _ => fun
  | [d] => { results := [.lit (.bool true)], args := [d] }
  | _ => none }
def fnOpsRow : OpenClaim := { program := "ytkboihakpioebaa", sum := "2a5d4102e2518623a89e3c788e715d6b44149ae578c73ef3474e02e75330cc48", func := "loop.example/s00119/laws.FnOps", spec := "fnOps", apart := false }
def FnOpsSaid : Prop := fnOpsRow.holds Try.pinned (OpenSpec.ofChange fnOpsSpec)

/-- ITS FALSE NEIGHBOUR: 'it returns false'. Refute it at one input. -/
def fnOpsWrong : ChangeSpec := { name := "fnOps", fn := fun _ => fun
  | [d] => { results := [.lit (.bool false)], args := [d] }
  | _ => none }
def FnOpsWrongFalsely : Prop := fnOpsRow.holds Try.pinned (OpenSpec.ofChange fnOpsWrong)

/- THE SECOND FORM. 'bulk': how many values and letters a reading holds, each counted each time it is reached (what is shared counts as often as it is met; a slice's spare places count too). A statement '..UptoSaid' is the law's where the arguments, and the package variables that the reading takes, are together of bulk at most 1048576: NARROWER than '..Said'. Prove '..Said' where nothing that the law and all that it calls make is longer than what came in: it says more and counts as full. Else prove '..UptoSaid'. A law counts once. -/
mutual
def uptoBulk {H : Type} : DataW H → Nat
  | .lit (.string bytes) => bytes.length + 1
  | .lit _ => 1
  | .nil => 1
  | .ptr d => uptoBulk d + 1
  | .slice elems spare => uptoBulkAll elems + uptoBulkAll spare + 1
  | .agg parts => uptoBulkAll parts + 1
  | .iface _ d => uptoBulk d + 1
  | .map entries => uptoBulkEntries entries + 1
  | .held _ => 1
def uptoBulkAll {H : Type} : List (DataW H) → Nat
  | [] => 0
  | d :: r => uptoBulk d + uptoBulkAll r
def uptoBulkEntries {H : Type} : List (Lit × DataW H) → Nat
  | [] => 0
  | x :: r => uptoBulkEntry x + uptoBulkEntries r
def uptoBulkEntry {H : Type} : Lit × DataW H → Nat
  | (.string bytes, d) => bytes.length + uptoBulk d + 1
  | (_, d) => uptoBulk d + 1
 end
def uptoSmall : (H : Type) → List (DataW H) → Bool := fun _ ds => decide (uptoBulkAll ds ≤ 1048576)
def OpenSpec.upto (s : _root_.Go.ChangeSpec) : _root_.Go.OpenSpec := { _root_.Go.OpenSpec.ofChange s with cond := some uptoSmall }

/-- 'laws.FnExactOpForm', WHERE WHAT IT READS IS OF BULK AT MOST 1048576: true; the input reads as it did. -/
def fnExactOpFormUptoRow : OpenClaim := { program := "ytkboihakpioebaa", sum := "2a5d4102e2518623a89e3c788e715d6b44149ae578c73ef3474e02e75330cc48", func := "loop.example/s00119/laws.FnExactOpForm", spec := "fnExactOpForm", apart := false, narrowed := true }
def FnExactOpFormUptoSaid : Prop := fnExactOpFormUptoRow.holds Try.pinned (OpenSpec.upto fnExactOpFormSpec)

/-- 'laws.FnExactOpName', WHERE WHAT IT READS IS OF BULK AT MOST 1048576: true; the input reads as it did. -/
def fnExactOpNameUptoRow : OpenClaim := { program := "ytkboihakpioebaa", sum := "2a5d4102e2518623a89e3c788e715d6b44149ae578c73ef3474e02e75330cc48", func := "loop.example/s00119/laws.FnExactOpName", spec := "fnExactOpName", apart := false, narrowed := true }
def FnExactOpNameUptoSaid : Prop := fnExactOpNameUptoRow.holds Try.pinned (OpenSpec.upto fnExactOpNameSpec)

/-- 'laws.FnExactOpCode', WHERE WHAT IT READS IS OF BULK AT MOST 1048576: true; the input reads as it did. -/
def fnExactOpCodeUptoRow : OpenClaim := { program := "ytkboihakpioebaa", sum := "2a5d4102e2518623a89e3c788e715d6b44149ae578c73ef3474e02e75330cc48", func := "loop.example/s00119/laws.FnExactOpCode", spec := "fnExactOpCode", apart := false, narrowed := true }
def FnExactOpCodeUptoSaid : Prop := fnExactOpCodeUptoRow.holds Try.pinned (OpenSpec.upto fnExactOpCodeSpec)

/-- 'laws.FnExactOpType', WHERE WHAT IT READS IS OF BULK AT MOST 1048576: true; the input reads as it did. -/
def fnExactOpTypeUptoRow : OpenClaim := { program := "ytkboihakpioebaa", sum := "2a5d4102e2518623a89e3c788e715d6b44149ae578c73ef3474e02e75330cc48", func := "loop.example/s00119/laws.FnExactOpType", spec := "fnExactOpType", apart := false, narrowed := true }
def FnExactOpTypeUptoSaid : Prop := fnExactOpTypeUptoRow.holds Try.pinned (OpenSpec.upto fnExactOpTypeSpec)

/-- 'laws.FnExactClosed', WHERE WHAT IT READS IS OF BULK AT MOST 1048576: true; the input reads as it did. -/
def fnExactClosedUptoRow : OpenClaim := { program := "ytkboihakpioebaa", sum := "2a5d4102e2518623a89e3c788e715d6b44149ae578c73ef3474e02e75330cc48", func := "loop.example/s00119/laws.FnExactClosed", spec := "fnExactClosed", unfollowed := true, recurses := true, apart := false, narrowed := true }
def FnExactClosedUptoSaid : Prop := fnExactClosedUptoRow.holds Try.pinned (OpenSpec.upto fnExactClosedSpec)

/-- 'laws.FnOps', WHERE WHAT IT READS IS OF BULK AT MOST 1048576: true; the input reads as it did. -/
def fnOpsUptoRow : OpenClaim := { program := "ytkboihakpioebaa", sum := "2a5d4102e2518623a89e3c788e715d6b44149ae578c73ef3474e02e75330cc48", func := "loop.example/s00119/laws.FnOps", spec := "fnOps", apart := false, narrowed := true }
def FnOpsUptoSaid : Prop := fnOpsUptoRow.holds Try.pinned (OpenSpec.upto fnOpsSpec)

end Rows
end Go.Proofs.Ytkboihakpioebaa
