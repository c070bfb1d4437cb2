/-
  NARROWER THAN 'FOR EVERY INPUT', by the rows' own cells (each row's printed sentence says how): FnExactFloat1: laid · FnExactConvert: laid · FnExactFloat2: laid · FnConvert: laid · FnFloats: laid · FnRoots: laid.
  DERIVED. THE GIVEN ROWS OF THIS SEAT. 6 by the template 'for every input the law returns true; each argument reads behind the call as it read before'; 0 by the template 'total and deterministic' (their statements: YthmppcfhbbjhlaaDoorTotals.lean).
  GIVEN WITH THE SEED: the statements are not yours to turn. If you find one false, say at which input.
  Laid BY PROGRAM, IN A SANDBOX (cutbox-rows.mjs): the forced cells as the released guide's own fill.sh prints them over the translation d8a65c8d8a23426f… (all of the seat's roots in one cut). By AI agents, Wed Nov 11 2026. No macro, syntax, notation, axiom, sorry.
-/
import Derived.Test.YthmppcfhbbjhlaaDoorChecked
import GoSem.Claim
import GoSem.ClaimJoined
import GoSem.ClaimMapViews
import Derived.JoinedTies
import Derived.KernelRfl
namespace Go.Proofs.YthmppcfhbbjhlaaDoor
/- THE CELL 'sum', in the pinned program and in every row, IS THE sha256 OF THE DUMP (.gsa) THAT YthmppcfhbbjhlaaDoorProg.lean LOADS. Nothing in Lean hashes anything: it is a label: what it is worth is what the hold of that sum in a sandbox is worth. -/
noncomputable def Tryd.pinned : Pinned := { name := "ythmppcfhbbjhlaadoor", sum := "d8a65c8d8a23426f4f6a699e27c083b60fa7225b6a5a88ace2c1b34e9c140d80", checked := Tryd.checked }
namespace Rows
def none {H : Type} : Left H := { results := [], args := [] }

/- WHAT THE LISTED PACKAGE-LEVEL VARIABLES READ AS WHEN THE CALL BEGINS. Each datum BY PROGRAM (the guide's laid-datum.mjs) off the statement by which the dump's own 'gosem.cut.vars' lays the variable. In a bare row this is a premise. The card (YthmppcfhbbjhlaaDoorCards.lean) ties it to the program's text. -/
def laid_loop_example_s00119_impl_floatFormats {H : Type} : DataW H := .agg [.agg [.lit (.int .i64 32), .lit (.int .i64 23), .lit (.int .i64 (-149)), .lit (.int .u64 2143289344)], .agg [.lit (.int .i64 64), .lit (.int .i64 52), .lit (.int .i64 (-1074)), .lit (.int .u64 9221120237041090560)]]

/-- 'laws.FnExactFloat1': WHATEVER THE INPUT: true; the input reads as it did. -/
def fnExactFloat1Spec : ChangeSpec := { name := "fnExactFloat1", vars := ["loop.example/s00119/impl.floatFormats"], fn := fun _ => fun
  | [d1, d2, g1] => { results := [.lit (.bool true)], args := [d1, d2], vars := [g1] }
  | _ => none }
def fnExactFloat1Row : OpenClaim := { program := "ythmppcfhbbjhlaadoor", sum := "d8a65c8d8a23426f4f6a699e27c083b60fa7225b6a5a88ace2c1b34e9c140d80", func := "loop.example/s00119/laws.FnExactFloat1", spec := "fnExactFloat1", inPlace := ["math/bits.Add64"], named := ["loop.example/s00119/impl.floatFormats"], apart := false, laid := [("loop.example/s00119/impl.floatFormats", laid_loop_example_s00119_impl_floatFormats)] }
def FnExactFloat1Said : Prop := fnExactFloat1Row.holds Tryd.pinned (OpenSpec.ofChange fnExactFloat1Spec)

/-- ITS FALSE NEIGHBOUR: 'it returns false'. Refute it at one input. -/
def fnExactFloat1Wrong : ChangeSpec := { name := "fnExactFloat1", vars := ["loop.example/s00119/impl.floatFormats"], fn := fun _ => fun
  | [d1, d2, g1] => { results := [.lit (.bool false)], args := [d1, d2], vars := [g1] }
  | _ => none }
def FnExactFloat1WrongFalsely : Prop := fnExactFloat1Row.holds Tryd.pinned (OpenSpec.ofChange fnExactFloat1Wrong)

/-- 'laws.FnExactConvert': WHATEVER THE INPUT: true; the input reads as it did. -/
def fnExactConvertSpec : ChangeSpec := { name := "fnExactConvert", vars := ["loop.example/s00119/impl.floatFormats"], fn := fun _ => fun
  | [d1, d2, g1] => { results := [.lit (.bool true)], args := [d1, d2], vars := [g1] }
  | _ => none }
def fnExactConvertRow : OpenClaim := { program := "ythmppcfhbbjhlaadoor", sum := "d8a65c8d8a23426f4f6a699e27c083b60fa7225b6a5a88ace2c1b34e9c140d80", func := "loop.example/s00119/laws.FnExactConvert", spec := "fnExactConvert", inPlace := ["math/bits.Add64"], named := ["loop.example/s00119/impl.floatFormats"], apart := false, laid := [("loop.example/s00119/impl.floatFormats", laid_loop_example_s00119_impl_floatFormats)] }
def FnExactConvertSaid : Prop := fnExactConvertRow.holds Tryd.pinned (OpenSpec.ofChange fnExactConvertSpec)

/-- ITS FALSE NEIGHBOUR: 'it returns false'. Refute it at one input. -/
def fnExactConvertWrong : ChangeSpec := { name := "fnExactConvert", vars := ["loop.example/s00119/impl.floatFormats"], fn := fun _ => fun
  | [d1, d2, g1] => { results := [.lit (.bool false)], args := [d1, d2], vars := [g1] }
  | _ => none }
def FnExactConvertWrongFalsely : Prop := fnExactConvertRow.holds Tryd.pinned (OpenSpec.ofChange fnExactConvertWrong)

/-- 'laws.FnExactFloat2': WHATEVER THE INPUT: true; the input reads as it did. -/
def fnExactFloat2Spec : ChangeSpec := { name := "fnExactFloat2", vars := ["loop.example/s00119/impl.floatFormats"], fn := fun _ => fun
  | [d1, d2, d3, g1] => { results := [.lit (.bool true)], args := [d1, d2, d3], vars := [g1] }
  | _ => none }
def fnExactFloat2Row : OpenClaim := { program := "ythmppcfhbbjhlaadoor", sum := "d8a65c8d8a23426f4f6a699e27c083b60fa7225b6a5a88ace2c1b34e9c140d80", func := "loop.example/s00119/laws.FnExactFloat2", spec := "fnExactFloat2", inPlace := ["math/bits.Add64", "math/bits.Sub64"], named := ["loop.example/s00119/impl.floatFormats", "math/bits.divideError", "math/bits.overflowError"], apart := false, laid := [("loop.example/s00119/impl.floatFormats", laid_loop_example_s00119_impl_floatFormats)] }
def FnExactFloat2Said : Prop := fnExactFloat2Row.holds Tryd.pinned (OpenSpec.ofChange fnExactFloat2Spec)

/-- ITS FALSE NEIGHBOUR: 'it returns false'. Refute it at one input. -/
def fnExactFloat2Wrong : ChangeSpec := { name := "fnExactFloat2", vars := ["loop.example/s00119/impl.floatFormats"], fn := fun _ => fun
  | [d1, d2, d3, g1] => { results := [.lit (.bool false)], args := [d1, d2, d3], vars := [g1] }
  | _ => none }
def FnExactFloat2WrongFalsely : Prop := fnExactFloat2Row.holds Tryd.pinned (OpenSpec.ofChange fnExactFloat2Wrong)

/-- 'laws.FnConvert': WHATEVER THE INPUT: true; the input reads as it did. -/
def fnConvertSpec : ChangeSpec := { name := "fnConvert", vars := ["loop.example/s00119/impl.floatFormats"], fn := fun _ => fun
  | [d1, d2, g1] => { results := [.lit (.bool true)], args := [d1, d2], vars := [g1] }
  | _ => none }
def fnConvertRow : OpenClaim := { program := "ythmppcfhbbjhlaadoor", sum := "d8a65c8d8a23426f4f6a699e27c083b60fa7225b6a5a88ace2c1b34e9c140d80", func := "loop.example/s00119/laws.FnConvert", spec := "fnConvert", inPlace := ["math/bits.Add64"], named := ["loop.example/s00119/impl.floatFormats"], apart := false, laid := [("loop.example/s00119/impl.floatFormats", laid_loop_example_s00119_impl_floatFormats)] }
def FnConvertSaid : Prop := fnConvertRow.holds Tryd.pinned (OpenSpec.ofChange fnConvertSpec)

/-- ITS FALSE NEIGHBOUR: 'it returns false'. Refute it at one input. -/
def fnConvertWrong : ChangeSpec := { name := "fnConvert", vars := ["loop.example/s00119/impl.floatFormats"], fn := fun _ => fun
  | [d1, d2, g1] => { results := [.lit (.bool false)], args := [d1, d2], vars := [g1] }
  | _ => none }
def FnConvertWrongFalsely : Prop := fnConvertRow.holds Tryd.pinned (OpenSpec.ofChange fnConvertWrong)

/-- 'laws.FnFloats': WHATEVER THE INPUT: true; the input reads as it did. -/
def fnFloatsSpec : ChangeSpec := { name := "fnFloats", vars := ["loop.example/s00119/impl.floatFormats"], fn := fun _ => fun
  | [d, g1] => { results := [.lit (.bool true)], args := [d], vars := [g1] }
  | _ => none }
def fnFloatsRow : OpenClaim := { program := "ythmppcfhbbjhlaadoor", sum := "d8a65c8d8a23426f4f6a699e27c083b60fa7225b6a5a88ace2c1b34e9c140d80", func := "loop.example/s00119/laws.FnFloats", spec := "fnFloats", inPlace := ["math/bits.Add64", "math/bits.Sub64"], named := ["loop.example/s00119/impl.floatFormats", "math/bits.divideError", "math/bits.overflowError"], apart := false, laid := [("loop.example/s00119/impl.floatFormats", laid_loop_example_s00119_impl_floatFormats)] }
def FnFloatsSaid : Prop := fnFloatsRow.holds Tryd.pinned (OpenSpec.ofChange fnFloatsSpec)

/-- ITS FALSE NEIGHBOUR: 'it returns false'. Refute it at one input. -/
def fnFloatsWrong : ChangeSpec := { name := "fnFloats", vars := ["loop.example/s00119/impl.floatFormats"], fn := fun _ => fun
  | [d, g1] => { results := [.lit (.bool false)], args := [d], vars := [g1] }
  | _ => none }
def FnFloatsWrongFalsely : Prop := fnFloatsRow.holds Tryd.pinned (OpenSpec.ofChange fnFloatsWrong)

/-- 'laws.FnRoots': WHATEVER THE INPUT: true; the input reads as it did. -/
def fnRootsSpec : ChangeSpec := { name := "fnRoots", vars := ["loop.example/s00119/impl.floatFormats"], fn := fun _ => fun
  | [d1, d2, g1] => { results := [.lit (.bool true)], args := [d1, d2], vars := [g1] }
  | _ => none }
def fnRootsRow : OpenClaim := { program := "ythmppcfhbbjhlaadoor", sum := "d8a65c8d8a23426f4f6a699e27c083b60fa7225b6a5a88ace2c1b34e9c140d80", func := "loop.example/s00119/laws.FnRoots", spec := "fnRoots", inPlace := ["math/bits.Add64", "math/bits.Sub64"], named := ["loop.example/s00119/impl.floatFormats", "math/bits.divideError", "math/bits.overflowError"], apart := false, laid := [("loop.example/s00119/impl.floatFormats", laid_loop_example_s00119_impl_floatFormats)] }
def FnRootsSaid : Prop := fnRootsRow.holds Tryd.pinned (OpenSpec.ofChange fnRootsSpec)

/-- ITS FALSE NEIGHBOUR: 'it returns false'. Refute it at one input. -/
def fnRootsWrong : ChangeSpec := { name := "fnRoots", vars := ["loop.example/s00119/impl.floatFormats"], fn := fun _ => fun
  | [d1, d2, g1] => { results := [.lit (.bool false)], args := [d1, d2], vars := [g1] }
  | _ => none }
def FnRootsWrongFalsely : Prop := fnRootsRow.holds Tryd.pinned (OpenSpec.ofChange fnRootsWrong)

/- THE SECOND FORM. 'bulk': how many values and letters a reading holds, each counted each time it is reached (what is shared counts as often as it is met; a slice's spare places count too). A statement '..UptoSaid' is the law's where the arguments, and the package variables that the reading takes, are together of bulk at most 1048576: NARROWER than '..Said'. Prove '..Said' where nothing that the law and all that it calls make is longer than what came in: it says more and counts as full. Else prove '..UptoSaid'. A law counts once. -/
mutual
def uptoBulk {H : Type} : DataW H → Nat
  | .lit (.string bytes) => bytes.length + 1
  | .lit _ => 1
  | .nil => 1
  | .ptr d => uptoBulk d + 1
  | .slice elems spare => uptoBulkAll elems + uptoBulkAll spare + 1
  | .agg parts => uptoBulkAll parts + 1
  | .iface _ d => uptoBulk d + 1
  | .map entries => uptoBulkEntries entries + 1
  | .held _ => 1
def uptoBulkAll {H : Type} : List (DataW H) → Nat
  | [] => 0
  | d :: r => uptoBulk d + uptoBulkAll r
def uptoBulkEntries {H : Type} : List (Lit × DataW H) → Nat
  | [] => 0
  | x :: r => uptoBulkEntry x + uptoBulkEntries r
def uptoBulkEntry {H : Type} : Lit × DataW H → Nat
  | (.string bytes, d) => bytes.length + uptoBulk d + 1
  | (_, d) => uptoBulk d + 1
 end
def uptoSmall : (H : Type) → List (DataW H) → Bool := fun _ ds => decide (uptoBulkAll ds ≤ 1048576)
def OpenSpec.upto (s : _root_.Go.ChangeSpec) : _root_.Go.OpenSpec := { _root_.Go.OpenSpec.ofChange s with cond := some uptoSmall }

/-- 'laws.FnExactFloat1', WHERE WHAT IT READS IS OF BULK AT MOST 1048576: true; the input reads as it did. -/
def fnExactFloat1UptoRow : OpenClaim := { program := "ythmppcfhbbjhlaadoor", sum := "d8a65c8d8a23426f4f6a699e27c083b60fa7225b6a5a88ace2c1b34e9c140d80", func := "loop.example/s00119/laws.FnExactFloat1", spec := "fnExactFloat1", inPlace := ["math/bits.Add64"], named := ["loop.example/s00119/impl.floatFormats"], apart := false, laid := [("loop.example/s00119/impl.floatFormats", laid_loop_example_s00119_impl_floatFormats)], narrowed := true }
def FnExactFloat1UptoSaid : Prop := fnExactFloat1UptoRow.holds Tryd.pinned (OpenSpec.upto fnExactFloat1Spec)

/-- 'laws.FnExactConvert', WHERE WHAT IT READS IS OF BULK AT MOST 1048576: true; the input reads as it did. -/
def fnExactConvertUptoRow : OpenClaim := { program := "ythmppcfhbbjhlaadoor", sum := "d8a65c8d8a23426f4f6a699e27c083b60fa7225b6a5a88ace2c1b34e9c140d80", func := "loop.example/s00119/laws.FnExactConvert", spec := "fnExactConvert", inPlace := ["math/bits.Add64"], named := ["loop.example/s00119/impl.floatFormats"], apart := false, laid := [("loop.example/s00119/impl.floatFormats", laid_loop_example_s00119_impl_floatFormats)], narrowed := true }
def FnExactConvertUptoSaid : Prop := fnExactConvertUptoRow.holds Tryd.pinned (OpenSpec.upto fnExactConvertSpec)

/-- 'laws.FnExactFloat2', WHERE WHAT IT READS IS OF BULK AT MOST 1048576: true; the input reads as it did. -/
def fnExactFloat2UptoRow : OpenClaim := { program := "ythmppcfhbbjhlaadoor", sum := "d8a65c8d8a23426f4f6a699e27c083b60fa7225b6a5a88ace2c1b34e9c140d80", func := "loop.example/s00119/laws.FnExactFloat2", spec := "fnExactFloat2", inPlace := ["math/bits.Add64", "math/bits.Sub64"], named := ["loop.example/s00119/impl.floatFormats", "math/bits.divideError", "math/bits.overflowError"], apart := false, laid := [("loop.example/s00119/impl.floatFormats", laid_loop_example_s00119_impl_floatFormats)], narrowed := true }
def FnExactFloat2UptoSaid : Prop := fnExactFloat2UptoRow.holds Tryd.pinned (OpenSpec.upto fnExactFloat2Spec)

/-- 'laws.FnConvert', WHERE WHAT IT READS IS OF BULK AT MOST 1048576: true; the input reads as it did. -/
def fnConvertUptoRow : OpenClaim := { program := "ythmppcfhbbjhlaadoor", sum := "d8a65c8d8a23426f4f6a699e27c083b60fa7225b6a5a88ace2c1b34e9c140d80", func := "loop.example/s00119/laws.FnConvert", spec := "fnConvert", inPlace := ["math/bits.Add64"], named := ["loop.example/s00119/impl.floatFormats"], apart := false, laid := [("loop.example/s00119/impl.floatFormats", laid_loop_example_s00119_impl_floatFormats)], narrowed := true }
def FnConvertUptoSaid : Prop := fnConvertUptoRow.holds Tryd.pinned (OpenSpec.upto fnConvertSpec)

/-- 'laws.FnFloats', WHERE WHAT IT READS IS OF BULK AT MOST 1048576: true; the input reads as it did. -/
def fnFloatsUptoRow : OpenClaim := { program := "ythmppcfhbbjhlaadoor", sum := "d8a65c8d8a23426f4f6a699e27c083b60fa7225b6a5a88ace2c1b34e9c140d80", func := "loop.example/s00119/laws.FnFloats", spec := "fnFloats", inPlace := ["math/bits.Add64", "math/bits.Sub64"], named := ["loop.example/s00119/impl.floatFormats", "math/bits.divideError", "math/bits.overflowError"], apart := false, laid := [("loop.example/s00119/impl.floatFormats", laid_loop_example_s00119_impl_floatFormats)], narrowed := true }
def FnFloatsUptoSaid : Prop := fnFloatsUptoRow.holds Tryd.pinned (OpenSpec.upto fnFloatsSpec)

/-- 'laws.FnRoots', WHERE WHAT IT READS IS OF BULK AT MOST 1048576: true; the input reads as it did. -/
def fnRootsUptoRow : OpenClaim := { program := "ythmppcfhbbjhlaadoor", sum := "d8a65c8d8a23426f4f6a699e27c083b60fa7225b6a5a88ace2c1b34e9c140d80", func := "loop.example/s00119/laws.FnRoots", spec := "fnRoots", inPlace := ["math/bits.Add64", "math/bits.Sub64"], named := ["loop.example/s00119/impl.floatFormats", "math/bits.divideError", "math/bits.overflowError"], apart := false, laid := [("loop.example/s00119/impl.floatFormats", laid_loop_example_s00119_impl_floatFormats)], narrowed := true }
def FnRootsUptoSaid : Prop := fnRootsUptoRow.holds Tryd.pinned (OpenSpec.upto fnRootsSpec)

end Rows
end Go.Proofs.YthmppcfhbbjhlaaDoor
