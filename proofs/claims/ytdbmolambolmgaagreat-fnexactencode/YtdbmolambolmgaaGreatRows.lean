/-
  No cell of these rows narrows 'for every input' (looked for: loops, veiled, ifaces, maps, wideKeys, modest, calm, conditions, laid).
  DERIVED. THE GIVEN ROWS OF THIS SEAT. 3 by the template 'for every input the law returns true; each argument reads behind the call as it read before'; 0 by the template 'total and deterministic' (their statements: YtdbmolambolmgaaGreatTotals.lean).
  GIVEN WITH THE SEED: the statements are not yours to turn. If you find one false, say at which input.
  Laid BY PROGRAM, IN A SANDBOX (cutbox-rows.mjs): the forced cells as the released guide's own fill.sh prints them over the translation 8a9c619cd9d0a1ae… (all of the seat's roots in one cut). By AI agents, Wed Nov 11 2026. No macro, syntax, notation, axiom, sorry.
-/
import Derived.Test.YtdbmolambolmgaaGreatChecked
import GoSem.Claim
import GoSem.ClaimJoined
import GoSem.ClaimMapViews
import Derived.JoinedTies
import Derived.KernelRfl
namespace Go.Proofs.YtdbmolambolmgaaGreat
/- THE CELL 'sum', in the pinned program and in every row, IS THE sha256 OF THE DUMP (.gsa) THAT YtdbmolambolmgaaGreatProg.lean LOADS. Nothing in Lean hashes anything: it is a label: what it is worth is what the hold of that sum in a sandbox is worth. -/
noncomputable def Tryz.pinned : Pinned := { name := "ytdbmolambolmgaagreat", sum := "8a9c619cd9d0a1ae30f5fbcce60b5d0802521912c1a1055b1dd37b1a1b7b7f0f", checked := Tryz.checked }
namespace Rows
def none {H : Type} : Left H := { results := [], args := [] }

/-- 'laws.FnExactWellFormed': WHATEVER THE INPUT: true; the input reads as it did. -/
def fnExactWellFormedSpec : ChangeSpec := { name := "fnExactWellFormed", fn := fun _ => fun
  | [d] => { results := [.lit (.bool true)], args := [d] }
  | _ => none }
def fnExactWellFormedRow : OpenClaim := { program := "ytdbmolambolmgaagreat", sum := "8a9c619cd9d0a1ae30f5fbcce60b5d0802521912c1a1055b1dd37b1a1b7b7f0f", func := "loop.example/s00119/laws.FnExactWellFormed", spec := "fnExactWellFormed", unfollowed := true, recurses := true, apart := false }
def FnExactWellFormedSaid : Prop := fnExactWellFormedRow.holds Tryz.pinned (OpenSpec.ofChange fnExactWellFormedSpec)

/-- ITS FALSE NEIGHBOUR: 'it returns false'. Refute it at one input. -/
def fnExactWellFormedWrong : ChangeSpec := { name := "fnExactWellFormed", fn := fun _ => fun
  | [d] => { results := [.lit (.bool false)], args := [d] }
  | _ => none }
def FnExactWellFormedWrongFalsely : Prop := fnExactWellFormedRow.holds Tryz.pinned (OpenSpec.ofChange fnExactWellFormedWrong)

/-- 'laws.FnExactEncode': WHATEVER THE INPUT: true; the input reads as it did. -/
def fnExactEncodeSpec : ChangeSpec := { name := "fnExactEncode", fn := fun _ => fun
  | [d] => { results := [.lit (.bool true)], args := [d] }
  | _ => none }
def fnExactEncodeRow : OpenClaim := { program := "ytdbmolambolmgaagreat", sum := "8a9c619cd9d0a1ae30f5fbcce60b5d0802521912c1a1055b1dd37b1a1b7b7f0f", func := "loop.example/s00119/laws.FnExactEncode", spec := "fnExactEncode", unfollowed := true, recurses := true, apart := false }
def FnExactEncodeSaid : Prop := fnExactEncodeRow.holds Tryz.pinned (OpenSpec.ofChange fnExactEncodeSpec)

/-- ITS FALSE NEIGHBOUR: 'it returns false'. Refute it at one input. -/
def fnExactEncodeWrong : ChangeSpec := { name := "fnExactEncode", fn := fun _ => fun
  | [d] => { results := [.lit (.bool false)], args := [d] }
  | _ => none }
def FnExactEncodeWrongFalsely : Prop := fnExactEncodeRow.holds Tryz.pinned (OpenSpec.ofChange fnExactEncodeWrong)

/-- 'laws.FnExactPrintText': WHATEVER THE INPUT: true; the input reads as it did. -/
def fnExactPrintTextSpec : ChangeSpec := { name := "fnExactPrintText", fn := fun _ => fun
  | [d] => { results := [.lit (.bool true)], args := [d] }
  | _ => none }
def fnExactPrintTextRow : OpenClaim := { program := "ytdbmolambolmgaagreat", sum := "8a9c619cd9d0a1ae30f5fbcce60b5d0802521912c1a1055b1dd37b1a1b7b7f0f", func := "loop.example/s00119/laws.FnExactPrintText", spec := "fnExactPrintText", unfollowed := true, recurses := true, apart := false }
def FnExactPrintTextSaid : Prop := fnExactPrintTextRow.holds Tryz.pinned (OpenSpec.ofChange fnExactPrintTextSpec)

/-- ITS FALSE NEIGHBOUR: 'it returns false'. Refute it at one input. -/
def fnExactPrintTextWrong : ChangeSpec := { name := "fnExactPrintText", fn := fun _ => fun
  | [d] => { results := [.lit (.bool false)], args := [d] }
  | _ => none }
def FnExactPrintTextWrongFalsely : Prop := fnExactPrintTextRow.holds Tryz.pinned (OpenSpec.ofChange fnExactPrintTextWrong)

/- THE SECOND FORM. 'bulk': how many values and letters a reading holds, each counted each time it is reached (what is shared counts as often as it is met; a slice's spare places count too). A statement '..UptoSaid' is the law's where the arguments, and the package variables that the reading takes, are together of bulk at most 1048576: NARROWER than '..Said'. Prove '..Said' where nothing that the law and all that it calls make is longer than what came in: it says more and counts as full. Else prove '..UptoSaid'. A law counts once. -/
mutual
def uptoBulk {H : Type} : DataW H → Nat
  | .lit (.string bytes) => bytes.length + 1
  | .lit _ => 1
  | .nil => 1
  | .ptr d => uptoBulk d + 1
  | .slice elems spare => uptoBulkAll elems + uptoBulkAll spare + 1
  | .agg parts => uptoBulkAll parts + 1
  | .iface _ d => uptoBulk d + 1
  | .map entries => uptoBulkEntries entries + 1
  | .held _ => 1
def uptoBulkAll {H : Type} : List (DataW H) → Nat
  | [] => 0
  | d :: r => uptoBulk d + uptoBulkAll r
def uptoBulkEntries {H : Type} : List (Lit × DataW H) → Nat
  | [] => 0
  | x :: r => uptoBulkEntry x + uptoBulkEntries r
def uptoBulkEntry {H : Type} : Lit × DataW H → Nat
  | (.string bytes, d) => bytes.length + uptoBulk d + 1
  | (_, d) => uptoBulk d + 1
 end
def uptoSmall : (H : Type) → List (DataW H) → Bool := fun _ ds => decide (uptoBulkAll ds ≤ 1048576)
def OpenSpec.upto (s : _root_.Go.ChangeSpec) : _root_.Go.OpenSpec := { _root_.Go.OpenSpec.ofChange s with cond := some uptoSmall }

/-- 'laws.FnExactWellFormed', WHERE WHAT IT READS IS OF BULK AT MOST 1048576: true; the input reads as it did. -/
def fnExactWellFormedUptoRow : OpenClaim := { program := "ytdbmolambolmgaagreat", sum := "8a9c619cd9d0a1ae30f5fbcce60b5d0802521912c1a1055b1dd37b1a1b7b7f0f", func := "loop.example/s00119/laws.FnExactWellFormed", spec := "fnExactWellFormed", unfollowed := true, recurses := true, apart := false, narrowed := true }
def FnExactWellFormedUptoSaid : Prop := fnExactWellFormedUptoRow.holds Tryz.pinned (OpenSpec.upto fnExactWellFormedSpec)

/-- 'laws.FnExactEncode', WHERE WHAT IT READS IS OF BULK AT MOST 1048576: true; the input reads as it did. -/
def fnExactEncodeUptoRow : OpenClaim := { program := "ytdbmolambolmgaagreat", sum := "8a9c619cd9d0a1ae30f5fbcce60b5d0802521912c1a1055b1dd37b1a1b7b7f0f", func := "loop.example/s00119/laws.FnExactEncode", spec := "fnExactEncode", unfollowed := true, recurses := true, apart := false, narrowed := true }
def FnExactEncodeUptoSaid : Prop := fnExactEncodeUptoRow.holds Tryz.pinned (OpenSpec.upto fnExactEncodeSpec)

/-- 'laws.FnExactPrintText', WHERE WHAT IT READS IS OF BULK AT MOST 1048576: true; the input reads as it did. -/
def fnExactPrintTextUptoRow : OpenClaim := { program := "ytdbmolambolmgaagreat", sum := "8a9c619cd9d0a1ae30f5fbcce60b5d0802521912c1a1055b1dd37b1a1b7b7f0f", func := "loop.example/s00119/laws.FnExactPrintText", spec := "fnExactPrintText", unfollowed := true, recurses := true, apart := false, narrowed := true }
def FnExactPrintTextUptoSaid : Prop := fnExactPrintTextUptoRow.holds Tryz.pinned (OpenSpec.upto fnExactPrintTextSpec)

end Rows
end Go.Proofs.YtdbmolambolmgaaGreat
