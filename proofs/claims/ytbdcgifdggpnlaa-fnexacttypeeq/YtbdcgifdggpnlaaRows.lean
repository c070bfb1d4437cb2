/-
  No cell of these rows narrows 'for every input' (looked for: loops, veiled, ifaces, maps, wideKeys, modest, calm, conditions, laid).
  DERIVED. THE GIVEN ROWS OF THIS SEAT. 3 by the template 'for every input the law returns true; each argument reads behind the call as it read before'; 0 by the template 'total and deterministic' (their statements: YtbdcgifdggpnlaaTotals.lean).
  GIVEN WITH THE SEED: the statements are not yours to turn. If you find one false, say at which input.
  Laid BY PROGRAM, IN A SANDBOX (cutbox-rows.mjs): the forced cells as the released guide's own fill.sh prints them over the translation 57f8a0faef98cd29… (all of the seat's roots in one cut). By AI agents, Wed Nov 11 2026. No macro, syntax, notation, axiom, sorry.
-/
import Derived.Test.YtbdcgifdggpnlaaChecked
import GoSem.Claim
import GoSem.ClaimJoined
import GoSem.ClaimMapViews
import Derived.JoinedTies
import Derived.KernelRfl
namespace Go.Proofs.Ytbdcgifdggpnlaa
/- THE CELL 'sum', in the pinned program and in every row, IS THE sha256 OF THE DUMP (.gsa) THAT YtbdcgifdggpnlaaProg.lean LOADS. Nothing in Lean hashes anything: it is a label: what it is worth is what the hold of that sum in a sandbox is worth. -/
noncomputable def Try.pinned : Pinned := { name := "ytbdcgifdggpnlaa", sum := "57f8a0faef98cd294840f4dac07e42fc846751830ea9b8ef80b52553c47a7942", checked := Try.checked }
namespace Rows
def none {H : Type} : Left H := { results := [], args := [] }

/-- 'laws.FnExactLimitsFit': WHATEVER THE INPUT: true; the input reads as it did. -/
def fnExactLimitsFitSpec : ChangeSpec := { name := "fnExactLimitsFit", fn := fun _ => fun
  | [d1, d2] => { results := [.lit (.bool true)], args := [d1, d2] }
  | _ => none }
def fnExactLimitsFitRow : OpenClaim := { program := "ytbdcgifdggpnlaa", sum := "57f8a0faef98cd294840f4dac07e42fc846751830ea9b8ef80b52553c47a7942", func := "loop.example/s00119/laws.FnExactLimitsFit", spec := "fnExactLimitsFit", apart := false }
def FnExactLimitsFitSaid : Prop := fnExactLimitsFitRow.holds Try.pinned (OpenSpec.ofChange fnExactLimitsFitSpec)

/-- ITS FALSE NEIGHBOUR: 'it returns false'. Refute it at one input. -/
def fnExactLimitsFitWrong : ChangeSpec := { name := "fnExactLimitsFit", fn := fun _ => fun
  | [d1, d2] => { results := [.lit (.bool false)], args := [d1, d2] }
  | _ => none }
def FnExactLimitsFitWrongFalsely : Prop := fnExactLimitsFitRow.holds Try.pinned (OpenSpec.ofChange fnExactLimitsFitWrong)

/-- 'laws.FnExactTypeEq': WHATEVER THE INPUT: true; the input reads as it did. -/
def fnExactTypeEqSpec : ChangeSpec := { name := "fnExactTypeEq", fn := fun _ => fun
  | [d1, d2] => { results := [.lit (.bool true)], args := [d1, d2] }
  | _ => none }
def fnExactTypeEqRow : OpenClaim := { program := "ytbdcgifdggpnlaa", sum := "57f8a0faef98cd294840f4dac07e42fc846751830ea9b8ef80b52553c47a7942", func := "loop.example/s00119/laws.FnExactTypeEq", spec := "fnExactTypeEq", apart := false }
def FnExactTypeEqSaid : Prop := fnExactTypeEqRow.holds Try.pinned (OpenSpec.ofChange fnExactTypeEqSpec)

/-- ITS FALSE NEIGHBOUR: 'it returns false'. Refute it at one input. -/
def fnExactTypeEqWrong : ChangeSpec := { name := "fnExactTypeEq", fn := fun _ => fun
  | [d1, d2] => { results := [.lit (.bool false)], args := [d1, d2] }
  | _ => none }
def FnExactTypeEqWrongFalsely : Prop := fnExactTypeEqRow.holds Try.pinned (OpenSpec.ofChange fnExactTypeEqWrong)

/-- 'laws.FnExactConstOf': WHATEVER THE INPUT: true; the input reads as it did. -/
def fnExactConstOfSpec : ChangeSpec := { name := "fnExactConstOf", fn := fun _ => fun
  | [d1, d2] => { results := [.lit (.bool true)], args := [d1, d2] }
  | _ => none }
def fnExactConstOfRow : OpenClaim := { program := "ytbdcgifdggpnlaa", sum := "57f8a0faef98cd294840f4dac07e42fc846751830ea9b8ef80b52553c47a7942", func := "loop.example/s00119/laws.FnExactConstOf", spec := "fnExactConstOf", apart := false }
def FnExactConstOfSaid : Prop := fnExactConstOfRow.holds Try.pinned (OpenSpec.ofChange fnExactConstOfSpec)

/-- ITS FALSE NEIGHBOUR: 'it returns false'. Refute it at one input. -/
def fnExactConstOfWrong : ChangeSpec := { name := "fnExactConstOf", fn := fun _ => fun
  | [d1, d2] => { results := [.lit (.bool false)], args := [d1, d2] }
  | _ => none }
def FnExactConstOfWrongFalsely : Prop := fnExactConstOfRow.holds Try.pinned (OpenSpec.ofChange fnExactConstOfWrong)

/- THE SECOND FORM. 'bulk': how many values and letters a reading holds, each counted each time it is reached (what is shared counts as often as it is met; a slice's spare places count too). A statement '..UptoSaid' is the law's where the arguments, and the package variables that the reading takes, are together of bulk at most 1048576: NARROWER than '..Said'. Prove '..Said' where nothing that the law and all that it calls make is longer than what came in: it says more and counts as full. Else prove '..UptoSaid'. A law counts once. -/
mutual
def uptoBulk {H : Type} : DataW H → Nat
  | .lit (.string bytes) => bytes.length + 1
  | .lit _ => 1
  | .nil => 1
  | .ptr d => uptoBulk d + 1
  | .slice elems spare => uptoBulkAll elems + uptoBulkAll spare + 1
  | .agg parts => uptoBulkAll parts + 1
  | .iface _ d => uptoBulk d + 1
  | .map entries => uptoBulkEntries entries + 1
  | .held _ => 1
def uptoBulkAll {H : Type} : List (DataW H) → Nat
  | [] => 0
  | d :: r => uptoBulk d + uptoBulkAll r
def uptoBulkEntries {H : Type} : List (Lit × DataW H) → Nat
  | [] => 0
  | x :: r => uptoBulkEntry x + uptoBulkEntries r
def uptoBulkEntry {H : Type} : Lit × DataW H → Nat
  | (.string bytes, d) => bytes.length + uptoBulk d + 1
  | (_, d) => uptoBulk d + 1
 end
def uptoSmall : (H : Type) → List (DataW H) → Bool := fun _ ds => decide (uptoBulkAll ds ≤ 1048576)
def OpenSpec.upto (s : _root_.Go.ChangeSpec) : _root_.Go.OpenSpec := { _root_.Go.OpenSpec.ofChange s with cond := some uptoSmall }

/-- 'laws.FnExactLimitsFit', WHERE WHAT IT READS IS OF BULK AT MOST 1048576: true; the input reads as it did. -/
def fnExactLimitsFitUptoRow : OpenClaim := { program := "ytbdcgifdggpnlaa", sum := "57f8a0faef98cd294840f4dac07e42fc846751830ea9b8ef80b52553c47a7942", func := "loop.example/s00119/laws.FnExactLimitsFit", spec := "fnExactLimitsFit", apart := false, narrowed := true }
def FnExactLimitsFitUptoSaid : Prop := fnExactLimitsFitUptoRow.holds Try.pinned (OpenSpec.upto fnExactLimitsFitSpec)

/-- 'laws.FnExactTypeEq', WHERE WHAT IT READS IS OF BULK AT MOST 1048576: true; the input reads as it did. -/
def fnExactTypeEqUptoRow : OpenClaim := { program := "ytbdcgifdggpnlaa", sum := "57f8a0faef98cd294840f4dac07e42fc846751830ea9b8ef80b52553c47a7942", func := "loop.example/s00119/laws.FnExactTypeEq", spec := "fnExactTypeEq", apart := false, narrowed := true }
def FnExactTypeEqUptoSaid : Prop := fnExactTypeEqUptoRow.holds Try.pinned (OpenSpec.upto fnExactTypeEqSpec)

/-- 'laws.FnExactConstOf', WHERE WHAT IT READS IS OF BULK AT MOST 1048576: true; the input reads as it did. -/
def fnExactConstOfUptoRow : OpenClaim := { program := "ytbdcgifdggpnlaa", sum := "57f8a0faef98cd294840f4dac07e42fc846751830ea9b8ef80b52553c47a7942", func := "loop.example/s00119/laws.FnExactConstOf", spec := "fnExactConstOf", apart := false, narrowed := true }
def FnExactConstOfUptoSaid : Prop := fnExactConstOfUptoRow.holds Try.pinned (OpenSpec.upto fnExactConstOfSpec)

end Rows
end Go.Proofs.Ytbdcgifdggpnlaa
