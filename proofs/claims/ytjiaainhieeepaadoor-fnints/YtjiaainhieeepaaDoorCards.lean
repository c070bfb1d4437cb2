/-
  DERIVED. GIVEN WITH THE SEED: THE CARDS: each row of YtjiaainhieeepaaDoorRows.lean that lists a variable, with what it lists TIED to the program's text (the seventh form; the later family's looks); each row that meets fmt, with fmt's text TOLD by the authors' own Lean function (tested against real Go, not proved from fmt's source: count such statements apart). THE CARD IS WHAT COUNTS. Prove the row's statement (the work); the ties are given (YtjiaainhieeepaaDoorTie.lean); close each card by the builder's one call (the guide's Derived/Test/ToyasCard.lean, 'card_holds'). Laid BY PROGRAM, IN A SANDBOX (cutbox-door.mjs). By AI agents, Wed Nov 11 2026. No macro, syntax, notation, axiom, sorry.
-/
import Derived.Test.YtjiaainhieeepaaDoorRows
import GoSem.ClaimSeven
namespace Go.Proofs.YtjiaainhieeepaaDoor
namespace Rows

/-- THE TIED CARD OF 'laws.FnExactInt1'. -/
def fnExactInt1Card : Claim7 := { stood := { row := fnExactInt1Row, standIns := [], harness := (true, "7a6d20336d3847fcf659d61ff7dc27454cdffb6e0d4016c8a6272d8ef7a90183"), looks := false }, kinds := [], alts := [], laidByText := true, laidKinds := [.data], laidTests := true, laidLooks := .later }
def FnExactInt1CardSaid : Prop := Claim7.holds Tryd.pinned (.plain (OpenSpec.ofChange fnExactInt1Spec)) fnExactInt1Card

/-- THE TIED CARD OF 'laws.FnInts'. -/
def fnIntsCard : Claim7 := { stood := { row := fnIntsRow, standIns := [], harness := (true, "7a6d20336d3847fcf659d61ff7dc27454cdffb6e0d4016c8a6272d8ef7a90183"), looks := false }, kinds := [], alts := [], laidByText := true, laidKinds := [.data], laidTests := true, laidLooks := .later }
def FnIntsCardSaid : Prop := Claim7.holds Tryd.pinned (.plain (OpenSpec.ofChange fnIntsSpec)) fnIntsCard

/-- THE SECOND FORM's CARD OF 'laws.FnExactInt1'. -/
def fnExactInt1UptoCard : Claim7 := { stood := { row := fnExactInt1UptoRow, standIns := [], harness := (true, "7a6d20336d3847fcf659d61ff7dc27454cdffb6e0d4016c8a6272d8ef7a90183"), looks := false }, kinds := [], alts := [], laidByText := true, laidKinds := [.data], laidTests := true, laidLooks := .later }
def FnExactInt1UptoCardSaid : Prop := Claim7.holds Tryd.pinned (.plain (OpenSpec.upto fnExactInt1Spec)) fnExactInt1UptoCard

/-- THE SECOND FORM's CARD OF 'laws.FnInts'. -/
def fnIntsUptoCard : Claim7 := { stood := { row := fnIntsUptoRow, standIns := [], harness := (true, "7a6d20336d3847fcf659d61ff7dc27454cdffb6e0d4016c8a6272d8ef7a90183"), looks := false }, kinds := [], alts := [], laidByText := true, laidKinds := [.data], laidTests := true, laidLooks := .later }
def FnIntsUptoCardSaid : Prop := Claim7.holds Tryd.pinned (.plain (OpenSpec.upto fnIntsSpec)) fnIntsUptoCard
end Rows
end Go.Proofs.YtjiaainhieeepaaDoor
