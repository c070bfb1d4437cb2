/-
  DERIVED. GIVEN WITH THE SEED: THE CARDS: each row of YtgjpgcfpgeonlaaDoorRows.lean that lists a variable, with what it lists TIED to the program's text (the seventh form; the later family's looks); each row that meets fmt, with fmt's text TOLD by the authors' own Lean function (tested against real Go, not proved from fmt's source: count such statements apart). THE CARD IS WHAT COUNTS. Prove the row's statement (the work); the ties are given (YtgjpgcfpgeonlaaDoorTie.lean); close each card by the builder's one call (the guide's Derived/Test/ToyasCard.lean, 'card_holds'). Laid BY PROGRAM, IN A SANDBOX (cutbox-door.mjs). By AI agents, Wed Nov 11 2026. No macro, syntax, notation, axiom, sorry.
-/
import Derived.Test.YtgjpgcfpgeonlaaDoorRows
import GoSem.ClaimSeven
namespace Go.Proofs.YtgjpgcfpgeonlaaDoor
namespace Rows

/-- THE TIED CARD OF 'laws.FnExactPrintIns'. -/
def fnExactPrintInsCard : Claim7 := { stood := { row := fnExactPrintInsRow, standIns := [], harness := (true, "d7cad22b40bfef1d3ba41baceb0e155fda57d8660a35a74c0321847111eb7dd4"), looks := false }, kinds := [], alts := [], laidByText := true, laidKinds := [.data, .data, .data], laidTests := true, laidLooks := .later }
def FnExactPrintInsCardSaid : Prop := Claim7.holds Tryd.pinned (.plain (OpenSpec.ofChange fnExactPrintInsSpec)) fnExactPrintInsCard

/-- THE SECOND FORM's CARD OF 'laws.FnExactPrintIns'. -/
def fnExactPrintInsUptoCard : Claim7 := { stood := { row := fnExactPrintInsUptoRow, standIns := [], harness := (true, "d7cad22b40bfef1d3ba41baceb0e155fda57d8660a35a74c0321847111eb7dd4"), looks := false }, kinds := [], alts := [], laidByText := true, laidKinds := [.data, .data, .data], laidTests := true, laidLooks := .later }
def FnExactPrintInsUptoCardSaid : Prop := Claim7.holds Tryd.pinned (.plain (OpenSpec.upto fnExactPrintInsSpec)) fnExactPrintInsUptoCard
end Rows
end Go.Proofs.YtgjpgcfpgeonlaaDoor
