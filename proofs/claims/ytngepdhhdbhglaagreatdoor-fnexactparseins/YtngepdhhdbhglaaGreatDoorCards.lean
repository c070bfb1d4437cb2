/-
  DERIVED. GIVEN WITH THE SEED: THE CARDS: each row of YtngepdhhdbhglaaGreatDoorRows.lean that lists a variable, with what it lists TIED to the program's text (the seventh form; the later family's looks); each row that meets fmt, with fmt's text TOLD by the authors' own Lean function (tested against real Go, not proved from fmt's source: count such statements apart). THE CARD IS WHAT COUNTS. Prove the row's statement (the work); the ties are given (YtngepdhhdbhglaaGreatDoorTie.lean); close each card by the builder's one call (the guide's Derived/Test/ToyasCard.lean, 'card_holds'). Laid BY PROGRAM, IN A SANDBOX (cutbox-door.mjs). By AI agents, Wed Nov 11 2026. No macro, syntax, notation, axiom, sorry.
-/
import Derived.Test.YtngepdhhdbhglaaGreatDoorRows
import GoSem.ClaimSeven
namespace Go.Proofs.YtngepdhhdbhglaaGreatDoor
namespace Rows

/-- THE TIED CARD OF 'laws.FnExactParseIns'. -/
def fnExactParseInsCard : Claim7 := { stood := { row := fnExactParseInsRow, standIns := [], harness := (true, "df87fe94d82199341ca45ea79933a0852605dc05eadd5523ef0efd17742337eb"), looks := true }, kinds := [], alts := [], laidByText := true, laidKinds := [.data, .data, .data, .sentinel, .sentinel], laidTests := true, laidLooks := .later }
def FnExactParseInsCardSaid : Prop := Claim7.holds Tryz.pinned (.plain (OpenSpec.ofChange fnExactParseInsSpec)) fnExactParseInsCard

/-- THE SECOND FORM's CARD OF 'laws.FnExactParseIns'. -/
def fnExactParseInsUptoCard : Claim7 := { stood := { row := fnExactParseInsUptoRow, standIns := [], harness := (true, "df87fe94d82199341ca45ea79933a0852605dc05eadd5523ef0efd17742337eb"), looks := true }, kinds := [], alts := [], laidByText := true, laidKinds := [.data, .data, .data, .sentinel, .sentinel], laidTests := true, laidLooks := .later }
def FnExactParseInsUptoCardSaid : Prop := Claim7.holds Tryz.pinned (.plain (OpenSpec.upto fnExactParseInsSpec)) fnExactParseInsUptoCard
end Rows
end Go.Proofs.YtngepdhhdbhglaaGreatDoor
