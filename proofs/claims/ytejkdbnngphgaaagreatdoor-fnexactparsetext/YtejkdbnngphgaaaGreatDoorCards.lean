/-
  DERIVED. GIVEN WITH THE SEED: THE CARDS: each row of YtejkdbnngphgaaaGreatDoorRows.lean that lists a variable, with what it lists TIED to the program's text (the seventh form; the later family's looks); each row that meets fmt, with fmt's text TOLD by the authors' own Lean function (tested against real Go, not proved from fmt's source: count such statements apart). THE CARD IS WHAT COUNTS. Prove the row's statement (the work); the ties are given (YtejkdbnngphgaaaGreatDoorTie.lean); close each card by the builder's one call (the guide's Derived/Test/ToyasCard.lean, 'card_holds'). Laid BY PROGRAM, IN A SANDBOX (cutbox-door.mjs). By AI agents, Wed Nov 11 2026. No macro, syntax, notation, axiom, sorry.
-/
import Derived.Test.YtejkdbnngphgaaaGreatDoorRows
import GoSem.ClaimSeven
namespace Go.Proofs.YtejkdbnngphgaaaGreatDoor
namespace Rows

/-- THE TIED CARD OF 'laws.FnExactParseText'. -/
def fnExactParseTextCard : Claim7 := { stood := { row := fnExactParseTextRow, standIns := [], harness := (true, "29a8152642073fe6dfd287c58cb0a821f0c29fb1633f9e6889aaf015462c330a"), looks := true }, kinds := [], alts := [], laidByText := true, laidKinds := [.data, .data, .data, .data, .sentinel, .sentinel, .pinned], laidTests := true, laidLooks := .later }
def FnExactParseTextCardSaid : Prop := Claim7.holds Tryz.pinned (.plain (OpenSpec.ofChange fnExactParseTextSpec)) fnExactParseTextCard

/-- THE SECOND FORM's CARD OF 'laws.FnExactParseText'. -/
def fnExactParseTextUptoCard : Claim7 := { stood := { row := fnExactParseTextUptoRow, standIns := [], harness := (true, "29a8152642073fe6dfd287c58cb0a821f0c29fb1633f9e6889aaf015462c330a"), looks := true }, kinds := [], alts := [], laidByText := true, laidKinds := [.data, .data, .data, .data, .sentinel, .sentinel, .pinned], laidTests := true, laidLooks := .later }
def FnExactParseTextUptoCardSaid : Prop := Claim7.holds Tryz.pinned (.plain (OpenSpec.upto fnExactParseTextSpec)) fnExactParseTextUptoCard
end Rows
end Go.Proofs.YtejkdbnngphgaaaGreatDoor
