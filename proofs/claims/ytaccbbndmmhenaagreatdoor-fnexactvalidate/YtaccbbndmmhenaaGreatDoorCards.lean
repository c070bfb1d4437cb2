/-
  DERIVED. GIVEN WITH THE SEED: THE CARDS: each row of YtaccbbndmmhenaaGreatDoorRows.lean that lists a variable, with what it lists TIED to the program's text (the seventh form; the later family's looks); each row that meets fmt, with fmt's text TOLD by the authors' own Lean function (tested against real Go, not proved from fmt's source: count such statements apart). THE CARD IS WHAT COUNTS. Prove the row's statement (the work); the ties are given (YtaccbbndmmhenaaGreatDoorTie.lean); close each card by the builder's one call (the guide's Derived/Test/ToyasCard.lean, 'card_holds'). Laid BY PROGRAM, IN A SANDBOX (cutbox-door.mjs). By AI agents, Wed Nov 11 2026. No macro, syntax, notation, axiom, sorry.
-/
import Derived.Test.YtaccbbndmmhenaaGreatDoorRows
import GoSem.ClaimSeven
namespace Go.Proofs.YtaccbbndmmhenaaGreatDoor
namespace Rows

/-- THE TIED CARD OF 'laws.FnExactValidate'. -/
def fnExactValidateCard : Claim7 := { stood := { row := fnExactValidateRow, standIns := [], harness := (true, "b1781ff4256910e6cd02022598af9265177f583aa5d1ffd547380c015a55f913"), looks := true }, kinds := [], alts := [], laidByText := true, laidKinds := [.handle], laidTests := true, laidLooks := .later }
def FnExactValidateCardSaid : Prop := Claim7.holds Tryz.pinned (.plain (OpenSpec.ofChange fnExactValidateSpec)) fnExactValidateCard

/-- THE SECOND FORM's CARD OF 'laws.FnExactValidate'. -/
def fnExactValidateUptoCard : Claim7 := { stood := { row := fnExactValidateUptoRow, standIns := [], harness := (true, "b1781ff4256910e6cd02022598af9265177f583aa5d1ffd547380c015a55f913"), looks := true }, kinds := [], alts := [], laidByText := true, laidKinds := [.handle], laidTests := true, laidLooks := .later }
def FnExactValidateUptoCardSaid : Prop := Claim7.holds Tryz.pinned (.plain (OpenSpec.upto fnExactValidateSpec)) fnExactValidateUptoCard
end Rows
end Go.Proofs.YtaccbbndmmhenaaGreatDoor
