/-
  DERIVED. GIVEN WITH THE SEED: THE CARDS: each row of YthmppcfhbbjhlaaDoorRows.lean that lists a variable, with what it lists TIED to the program's text (the seventh form; the later family's looks); each row that meets fmt, with fmt's text TOLD by the authors' own Lean function (tested against real Go, not proved from fmt's source: count such statements apart). THE CARD IS WHAT COUNTS. Prove the row's statement (the work); the ties are given (YthmppcfhbbjhlaaDoorTie.lean); close each card by the builder's one call (the guide's Derived/Test/ToyasCard.lean, 'card_holds'). Laid BY PROGRAM, IN A SANDBOX (cutbox-door.mjs). By AI agents, Wed Nov 11 2026. No macro, syntax, notation, axiom, sorry.
-/
import Derived.Test.YthmppcfhbbjhlaaDoorRows
import GoSem.ClaimSeven
namespace Go.Proofs.YthmppcfhbbjhlaaDoor
namespace Rows

/-- THE TIED CARD OF 'laws.FnExactFloat1'. -/
def fnExactFloat1Card : Claim7 := { stood := { row := fnExactFloat1Row, standIns := [], harness := (true, "8ea68ab7b1022ecbce9a1ddc8bcc9e084640eb58875821bd2d39bb60e953b6ff"), looks := false }, kinds := [], alts := [], laidByText := true, laidKinds := [.wider], laidTests := true, laidLooks := .later }
def FnExactFloat1CardSaid : Prop := Claim7.holds Tryd.pinned (.plain (OpenSpec.ofChange fnExactFloat1Spec)) fnExactFloat1Card

/-- THE TIED CARD OF 'laws.FnExactConvert'. -/
def fnExactConvertCard : Claim7 := { stood := { row := fnExactConvertRow, standIns := [], harness := (true, "8ea68ab7b1022ecbce9a1ddc8bcc9e084640eb58875821bd2d39bb60e953b6ff"), looks := false }, kinds := [], alts := [], laidByText := true, laidKinds := [.wider], laidTests := true, laidLooks := .later }
def FnExactConvertCardSaid : Prop := Claim7.holds Tryd.pinned (.plain (OpenSpec.ofChange fnExactConvertSpec)) fnExactConvertCard

/-- THE TIED CARD OF 'laws.FnExactFloat2'. -/
def fnExactFloat2Card : Claim7 := { stood := { row := fnExactFloat2Row, standIns := [], harness := (true, "8ea68ab7b1022ecbce9a1ddc8bcc9e084640eb58875821bd2d39bb60e953b6ff"), looks := false }, kinds := [], alts := [], laidByText := true, laidKinds := [.wider], laidTests := true, laidLooks := .later }
def FnExactFloat2CardSaid : Prop := Claim7.holds Tryd.pinned (.plain (OpenSpec.ofChange fnExactFloat2Spec)) fnExactFloat2Card

/-- THE TIED CARD OF 'laws.FnConvert'. -/
def fnConvertCard : Claim7 := { stood := { row := fnConvertRow, standIns := [], harness := (true, "8ea68ab7b1022ecbce9a1ddc8bcc9e084640eb58875821bd2d39bb60e953b6ff"), looks := false }, kinds := [], alts := [], laidByText := true, laidKinds := [.wider], laidTests := true, laidLooks := .later }
def FnConvertCardSaid : Prop := Claim7.holds Tryd.pinned (.plain (OpenSpec.ofChange fnConvertSpec)) fnConvertCard

/-- THE TIED CARD OF 'laws.FnFloats'. -/
def fnFloatsCard : Claim7 := { stood := { row := fnFloatsRow, standIns := [], harness := (true, "8ea68ab7b1022ecbce9a1ddc8bcc9e084640eb58875821bd2d39bb60e953b6ff"), looks := false }, kinds := [], alts := [], laidByText := true, laidKinds := [.wider], laidTests := true, laidLooks := .later }
def FnFloatsCardSaid : Prop := Claim7.holds Tryd.pinned (.plain (OpenSpec.ofChange fnFloatsSpec)) fnFloatsCard

/-- THE TIED CARD OF 'laws.FnRoots'. -/
def fnRootsCard : Claim7 := { stood := { row := fnRootsRow, standIns := [], harness := (true, "8ea68ab7b1022ecbce9a1ddc8bcc9e084640eb58875821bd2d39bb60e953b6ff"), looks := false }, kinds := [], alts := [], laidByText := true, laidKinds := [.wider], laidTests := true, laidLooks := .later }
def FnRootsCardSaid : Prop := Claim7.holds Tryd.pinned (.plain (OpenSpec.ofChange fnRootsSpec)) fnRootsCard

/-- THE SECOND FORM's CARD OF 'laws.FnExactFloat1'. -/
def fnExactFloat1UptoCard : Claim7 := { stood := { row := fnExactFloat1UptoRow, standIns := [], harness := (true, "8ea68ab7b1022ecbce9a1ddc8bcc9e084640eb58875821bd2d39bb60e953b6ff"), looks := false }, kinds := [], alts := [], laidByText := true, laidKinds := [.wider], laidTests := true, laidLooks := .later }
def FnExactFloat1UptoCardSaid : Prop := Claim7.holds Tryd.pinned (.plain (OpenSpec.upto fnExactFloat1Spec)) fnExactFloat1UptoCard

/-- THE SECOND FORM's CARD OF 'laws.FnExactConvert'. -/
def fnExactConvertUptoCard : Claim7 := { stood := { row := fnExactConvertUptoRow, standIns := [], harness := (true, "8ea68ab7b1022ecbce9a1ddc8bcc9e084640eb58875821bd2d39bb60e953b6ff"), looks := false }, kinds := [], alts := [], laidByText := true, laidKinds := [.wider], laidTests := true, laidLooks := .later }
def FnExactConvertUptoCardSaid : Prop := Claim7.holds Tryd.pinned (.plain (OpenSpec.upto fnExactConvertSpec)) fnExactConvertUptoCard

/-- THE SECOND FORM's CARD OF 'laws.FnExactFloat2'. -/
def fnExactFloat2UptoCard : Claim7 := { stood := { row := fnExactFloat2UptoRow, standIns := [], harness := (true, "8ea68ab7b1022ecbce9a1ddc8bcc9e084640eb58875821bd2d39bb60e953b6ff"), looks := false }, kinds := [], alts := [], laidByText := true, laidKinds := [.wider], laidTests := true, laidLooks := .later }
def FnExactFloat2UptoCardSaid : Prop := Claim7.holds Tryd.pinned (.plain (OpenSpec.upto fnExactFloat2Spec)) fnExactFloat2UptoCard

/-- THE SECOND FORM's CARD OF 'laws.FnConvert'. -/
def fnConvertUptoCard : Claim7 := { stood := { row := fnConvertUptoRow, standIns := [], harness := (true, "8ea68ab7b1022ecbce9a1ddc8bcc9e084640eb58875821bd2d39bb60e953b6ff"), looks := false }, kinds := [], alts := [], laidByText := true, laidKinds := [.wider], laidTests := true, laidLooks := .later }
def FnConvertUptoCardSaid : Prop := Claim7.holds Tryd.pinned (.plain (OpenSpec.upto fnConvertSpec)) fnConvertUptoCard

/-- THE SECOND FORM's CARD OF 'laws.FnFloats'. -/
def fnFloatsUptoCard : Claim7 := { stood := { row := fnFloatsUptoRow, standIns := [], harness := (true, "8ea68ab7b1022ecbce9a1ddc8bcc9e084640eb58875821bd2d39bb60e953b6ff"), looks := false }, kinds := [], alts := [], laidByText := true, laidKinds := [.wider], laidTests := true, laidLooks := .later }
def FnFloatsUptoCardSaid : Prop := Claim7.holds Tryd.pinned (.plain (OpenSpec.upto fnFloatsSpec)) fnFloatsUptoCard

/-- THE SECOND FORM's CARD OF 'laws.FnRoots'. -/
def fnRootsUptoCard : Claim7 := { stood := { row := fnRootsUptoRow, standIns := [], harness := (true, "8ea68ab7b1022ecbce9a1ddc8bcc9e084640eb58875821bd2d39bb60e953b6ff"), looks := false }, kinds := [], alts := [], laidByText := true, laidKinds := [.wider], laidTests := true, laidLooks := .later }
def FnRootsUptoCardSaid : Prop := Claim7.holds Tryd.pinned (.plain (OpenSpec.upto fnRootsSpec)) fnRootsUptoCard
end Rows
end Go.Proofs.YthmppcfhbbjhlaaDoor
