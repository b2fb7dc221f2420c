/-
  DERIVED. GIVEN WITH THE SEED: THE CARDS: each row of YtfipfdpohkafaaaDoorRows.lean that lists a variable, with what it lists TIED to the program's text (the seventh form; the later family's looks); each row that meets fmt, with fmt's text TOLD by the authors' own Lean function (tested against real Go, not proved from fmt's source: count such statements apart). THE CARD IS WHAT COUNTS. Prove the row's statement (the work); the ties are given (YtfipfdpohkafaaaDoorTie.lean); close each card by the builder's one call (the guide's Derived/Test/ToyasCard.lean, 'card_holds'). Laid BY PROGRAM, IN A SANDBOX (cutbox-door.mjs). By AI agents, Wed Nov 11 2026. No macro, syntax, notation, axiom, sorry.
-/
import Derived.Test.YtfipfdpohkafaaaDoorRows
import GoSem.ClaimSeven
namespace Go.Proofs.YtfipfdpohkafaaaDoor
namespace Rows

/-- THE TIED CARD OF 'loomworklaw.CodeChecks'. -/
def codeChecksCard : Claim7 := { stood := { row := codeChecksRow, standIns := [], harness := (true, "6ececc40df9733b5e313bcc99b1de92fb3d1f69abac74b5f15c0011e543d22a9"), looks := false }, kinds := [], alts := [], laidByText := true, laidKinds := [.data], laidTests := true, laidLooks := .later }
def CodeChecksCardSaid : Prop := Claim7.holds Tryd.pinned (.plain (OpenSpec.ofChange codeChecksSpec)) codeChecksCard

/-- THE TIED CARD OF 'loomworklaw.CodeCosts'. -/
def codeCostsCard : Claim7 := { stood := { row := codeCostsRow, standIns := [], harness := (true, "6ececc40df9733b5e313bcc99b1de92fb3d1f69abac74b5f15c0011e543d22a9"), looks := false }, kinds := [], alts := [], laidByText := true, laidKinds := [.data], laidTests := true, laidLooks := .later }
def CodeCostsCardSaid : Prop := Claim7.holds Tryd.pinned (.plain (OpenSpec.ofChange codeCostsSpec)) codeCostsCard

/-- THE SECOND FORM's CARD OF 'loomworklaw.CodeChecks'. -/
def codeChecksUptoCard : Claim7 := { stood := { row := codeChecksUptoRow, standIns := [], harness := (true, "6ececc40df9733b5e313bcc99b1de92fb3d1f69abac74b5f15c0011e543d22a9"), looks := false }, kinds := [], alts := [], laidByText := true, laidKinds := [.data], laidTests := true, laidLooks := .later }
def CodeChecksUptoCardSaid : Prop := Claim7.holds Tryd.pinned (.plain (OpenSpec.upto codeChecksSpec)) codeChecksUptoCard

/-- THE SECOND FORM's CARD OF 'loomworklaw.CodeCosts'. -/
def codeCostsUptoCard : Claim7 := { stood := { row := codeCostsUptoRow, standIns := [], harness := (true, "6ececc40df9733b5e313bcc99b1de92fb3d1f69abac74b5f15c0011e543d22a9"), looks := false }, kinds := [], alts := [], laidByText := true, laidKinds := [.data], laidTests := true, laidLooks := .later }
def CodeCostsUptoCardSaid : Prop := Claim7.holds Tryd.pinned (.plain (OpenSpec.upto codeCostsSpec)) codeCostsUptoCard
end Rows
end Go.Proofs.YtfipfdpohkafaaaDoor
