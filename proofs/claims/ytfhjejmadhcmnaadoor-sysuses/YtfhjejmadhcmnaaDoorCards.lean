/-
  DERIVED. GIVEN WITH THE SEED: THE CARDS: each row of YtfhjejmadhcmnaaDoorRows.lean that lists a variable, with what it lists TIED to the program's text (the seventh form; the later family's looks); each row that meets fmt, with fmt's text TOLD by the authors' own Lean function (tested against real Go, not proved from fmt's source: count such statements apart). THE CARD IS WHAT COUNTS. Prove the row's statement (the work); the ties are given (YtfhjejmadhcmnaaDoorTie.lean); close each card by the builder's one call (the guide's Derived/Test/ToyasCard.lean, 'card_holds'). Laid BY PROGRAM, IN A SANDBOX (cutbox-door.mjs). By AI agents, Wed Nov 11 2026. No macro, syntax, notation, axiom, sorry.
-/
import Derived.Test.YtfhjejmadhcmnaaDoorRows
import GoSem.ClaimSeven
namespace Go.Proofs.YtfhjejmadhcmnaaDoor
namespace Rows

/-- THE TIED CARD OF 'loomworklaw.SysUses'. -/
def sysUsesCard : Claim7 := { stood := { row := sysUsesRow, standIns := [], harness := (true, "bf0d34c2ac50cd57e810100db6f7de559cca76b20b1db2e4431ffb8325a00fe9"), looks := false }, kinds := [], alts := [], laidByText := true, laidKinds := [.data, .data], laidTests := true, laidLooks := .later }
def SysUsesCardSaid : Prop := Claim7.holds Tryd.pinned (.plain (OpenSpec.ofChange sysUsesSpec)) sysUsesCard

/-- THE TIED CARD OF 'loomworklaw.SysApplies'. -/
def sysAppliesCard : Claim7 := { stood := { row := sysAppliesRow, standIns := [], harness := (true, "bf0d34c2ac50cd57e810100db6f7de559cca76b20b1db2e4431ffb8325a00fe9"), looks := false }, kinds := [], alts := [], laidByText := true, laidKinds := [.data, .data], laidTests := true, laidLooks := .later }
def SysAppliesCardSaid : Prop := Claim7.holds Tryd.pinned (.plain (OpenSpec.ofChange sysAppliesSpec)) sysAppliesCard

/-- THE TIED CARD OF 'loomworklaw.SysNumbers'. -/
def sysNumbersCard : Claim7 := { stood := { row := sysNumbersRow, standIns := [], harness := (true, "bf0d34c2ac50cd57e810100db6f7de559cca76b20b1db2e4431ffb8325a00fe9"), looks := false }, kinds := [], alts := [], laidByText := true, laidKinds := [.data, .data], laidTests := true, laidLooks := .later }
def SysNumbersCardSaid : Prop := Claim7.holds Tryd.pinned (.plain (OpenSpec.ofChange sysNumbersSpec)) sysNumbersCard

/-- THE SECOND FORM's CARD OF 'loomworklaw.SysUses'. -/
def sysUsesUptoCard : Claim7 := { stood := { row := sysUsesUptoRow, standIns := [], harness := (true, "bf0d34c2ac50cd57e810100db6f7de559cca76b20b1db2e4431ffb8325a00fe9"), looks := false }, kinds := [], alts := [], laidByText := true, laidKinds := [.data, .data], laidTests := true, laidLooks := .later }
def SysUsesUptoCardSaid : Prop := Claim7.holds Tryd.pinned (.plain (OpenSpec.upto sysUsesSpec)) sysUsesUptoCard

/-- THE SECOND FORM's CARD OF 'loomworklaw.SysApplies'. -/
def sysAppliesUptoCard : Claim7 := { stood := { row := sysAppliesUptoRow, standIns := [], harness := (true, "bf0d34c2ac50cd57e810100db6f7de559cca76b20b1db2e4431ffb8325a00fe9"), looks := false }, kinds := [], alts := [], laidByText := true, laidKinds := [.data, .data], laidTests := true, laidLooks := .later }
def SysAppliesUptoCardSaid : Prop := Claim7.holds Tryd.pinned (.plain (OpenSpec.upto sysAppliesSpec)) sysAppliesUptoCard

/-- THE SECOND FORM's CARD OF 'loomworklaw.SysNumbers'. -/
def sysNumbersUptoCard : Claim7 := { stood := { row := sysNumbersUptoRow, standIns := [], harness := (true, "bf0d34c2ac50cd57e810100db6f7de559cca76b20b1db2e4431ffb8325a00fe9"), looks := false }, kinds := [], alts := [], laidByText := true, laidKinds := [.data, .data], laidTests := true, laidLooks := .later }
def SysNumbersUptoCardSaid : Prop := Claim7.holds Tryd.pinned (.plain (OpenSpec.upto sysNumbersSpec)) sysNumbersUptoCard
end Rows
end Go.Proofs.YtfhjejmadhcmnaaDoor
