/-
  DERIVED. GIVEN WITH THE SEED: THE CARDS: each row of YtkgbmgpdehmiiaaDoorRows.lean that lists a variable, with what it lists TIED to the program's text (the seventh form; the later family's looks); each row that meets fmt, with fmt's text TOLD by the authors' own Lean function (tested against real Go, not proved from fmt's source: count such statements apart). THE CARD IS WHAT COUNTS. Prove the row's statement (the work); the ties are given (YtkgbmgpdehmiiaaDoorTie.lean); close each card by the builder's one call (the guide's Derived/Test/ToyasCard.lean, 'card_holds'). Laid BY PROGRAM, IN A SANDBOX (cutbox-door.mjs). By AI agents, Wed Nov 11 2026. No macro, syntax, notation, axiom, sorry.
-/
import Derived.Test.YtkgbmgpdehmiiaaDoorRows
import GoSem.ClaimSeven
namespace Go.Proofs.YtkgbmgpdehmiiaaDoor
namespace Rows

/-- THE TIED CARD OF 'loomworklaw.VmRuns'. -/
def vmRunsCard : Claim7 := { stood := { row := vmRunsRow, standIns := [], harness := (true, "7497002cc0a115ed90f403a2d51c1be77a8ef5527cc74e4b94258fdd533871d6"), looks := false }, kinds := [], alts := [], laidByText := true, laidKinds := [.data], laidTests := true, laidLooks := .later }
def VmRunsCardSaid : Prop := Claim7.holds Tryd.pinned (.plain (OpenSpec.ofChange vmRunsSpec)) vmRunsCard

/-- THE TIED CARD OF 'loomworklaw.VmCosts'. -/
def vmCostsCard : Claim7 := { stood := { row := vmCostsRow, standIns := [], harness := (true, "7497002cc0a115ed90f403a2d51c1be77a8ef5527cc74e4b94258fdd533871d6"), looks := false }, kinds := [], alts := [], laidByText := true, laidKinds := [.data], laidTests := true, laidLooks := .later }
def VmCostsCardSaid : Prop := Claim7.holds Tryd.pinned (.plain (OpenSpec.ofChange vmCostsSpec)) vmCostsCard

/-- THE SECOND FORM's CARD OF 'loomworklaw.VmRuns'. -/
def vmRunsUptoCard : Claim7 := { stood := { row := vmRunsUptoRow, standIns := [], harness := (true, "7497002cc0a115ed90f403a2d51c1be77a8ef5527cc74e4b94258fdd533871d6"), looks := false }, kinds := [], alts := [], laidByText := true, laidKinds := [.data], laidTests := true, laidLooks := .later }
def VmRunsUptoCardSaid : Prop := Claim7.holds Tryd.pinned (.plain (OpenSpec.upto vmRunsSpec)) vmRunsUptoCard

/-- THE SECOND FORM's CARD OF 'loomworklaw.VmCosts'. -/
def vmCostsUptoCard : Claim7 := { stood := { row := vmCostsUptoRow, standIns := [], harness := (true, "7497002cc0a115ed90f403a2d51c1be77a8ef5527cc74e4b94258fdd533871d6"), looks := false }, kinds := [], alts := [], laidByText := true, laidKinds := [.data], laidTests := true, laidLooks := .later }
def VmCostsUptoCardSaid : Prop := Claim7.holds Tryd.pinned (.plain (OpenSpec.upto vmCostsSpec)) vmCostsUptoCard
end Rows
end Go.Proofs.YtkgbmgpdehmiiaaDoor
