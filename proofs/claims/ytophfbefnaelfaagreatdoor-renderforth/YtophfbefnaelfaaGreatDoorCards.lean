/-
  DERIVED. GIVEN WITH THE SEED: THE CARDS: each row of YtophfbefnaelfaaGreatDoorRows.lean that lists a variable, with what it lists TIED to the program's text (the seventh form; the later family's looks); each row that meets fmt, with fmt's text TOLD by the authors' own Lean function (tested against real Go, not proved from fmt's source: count such statements apart). THE CARD IS WHAT COUNTS. Prove the row's statement (the work); the ties are given (YtophfbefnaelfaaGreatDoorTie.lean); close each card by the builder's one call (the guide's Derived/Test/ToyasCard.lean, 'card_holds'). Laid BY PROGRAM, IN A SANDBOX (cutbox-door.mjs). By AI agents, Wed Nov 11 2026. No macro, syntax, notation, axiom, sorry.
-/
import Derived.Test.YtophfbefnaelfaaGreatDoorRows
import GoSem.ClaimSeven
namespace Go.Proofs.YtophfbefnaelfaaGreatDoor
namespace Rows

/-- THE TIED CARD OF 'loomworklaw.RenderChecks'. -/
def renderChecksCard : Claim7 := { stood := { row := renderChecksRow, standIns := [], harness := (true, "ccd998b4335e6f08addcb3d5cbdf9d6560969cfdc5c26d1b69e094187da59eda"), looks := true }, kinds := [], alts := [], laidByText := true, laidKinds := [.data, .data, .data, .data, .data, .data], laidTests := true, laidLooks := .later }
def RenderChecksCardSaid : Prop := Claim7.holds Tryz.pinned (.plain (OpenSpec.ofChange renderChecksSpec)) renderChecksCard

/-- THE TIED CARD OF 'loomworklaw.RenderPrints'. -/
def renderPrintsCard : Claim7 := { stood := { row := renderPrintsRow, standIns := [], harness := (true, "ccd998b4335e6f08addcb3d5cbdf9d6560969cfdc5c26d1b69e094187da59eda"), looks := true }, kinds := [], alts := [], laidByText := true, laidKinds := [.data, .data, .data, .data, .data, .data], laidTests := true, laidLooks := .later }
def RenderPrintsCardSaid : Prop := Claim7.holds Tryz.pinned (.plain (OpenSpec.ofChange renderPrintsSpec)) renderPrintsCard

/-- THE TIED CARD OF 'loomworklaw.RenderBack'. -/
def renderBackCard : Claim7 := { stood := { row := renderBackRow, standIns := [], harness := (true, "ccd998b4335e6f08addcb3d5cbdf9d6560969cfdc5c26d1b69e094187da59eda"), looks := true }, kinds := [], alts := [], laidByText := true, laidKinds := [.data, .data, .data, .data, .data, .data], laidTests := true, laidLooks := .later }
def RenderBackCardSaid : Prop := Claim7.holds Tryz.pinned (.plain (OpenSpec.ofChange renderBackSpec)) renderBackCard

/-- THE TIED CARD OF 'loomworklaw.RenderApart'. -/
def renderApartCard : Claim7 := { stood := { row := renderApartRow, standIns := [], harness := (true, "ccd998b4335e6f08addcb3d5cbdf9d6560969cfdc5c26d1b69e094187da59eda"), looks := true }, kinds := [], alts := [], laidByText := true, laidKinds := [.data, .data, .data, .data, .data, .data], laidTests := true, laidLooks := .later }
def RenderApartCardSaid : Prop := Claim7.holds Tryz.pinned (.plain (OpenSpec.ofChange renderApartSpec)) renderApartCard

/-- THE TIED CARD OF 'loomworklaw.RenderForth'. -/
def renderForthCard : Claim7 := { stood := { row := renderForthRow, standIns := [], harness := (true, "ccd998b4335e6f08addcb3d5cbdf9d6560969cfdc5c26d1b69e094187da59eda"), looks := true }, kinds := [], alts := [], laidByText := true, laidKinds := [.data, .data, .data, .data, .data, .data], laidTests := true, laidLooks := .later }
def RenderForthCardSaid : Prop := Claim7.holds Tryz.pinned (.plain (OpenSpec.ofChange renderForthSpec)) renderForthCard

/-- THE SECOND FORM's CARD OF 'loomworklaw.RenderChecks'. -/
def renderChecksUptoCard : Claim7 := { stood := { row := renderChecksUptoRow, standIns := [], harness := (true, "ccd998b4335e6f08addcb3d5cbdf9d6560969cfdc5c26d1b69e094187da59eda"), looks := true }, kinds := [], alts := [], laidByText := true, laidKinds := [.data, .data, .data, .data, .data, .data], laidTests := true, laidLooks := .later }
def RenderChecksUptoCardSaid : Prop := Claim7.holds Tryz.pinned (.plain (OpenSpec.upto renderChecksSpec)) renderChecksUptoCard

/-- THE SECOND FORM's CARD OF 'loomworklaw.RenderPrints'. -/
def renderPrintsUptoCard : Claim7 := { stood := { row := renderPrintsUptoRow, standIns := [], harness := (true, "ccd998b4335e6f08addcb3d5cbdf9d6560969cfdc5c26d1b69e094187da59eda"), looks := true }, kinds := [], alts := [], laidByText := true, laidKinds := [.data, .data, .data, .data, .data, .data], laidTests := true, laidLooks := .later }
def RenderPrintsUptoCardSaid : Prop := Claim7.holds Tryz.pinned (.plain (OpenSpec.upto renderPrintsSpec)) renderPrintsUptoCard

/-- THE SECOND FORM's CARD OF 'loomworklaw.RenderBack'. -/
def renderBackUptoCard : Claim7 := { stood := { row := renderBackUptoRow, standIns := [], harness := (true, "ccd998b4335e6f08addcb3d5cbdf9d6560969cfdc5c26d1b69e094187da59eda"), looks := true }, kinds := [], alts := [], laidByText := true, laidKinds := [.data, .data, .data, .data, .data, .data], laidTests := true, laidLooks := .later }
def RenderBackUptoCardSaid : Prop := Claim7.holds Tryz.pinned (.plain (OpenSpec.upto renderBackSpec)) renderBackUptoCard

/-- THE SECOND FORM's CARD OF 'loomworklaw.RenderApart'. -/
def renderApartUptoCard : Claim7 := { stood := { row := renderApartUptoRow, standIns := [], harness := (true, "ccd998b4335e6f08addcb3d5cbdf9d6560969cfdc5c26d1b69e094187da59eda"), looks := true }, kinds := [], alts := [], laidByText := true, laidKinds := [.data, .data, .data, .data, .data, .data], laidTests := true, laidLooks := .later }
def RenderApartUptoCardSaid : Prop := Claim7.holds Tryz.pinned (.plain (OpenSpec.upto renderApartSpec)) renderApartUptoCard

/-- THE SECOND FORM's CARD OF 'loomworklaw.RenderForth'. -/
def renderForthUptoCard : Claim7 := { stood := { row := renderForthUptoRow, standIns := [], harness := (true, "ccd998b4335e6f08addcb3d5cbdf9d6560969cfdc5c26d1b69e094187da59eda"), looks := true }, kinds := [], alts := [], laidByText := true, laidKinds := [.data, .data, .data, .data, .data, .data], laidTests := true, laidLooks := .later }
def RenderForthUptoCardSaid : Prop := Claim7.holds Tryz.pinned (.plain (OpenSpec.upto renderForthSpec)) renderForthUptoCard
end Rows
end Go.Proofs.YtophfbefnaelfaaGreatDoor
