/-
  DERIVED. GIVEN WITH THE SEED: THE CARDS: each row of YtnhmcpnbaajjcaaGreatDoorRows.lean that lists a variable, with what it lists TIED to the program's text (the seventh form; the later family's looks); each row that meets fmt, with fmt's text TOLD by the authors' own Lean function (tested against real Go, not proved from fmt's source: count such statements apart). THE CARD IS WHAT COUNTS. Prove the row's statement (the work); the ties are given (YtnhmcpnbaajjcaaGreatDoorTie.lean); close each card by the builder's one call (the guide's Derived/Test/ToyasCard.lean, 'card_holds'). Laid BY PROGRAM, IN A SANDBOX (cutbox-door.mjs). By AI agents, Wed Nov 11 2026. No macro, syntax, notation, axiom, sorry.
-/
import Derived.Test.YtnhmcpnbaajjcaaGreatDoorRows
import GoSem.ClaimSeven
namespace Go.Proofs.YtnhmcpnbaajjcaaGreatDoor
namespace Rows

/-- THE TIED CARD OF 'loomworklaw.OrderOr'. -/
def orderOrCard : Claim7 := { stood := { row := orderOrRow, standIns := [], harness := (true, "3b145eab7f610b86d48a99c5e06f6e68de3b8d065bcc6627c59cbacf95cde54a"), looks := false }, kinds := [], alts := [], laidByText := true, laidKinds := [.data, .data], laidTests := true, laidLooks := .later }
def OrderOrCardSaid : Prop := Claim7.holds Tryz.pinned (.plain (OpenSpec.ofChange orderOrSpec)) orderOrCard

/-- THE TIED CARD OF 'loomworklaw.OrderAhead'. -/
def orderAheadCard : Claim7 := { stood := { row := orderAheadRow, standIns := [], harness := (true, "3b145eab7f610b86d48a99c5e06f6e68de3b8d065bcc6627c59cbacf95cde54a"), looks := false }, kinds := [], alts := [], laidByText := true, laidKinds := [.data, .data], laidTests := true, laidLooks := .later }
def OrderAheadCardSaid : Prop := Claim7.holds Tryz.pinned (.plain (OpenSpec.ofChange orderAheadSpec)) orderAheadCard

/-- THE TIED CARD OF 'loomworklaw.MeanTurns'. -/
def meanTurnsCard : Claim7 := { stood := { row := meanTurnsRow, standIns := [], harness := (true, "3b145eab7f610b86d48a99c5e06f6e68de3b8d065bcc6627c59cbacf95cde54a"), looks := false }, kinds := [], alts := [], laidByText := true, laidKinds := [.data, .data], laidTests := true, laidLooks := .later }
def MeanTurnsCardSaid : Prop := Claim7.holds Tryz.pinned (.plain (OpenSpec.ofChange meanTurnsSpec)) meanTurnsCard

/-- THE TIED CARD OF 'loomworklaw.MeanCauses'. -/
def meanCausesCard : Claim7 := { stood := { row := meanCausesRow, standIns := [], harness := (true, "3b145eab7f610b86d48a99c5e06f6e68de3b8d065bcc6627c59cbacf95cde54a"), looks := false }, kinds := [], alts := [], laidByText := true, laidKinds := [.data, .data], laidTests := true, laidLooks := .later }
def MeanCausesCardSaid : Prop := Claim7.holds Tryz.pinned (.plain (OpenSpec.ofChange meanCausesSpec)) meanCausesCard

/-- THE SECOND FORM's CARD OF 'loomworklaw.OrderOr'. -/
def orderOrUptoCard : Claim7 := { stood := { row := orderOrUptoRow, standIns := [], harness := (true, "3b145eab7f610b86d48a99c5e06f6e68de3b8d065bcc6627c59cbacf95cde54a"), looks := false }, kinds := [], alts := [], laidByText := true, laidKinds := [.data, .data], laidTests := true, laidLooks := .later }
def OrderOrUptoCardSaid : Prop := Claim7.holds Tryz.pinned (.plain (OpenSpec.upto orderOrSpec)) orderOrUptoCard

/-- THE SECOND FORM's CARD OF 'loomworklaw.OrderAhead'. -/
def orderAheadUptoCard : Claim7 := { stood := { row := orderAheadUptoRow, standIns := [], harness := (true, "3b145eab7f610b86d48a99c5e06f6e68de3b8d065bcc6627c59cbacf95cde54a"), looks := false }, kinds := [], alts := [], laidByText := true, laidKinds := [.data, .data], laidTests := true, laidLooks := .later }
def OrderAheadUptoCardSaid : Prop := Claim7.holds Tryz.pinned (.plain (OpenSpec.upto orderAheadSpec)) orderAheadUptoCard

/-- THE SECOND FORM's CARD OF 'loomworklaw.MeanTurns'. -/
def meanTurnsUptoCard : Claim7 := { stood := { row := meanTurnsUptoRow, standIns := [], harness := (true, "3b145eab7f610b86d48a99c5e06f6e68de3b8d065bcc6627c59cbacf95cde54a"), looks := false }, kinds := [], alts := [], laidByText := true, laidKinds := [.data, .data], laidTests := true, laidLooks := .later }
def MeanTurnsUptoCardSaid : Prop := Claim7.holds Tryz.pinned (.plain (OpenSpec.upto meanTurnsSpec)) meanTurnsUptoCard

/-- THE SECOND FORM's CARD OF 'loomworklaw.MeanCauses'. -/
def meanCausesUptoCard : Claim7 := { stood := { row := meanCausesUptoRow, standIns := [], harness := (true, "3b145eab7f610b86d48a99c5e06f6e68de3b8d065bcc6627c59cbacf95cde54a"), looks := false }, kinds := [], alts := [], laidByText := true, laidKinds := [.data, .data], laidTests := true, laidLooks := .later }
def MeanCausesUptoCardSaid : Prop := Claim7.holds Tryz.pinned (.plain (OpenSpec.upto meanCausesSpec)) meanCausesUptoCard
end Rows
end Go.Proofs.YtnhmcpnbaajjcaaGreatDoor
