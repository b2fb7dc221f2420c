/-
  DERIVED. GIVEN WITH THE SEED: THE CARDS: each row of YtegakbobaecdlaaGreatDoorRows.lean that lists a variable, with what it lists TIED to the program's text (the seventh form; the later family's looks); each row that meets fmt, with fmt's text TOLD by the authors' own Lean function (tested against real Go, not proved from fmt's source: count such statements apart). THE CARD IS WHAT COUNTS. Prove the row's statement (the work); the ties are given (YtegakbobaecdlaaGreatDoorTie.lean); close each card by the builder's one call (the guide's Derived/Test/ToyasCard.lean, 'card_holds'). Laid BY PROGRAM, IN A SANDBOX (cutbox-door.mjs). By AI agents, Wed Nov 11 2026. No macro, syntax, notation, axiom, sorry.
-/
import Derived.Test.YtegakbobaecdlaaGreatDoorRows
import GoSem.ClaimSeven
namespace Go.Proofs.YtegakbobaecdlaaGreatDoor
namespace Rows

/-- THE TIED CARD OF 'loomworklaw.OrderOr'. -/
def orderOrCard : Claim7 := { stood := { row := orderOrRow, standIns := [], harness := (true, "c766041a1c6109f284a81c5d071deaed3fadcb167575555715c1cafe765bf571"), looks := false }, kinds := [], alts := [], laidByText := true, laidKinds := [.data, .data], laidTests := true, laidLooks := .later }
def OrderOrCardSaid : Prop := Claim7.holds Tryz.pinned (.plain (OpenSpec.ofChange orderOrSpec)) orderOrCard

/-- THE TIED CARD OF 'loomworklaw.OrderAhead'. -/
def orderAheadCard : Claim7 := { stood := { row := orderAheadRow, standIns := [], harness := (true, "c766041a1c6109f284a81c5d071deaed3fadcb167575555715c1cafe765bf571"), looks := false }, kinds := [], alts := [], laidByText := true, laidKinds := [.data, .data], laidTests := true, laidLooks := .later }
def OrderAheadCardSaid : Prop := Claim7.holds Tryz.pinned (.plain (OpenSpec.ofChange orderAheadSpec)) orderAheadCard

/-- THE TIED CARD OF 'loomworklaw.PlaceApart'. -/
def placeApartCard : Claim7 := { stood := { row := placeApartRow, standIns := [], harness := (true, "c766041a1c6109f284a81c5d071deaed3fadcb167575555715c1cafe765bf571"), looks := false }, kinds := [], alts := [], laidByText := true, laidKinds := [.data, .data], laidTests := true, laidLooks := .later }
def PlaceApartCardSaid : Prop := Claim7.holds Tryz.pinned (.plain (OpenSpec.ofChange placeApartSpec)) placeApartCard

/-- THE TIED CARD OF 'loomworklaw.PlaceFew'. -/
def placeFewCard : Claim7 := { stood := { row := placeFewRow, standIns := [], harness := (true, "c766041a1c6109f284a81c5d071deaed3fadcb167575555715c1cafe765bf571"), looks := false }, kinds := [], alts := [], laidByText := true, laidKinds := [.data, .data], laidTests := true, laidLooks := .later }
def PlaceFewCardSaid : Prop := Claim7.holds Tryz.pinned (.plain (OpenSpec.ofChange placeFewSpec)) placeFewCard

/-- THE SECOND FORM's CARD OF 'loomworklaw.OrderOr'. -/
def orderOrUptoCard : Claim7 := { stood := { row := orderOrUptoRow, standIns := [], harness := (true, "c766041a1c6109f284a81c5d071deaed3fadcb167575555715c1cafe765bf571"), looks := false }, kinds := [], alts := [], laidByText := true, laidKinds := [.data, .data], laidTests := true, laidLooks := .later }
def OrderOrUptoCardSaid : Prop := Claim7.holds Tryz.pinned (.plain (OpenSpec.upto orderOrSpec)) orderOrUptoCard

/-- THE SECOND FORM's CARD OF 'loomworklaw.OrderAhead'. -/
def orderAheadUptoCard : Claim7 := { stood := { row := orderAheadUptoRow, standIns := [], harness := (true, "c766041a1c6109f284a81c5d071deaed3fadcb167575555715c1cafe765bf571"), looks := false }, kinds := [], alts := [], laidByText := true, laidKinds := [.data, .data], laidTests := true, laidLooks := .later }
def OrderAheadUptoCardSaid : Prop := Claim7.holds Tryz.pinned (.plain (OpenSpec.upto orderAheadSpec)) orderAheadUptoCard

/-- THE SECOND FORM's CARD OF 'loomworklaw.PlaceApart'. -/
def placeApartUptoCard : Claim7 := { stood := { row := placeApartUptoRow, standIns := [], harness := (true, "c766041a1c6109f284a81c5d071deaed3fadcb167575555715c1cafe765bf571"), looks := false }, kinds := [], alts := [], laidByText := true, laidKinds := [.data, .data], laidTests := true, laidLooks := .later }
def PlaceApartUptoCardSaid : Prop := Claim7.holds Tryz.pinned (.plain (OpenSpec.upto placeApartSpec)) placeApartUptoCard

/-- THE SECOND FORM's CARD OF 'loomworklaw.PlaceFew'. -/
def placeFewUptoCard : Claim7 := { stood := { row := placeFewUptoRow, standIns := [], harness := (true, "c766041a1c6109f284a81c5d071deaed3fadcb167575555715c1cafe765bf571"), looks := false }, kinds := [], alts := [], laidByText := true, laidKinds := [.data, .data], laidTests := true, laidLooks := .later }
def PlaceFewUptoCardSaid : Prop := Claim7.holds Tryz.pinned (.plain (OpenSpec.upto placeFewSpec)) placeFewUptoCard
end Rows
end Go.Proofs.YtegakbobaecdlaaGreatDoor
