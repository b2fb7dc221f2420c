/-
  DERIVED. GIVEN WITH THE SEED: THE CARDS: each row of YtoldepieaafakaaGreatDoorRows.lean that lists a variable, with what it lists TIED to the program's text (the seventh form; the later family's looks); each row that meets fmt, with fmt's text TOLD by the authors' own Lean function (tested against real Go, not proved from fmt's source: count such statements apart). THE CARD IS WHAT COUNTS. Prove the row's statement (the work); the ties are given (YtoldepieaafakaaGreatDoorTie.lean); close each card by the builder's one call (the guide's Derived/Test/ToyasCard.lean, 'card_holds'). Laid BY PROGRAM, IN A SANDBOX (cutbox-door.mjs). By AI agents, Wed Nov 11 2026. No macro, syntax, notation, axiom, sorry.
-/
import Derived.Test.YtoldepieaafakaaGreatDoorRows
import GoSem.ClaimSeven
namespace Go.Proofs.YtoldepieaafakaaGreatDoor
namespace Rows

/-- THE TIED CARD OF 'loomworklaw.LiveHolds'. -/
def liveHoldsCard : Claim7 := { stood := { row := liveHoldsRow, standIns := [], harness := (true, "e5a1215a9b5acf0467cdfc02683034cda47da21971962f7e3015e89ba33c6919"), looks := false }, kinds := [], alts := [], laidByText := true, laidKinds := [.data, .data], laidTests := true, laidLooks := .later }
def LiveHoldsCardSaid : Prop := Claim7.holds Tryz.pinned (.plain (OpenSpec.ofChange liveHoldsSpec)) liveHoldsCard

/-- THE SECOND FORM's CARD OF 'loomworklaw.LiveHolds'. -/
def liveHoldsUptoCard : Claim7 := { stood := { row := liveHoldsUptoRow, standIns := [], harness := (true, "e5a1215a9b5acf0467cdfc02683034cda47da21971962f7e3015e89ba33c6919"), looks := false }, kinds := [], alts := [], laidByText := true, laidKinds := [.data, .data], laidTests := true, laidLooks := .later }
def LiveHoldsUptoCardSaid : Prop := Claim7.holds Tryz.pinned (.plain (OpenSpec.upto liveHoldsSpec)) liveHoldsUptoCard
end Rows
end Go.Proofs.YtoldepieaafakaaGreatDoor
