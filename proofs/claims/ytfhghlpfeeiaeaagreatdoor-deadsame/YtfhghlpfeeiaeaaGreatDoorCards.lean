/-
  DERIVED. GIVEN WITH THE SEED: THE CARDS: each row of YtfhghlpfeeiaeaaGreatDoorRows.lean that lists a variable, with what it lists TIED to the program's text (the seventh form; the later family's looks); each row that meets fmt, with fmt's text TOLD by the authors' own Lean function (tested against real Go, not proved from fmt's source: count such statements apart). THE CARD IS WHAT COUNTS. Prove the row's statement (the work); the ties are given (YtfhghlpfeeiaeaaGreatDoorTie.lean); close each card by the builder's one call (the guide's Derived/Test/ToyasCard.lean, 'card_holds'). Laid BY PROGRAM, IN A SANDBOX (cutbox-door.mjs). By AI agents, Wed Nov 11 2026. No macro, syntax, notation, axiom, sorry.
-/
import Derived.Test.YtfhghlpfeeiaeaaGreatDoorRows
import GoSem.ClaimSeven
namespace Go.Proofs.YtfhghlpfeeiaeaaGreatDoor
namespace Rows

/-- THE TIED CARD OF 'loomworklaw.DeadSame'. -/
def deadSameCard : Claim7 := { stood := { row := deadSameRow, standIns := [], harness := (true, "a2a89af9893f14e6beb892e3ff55559fb4b66d584d73ceca7e9817982514a6e7"), looks := false }, kinds := [], alts := [], laidByText := true, laidKinds := [.data, .data], laidTests := true, laidLooks := .later }
def DeadSameCardSaid : Prop := Claim7.holds Tryz.pinned (.plain (OpenSpec.ofChange deadSameSpec)) deadSameCard

/-- THE SECOND FORM's CARD OF 'loomworklaw.DeadSame'. -/
def deadSameUptoCard : Claim7 := { stood := { row := deadSameUptoRow, standIns := [], harness := (true, "a2a89af9893f14e6beb892e3ff55559fb4b66d584d73ceca7e9817982514a6e7"), looks := false }, kinds := [], alts := [], laidByText := true, laidKinds := [.data, .data], laidTests := true, laidLooks := .later }
def DeadSameUptoCardSaid : Prop := Claim7.holds Tryz.pinned (.plain (OpenSpec.upto deadSameSpec)) deadSameUptoCard
end Rows
end Go.Proofs.YtfhghlpfeeiaeaaGreatDoor
