/-
  DERIVED. GIVEN WITH THE SEED: THE CARDS: each row of YtbiomnnlpafciaaDoorRows.lean that lists a variable, with what it lists TIED to the program's text (the seventh form; the later family's looks); each row that meets fmt, with fmt's text TOLD by the authors' own Lean function (tested against real Go, not proved from fmt's source: count such statements apart). THE CARD IS WHAT COUNTS. Prove the row's statement (the work); the ties are given (YtbiomnnlpafciaaDoorTie.lean); close each card by the builder's one call (the guide's Derived/Test/ToyasCard.lean, 'card_holds'). Laid BY PROGRAM, IN A SANDBOX (cutbox-door.mjs). By AI agents, Wed Nov 11 2026. No macro, syntax, notation, axiom, sorry.
-/
import Derived.Test.YtbiomnnlpafciaaDoorRows
import GoSem.ClaimSeven
namespace Go.Proofs.YtbiomnnlpafciaaDoor
namespace Rows

/-- THE TIED CARD OF 'loomworklaw.EmitMakes'. -/
def emitMakesCard : Claim7 := { stood := { row := emitMakesRow, standIns := [], harness := (true, "0ee41a9e38180f7f331a1f03ec611aa86169a3d52b997be388b65c7093a3860a"), looks := false }, kinds := [], alts := [], laidByText := true, laidKinds := [.data], laidTests := true, laidLooks := .later }
def EmitMakesCardSaid : Prop := Claim7.holds Tryd.pinned (.plain (OpenSpec.ofChange emitMakesSpec)) emitMakesCard

/-- THE TIED CARD OF 'loomworklaw.EmitSame'. -/
def emitSameCard : Claim7 := { stood := { row := emitSameRow, standIns := [], harness := (true, "0ee41a9e38180f7f331a1f03ec611aa86169a3d52b997be388b65c7093a3860a"), looks := false }, kinds := [], alts := [], laidByText := true, laidKinds := [.data], laidTests := true, laidLooks := .later }
def EmitSameCardSaid : Prop := Claim7.holds Tryd.pinned (.plain (OpenSpec.ofChange emitSameSpec)) emitSameCard

/-- THE SECOND FORM's CARD OF 'loomworklaw.EmitMakes'. -/
def emitMakesUptoCard : Claim7 := { stood := { row := emitMakesUptoRow, standIns := [], harness := (true, "0ee41a9e38180f7f331a1f03ec611aa86169a3d52b997be388b65c7093a3860a"), looks := false }, kinds := [], alts := [], laidByText := true, laidKinds := [.data], laidTests := true, laidLooks := .later }
def EmitMakesUptoCardSaid : Prop := Claim7.holds Tryd.pinned (.plain (OpenSpec.upto emitMakesSpec)) emitMakesUptoCard

/-- THE SECOND FORM's CARD OF 'loomworklaw.EmitSame'. -/
def emitSameUptoCard : Claim7 := { stood := { row := emitSameUptoRow, standIns := [], harness := (true, "0ee41a9e38180f7f331a1f03ec611aa86169a3d52b997be388b65c7093a3860a"), looks := false }, kinds := [], alts := [], laidByText := true, laidKinds := [.data], laidTests := true, laidLooks := .later }
def EmitSameUptoCardSaid : Prop := Claim7.holds Tryd.pinned (.plain (OpenSpec.upto emitSameSpec)) emitSameUptoCard
end Rows
end Go.Proofs.YtbiomnnlpafciaaDoor
