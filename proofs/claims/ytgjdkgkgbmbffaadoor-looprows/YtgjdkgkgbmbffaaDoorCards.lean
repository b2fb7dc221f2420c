/-
  DERIVED. GIVEN WITH THE SEED: THE CARDS: each row of YtgjdkgkgbmbffaaDoorRows.lean that lists a variable, with what it lists TIED to the program's text (the seventh form; the later family's looks); each row that meets fmt, with fmt's text TOLD by the authors' own Lean function (tested against real Go, not proved from fmt's source: count such statements apart). THE CARD IS WHAT COUNTS. Prove the row's statement (the work); the ties are given (YtgjdkgkgbmbffaaDoorTie.lean); close each card by the builder's one call (the guide's Derived/Test/ToyasCard.lean, 'card_holds'). Laid BY PROGRAM, IN A SANDBOX (cutbox-door.mjs). By AI agents, Wed Nov 11 2026. No macro, syntax, notation, axiom, sorry.
-/
import Derived.Test.YtgjdkgkgbmbffaaDoorRows
import GoSem.ClaimSeven
namespace Go.Proofs.YtgjdkgkgbmbffaaDoor
namespace Rows

/-- THE TIED CARD OF 'loomworklaw.LoopChecks'. -/
def loopChecksCard : Claim7 := { stood := { row := loopChecksRow, standIns := [], harness := (true, "a63ab0482b9077096db4c45ab241c6ec058381a1cba2fd6cdc91469f7b72772c"), looks := false }, kinds := [], alts := [], laidByText := true, laidKinds := [.data], laidTests := true, laidLooks := .later }
def LoopChecksCardSaid : Prop := Claim7.holds Tryd.pinned (.plain (OpenSpec.ofChange loopChecksSpec)) loopChecksCard

/-- THE TIED CARD OF 'loomworklaw.LoopRows'. -/
def loopRowsCard : Claim7 := { stood := { row := loopRowsRow, standIns := [], harness := (true, "a63ab0482b9077096db4c45ab241c6ec058381a1cba2fd6cdc91469f7b72772c"), looks := false }, kinds := [], alts := [], laidByText := true, laidKinds := [.data], laidTests := true, laidLooks := .later }
def LoopRowsCardSaid : Prop := Claim7.holds Tryd.pinned (.plain (OpenSpec.ofChange loopRowsSpec)) loopRowsCard

/-- THE SECOND FORM's CARD OF 'loomworklaw.LoopChecks'. -/
def loopChecksUptoCard : Claim7 := { stood := { row := loopChecksUptoRow, standIns := [], harness := (true, "a63ab0482b9077096db4c45ab241c6ec058381a1cba2fd6cdc91469f7b72772c"), looks := false }, kinds := [], alts := [], laidByText := true, laidKinds := [.data], laidTests := true, laidLooks := .later }
def LoopChecksUptoCardSaid : Prop := Claim7.holds Tryd.pinned (.plain (OpenSpec.upto loopChecksSpec)) loopChecksUptoCard

/-- THE SECOND FORM's CARD OF 'loomworklaw.LoopRows'. -/
def loopRowsUptoCard : Claim7 := { stood := { row := loopRowsUptoRow, standIns := [], harness := (true, "a63ab0482b9077096db4c45ab241c6ec058381a1cba2fd6cdc91469f7b72772c"), looks := false }, kinds := [], alts := [], laidByText := true, laidKinds := [.data], laidTests := true, laidLooks := .later }
def LoopRowsUptoCardSaid : Prop := Claim7.holds Tryd.pinned (.plain (OpenSpec.upto loopRowsSpec)) loopRowsUptoCard
end Rows
end Go.Proofs.YtgjdkgkgbmbffaaDoor
