/-
  DERIVED. GIVEN WITH THE SEED: THE CARDS: each row of YtkfgbhlpjkkgfaaGreatDoorRows.lean that lists a variable, with what it lists TIED to the program's text (the seventh form; the later family's looks); each row that meets fmt, with fmt's text TOLD by the authors' own Lean function (tested against real Go, not proved from fmt's source: count such statements apart). THE CARD IS WHAT COUNTS. Prove the row's statement (the work); the ties are given (YtkfgbhlpjkkgfaaGreatDoorTie.lean); close each card by the builder's one call (the guide's Derived/Test/ToyasCard.lean, 'card_holds'). Laid BY PROGRAM, IN A SANDBOX (cutbox-door.mjs). By AI agents, Wed Nov 11 2026. No macro, syntax, notation, axiom, sorry.
-/
import Derived.Test.YtkfgbhlpjkkgfaaGreatDoorRows
import GoSem.ClaimSeven
namespace Go.Proofs.YtkfgbhlpjkkgfaaGreatDoor
namespace Rows

/-- THE TIED CARD OF 'loomworklaw.KindsChecks'. -/
def kindsChecksCard : Claim7 := { stood := { row := kindsChecksRow, standIns := [], harness := (true, "75e654adf399ae6732ca7ac028d253cd3944e3ac3a3ebc27ef2f75039bf53aa2"), looks := true }, kinds := [], alts := [], laidByText := true, laidKinds := [.data, .data, .data, .data, .data, .data, .data], laidTests := true, laidLooks := .later }
def KindsChecksCardSaid : Prop := Claim7.holds Tryz.pinned (.plain (OpenSpec.ofChange kindsChecksSpec)) kindsChecksCard

/-- THE TIED CARD OF 'loomworklaw.KindsOps'. -/
def kindsOpsCard : Claim7 := { stood := { row := kindsOpsRow, standIns := [], harness := (true, "75e654adf399ae6732ca7ac028d253cd3944e3ac3a3ebc27ef2f75039bf53aa2"), looks := true }, kinds := [], alts := [], laidByText := true, laidKinds := [.data, .data, .data, .data, .data, .data, .data], laidTests := true, laidLooks := .later }
def KindsOpsCardSaid : Prop := Claim7.holds Tryz.pinned (.plain (OpenSpec.ofChange kindsOpsSpec)) kindsOpsCard

/-- THE TIED CARD OF 'loomworklaw.KindsTurns'. -/
def kindsTurnsCard : Claim7 := { stood := { row := kindsTurnsRow, standIns := [], harness := (true, "75e654adf399ae6732ca7ac028d253cd3944e3ac3a3ebc27ef2f75039bf53aa2"), looks := true }, kinds := [], alts := [], laidByText := true, laidKinds := [.data, .data, .data, .data, .data, .data, .data], laidTests := true, laidLooks := .later }
def KindsTurnsCardSaid : Prop := Claim7.holds Tryz.pinned (.plain (OpenSpec.ofChange kindsTurnsSpec)) kindsTurnsCard

/-- THE TIED CARD OF 'loomworklaw.KindsMore'. -/
def kindsMoreCard : Claim7 := { stood := { row := kindsMoreRow, standIns := [], harness := (true, "75e654adf399ae6732ca7ac028d253cd3944e3ac3a3ebc27ef2f75039bf53aa2"), looks := true }, kinds := [], alts := [], laidByText := true, laidKinds := [.data, .data, .data, .data, .data, .data, .data], laidTests := true, laidLooks := .later }
def KindsMoreCardSaid : Prop := Claim7.holds Tryz.pinned (.plain (OpenSpec.ofChange kindsMoreSpec)) kindsMoreCard

/-- THE SECOND FORM's CARD OF 'loomworklaw.KindsChecks'. -/
def kindsChecksUptoCard : Claim7 := { stood := { row := kindsChecksUptoRow, standIns := [], harness := (true, "75e654adf399ae6732ca7ac028d253cd3944e3ac3a3ebc27ef2f75039bf53aa2"), looks := true }, kinds := [], alts := [], laidByText := true, laidKinds := [.data, .data, .data, .data, .data, .data, .data], laidTests := true, laidLooks := .later }
def KindsChecksUptoCardSaid : Prop := Claim7.holds Tryz.pinned (.plain (OpenSpec.upto kindsChecksSpec)) kindsChecksUptoCard

/-- THE SECOND FORM's CARD OF 'loomworklaw.KindsOps'. -/
def kindsOpsUptoCard : Claim7 := { stood := { row := kindsOpsUptoRow, standIns := [], harness := (true, "75e654adf399ae6732ca7ac028d253cd3944e3ac3a3ebc27ef2f75039bf53aa2"), looks := true }, kinds := [], alts := [], laidByText := true, laidKinds := [.data, .data, .data, .data, .data, .data, .data], laidTests := true, laidLooks := .later }
def KindsOpsUptoCardSaid : Prop := Claim7.holds Tryz.pinned (.plain (OpenSpec.upto kindsOpsSpec)) kindsOpsUptoCard

/-- THE SECOND FORM's CARD OF 'loomworklaw.KindsTurns'. -/
def kindsTurnsUptoCard : Claim7 := { stood := { row := kindsTurnsUptoRow, standIns := [], harness := (true, "75e654adf399ae6732ca7ac028d253cd3944e3ac3a3ebc27ef2f75039bf53aa2"), looks := true }, kinds := [], alts := [], laidByText := true, laidKinds := [.data, .data, .data, .data, .data, .data, .data], laidTests := true, laidLooks := .later }
def KindsTurnsUptoCardSaid : Prop := Claim7.holds Tryz.pinned (.plain (OpenSpec.upto kindsTurnsSpec)) kindsTurnsUptoCard

/-- THE SECOND FORM's CARD OF 'loomworklaw.KindsMore'. -/
def kindsMoreUptoCard : Claim7 := { stood := { row := kindsMoreUptoRow, standIns := [], harness := (true, "75e654adf399ae6732ca7ac028d253cd3944e3ac3a3ebc27ef2f75039bf53aa2"), looks := true }, kinds := [], alts := [], laidByText := true, laidKinds := [.data, .data, .data, .data, .data, .data, .data], laidTests := true, laidLooks := .later }
def KindsMoreUptoCardSaid : Prop := Claim7.holds Tryz.pinned (.plain (OpenSpec.upto kindsMoreSpec)) kindsMoreUptoCard
end Rows
end Go.Proofs.YtkfgbhlpjkkgfaaGreatDoor
