/-
  NARROWER THAN 'FOR EVERY INPUT', by the rows' own cells (each row's printed sentence says how): CodeChecks: laid · CodeCosts: laid.
  DERIVED. THE GIVEN ROWS OF THIS SEAT. 2 by the template 'for every input the law returns true; each argument reads behind the call as it read before'; 0 by the template 'total and deterministic' (their statements: YtfipfdpohkafaaaDoorTotals.lean).
  GIVEN WITH THE SEED: the statements are not yours to turn. If you find one false, say at which input.
  Laid BY PROGRAM, IN A SANDBOX (cutbox-rows.mjs): the forced cells as the released guide's own fill.sh prints them over the translation 6e4ee0835aac2dd9… (all of the seat's roots in one cut). By AI agents, Wed Nov 11 2026. No macro, syntax, notation, axiom, sorry.
-/
import Derived.Test.YtfipfdpohkafaaaDoorChecked
import GoSem.Claim
import GoSem.ClaimJoined
import GoSem.ClaimMapViews
import Derived.JoinedTies
import Derived.KernelRfl
namespace Go.Proofs.YtfipfdpohkafaaaDoor
/- THE CELL 'sum', in the pinned program and in every row, IS THE sha256 OF THE DUMP (.gsa) THAT YtfipfdpohkafaaaDoorProg.lean LOADS. Nothing in Lean hashes anything: it is a label: what it is worth is what the hold of that sum in a sandbox is worth. -/
noncomputable def Tryd.pinned : Pinned := { name := "ytfipfdpohkafaaadoor", sum := "6e4ee0835aac2dd92a4d9197f6a3758f4233f1d372ab5db7a8f436fbc7f09783", checked := Tryd.checked }
namespace Rows
def none {H : Type} : Left H := { results := [], args := [] }

/- WHAT THE LISTED PACKAGE-LEVEL VARIABLES READ AS WHEN THE CALL BEGINS. Each datum BY PROGRAM (the guide's laid-datum.mjs) off the statement by which the dump's own 'gosem.cut.vars' lays the variable. In a bare row this is a premise. The card (YtfipfdpohkafaaaDoorCards.lean) ties it to the program's text. -/
def laid_loomwork_kinds_operators {H : Type} : DataW H := .agg [.agg [.lit (.int .u8 0), .lit (.int .u8 0), .lit (.int .i64 0)], .agg [.lit (.int .u8 105), .lit (.int .u8 105), .lit (.int .i64 2)], .agg [.lit (.int .u8 105), .lit (.int .u8 105), .lit (.int .i64 2)], .agg [.lit (.int .u8 105), .lit (.int .u8 105), .lit (.int .i64 2)], .agg [.lit (.int .u8 105), .lit (.int .u8 105), .lit (.int .i64 2)], .agg [.lit (.int .u8 105), .lit (.int .u8 105), .lit (.int .i64 2)], .agg [.lit (.int .u8 105), .lit (.int .u8 105), .lit (.int .i64 2)], .agg [.lit (.int .u8 105), .lit (.int .u8 105), .lit (.int .i64 2)], .agg [.lit (.int .u8 105), .lit (.int .u8 98), .lit (.int .i64 2)], .agg [.lit (.int .u8 105), .lit (.int .u8 98), .lit (.int .i64 2)], .agg [.lit (.int .u8 98), .lit (.int .u8 98), .lit (.int .i64 2)], .agg [.lit (.int .u8 98), .lit (.int .u8 98), .lit (.int .i64 2)], .agg [.lit (.int .u8 98), .lit (.int .u8 98), .lit (.int .i64 2)], .agg [.lit (.int .u8 105), .lit (.int .u8 105), .lit (.int .i64 1)], .agg [.lit (.int .u8 98), .lit (.int .u8 98), .lit (.int .i64 1)]]

/-- 'loomworklaw.CodeChecks': WHATEVER THE INPUT: true; the input reads as it did. -/
def codeChecksSpec : ChangeSpec := { name := "codeChecks", fn := fun _ => fun
  | [d] => { results := [.lit (.bool true)], args := [d] }
  | _ => none }
def codeChecksRow : OpenClaim := { program := "ytfipfdpohkafaaadoor", sum := "6e4ee0835aac2dd92a4d9197f6a3758f4233f1d372ab5db7a8f436fbc7f09783", func := "loomwork/loomworklaw.CodeChecks", spec := "codeChecks", unfollowed := true, recurses := true, named := ["loomwork/kinds.operators"], apart := false, laid := [("loomwork/kinds.operators", laid_loomwork_kinds_operators)] }
def CodeChecksSaid : Prop := codeChecksRow.holds Tryd.pinned (OpenSpec.ofChange codeChecksSpec)

/-- ITS FALSE NEIGHBOUR: 'it returns false'. Refute it at one input. -/
def codeChecksWrong : ChangeSpec := { name := "codeChecks", fn := fun _ => fun
  | [d] => { results := [.lit (.bool false)], args := [d] }
  | _ => none }
def CodeChecksWrongFalsely : Prop := codeChecksRow.holds Tryd.pinned (OpenSpec.ofChange codeChecksWrong)

/-- 'loomworklaw.CodeCosts': WHATEVER THE INPUT: true; the input reads as it did. -/
def codeCostsSpec : ChangeSpec := { name := "codeCosts", fn := fun _ => fun
  | [d1, d2, d3] => { results := [.lit (.bool true)], args := [d1, d2, d3] }
  | _ => none }
def codeCostsRow : OpenClaim := { program := "ytfipfdpohkafaaadoor", sum := "6e4ee0835aac2dd92a4d9197f6a3758f4233f1d372ab5db7a8f436fbc7f09783", func := "loomwork/loomworklaw.CodeCosts", spec := "codeCosts", unfollowed := true, recurses := true, named := ["loomwork/kinds.operators"], apart := false, laid := [("loomwork/kinds.operators", laid_loomwork_kinds_operators)] }
def CodeCostsSaid : Prop := codeCostsRow.holds Tryd.pinned (OpenSpec.ofChange codeCostsSpec)

/-- ITS FALSE NEIGHBOUR: 'it returns false'. Refute it at one input. -/
def codeCostsWrong : ChangeSpec := { name := "codeCosts", fn := fun _ => fun
  | [d1, d2, d3] => { results := [.lit (.bool false)], args := [d1, d2, d3] }
  | _ => none }
def CodeCostsWrongFalsely : Prop := codeCostsRow.holds Tryd.pinned (OpenSpec.ofChange codeCostsWrong)

/- THE SECOND FORM. 'bulk': how many values and letters a reading holds, each counted each time it is reached (what is shared counts as often as it is met; a slice's spare places count too). A statement '..UptoSaid' is the law's where the arguments, and the package variables that the reading takes, are together of bulk at most 1048576: NARROWER than '..Said'. Prove '..Said' where nothing that the law and all that it calls make is longer than what came in: it says more and counts as full. Else prove '..UptoSaid'. A law counts once. -/
mutual
def uptoBulk {H : Type} : DataW H → Nat
  | .lit (.string bytes) => bytes.length + 1
  | .lit _ => 1
  | .nil => 1
  | .ptr d => uptoBulk d + 1
  | .slice elems spare => uptoBulkAll elems + uptoBulkAll spare + 1
  | .agg parts => uptoBulkAll parts + 1
  | .iface _ d => uptoBulk d + 1
  | .map entries => uptoBulkEntries entries + 1
  | .held _ => 1
def uptoBulkAll {H : Type} : List (DataW H) → Nat
  | [] => 0
  | d :: r => uptoBulk d + uptoBulkAll r
def uptoBulkEntries {H : Type} : List (Lit × DataW H) → Nat
  | [] => 0
  | x :: r => uptoBulkEntry x + uptoBulkEntries r
def uptoBulkEntry {H : Type} : Lit × DataW H → Nat
  | (.string bytes, d) => bytes.length + uptoBulk d + 1
  | (_, d) => uptoBulk d + 1
 end
def uptoSmall : (H : Type) → List (DataW H) → Bool := fun _ ds => decide (uptoBulkAll ds ≤ 1048576)
def OpenSpec.upto (s : _root_.Go.ChangeSpec) : _root_.Go.OpenSpec := { _root_.Go.OpenSpec.ofChange s with cond := some uptoSmall }

/-- 'loomworklaw.CodeChecks', WHERE WHAT IT READS IS OF BULK AT MOST 1048576: true; the input reads as it did. -/
def codeChecksUptoRow : OpenClaim := { program := "ytfipfdpohkafaaadoor", sum := "6e4ee0835aac2dd92a4d9197f6a3758f4233f1d372ab5db7a8f436fbc7f09783", func := "loomwork/loomworklaw.CodeChecks", spec := "codeChecks", unfollowed := true, recurses := true, named := ["loomwork/kinds.operators"], apart := false, laid := [("loomwork/kinds.operators", laid_loomwork_kinds_operators)], narrowed := true }
def CodeChecksUptoSaid : Prop := codeChecksUptoRow.holds Tryd.pinned (OpenSpec.upto codeChecksSpec)

/-- 'loomworklaw.CodeCosts', WHERE WHAT IT READS IS OF BULK AT MOST 1048576: true; the input reads as it did. -/
def codeCostsUptoRow : OpenClaim := { program := "ytfipfdpohkafaaadoor", sum := "6e4ee0835aac2dd92a4d9197f6a3758f4233f1d372ab5db7a8f436fbc7f09783", func := "loomwork/loomworklaw.CodeCosts", spec := "codeCosts", unfollowed := true, recurses := true, named := ["loomwork/kinds.operators"], apart := false, laid := [("loomwork/kinds.operators", laid_loomwork_kinds_operators)], narrowed := true }
def CodeCostsUptoSaid : Prop := codeCostsUptoRow.holds Tryd.pinned (OpenSpec.upto codeCostsSpec)

end Rows
end Go.Proofs.YtfipfdpohkafaaaDoor
