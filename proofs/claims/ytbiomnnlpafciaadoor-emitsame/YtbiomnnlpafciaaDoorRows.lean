/-
  NARROWER THAN 'FOR EVERY INPUT', by the rows' own cells (each row's printed sentence says how): EmitMakes: laid · EmitSame: laid.
  DERIVED. THE GIVEN ROWS OF THIS SEAT. 2 by the template 'for every input the law returns true; each argument reads behind the call as it read before'; 0 by the template 'total and deterministic' (their statements: YtbiomnnlpafciaaDoorTotals.lean).
  GIVEN WITH THE SEED: the statements are not yours to turn. If you find one false, say at which input.
  Laid BY PROGRAM, IN A SANDBOX (cutbox-rows.mjs): the forced cells as the released guide's own fill.sh prints them over the translation f7ff9dd386cbb1bf… (all of the seat's roots in one cut). By AI agents, Wed Nov 11 2026. No macro, syntax, notation, axiom, sorry.
-/
import Derived.Test.YtbiomnnlpafciaaDoorChecked
import GoSem.Claim
import GoSem.ClaimJoined
import GoSem.ClaimMapViews
import Derived.JoinedTies
import Derived.KernelRfl
namespace Go.Proofs.YtbiomnnlpafciaaDoor
/- THE CELL 'sum', in the pinned program and in every row, IS THE sha256 OF THE DUMP (.gsa) THAT YtbiomnnlpafciaaDoorProg.lean LOADS. Nothing in Lean hashes anything: it is a label: what it is worth is what the hold of that sum in a sandbox is worth. -/
noncomputable def Tryd.pinned : Pinned := { name := "ytbiomnnlpafciaadoor", sum := "f7ff9dd386cbb1bfd3b372fba201f97dfcbc718ad493b1865890de10650488a0", checked := Tryd.checked }
namespace Rows
def none {H : Type} : Left H := { results := [], args := [] }

/- WHAT THE LISTED PACKAGE-LEVEL VARIABLES READ AS WHEN THE CALL BEGINS. Each datum BY PROGRAM (the guide's laid-datum.mjs) off the statement by which the dump's own 'gosem.cut.vars' lays the variable. In a bare row this is a premise. The card (YtbiomnnlpafciaaDoorCards.lean) ties it to the program's text. -/
def laid_loomwork_kinds_operators {H : Type} : DataW H := .agg [.agg [.lit (.int .u8 0), .lit (.int .u8 0), .lit (.int .i64 0)], .agg [.lit (.int .u8 105), .lit (.int .u8 105), .lit (.int .i64 2)], .agg [.lit (.int .u8 105), .lit (.int .u8 105), .lit (.int .i64 2)], .agg [.lit (.int .u8 105), .lit (.int .u8 105), .lit (.int .i64 2)], .agg [.lit (.int .u8 105), .lit (.int .u8 105), .lit (.int .i64 2)], .agg [.lit (.int .u8 105), .lit (.int .u8 105), .lit (.int .i64 2)], .agg [.lit (.int .u8 105), .lit (.int .u8 105), .lit (.int .i64 2)], .agg [.lit (.int .u8 105), .lit (.int .u8 105), .lit (.int .i64 2)], .agg [.lit (.int .u8 105), .lit (.int .u8 98), .lit (.int .i64 2)], .agg [.lit (.int .u8 105), .lit (.int .u8 98), .lit (.int .i64 2)], .agg [.lit (.int .u8 98), .lit (.int .u8 98), .lit (.int .i64 2)], .agg [.lit (.int .u8 98), .lit (.int .u8 98), .lit (.int .i64 2)], .agg [.lit (.int .u8 98), .lit (.int .u8 98), .lit (.int .i64 2)], .agg [.lit (.int .u8 105), .lit (.int .u8 105), .lit (.int .i64 1)], .agg [.lit (.int .u8 98), .lit (.int .u8 98), .lit (.int .i64 1)]]

/-- 'loomworklaw.EmitMakes': WHATEVER THE INPUT: true; the input reads as it did. -/
def emitMakesSpec : ChangeSpec := { name := "emitMakes", fn := fun _ => fun
  | [d1, d2] => { results := [.lit (.bool true)], args := [d1, d2] }
  | _ => none }
def emitMakesRow : OpenClaim := { program := "ytbiomnnlpafciaadoor", sum := "f7ff9dd386cbb1bfd3b372fba201f97dfcbc718ad493b1865890de10650488a0", func := "loomwork/loomworklaw.EmitMakes", spec := "emitMakes", unfollowed := true, recurses := true, named := ["loomwork/kinds.operators"], apart := false, laid := [("loomwork/kinds.operators", laid_loomwork_kinds_operators)] }
def EmitMakesSaid : Prop := emitMakesRow.holds Tryd.pinned (OpenSpec.ofChange emitMakesSpec)

/-- ITS FALSE NEIGHBOUR: 'it returns false'. Refute it at one input. -/
def emitMakesWrong : ChangeSpec := { name := "emitMakes", fn := fun _ => fun
  | [d1, d2] => { results := [.lit (.bool false)], args := [d1, d2] }
  | _ => none }
def EmitMakesWrongFalsely : Prop := emitMakesRow.holds Tryd.pinned (OpenSpec.ofChange emitMakesWrong)

/-- 'loomworklaw.EmitSame': WHATEVER THE INPUT: true; the input reads as it did. -/
def emitSameSpec : ChangeSpec := { name := "emitSame", fn := fun _ => fun
  | [d1, d2] => { results := [.lit (.bool true)], args := [d1, d2] }
  | _ => none }
def emitSameRow : OpenClaim := { program := "ytbiomnnlpafciaadoor", sum := "f7ff9dd386cbb1bfd3b372fba201f97dfcbc718ad493b1865890de10650488a0", func := "loomwork/loomworklaw.EmitSame", spec := "emitSame", unfollowed := true, recurses := true, named := ["loomwork/kinds.operators"], apart := false, laid := [("loomwork/kinds.operators", laid_loomwork_kinds_operators)] }
def EmitSameSaid : Prop := emitSameRow.holds Tryd.pinned (OpenSpec.ofChange emitSameSpec)

/-- ITS FALSE NEIGHBOUR: 'it returns false'. Refute it at one input. -/
def emitSameWrong : ChangeSpec := { name := "emitSame", fn := fun _ => fun
  | [d1, d2] => { results := [.lit (.bool false)], args := [d1, d2] }
  | _ => none }
def EmitSameWrongFalsely : Prop := emitSameRow.holds Tryd.pinned (OpenSpec.ofChange emitSameWrong)

/- THE SECOND FORM. 'bulk': how many values and letters a reading holds, each counted each time it is reached (what is shared counts as often as it is met; a slice's spare places count too). A statement '..UptoSaid' is the law's where the arguments, and the package variables that the reading takes, are together of bulk at most 1048576: NARROWER than '..Said'. Prove '..Said' where nothing that the law and all that it calls make is longer than what came in: it says more and counts as full. Else prove '..UptoSaid'. A law counts once. -/
mutual
def uptoBulk {H : Type} : DataW H → Nat
  | .lit (.string bytes) => bytes.length + 1
  | .lit _ => 1
  | .nil => 1
  | .ptr d => uptoBulk d + 1
  | .slice elems spare => uptoBulkAll elems + uptoBulkAll spare + 1
  | .agg parts => uptoBulkAll parts + 1
  | .iface _ d => uptoBulk d + 1
  | .map entries => uptoBulkEntries entries + 1
  | .held _ => 1
def uptoBulkAll {H : Type} : List (DataW H) → Nat
  | [] => 0
  | d :: r => uptoBulk d + uptoBulkAll r
def uptoBulkEntries {H : Type} : List (Lit × DataW H) → Nat
  | [] => 0
  | x :: r => uptoBulkEntry x + uptoBulkEntries r
def uptoBulkEntry {H : Type} : Lit × DataW H → Nat
  | (.string bytes, d) => bytes.length + uptoBulk d + 1
  | (_, d) => uptoBulk d + 1
 end
def uptoSmall : (H : Type) → List (DataW H) → Bool := fun _ ds => decide (uptoBulkAll ds ≤ 1048576)
def OpenSpec.upto (s : _root_.Go.ChangeSpec) : _root_.Go.OpenSpec := { _root_.Go.OpenSpec.ofChange s with cond := some uptoSmall }

/-- 'loomworklaw.EmitMakes', WHERE WHAT IT READS IS OF BULK AT MOST 1048576: true; the input reads as it did. -/
def emitMakesUptoRow : OpenClaim := { program := "ytbiomnnlpafciaadoor", sum := "f7ff9dd386cbb1bfd3b372fba201f97dfcbc718ad493b1865890de10650488a0", func := "loomwork/loomworklaw.EmitMakes", spec := "emitMakes", unfollowed := true, recurses := true, named := ["loomwork/kinds.operators"], apart := false, laid := [("loomwork/kinds.operators", laid_loomwork_kinds_operators)], narrowed := true }
def EmitMakesUptoSaid : Prop := emitMakesUptoRow.holds Tryd.pinned (OpenSpec.upto emitMakesSpec)

/-- 'loomworklaw.EmitSame', WHERE WHAT IT READS IS OF BULK AT MOST 1048576: true; the input reads as it did. -/
def emitSameUptoRow : OpenClaim := { program := "ytbiomnnlpafciaadoor", sum := "f7ff9dd386cbb1bfd3b372fba201f97dfcbc718ad493b1865890de10650488a0", func := "loomwork/loomworklaw.EmitSame", spec := "emitSame", unfollowed := true, recurses := true, named := ["loomwork/kinds.operators"], apart := false, laid := [("loomwork/kinds.operators", laid_loomwork_kinds_operators)], narrowed := true }
def EmitSameUptoSaid : Prop := emitSameUptoRow.holds Tryd.pinned (OpenSpec.upto emitSameSpec)

end Rows
end Go.Proofs.YtbiomnnlpafciaaDoor
