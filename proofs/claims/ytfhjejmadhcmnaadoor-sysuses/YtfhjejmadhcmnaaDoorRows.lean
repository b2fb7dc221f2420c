/-
  NARROWER THAN 'FOR EVERY INPUT', by the rows' own cells (each row's printed sentence says how): SysUses: laid · SysApplies: laid · SysNumbers: laid.
  DERIVED. THE GIVEN ROWS OF THIS SEAT. 3 by the template 'for every input the law returns true; each argument reads behind the call as it read before'; 0 by the template 'total and deterministic' (their statements: YtfhjejmadhcmnaaDoorTotals.lean).
  GIVEN WITH THE SEED: the statements are not yours to turn. If you find one false, say at which input.
  Laid BY PROGRAM, IN A SANDBOX (cutbox-rows.mjs): the forced cells as the released guide's own fill.sh prints them over the translation e39f856682d0732f… (all of the seat's roots in one cut). By AI agents, Wed Nov 11 2026. No macro, syntax, notation, axiom, sorry.
-/
import Derived.Test.YtfhjejmadhcmnaaDoorChecked
import GoSem.Claim
import GoSem.ClaimJoined
import GoSem.ClaimMapViews
import Derived.JoinedTies
import Derived.KernelRfl
namespace Go.Proofs.YtfhjejmadhcmnaaDoor
/- THE CELL 'sum', in the pinned program and in every row, IS THE sha256 OF THE DUMP (.gsa) THAT YtfhjejmadhcmnaaDoorProg.lean LOADS. Nothing in Lean hashes anything: it is a label: what it is worth is what the hold of that sum in a sandbox is worth. -/
noncomputable def Tryd.pinned : Pinned := { name := "ytfhjejmadhcmnaadoor", sum := "e39f856682d0732f5e50707579d7ecd6cc16911c31247302cf13cb62a34219c3", checked := Tryd.checked }
namespace Rows
def none {H : Type} : Left H := { results := [], args := [] }

/- WHAT THE LISTED PACKAGE-LEVEL VARIABLES READ AS WHEN THE CALL BEGINS. Each datum BY PROGRAM (the guide's laid-datum.mjs) off the statement by which the dump's own 'gosem.cut.vars' lays the variable. In a bare row this is a premise. The card (YtfhjejmadhcmnaaDoorCards.lean) ties it to the program's text. -/
def laid_loomwork_kinds_operators {H : Type} : DataW H := .agg [.agg [.lit (.int .u8 0), .lit (.int .u8 0), .lit (.int .i64 0)], .agg [.lit (.int .u8 105), .lit (.int .u8 105), .lit (.int .i64 2)], .agg [.lit (.int .u8 105), .lit (.int .u8 105), .lit (.int .i64 2)], .agg [.lit (.int .u8 105), .lit (.int .u8 105), .lit (.int .i64 2)], .agg [.lit (.int .u8 105), .lit (.int .u8 105), .lit (.int .i64 2)], .agg [.lit (.int .u8 105), .lit (.int .u8 105), .lit (.int .i64 2)], .agg [.lit (.int .u8 105), .lit (.int .u8 105), .lit (.int .i64 2)], .agg [.lit (.int .u8 105), .lit (.int .u8 105), .lit (.int .i64 2)], .agg [.lit (.int .u8 105), .lit (.int .u8 98), .lit (.int .i64 2)], .agg [.lit (.int .u8 105), .lit (.int .u8 98), .lit (.int .i64 2)], .agg [.lit (.int .u8 98), .lit (.int .u8 98), .lit (.int .i64 2)], .agg [.lit (.int .u8 98), .lit (.int .u8 98), .lit (.int .i64 2)], .agg [.lit (.int .u8 98), .lit (.int .u8 98), .lit (.int .i64 2)], .agg [.lit (.int .u8 105), .lit (.int .u8 105), .lit (.int .i64 1)], .agg [.lit (.int .u8 98), .lit (.int .u8 98), .lit (.int .i64 1)]]
def laid_loomwork_sys_partCounts {H : Type} : DataW H := .agg [.lit (.int .i64 0), .lit (.int .i64 0), .lit (.int .i64 1), .lit (.int .i64 1), .lit (.int .i64 2), .lit (.int .i64 3), .lit (.int .i64 2), .lit (.int .i64 2), .lit (.int .i64 1), .lit (.int .i64 3), .lit (.int .i64 3), .lit (.int .i64 1), .lit (.int .i64 2), .lit (.int .i64 2), .lit (.int .i64 0), .lit (.int .i64 1), .lit (.int .i64 1)]

/-- 'loomworklaw.SysUses': WHATEVER THE INPUT: true; the input reads as it did. -/
def sysUsesSpec : ChangeSpec := { name := "sysUses", fn := fun _ => fun
  | [d] => { results := [.lit (.bool true)], args := [d] }
  | _ => none }
def sysUsesRow : OpenClaim := { program := "ytfhjejmadhcmnaadoor", sum := "e39f856682d0732f5e50707579d7ecd6cc16911c31247302cf13cb62a34219c3", func := "loomwork/loomworklaw.SysUses", spec := "sysUses", inPlace := ["internal/bytealg.MakeNoZero"], unfollowed := true, recurses := true, named := ["loomwork/sys.partCounts", "loomwork/kinds.operators"], apart := false, laid := [("loomwork/kinds.operators", laid_loomwork_kinds_operators), ("loomwork/sys.partCounts", laid_loomwork_sys_partCounts)] }
def SysUsesSaid : Prop := sysUsesRow.holds Tryd.pinned (OpenSpec.ofChange sysUsesSpec)

/-- ITS FALSE NEIGHBOUR: 'it returns false'. Refute it at one input. -/
def sysUsesWrong : ChangeSpec := { name := "sysUses", fn := fun _ => fun
  | [d] => { results := [.lit (.bool false)], args := [d] }
  | _ => none }
def SysUsesWrongFalsely : Prop := sysUsesRow.holds Tryd.pinned (OpenSpec.ofChange sysUsesWrong)

/-- 'loomworklaw.SysApplies': WHATEVER THE INPUT: true; the input reads as it did. -/
def sysAppliesSpec : ChangeSpec := { name := "sysApplies", fn := fun _ => fun
  | [d1, d2, d3] => { results := [.lit (.bool true)], args := [d1, d2, d3] }
  | _ => none }
def sysAppliesRow : OpenClaim := { program := "ytfhjejmadhcmnaadoor", sum := "e39f856682d0732f5e50707579d7ecd6cc16911c31247302cf13cb62a34219c3", func := "loomwork/loomworklaw.SysApplies", spec := "sysApplies", inPlace := ["internal/bytealg.MakeNoZero"], unfollowed := true, recurses := true, named := ["loomwork/sys.partCounts", "loomwork/kinds.operators"], apart := false, laid := [("loomwork/kinds.operators", laid_loomwork_kinds_operators), ("loomwork/sys.partCounts", laid_loomwork_sys_partCounts)] }
def SysAppliesSaid : Prop := sysAppliesRow.holds Tryd.pinned (OpenSpec.ofChange sysAppliesSpec)

/-- ITS FALSE NEIGHBOUR: 'it returns false'. Refute it at one input. -/
def sysAppliesWrong : ChangeSpec := { name := "sysApplies", fn := fun _ => fun
  | [d1, d2, d3] => { results := [.lit (.bool false)], args := [d1, d2, d3] }
  | _ => none }
def SysAppliesWrongFalsely : Prop := sysAppliesRow.holds Tryd.pinned (OpenSpec.ofChange sysAppliesWrong)

/-- 'loomworklaw.SysNumbers': WHATEVER THE INPUT: true; the input reads as it did. -/
def sysNumbersSpec : ChangeSpec := { name := "sysNumbers", fn := fun _ => fun
  | [d1, d2] => { results := [.lit (.bool true)], args := [d1, d2] }
  | _ => none }
def sysNumbersRow : OpenClaim := { program := "ytfhjejmadhcmnaadoor", sum := "e39f856682d0732f5e50707579d7ecd6cc16911c31247302cf13cb62a34219c3", func := "loomwork/loomworklaw.SysNumbers", spec := "sysNumbers", inPlace := ["internal/bytealg.MakeNoZero"], unfollowed := true, recurses := true, named := ["loomwork/sys.partCounts", "loomwork/kinds.operators"], apart := false, laid := [("loomwork/kinds.operators", laid_loomwork_kinds_operators), ("loomwork/sys.partCounts", laid_loomwork_sys_partCounts)] }
def SysNumbersSaid : Prop := sysNumbersRow.holds Tryd.pinned (OpenSpec.ofChange sysNumbersSpec)

/-- ITS FALSE NEIGHBOUR: 'it returns false'. Refute it at one input. -/
def sysNumbersWrong : ChangeSpec := { name := "sysNumbers", fn := fun _ => fun
  | [d1, d2] => { results := [.lit (.bool false)], args := [d1, d2] }
  | _ => none }
def SysNumbersWrongFalsely : Prop := sysNumbersRow.holds Tryd.pinned (OpenSpec.ofChange sysNumbersWrong)

/- THE SECOND FORM. 'bulk': how many values and letters a reading holds, each counted each time it is reached (what is shared counts as often as it is met; a slice's spare places count too). A statement '..UptoSaid' is the law's where the arguments, and the package variables that the reading takes, are together of bulk at most 1048576: NARROWER than '..Said'. Prove '..Said' where nothing that the law and all that it calls make is longer than what came in: it says more and counts as full. Else prove '..UptoSaid'. A law counts once. -/
mutual
def uptoBulk {H : Type} : DataW H → Nat
  | .lit (.string bytes) => bytes.length + 1
  | .lit _ => 1
  | .nil => 1
  | .ptr d => uptoBulk d + 1
  | .slice elems spare => uptoBulkAll elems + uptoBulkAll spare + 1
  | .agg parts => uptoBulkAll parts + 1
  | .iface _ d => uptoBulk d + 1
  | .map entries => uptoBulkEntries entries + 1
  | .held _ => 1
def uptoBulkAll {H : Type} : List (DataW H) → Nat
  | [] => 0
  | d :: r => uptoBulk d + uptoBulkAll r
def uptoBulkEntries {H : Type} : List (Lit × DataW H) → Nat
  | [] => 0
  | x :: r => uptoBulkEntry x + uptoBulkEntries r
def uptoBulkEntry {H : Type} : Lit × DataW H → Nat
  | (.string bytes, d) => bytes.length + uptoBulk d + 1
  | (_, d) => uptoBulk d + 1
 end
def uptoSmall : (H : Type) → List (DataW H) → Bool := fun _ ds => decide (uptoBulkAll ds ≤ 1048576)
def OpenSpec.upto (s : _root_.Go.ChangeSpec) : _root_.Go.OpenSpec := { _root_.Go.OpenSpec.ofChange s with cond := some uptoSmall }

/-- 'loomworklaw.SysUses', WHERE WHAT IT READS IS OF BULK AT MOST 1048576: true; the input reads as it did. -/
def sysUsesUptoRow : OpenClaim := { program := "ytfhjejmadhcmnaadoor", sum := "e39f856682d0732f5e50707579d7ecd6cc16911c31247302cf13cb62a34219c3", func := "loomwork/loomworklaw.SysUses", spec := "sysUses", inPlace := ["internal/bytealg.MakeNoZero"], unfollowed := true, recurses := true, named := ["loomwork/sys.partCounts", "loomwork/kinds.operators"], apart := false, laid := [("loomwork/kinds.operators", laid_loomwork_kinds_operators), ("loomwork/sys.partCounts", laid_loomwork_sys_partCounts)], narrowed := true }
def SysUsesUptoSaid : Prop := sysUsesUptoRow.holds Tryd.pinned (OpenSpec.upto sysUsesSpec)

/-- 'loomworklaw.SysApplies', WHERE WHAT IT READS IS OF BULK AT MOST 1048576: true; the input reads as it did. -/
def sysAppliesUptoRow : OpenClaim := { program := "ytfhjejmadhcmnaadoor", sum := "e39f856682d0732f5e50707579d7ecd6cc16911c31247302cf13cb62a34219c3", func := "loomwork/loomworklaw.SysApplies", spec := "sysApplies", inPlace := ["internal/bytealg.MakeNoZero"], unfollowed := true, recurses := true, named := ["loomwork/sys.partCounts", "loomwork/kinds.operators"], apart := false, laid := [("loomwork/kinds.operators", laid_loomwork_kinds_operators), ("loomwork/sys.partCounts", laid_loomwork_sys_partCounts)], narrowed := true }
def SysAppliesUptoSaid : Prop := sysAppliesUptoRow.holds Tryd.pinned (OpenSpec.upto sysAppliesSpec)

/-- 'loomworklaw.SysNumbers', WHERE WHAT IT READS IS OF BULK AT MOST 1048576: true; the input reads as it did. -/
def sysNumbersUptoRow : OpenClaim := { program := "ytfhjejmadhcmnaadoor", sum := "e39f856682d0732f5e50707579d7ecd6cc16911c31247302cf13cb62a34219c3", func := "loomwork/loomworklaw.SysNumbers", spec := "sysNumbers", inPlace := ["internal/bytealg.MakeNoZero"], unfollowed := true, recurses := true, named := ["loomwork/sys.partCounts", "loomwork/kinds.operators"], apart := false, laid := [("loomwork/kinds.operators", laid_loomwork_kinds_operators), ("loomwork/sys.partCounts", laid_loomwork_sys_partCounts)], narrowed := true }
def SysNumbersUptoSaid : Prop := sysNumbersUptoRow.holds Tryd.pinned (OpenSpec.upto sysNumbersSpec)

end Rows
end Go.Proofs.YtfhjejmadhcmnaaDoor
