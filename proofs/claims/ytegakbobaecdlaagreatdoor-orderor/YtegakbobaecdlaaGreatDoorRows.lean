/-
  NARROWER THAN 'FOR EVERY INPUT', by the rows' own cells (each row's printed sentence says how): OrderOr: laid · OrderAhead: laid · PlaceApart: laid · PlaceFew: laid.
  DERIVED. THE GIVEN ROWS OF THIS SEAT. 4 by the template 'for every input the law returns true; each argument reads behind the call as it read before'; 0 by the template 'total and deterministic' (their statements: YtegakbobaecdlaaGreatDoorTotals.lean).
  GIVEN WITH THE SEED: the statements are not yours to turn. If you find one false, say at which input.
  Laid BY PROGRAM, IN A SANDBOX (cutbox-rows.mjs): the forced cells as the released guide's own fill.sh prints them over the translation 49fdfc9fdd411cc6… (all of the seat's roots in one cut). By AI agents, Wed Nov 11 2026. No macro, syntax, notation, axiom, sorry.
-/
import Derived.Test.YtegakbobaecdlaaGreatDoorChecked
import GoSem.Claim
import GoSem.ClaimJoined
import GoSem.ClaimMapViews
import Derived.JoinedTies
import Derived.KernelRfl
namespace Go.Proofs.YtegakbobaecdlaaGreatDoor
/- THE CELL 'sum', in the pinned program and in every row, IS THE sha256 OF THE DUMP (.gsa) THAT YtegakbobaecdlaaGreatDoorProg.lean LOADS. Nothing in Lean hashes anything: it is a label: what it is worth is what the hold of that sum in a sandbox is worth. -/
noncomputable def Tryz.pinned : Pinned := { name := "ytegakbobaecdlaagreatdoor", sum := "49fdfc9fdd411cc69184b591c421c4637288c69ef1f2b70ee6120f613a54dc89", checked := Tryz.checked }
namespace Rows
def none {H : Type} : Left H := { results := [], args := [] }

/- WHAT THE LISTED PACKAGE-LEVEL VARIABLES READ AS WHEN THE CALL BEGINS. Each datum BY PROGRAM (the guide's laid-datum.mjs) off the statement by which the dump's own 'gosem.cut.vars' lays the variable. In a bare row this is a premise. The card (YtegakbobaecdlaaGreatDoorCards.lean) ties it to the program's text. -/
def laid_loomwork_kinds_operators {H : Type} : DataW H := .agg [.agg [.lit (.int .u8 0), .lit (.int .u8 0), .lit (.int .i64 0)], .agg [.lit (.int .u8 105), .lit (.int .u8 105), .lit (.int .i64 2)], .agg [.lit (.int .u8 105), .lit (.int .u8 105), .lit (.int .i64 2)], .agg [.lit (.int .u8 105), .lit (.int .u8 105), .lit (.int .i64 2)], .agg [.lit (.int .u8 105), .lit (.int .u8 105), .lit (.int .i64 2)], .agg [.lit (.int .u8 105), .lit (.int .u8 105), .lit (.int .i64 2)], .agg [.lit (.int .u8 105), .lit (.int .u8 105), .lit (.int .i64 2)], .agg [.lit (.int .u8 105), .lit (.int .u8 105), .lit (.int .i64 2)], .agg [.lit (.int .u8 105), .lit (.int .u8 98), .lit (.int .i64 2)], .agg [.lit (.int .u8 105), .lit (.int .u8 98), .lit (.int .i64 2)], .agg [.lit (.int .u8 98), .lit (.int .u8 98), .lit (.int .i64 2)], .agg [.lit (.int .u8 98), .lit (.int .u8 98), .lit (.int .i64 2)], .agg [.lit (.int .u8 98), .lit (.int .u8 98), .lit (.int .i64 2)], .agg [.lit (.int .u8 105), .lit (.int .u8 105), .lit (.int .i64 1)], .agg [.lit (.int .u8 98), .lit (.int .u8 98), .lit (.int .i64 1)]]
def laid_loomwork_sys_partCounts {H : Type} : DataW H := .agg [.lit (.int .i64 0), .lit (.int .i64 0), .lit (.int .i64 1), .lit (.int .i64 1), .lit (.int .i64 2), .lit (.int .i64 3), .lit (.int .i64 2), .lit (.int .i64 2), .lit (.int .i64 1), .lit (.int .i64 3), .lit (.int .i64 3), .lit (.int .i64 1), .lit (.int .i64 2), .lit (.int .i64 2), .lit (.int .i64 0), .lit (.int .i64 1), .lit (.int .i64 1)]

/-- 'loomworklaw.OrderOr': WHATEVER THE INPUT: true; the input reads as it did. -/
def orderOrSpec : ChangeSpec := { name := "orderOr", fn := fun _ => fun
  | [d] => { results := [.lit (.bool true)], args := [d] }
  | _ => none }
def orderOrRow : OpenClaim := { program := "ytegakbobaecdlaagreatdoor", sum := "49fdfc9fdd411cc69184b591c421c4637288c69ef1f2b70ee6120f613a54dc89", func := "loomwork/loomworklaw.OrderOr", spec := "orderOr", inPlace := ["internal/bytealg.MakeNoZero"], unfollowed := true, recurses := true, named := ["loomwork/sys.partCounts", "loomwork/kinds.operators"], apart := false, laid := [("loomwork/kinds.operators", laid_loomwork_kinds_operators), ("loomwork/sys.partCounts", laid_loomwork_sys_partCounts)] }
def OrderOrSaid : Prop := orderOrRow.holds Tryz.pinned (OpenSpec.ofChange orderOrSpec)

/-- ITS FALSE NEIGHBOUR: 'it returns false'. Refute it at one input. -/
def orderOrWrong : ChangeSpec := { name := "orderOr", fn := fun _ => fun
  | [d] => { results := [.lit (.bool false)], args := [d] }
  | _ => none }
def OrderOrWrongFalsely : Prop := orderOrRow.holds Tryz.pinned (OpenSpec.ofChange orderOrWrong)

/-- 'loomworklaw.OrderAhead': WHATEVER THE INPUT: true; the input reads as it did. -/
def orderAheadSpec : ChangeSpec := { name := "orderAhead", fn := fun _ => fun
  | [d1, d2] => { results := [.lit (.bool true)], args := [d1, d2] }
  | _ => none }
def orderAheadRow : OpenClaim := { program := "ytegakbobaecdlaagreatdoor", sum := "49fdfc9fdd411cc69184b591c421c4637288c69ef1f2b70ee6120f613a54dc89", func := "loomwork/loomworklaw.OrderAhead", spec := "orderAhead", inPlace := ["internal/bytealg.MakeNoZero"], unfollowed := true, recurses := true, named := ["loomwork/sys.partCounts", "loomwork/kinds.operators"], apart := false, laid := [("loomwork/kinds.operators", laid_loomwork_kinds_operators), ("loomwork/sys.partCounts", laid_loomwork_sys_partCounts)] }
def OrderAheadSaid : Prop := orderAheadRow.holds Tryz.pinned (OpenSpec.ofChange orderAheadSpec)

/-- ITS FALSE NEIGHBOUR: 'it returns false'. Refute it at one input. -/
def orderAheadWrong : ChangeSpec := { name := "orderAhead", fn := fun _ => fun
  | [d1, d2] => { results := [.lit (.bool false)], args := [d1, d2] }
  | _ => none }
def OrderAheadWrongFalsely : Prop := orderAheadRow.holds Tryz.pinned (OpenSpec.ofChange orderAheadWrong)

/-- 'loomworklaw.PlaceApart': WHATEVER THE INPUT: true; the input reads as it did. -/
def placeApartSpec : ChangeSpec := { name := "placeApart", fn := fun _ => fun
  | [d] => { results := [.lit (.bool true)], args := [d] }
  | _ => none }
def placeApartRow : OpenClaim := { program := "ytegakbobaecdlaagreatdoor", sum := "49fdfc9fdd411cc69184b591c421c4637288c69ef1f2b70ee6120f613a54dc89", func := "loomwork/loomworklaw.PlaceApart", spec := "placeApart", inPlace := ["internal/bytealg.MakeNoZero"], unfollowed := true, recurses := true, named := ["loomwork/sys.partCounts", "loomwork/kinds.operators"], apart := false, laid := [("loomwork/kinds.operators", laid_loomwork_kinds_operators), ("loomwork/sys.partCounts", laid_loomwork_sys_partCounts)] }
def PlaceApartSaid : Prop := placeApartRow.holds Tryz.pinned (OpenSpec.ofChange placeApartSpec)

/-- ITS FALSE NEIGHBOUR: 'it returns false'. Refute it at one input. -/
def placeApartWrong : ChangeSpec := { name := "placeApart", fn := fun _ => fun
  | [d] => { results := [.lit (.bool false)], args := [d] }
  | _ => none }
def PlaceApartWrongFalsely : Prop := placeApartRow.holds Tryz.pinned (OpenSpec.ofChange placeApartWrong)

/-- 'loomworklaw.PlaceFew': WHATEVER THE INPUT: true; the input reads as it did. -/
def placeFewSpec : ChangeSpec := { name := "placeFew", fn := fun _ => fun
  | [d] => { results := [.lit (.bool true)], args := [d] }
  | _ => none }
def placeFewRow : OpenClaim := { program := "ytegakbobaecdlaagreatdoor", sum := "49fdfc9fdd411cc69184b591c421c4637288c69ef1f2b70ee6120f613a54dc89", func := "loomwork/loomworklaw.PlaceFew", spec := "placeFew", inPlace := ["internal/bytealg.MakeNoZero"], unfollowed := true, recurses := true, named := ["loomwork/sys.partCounts", "loomwork/kinds.operators"], apart := false, laid := [("loomwork/kinds.operators", laid_loomwork_kinds_operators), ("loomwork/sys.partCounts", laid_loomwork_sys_partCounts)] }
def PlaceFewSaid : Prop := placeFewRow.holds Tryz.pinned (OpenSpec.ofChange placeFewSpec)

/-- ITS FALSE NEIGHBOUR: 'it returns false'. Refute it at one input. -/
def placeFewWrong : ChangeSpec := { name := "placeFew", fn := fun _ => fun
  | [d] => { results := [.lit (.bool false)], args := [d] }
  | _ => none }
def PlaceFewWrongFalsely : Prop := placeFewRow.holds Tryz.pinned (OpenSpec.ofChange placeFewWrong)

/- THE SECOND FORM. 'bulk': how many values and letters a reading holds, each counted each time it is reached (what is shared counts as often as it is met; a slice's spare places count too). A statement '..UptoSaid' is the law's where the arguments, and the package variables that the reading takes, are together of bulk at most 1048576: NARROWER than '..Said'. Prove '..Said' where nothing that the law and all that it calls make is longer than what came in: it says more and counts as full. Else prove '..UptoSaid'. A law counts once. -/
mutual
def uptoBulk {H : Type} : DataW H → Nat
  | .lit (.string bytes) => bytes.length + 1
  | .lit _ => 1
  | .nil => 1
  | .ptr d => uptoBulk d + 1
  | .slice elems spare => uptoBulkAll elems + uptoBulkAll spare + 1
  | .agg parts => uptoBulkAll parts + 1
  | .iface _ d => uptoBulk d + 1
  | .map entries => uptoBulkEntries entries + 1
  | .held _ => 1
def uptoBulkAll {H : Type} : List (DataW H) → Nat
  | [] => 0
  | d :: r => uptoBulk d + uptoBulkAll r
def uptoBulkEntries {H : Type} : List (Lit × DataW H) → Nat
  | [] => 0
  | x :: r => uptoBulkEntry x + uptoBulkEntries r
def uptoBulkEntry {H : Type} : Lit × DataW H → Nat
  | (.string bytes, d) => bytes.length + uptoBulk d + 1
  | (_, d) => uptoBulk d + 1
 end
def uptoSmall : (H : Type) → List (DataW H) → Bool := fun _ ds => decide (uptoBulkAll ds ≤ 1048576)
def OpenSpec.upto (s : _root_.Go.ChangeSpec) : _root_.Go.OpenSpec := { _root_.Go.OpenSpec.ofChange s with cond := some uptoSmall }

/-- 'loomworklaw.OrderOr', WHERE WHAT IT READS IS OF BULK AT MOST 1048576: true; the input reads as it did. -/
def orderOrUptoRow : OpenClaim := { program := "ytegakbobaecdlaagreatdoor", sum := "49fdfc9fdd411cc69184b591c421c4637288c69ef1f2b70ee6120f613a54dc89", func := "loomwork/loomworklaw.OrderOr", spec := "orderOr", inPlace := ["internal/bytealg.MakeNoZero"], unfollowed := true, recurses := true, named := ["loomwork/sys.partCounts", "loomwork/kinds.operators"], apart := false, laid := [("loomwork/kinds.operators", laid_loomwork_kinds_operators), ("loomwork/sys.partCounts", laid_loomwork_sys_partCounts)], narrowed := true }
def OrderOrUptoSaid : Prop := orderOrUptoRow.holds Tryz.pinned (OpenSpec.upto orderOrSpec)

/-- 'loomworklaw.OrderAhead', WHERE WHAT IT READS IS OF BULK AT MOST 1048576: true; the input reads as it did. -/
def orderAheadUptoRow : OpenClaim := { program := "ytegakbobaecdlaagreatdoor", sum := "49fdfc9fdd411cc69184b591c421c4637288c69ef1f2b70ee6120f613a54dc89", func := "loomwork/loomworklaw.OrderAhead", spec := "orderAhead", inPlace := ["internal/bytealg.MakeNoZero"], unfollowed := true, recurses := true, named := ["loomwork/sys.partCounts", "loomwork/kinds.operators"], apart := false, laid := [("loomwork/kinds.operators", laid_loomwork_kinds_operators), ("loomwork/sys.partCounts", laid_loomwork_sys_partCounts)], narrowed := true }
def OrderAheadUptoSaid : Prop := orderAheadUptoRow.holds Tryz.pinned (OpenSpec.upto orderAheadSpec)

/-- 'loomworklaw.PlaceApart', WHERE WHAT IT READS IS OF BULK AT MOST 1048576: true; the input reads as it did. -/
def placeApartUptoRow : OpenClaim := { program := "ytegakbobaecdlaagreatdoor", sum := "49fdfc9fdd411cc69184b591c421c4637288c69ef1f2b70ee6120f613a54dc89", func := "loomwork/loomworklaw.PlaceApart", spec := "placeApart", inPlace := ["internal/bytealg.MakeNoZero"], unfollowed := true, recurses := true, named := ["loomwork/sys.partCounts", "loomwork/kinds.operators"], apart := false, laid := [("loomwork/kinds.operators", laid_loomwork_kinds_operators), ("loomwork/sys.partCounts", laid_loomwork_sys_partCounts)], narrowed := true }
def PlaceApartUptoSaid : Prop := placeApartUptoRow.holds Tryz.pinned (OpenSpec.upto placeApartSpec)

/-- 'loomworklaw.PlaceFew', WHERE WHAT IT READS IS OF BULK AT MOST 1048576: true; the input reads as it did. -/
def placeFewUptoRow : OpenClaim := { program := "ytegakbobaecdlaagreatdoor", sum := "49fdfc9fdd411cc69184b591c421c4637288c69ef1f2b70ee6120f613a54dc89", func := "loomwork/loomworklaw.PlaceFew", spec := "placeFew", inPlace := ["internal/bytealg.MakeNoZero"], unfollowed := true, recurses := true, named := ["loomwork/sys.partCounts", "loomwork/kinds.operators"], apart := false, laid := [("loomwork/kinds.operators", laid_loomwork_kinds_operators), ("loomwork/sys.partCounts", laid_loomwork_sys_partCounts)], narrowed := true }
def PlaceFewUptoSaid : Prop := placeFewUptoRow.holds Tryz.pinned (OpenSpec.upto placeFewSpec)

end Rows
end Go.Proofs.YtegakbobaecdlaaGreatDoor
