/-
  NARROWER THAN 'FOR EVERY INPUT', by the rows' own cells (each row's printed sentence says how): RenderChecks: loops, laid · RenderPrints: loops, laid · RenderBack: loops, laid · RenderApart: loops, laid · RenderForth: laid.
  DERIVED. THE GIVEN ROWS OF THIS SEAT. 5 by the template 'for every input the law returns true; each argument reads behind the call as it read before'; 0 by the template 'total and deterministic' (their statements: YtophfbefnaelfaaGreatDoorTotals.lean).
  GIVEN WITH THE SEED: the statements are not yours to turn. If you find one false, say at which input.
  Laid BY PROGRAM, IN A SANDBOX (cutbox-rows.mjs): the forced cells as the released guide's own fill.sh prints them over the translation ef3ad119ae2f44ec… (all of the seat's roots in one cut). By AI agents, Wed Nov 11 2026. No macro, syntax, notation, axiom, sorry.
-/
import Derived.Test.YtophfbefnaelfaaGreatDoorChecked
import GoSem.Claim
import GoSem.ClaimJoined
import GoSem.ClaimMapViews
import Derived.JoinedTies
import Derived.KernelRfl
namespace Go.Proofs.YtophfbefnaelfaaGreatDoor
/- THE CELL 'sum', in the pinned program and in every row, IS THE sha256 OF THE DUMP (.gsa) THAT YtophfbefnaelfaaGreatDoorProg.lean LOADS. Nothing in Lean hashes anything: it is a label: what it is worth is what the hold of that sum in a sandbox is worth. -/
noncomputable def Tryz.pinned : Pinned := { name := "ytophfbefnaelfaagreatdoor", sum := "ef3ad119ae2f44ecfdaf19729d1dc13cd9971699ad22b55cd9b07da736e91255", checked := Tryz.checked }
namespace Rows
def none {H : Type} : Left H := { results := [], args := [] }

/- WHAT THE LISTED PACKAGE-LEVEL VARIABLES READ AS WHEN THE CALL BEGINS. Each datum BY PROGRAM (the guide's laid-datum.mjs) off the statement by which the dump's own 'gosem.cut.vars' lays the variable. In a bare row this is a premise. The card (YtophfbefnaelfaaGreatDoorCards.lean) ties it to the program's text. -/
def laid_math_bits_deBruijn32tab {H : Type} : DataW H := .agg [.lit (.int .u8 0), .lit (.int .u8 1), .lit (.int .u8 28), .lit (.int .u8 2), .lit (.int .u8 29), .lit (.int .u8 14), .lit (.int .u8 24), .lit (.int .u8 3), .lit (.int .u8 30), .lit (.int .u8 22), .lit (.int .u8 20), .lit (.int .u8 15), .lit (.int .u8 25), .lit (.int .u8 17), .lit (.int .u8 4), .lit (.int .u8 8), .lit (.int .u8 31), .lit (.int .u8 27), .lit (.int .u8 13), .lit (.int .u8 23), .lit (.int .u8 21), .lit (.int .u8 19), .lit (.int .u8 16), .lit (.int .u8 7), .lit (.int .u8 26), .lit (.int .u8 12), .lit (.int .u8 18), .lit (.int .u8 6), .lit (.int .u8 11), .lit (.int .u8 5), .lit (.int .u8 10), .lit (.int .u8 9)]
def laid_math_bits_deBruijn64tab {H : Type} : DataW H := .agg [.lit (.int .u8 0), .lit (.int .u8 1), .lit (.int .u8 56), .lit (.int .u8 2), .lit (.int .u8 57), .lit (.int .u8 49), .lit (.int .u8 28), .lit (.int .u8 3), .lit (.int .u8 61), .lit (.int .u8 58), .lit (.int .u8 42), .lit (.int .u8 50), .lit (.int .u8 38), .lit (.int .u8 29), .lit (.int .u8 17), .lit (.int .u8 4), .lit (.int .u8 62), .lit (.int .u8 47), .lit (.int .u8 59), .lit (.int .u8 36), .lit (.int .u8 45), .lit (.int .u8 43), .lit (.int .u8 51), .lit (.int .u8 22), .lit (.int .u8 53), .lit (.int .u8 39), .lit (.int .u8 33), .lit (.int .u8 30), .lit (.int .u8 24), .lit (.int .u8 18), .lit (.int .u8 12), .lit (.int .u8 5), .lit (.int .u8 63), .lit (.int .u8 55), .lit (.int .u8 48), .lit (.int .u8 27), .lit (.int .u8 60), .lit (.int .u8 41), .lit (.int .u8 37), .lit (.int .u8 16), .lit (.int .u8 46), .lit (.int .u8 35), .lit (.int .u8 44), .lit (.int .u8 21), .lit (.int .u8 52), .lit (.int .u8 32), .lit (.int .u8 23), .lit (.int .u8 11), .lit (.int .u8 54), .lit (.int .u8 26), .lit (.int .u8 40), .lit (.int .u8 15), .lit (.int .u8 34), .lit (.int .u8 20), .lit (.int .u8 31), .lit (.int .u8 10), .lit (.int .u8 25), .lit (.int .u8 14), .lit (.int .u8 19), .lit (.int .u8 9), .lit (.int .u8 13), .lit (.int .u8 8), .lit (.int .u8 7), .lit (.int .u8 6)]
def laid_internal_strconv_uint64pow10 {H : Type} : DataW H := .agg [.lit (.int .u64 1), .lit (.int .u64 10), .lit (.int .u64 100), .lit (.int .u64 1000), .lit (.int .u64 10000), .lit (.int .u64 100000), .lit (.int .u64 1000000), .lit (.int .u64 10000000), .lit (.int .u64 100000000), .lit (.int .u64 1000000000), .lit (.int .u64 10000000000), .lit (.int .u64 100000000000), .lit (.int .u64 1000000000000), .lit (.int .u64 10000000000000), .lit (.int .u64 100000000000000), .lit (.int .u64 1000000000000000), .lit (.int .u64 10000000000000000), .lit (.int .u64 100000000000000000), .lit (.int .u64 1000000000000000000), .lit (.int .u64 10000000000000000000)]
def laid_loomwork_render_operators {H : Type} : DataW H := .agg [.agg [.lit (.string []), .lit (.string []), .lit (.int .i64 0)], .agg [.lit (.string [97, 100, 100]), .lit (.string [32, 43, 32]), .lit (.int .i64 4)], .agg [.lit (.string [115, 117, 98]), .lit (.string [32, 45, 32]), .lit (.int .i64 4)], .agg [.lit (.string [109, 117, 108]), .lit (.string [32, 42, 32]), .lit (.int .i64 5)], .agg [.lit (.string [100, 105, 118]), .lit (.string [32, 47, 32]), .lit (.int .i64 5)], .agg [.lit (.string [109, 111, 100]), .lit (.string [32, 37, 32]), .lit (.int .i64 5)], .agg [.lit (.string [109, 105, 110]), .lit (.string []), .lit (.int .i64 7)], .agg [.lit (.string [109, 97, 120]), .lit (.string []), .lit (.int .i64 7)], .agg [.lit (.string [108, 101, 115, 115]), .lit (.string [32, 60, 32]), .lit (.int .i64 3)], .agg [.lit (.string [101, 113]), .lit (.string [32, 61, 61, 32]), .lit (.int .i64 3)], .agg [.lit (.string [97, 110, 100]), .lit (.string [32, 97, 110, 100, 32]), .lit (.int .i64 2)], .agg [.lit (.string [111, 114]), .lit (.string [32, 111, 114, 32]), .lit (.int .i64 1)], .agg [.lit (.string [120, 111, 114]), .lit (.string [32, 120, 111, 114, 32]), .lit (.int .i64 1)], .agg [.lit (.string [110, 101, 103]), .lit (.string [45]), .lit (.int .i64 6)], .agg [.lit (.string [110, 111, 116]), .lit (.string [110, 111, 116, 32]), .lit (.int .i64 6)]]
def laid_loomwork_render_shapes {H : Type} : DataW H := .agg [.agg [.lit (.string []), .lit (.int .i64 0), .lit (.int .i64 0), .lit (.int .i64 0), .lit (.int .i64 0), .lit (.int .i64 0)], .agg [.lit (.string []), .lit (.int .i64 0), .lit (.int .i64 0), .lit (.int .i64 0), .lit (.int .i64 0), .lit (.int .i64 0)], .agg [.lit (.string []), .lit (.int .i64 0), .lit (.int .i64 0), .lit (.int .i64 0), .lit (.int .i64 0), .lit (.int .i64 0)], .agg [.lit (.string []), .lit (.int .i64 0), .lit (.int .i64 0), .lit (.int .i64 0), .lit (.int .i64 0), .lit (.int .i64 0)], .agg [.lit (.string []), .lit (.int .i64 1), .lit (.int .i64 1), .lit (.int .i64 0), .lit (.int .i64 13), .lit (.int .i64 14)], .agg [.lit (.string []), .lit (.int .i64 2), .lit (.int .i64 2), .lit (.int .i64 0), .lit (.int .i64 1), .lit (.int .i64 12)], .agg [.lit (.string []), .lit (.int .i64 3), .lit (.int .i64 3), .lit (.int .i64 0), .lit (.int .i64 0), .lit (.int .i64 0)], .agg [.lit (.string [109, 97, 112]), .lit (.int .i64 1), .lit (.int .i64 2), .lit (.int .i64 0), .lit (.int .i64 1), .lit (.int .i64 14)], .agg [.lit (.string [102, 111, 108, 100]), .lit (.int .i64 2), .lit (.int .i64 2), .lit (.int .i64 0), .lit (.int .i64 1), .lit (.int .i64 14)], .agg [.lit (.string [115, 99, 97, 110]), .lit (.int .i64 2), .lit (.int .i64 2), .lit (.int .i64 0), .lit (.int .i64 1), .lit (.int .i64 14)], .agg [.lit (.string [102, 105, 108, 108]), .lit (.int .i64 1), .lit (.int .i64 1), .lit (.int .i64 1), .lit (.int .i64 0), .lit (.int .i64 0)], .agg [.lit (.string []), .lit (.int .i64 3), .lit (.int .i64 3), .lit (.int .i64 0), .lit (.int .i64 0), .lit (.int .i64 0)], .agg [.lit (.string [119, 105, 116, 104]), .lit (.int .i64 3), .lit (.int .i64 3), .lit (.int .i64 0), .lit (.int .i64 0), .lit (.int .i64 0)], .agg [.lit (.string [115, 108, 105, 99, 101]), .lit (.int .i64 1), .lit (.int .i64 1), .lit (.int .i64 2), .lit (.int .i64 0), .lit (.int .i64 0)], .agg [.lit (.string [99, 97, 116]), .lit (.int .i64 2), .lit (.int .i64 2), .lit (.int .i64 0), .lit (.int .i64 0), .lit (.int .i64 0)], .agg [.lit (.string [112, 114, 101]), .lit (.int .i64 2), .lit (.int .i64 2), .lit (.int .i64 0), .lit (.int .i64 0), .lit (.int .i64 0)]]
def laid_loomwork_syntax_operators {H : Type} : DataW H := .agg [.lit (.string [97, 100, 100]), .lit (.string [115, 117, 98]), .lit (.string [109, 117, 108]), .lit (.string [100, 105, 118]), .lit (.string [109, 111, 100]), .lit (.string [109, 105, 110]), .lit (.string [109, 97, 120]), .lit (.string [108, 101, 115, 115]), .lit (.string [101, 113]), .lit (.string [97, 110, 100]), .lit (.string [111, 114]), .lit (.string [120, 111, 114]), .lit (.string [110, 101, 103]), .lit (.string [110, 111, 116])]

/-- 'loomworklaw.RenderChecks': WHATEVER THE INPUT: true; the input reads as it did. -/
def renderChecksSpec : ChangeSpec := { name := "renderChecks", fn := fun _ => fun
  | [d] => { results := [.lit (.bool true)], args := [d] }
  | _ => none }
def renderChecksRow : OpenClaim := { program := "ytophfbefnaelfaagreatdoor", sum := "ef3ad119ae2f44ecfdaf19729d1dc13cd9971699ad22b55cd9b07da736e91255", func := "loomwork/loomworklaw.RenderChecks", spec := "renderChecks", inPlace := ["internal/bytealg.IndexByteString"], unfollowed := true, recurses := true, named := ["loomwork/syntax.operators", "loomwork/render.shapes", "internal/strconv.uint64pow10", "math/bits.deBruijn32tab", "math/bits.deBruijn64tab", "loomwork/render.operators"], loops := true, apart := false, laid := [("math/bits.deBruijn32tab", laid_math_bits_deBruijn32tab), ("math/bits.deBruijn64tab", laid_math_bits_deBruijn64tab), ("internal/strconv.uint64pow10", laid_internal_strconv_uint64pow10), ("loomwork/render.operators", laid_loomwork_render_operators), ("loomwork/render.shapes", laid_loomwork_render_shapes), ("loomwork/syntax.operators", laid_loomwork_syntax_operators)] }
def RenderChecksSaid : Prop := renderChecksRow.holds Tryz.pinned (OpenSpec.ofChange renderChecksSpec)

/-- ITS FALSE NEIGHBOUR: 'it returns false'. Refute it at one input. -/
def renderChecksWrong : ChangeSpec := { name := "renderChecks", fn := fun _ => fun
  | [d] => { results := [.lit (.bool false)], args := [d] }
  | _ => none }
def RenderChecksWrongFalsely : Prop := renderChecksRow.holds Tryz.pinned (OpenSpec.ofChange renderChecksWrong)

/-- 'loomworklaw.RenderPrints': WHATEVER THE INPUT: true; the input reads as it did. -/
def renderPrintsSpec : ChangeSpec := { name := "renderPrints", fn := fun _ => fun
  | [d] => { results := [.lit (.bool true)], args := [d] }
  | _ => none }
def renderPrintsRow : OpenClaim := { program := "ytophfbefnaelfaagreatdoor", sum := "ef3ad119ae2f44ecfdaf19729d1dc13cd9971699ad22b55cd9b07da736e91255", func := "loomwork/loomworklaw.RenderPrints", spec := "renderPrints", inPlace := ["internal/bytealg.IndexByteString"], unfollowed := true, recurses := true, named := ["loomwork/syntax.operators", "loomwork/render.shapes", "internal/strconv.uint64pow10", "math/bits.deBruijn32tab", "math/bits.deBruijn64tab", "loomwork/render.operators"], loops := true, apart := false, laid := [("math/bits.deBruijn32tab", laid_math_bits_deBruijn32tab), ("math/bits.deBruijn64tab", laid_math_bits_deBruijn64tab), ("internal/strconv.uint64pow10", laid_internal_strconv_uint64pow10), ("loomwork/render.operators", laid_loomwork_render_operators), ("loomwork/render.shapes", laid_loomwork_render_shapes), ("loomwork/syntax.operators", laid_loomwork_syntax_operators)] }
def RenderPrintsSaid : Prop := renderPrintsRow.holds Tryz.pinned (OpenSpec.ofChange renderPrintsSpec)

/-- ITS FALSE NEIGHBOUR: 'it returns false'. Refute it at one input. -/
def renderPrintsWrong : ChangeSpec := { name := "renderPrints", fn := fun _ => fun
  | [d] => { results := [.lit (.bool false)], args := [d] }
  | _ => none }
def RenderPrintsWrongFalsely : Prop := renderPrintsRow.holds Tryz.pinned (OpenSpec.ofChange renderPrintsWrong)

/-- 'loomworklaw.RenderBack': WHATEVER THE INPUT: true; the input reads as it did. -/
def renderBackSpec : ChangeSpec := { name := "renderBack", fn := fun _ => fun
  | [d] => { results := [.lit (.bool true)], args := [d] }
  | _ => none }
def renderBackRow : OpenClaim := { program := "ytophfbefnaelfaagreatdoor", sum := "ef3ad119ae2f44ecfdaf19729d1dc13cd9971699ad22b55cd9b07da736e91255", func := "loomwork/loomworklaw.RenderBack", spec := "renderBack", inPlace := ["internal/bytealg.IndexByteString"], unfollowed := true, recurses := true, named := ["loomwork/syntax.operators", "loomwork/render.shapes", "internal/strconv.uint64pow10", "math/bits.deBruijn32tab", "math/bits.deBruijn64tab", "loomwork/render.operators"], loops := true, apart := false, laid := [("math/bits.deBruijn32tab", laid_math_bits_deBruijn32tab), ("math/bits.deBruijn64tab", laid_math_bits_deBruijn64tab), ("internal/strconv.uint64pow10", laid_internal_strconv_uint64pow10), ("loomwork/render.operators", laid_loomwork_render_operators), ("loomwork/render.shapes", laid_loomwork_render_shapes), ("loomwork/syntax.operators", laid_loomwork_syntax_operators)] }
def RenderBackSaid : Prop := renderBackRow.holds Tryz.pinned (OpenSpec.ofChange renderBackSpec)

/-- ITS FALSE NEIGHBOUR: 'it returns false'. Refute it at one input. -/
def renderBackWrong : ChangeSpec := { name := "renderBack", fn := fun _ => fun
  | [d] => { results := [.lit (.bool false)], args := [d] }
  | _ => none }
def RenderBackWrongFalsely : Prop := renderBackRow.holds Tryz.pinned (OpenSpec.ofChange renderBackWrong)

/-- 'loomworklaw.RenderApart': WHATEVER THE INPUT: true; the input reads as it did. -/
def renderApartSpec : ChangeSpec := { name := "renderApart", fn := fun _ => fun
  | [d1, d2] => { results := [.lit (.bool true)], args := [d1, d2] }
  | _ => none }
def renderApartRow : OpenClaim := { program := "ytophfbefnaelfaagreatdoor", sum := "ef3ad119ae2f44ecfdaf19729d1dc13cd9971699ad22b55cd9b07da736e91255", func := "loomwork/loomworklaw.RenderApart", spec := "renderApart", inPlace := ["internal/bytealg.IndexByteString"], unfollowed := true, recurses := true, named := ["loomwork/syntax.operators", "loomwork/render.shapes", "internal/strconv.uint64pow10", "math/bits.deBruijn32tab", "math/bits.deBruijn64tab", "loomwork/render.operators"], loops := true, apart := false, laid := [("math/bits.deBruijn32tab", laid_math_bits_deBruijn32tab), ("math/bits.deBruijn64tab", laid_math_bits_deBruijn64tab), ("internal/strconv.uint64pow10", laid_internal_strconv_uint64pow10), ("loomwork/render.operators", laid_loomwork_render_operators), ("loomwork/render.shapes", laid_loomwork_render_shapes), ("loomwork/syntax.operators", laid_loomwork_syntax_operators)] }
def RenderApartSaid : Prop := renderApartRow.holds Tryz.pinned (OpenSpec.ofChange renderApartSpec)

/-- ITS FALSE NEIGHBOUR: 'it returns false'. Refute it at one input. -/
def renderApartWrong : ChangeSpec := { name := "renderApart", fn := fun _ => fun
  | [d1, d2] => { results := [.lit (.bool false)], args := [d1, d2] }
  | _ => none }
def RenderApartWrongFalsely : Prop := renderApartRow.holds Tryz.pinned (OpenSpec.ofChange renderApartWrong)

/-- 'loomworklaw.RenderForth': WHATEVER THE INPUT: true; the input reads as it did. -/
def renderForthSpec : ChangeSpec := { name := "renderForth", fn := fun _ => fun
  | [d] => { results := [.lit (.bool true)], args := [d] }
  | _ => none }
def renderForthRow : OpenClaim := { program := "ytophfbefnaelfaagreatdoor", sum := "ef3ad119ae2f44ecfdaf19729d1dc13cd9971699ad22b55cd9b07da736e91255", func := "loomwork/loomworklaw.RenderForth", spec := "renderForth", inPlace := ["internal/bytealg.IndexByteString"], unfollowed := true, recurses := true, named := ["loomwork/syntax.operators", "loomwork/render.shapes", "internal/strconv.uint64pow10", "math/bits.deBruijn32tab", "math/bits.deBruijn64tab", "loomwork/render.operators"], apart := false, laid := [("math/bits.deBruijn32tab", laid_math_bits_deBruijn32tab), ("math/bits.deBruijn64tab", laid_math_bits_deBruijn64tab), ("internal/strconv.uint64pow10", laid_internal_strconv_uint64pow10), ("loomwork/render.operators", laid_loomwork_render_operators), ("loomwork/render.shapes", laid_loomwork_render_shapes), ("loomwork/syntax.operators", laid_loomwork_syntax_operators)] }
def RenderForthSaid : Prop := renderForthRow.holds Tryz.pinned (OpenSpec.ofChange renderForthSpec)

/-- ITS FALSE NEIGHBOUR: 'it returns false'. Refute it at one input. -/
def renderForthWrong : ChangeSpec := { name := "renderForth", fn := fun _ => fun
  | [d] => { results := [.lit (.bool false)], args := [d] }
  | _ => none }
def RenderForthWrongFalsely : Prop := renderForthRow.holds Tryz.pinned (OpenSpec.ofChange renderForthWrong)

/- THE SECOND FORM. 'bulk': how many values and letters a reading holds, each counted each time it is reached (what is shared counts as often as it is met; a slice's spare places count too). A statement '..UptoSaid' is the law's where the arguments, and the package variables that the reading takes, are together of bulk at most 1048576: NARROWER than '..Said'. Prove '..Said' where nothing that the law and all that it calls make is longer than what came in: it says more and counts as full. Else prove '..UptoSaid'. A law counts once. -/
mutual
def uptoBulk {H : Type} : DataW H → Nat
  | .lit (.string bytes) => bytes.length + 1
  | .lit _ => 1
  | .nil => 1
  | .ptr d => uptoBulk d + 1
  | .slice elems spare => uptoBulkAll elems + uptoBulkAll spare + 1
  | .agg parts => uptoBulkAll parts + 1
  | .iface _ d => uptoBulk d + 1
  | .map entries => uptoBulkEntries entries + 1
  | .held _ => 1
def uptoBulkAll {H : Type} : List (DataW H) → Nat
  | [] => 0
  | d :: r => uptoBulk d + uptoBulkAll r
def uptoBulkEntries {H : Type} : List (Lit × DataW H) → Nat
  | [] => 0
  | x :: r => uptoBulkEntry x + uptoBulkEntries r
def uptoBulkEntry {H : Type} : Lit × DataW H → Nat
  | (.string bytes, d) => bytes.length + uptoBulk d + 1
  | (_, d) => uptoBulk d + 1
 end
def uptoSmall : (H : Type) → List (DataW H) → Bool := fun _ ds => decide (uptoBulkAll ds ≤ 1048576)
def OpenSpec.upto (s : _root_.Go.ChangeSpec) : _root_.Go.OpenSpec := { _root_.Go.OpenSpec.ofChange s with cond := some uptoSmall }

/-- 'loomworklaw.RenderChecks', WHERE WHAT IT READS IS OF BULK AT MOST 1048576: true; the input reads as it did. -/
def renderChecksUptoRow : OpenClaim := { program := "ytophfbefnaelfaagreatdoor", sum := "ef3ad119ae2f44ecfdaf19729d1dc13cd9971699ad22b55cd9b07da736e91255", func := "loomwork/loomworklaw.RenderChecks", spec := "renderChecks", inPlace := ["internal/bytealg.IndexByteString"], unfollowed := true, recurses := true, named := ["loomwork/syntax.operators", "loomwork/render.shapes", "internal/strconv.uint64pow10", "math/bits.deBruijn32tab", "math/bits.deBruijn64tab", "loomwork/render.operators"], loops := true, apart := false, laid := [("math/bits.deBruijn32tab", laid_math_bits_deBruijn32tab), ("math/bits.deBruijn64tab", laid_math_bits_deBruijn64tab), ("internal/strconv.uint64pow10", laid_internal_strconv_uint64pow10), ("loomwork/render.operators", laid_loomwork_render_operators), ("loomwork/render.shapes", laid_loomwork_render_shapes), ("loomwork/syntax.operators", laid_loomwork_syntax_operators)], narrowed := true }
def RenderChecksUptoSaid : Prop := renderChecksUptoRow.holds Tryz.pinned (OpenSpec.upto renderChecksSpec)

/-- 'loomworklaw.RenderPrints', WHERE WHAT IT READS IS OF BULK AT MOST 1048576: true; the input reads as it did. -/
def renderPrintsUptoRow : OpenClaim := { program := "ytophfbefnaelfaagreatdoor", sum := "ef3ad119ae2f44ecfdaf19729d1dc13cd9971699ad22b55cd9b07da736e91255", func := "loomwork/loomworklaw.RenderPrints", spec := "renderPrints", inPlace := ["internal/bytealg.IndexByteString"], unfollowed := true, recurses := true, named := ["loomwork/syntax.operators", "loomwork/render.shapes", "internal/strconv.uint64pow10", "math/bits.deBruijn32tab", "math/bits.deBruijn64tab", "loomwork/render.operators"], loops := true, apart := false, laid := [("math/bits.deBruijn32tab", laid_math_bits_deBruijn32tab), ("math/bits.deBruijn64tab", laid_math_bits_deBruijn64tab), ("internal/strconv.uint64pow10", laid_internal_strconv_uint64pow10), ("loomwork/render.operators", laid_loomwork_render_operators), ("loomwork/render.shapes", laid_loomwork_render_shapes), ("loomwork/syntax.operators", laid_loomwork_syntax_operators)], narrowed := true }
def RenderPrintsUptoSaid : Prop := renderPrintsUptoRow.holds Tryz.pinned (OpenSpec.upto renderPrintsSpec)

/-- 'loomworklaw.RenderBack', WHERE WHAT IT READS IS OF BULK AT MOST 1048576: true; the input reads as it did. -/
def renderBackUptoRow : OpenClaim := { program := "ytophfbefnaelfaagreatdoor", sum := "ef3ad119ae2f44ecfdaf19729d1dc13cd9971699ad22b55cd9b07da736e91255", func := "loomwork/loomworklaw.RenderBack", spec := "renderBack", inPlace := ["internal/bytealg.IndexByteString"], unfollowed := true, recurses := true, named := ["loomwork/syntax.operators", "loomwork/render.shapes", "internal/strconv.uint64pow10", "math/bits.deBruijn32tab", "math/bits.deBruijn64tab", "loomwork/render.operators"], loops := true, apart := false, laid := [("math/bits.deBruijn32tab", laid_math_bits_deBruijn32tab), ("math/bits.deBruijn64tab", laid_math_bits_deBruijn64tab), ("internal/strconv.uint64pow10", laid_internal_strconv_uint64pow10), ("loomwork/render.operators", laid_loomwork_render_operators), ("loomwork/render.shapes", laid_loomwork_render_shapes), ("loomwork/syntax.operators", laid_loomwork_syntax_operators)], narrowed := true }
def RenderBackUptoSaid : Prop := renderBackUptoRow.holds Tryz.pinned (OpenSpec.upto renderBackSpec)

/-- 'loomworklaw.RenderApart', WHERE WHAT IT READS IS OF BULK AT MOST 1048576: true; the input reads as it did. -/
def renderApartUptoRow : OpenClaim := { program := "ytophfbefnaelfaagreatdoor", sum := "ef3ad119ae2f44ecfdaf19729d1dc13cd9971699ad22b55cd9b07da736e91255", func := "loomwork/loomworklaw.RenderApart", spec := "renderApart", inPlace := ["internal/bytealg.IndexByteString"], unfollowed := true, recurses := true, named := ["loomwork/syntax.operators", "loomwork/render.shapes", "internal/strconv.uint64pow10", "math/bits.deBruijn32tab", "math/bits.deBruijn64tab", "loomwork/render.operators"], loops := true, apart := false, laid := [("math/bits.deBruijn32tab", laid_math_bits_deBruijn32tab), ("math/bits.deBruijn64tab", laid_math_bits_deBruijn64tab), ("internal/strconv.uint64pow10", laid_internal_strconv_uint64pow10), ("loomwork/render.operators", laid_loomwork_render_operators), ("loomwork/render.shapes", laid_loomwork_render_shapes), ("loomwork/syntax.operators", laid_loomwork_syntax_operators)], narrowed := true }
def RenderApartUptoSaid : Prop := renderApartUptoRow.holds Tryz.pinned (OpenSpec.upto renderApartSpec)

/-- 'loomworklaw.RenderForth', WHERE WHAT IT READS IS OF BULK AT MOST 1048576: true; the input reads as it did. -/
def renderForthUptoRow : OpenClaim := { program := "ytophfbefnaelfaagreatdoor", sum := "ef3ad119ae2f44ecfdaf19729d1dc13cd9971699ad22b55cd9b07da736e91255", func := "loomwork/loomworklaw.RenderForth", spec := "renderForth", inPlace := ["internal/bytealg.IndexByteString"], unfollowed := true, recurses := true, named := ["loomwork/syntax.operators", "loomwork/render.shapes", "internal/strconv.uint64pow10", "math/bits.deBruijn32tab", "math/bits.deBruijn64tab", "loomwork/render.operators"], apart := false, laid := [("math/bits.deBruijn32tab", laid_math_bits_deBruijn32tab), ("math/bits.deBruijn64tab", laid_math_bits_deBruijn64tab), ("internal/strconv.uint64pow10", laid_internal_strconv_uint64pow10), ("loomwork/render.operators", laid_loomwork_render_operators), ("loomwork/render.shapes", laid_loomwork_render_shapes), ("loomwork/syntax.operators", laid_loomwork_syntax_operators)], narrowed := true }
def RenderForthUptoSaid : Prop := renderForthUptoRow.holds Tryz.pinned (OpenSpec.upto renderForthSpec)

end Rows
end Go.Proofs.YtophfbefnaelfaaGreatDoor
