import Derived.Test.YtkgbmgpdehmiiaaDoorV13
import Derived.WalkKit
import Derived.WalkSpells
import Derived.IntWalk
import Derived.Deep.Cut
import Derived.Deep.LoopGhost
import Derived.Laws.Cover1
import Derived.Lib.Hide
set_option linter.unusedVariables false
set_option linter.unusedSimpArgs false
set_option maxHeartbeats 64000000
set_option maxRecDepth 100000
namespace Go.Proofs.YtkgbmgpdehmiiaaDoor
open Go.RowKit Go.IntWalk
set_option linter.unusedVariables false
set_option linter.unusedSimpArgs false
theorem HPu.aside {ok : Nat → Prop} {w w' : World} {v : Value} {l : List Pu} (h : HPu ok w v l) {S : List Nat} (a : Aside S w.heap.size w w') (hok : ∀ i, ok i → i ∉ S) : HPu ok w' v l := h.keep a.size fun i hi hl => a.block i hl (hok i hi)
end Go.Proofs.YtkgbmgpdehmiiaaDoor
