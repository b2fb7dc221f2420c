import Derived.Test.YtbiomnnlpafciaaDoorT06
import Derived.WalkKit
import Derived.WalkSpells
import Derived.IntWalk
import Derived.Deep.Cut
import Derived.Deep.LoopGhost
import Derived.Laws.Cover1
import Derived.Lib.Hide
set_option linter.unusedVariables false
set_option linter.unusedSimpArgs false
set_option maxHeartbeats 64000000
set_option maxRecDepth 100000
namespace Go.Proofs.YtbiomnnlpafciaaDoor
open Go.RowKit Go.IntWalk
set_option linter.unusedVariables false
set_option linter.unusedSimpArgs false
theorem Lo.lens_of {L : Lo.Lp} (h : (Lo.fault L).1 = 0) : L.P.length ≤ 6000 ∧ L.G.length ≤ 120000 ∧ L.S.length ≤ 1200 := by
  unfold Lo.fault at h
  split at h
  · cases h
  split at h
  · cases h
  omega
end Go.Proofs.YtbiomnnlpafciaaDoor
