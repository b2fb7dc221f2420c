import Derived.Test.YthkpanbgkimhoaaGreatDoorM22
import Derived.Test.YthkpanbgkimhoaaGreatDoorM24
set_option linter.unusedVariables false
set_option linter.unusedSimpArgs false
set_option maxHeartbeats 64000000
set_option maxRecDepth 100000
namespace Go.Proofs.YthkpanbgkimhoaaGreatDoor
open Go.RowKit Go.IntWalk
theorem parse_all (s:ByteArray) (w:World) (hs:s.size≤1000000) (hG:GlobT w) :
  Calls Tryz.prog 6 #[.string s] w (PPost w s.data.toList):=
 parse_any form_any s w hs hG
end Go.Proofs.YthkpanbgkimhoaaGreatDoor
