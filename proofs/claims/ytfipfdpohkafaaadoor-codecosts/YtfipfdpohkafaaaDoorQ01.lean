set_option linter.unusedVariables false
set_option linter.unusedSimpArgs false
set_option maxHeartbeats 64000000
set_option maxRecDepth 100000
namespace Go.Proofs.YtfipfdpohkafaaaDoor.Tk
/-- a token -/
structure Tok where
  kind : Int
  place : Nat
  text : List UInt8
  n : Int
end Go.Proofs.YtfipfdpohkafaaaDoor.Tk
