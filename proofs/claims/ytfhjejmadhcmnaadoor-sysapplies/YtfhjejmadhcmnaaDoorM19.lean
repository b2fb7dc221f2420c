import Derived.Test.YtfhjejmadhcmnaaDoorM18
import Derived.Deep.Slices
import GoSem.ClaimJoined
set_option linter.unusedVariables false
set_option linter.unusedSimpArgs false
set_option maxHeartbeats 64000000
set_option maxRecDepth 100000
namespace Go.Proofs.YtfhjejmadhcmnaaDoor
open Go.RowKit Go.IntWalk Go.Deep
section
variable {H:Type} {enc:TypeId × Value→H} {w:World}
theorem c2:Tryd.prog.cellsOf 2=1:=by kernel_rfl
theorem c3:Tryd.prog.cellsOf 3=1:=by kernel_rfl
theorem c5:Tryd.prog.cellsOf 5=1:=by kernel_rfl
instance:Inhabited Tm:=⟨(0,⟨#[]⟩)⟩
instance:Inhabited De:=⟨⟨⟨#[]⟩,0,[]⟩⟩
instance:Inhabited Ex:=⟨.mk 0 0 0 ⟨#[]⟩ [] []⟩
instance:Inhabited Eqn:=⟨⟨0,[],⟨#[]⟩,[],[]⟩⟩
instance:Inhabited Nd:=⟨⟨⟨#[]⟩,0,[],[],[],[],[]⟩⟩
end
end Go.Proofs.YtfhjejmadhcmnaaDoor
