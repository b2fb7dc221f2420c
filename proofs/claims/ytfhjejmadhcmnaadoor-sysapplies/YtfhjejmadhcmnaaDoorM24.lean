import Derived.Test.YtfhjejmadhcmnaaDoorM23
import Derived.Test.YtfhjejmadhcmnaaDoorM20
set_option linter.unusedVariables false
set_option linter.unusedSimpArgs false
set_option maxHeartbeats 64000000
set_option maxRecDepth 100000
namespace Go.Proofs.YtfhjejmadhcmnaaDoor
open Go.RowKit Go.IntWalk
theorem wpAnyL_two {P:Program} {ops:Array Oper} {Q:Exit→Act→World→Prop} {md:Region.Mode} {S:World→Prop} {late:Nat→Bool} {i j:Nat} {oi oj:Oper} {fuel:Nat} {listed:Array Bool} {a:Act} {w:World} (hoi:ops[i]?=some oi) (hoj:ops[j]?=some oj) (hr:Region.ready md ops listed=[i,j])
  (hwi:Region.wanted oi (yielded ops a.tmps)=true) (hwj:Region.wanted oj (yielded ops a.tmps)=true)
  (h1:∀ K':Act→World→Prop,Shut (∀ a w,(late i=false→S w)→wpAnyL P md ops Q S late fuel (listed.setIfInBounds i true) a w→K' a w)→Oper.wp P oi a w K' Q)
  (h2:∀ K':Act→World→Prop,Shut (∀ a w,(late j=false→S w)→wpAnyL P md ops Q S late fuel (listed.setIfInBounds j true) a w→K' a w)→Oper.wp P oj a w K' Q):wpAnyL P md ops Q S late (fuel+1) listed a w:=by
 refine ⟨fun h0=>(by rw [hr] at h0;cases h0),fun q hq=>?_⟩;rw [hr] at hq;simp at hq;rcases hq with rfl | rfl
 ·refine wpOp_step hoi (fun K' hK=>?_)
  rw [if_pos hwi];exact h1 K' (fun a w hS hW=>hK a w ⟨hS,hW⟩)
 ·refine wpOp_step hoj (fun K' hK=>?_)
  rw [if_pos hwj];exact h2 K' (fun a w hS hW=>hK a w ⟨hS,hW⟩)
end Go.Proofs.YtfhjejmadhcmnaaDoor
