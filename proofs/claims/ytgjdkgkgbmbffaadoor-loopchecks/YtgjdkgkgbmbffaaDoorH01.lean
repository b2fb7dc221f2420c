import Derived.Test.YtgjdkgkgbmbffaaDoorH00
import Derived.WalkKit
set_option linter.unusedVariables false
set_option linter.unusedSimpArgs false
set_option maxHeartbeats 64000000
set_option maxRecDepth 100000
namespace Go.Proofs.YtgjdkgkgbmbffaaDoor
theorem nmQ {α:Sort _} (e:α):∃ x,x=e:=⟨e,rfl⟩
theorem zL {n:Nat}:n<=n:=Nat.le_refl n
theorem gT {α:Type _} {l:List α} {i:Nat}:l.toArray[i]?=l[i]?:=List.getElem?_toArray
theorem gZ {α:Type _} {a:α} {l:List α}:(a :: l)[0]?=some a:=List.getElem?_cons_zero
theorem gS {α:Type _} {a:α} {l:List α} {i:Nat}:(a :: l)[i+1]?=l[i]?:=List.getElem?_cons_succ
theorem sT {α:Type _} {l:List α} {i:Nat} {a:α}:l.toArray.setIfInBounds i a=(l.set i a).toArray:=List.setIfInBounds_toArray ..
theorem sZ {α:Type _} {x:α} {l:List α} {a:α}:(x :: l).set 0 a=a :: l:=List.set_cons_zero ..
theorem sS {α:Type _} {x:α} {l:List α} {n:Nat} {a:α}:(x :: l).set (n+1) a=x :: l.set n a:=List.set_cons_succ ..
end Go.Proofs.YtgjdkgkgbmbffaaDoor
namespace Go.Proofs.YtgjdkgkgbmbffaaDoor.Tk
structure Tok where
 kind:Int
 place:Nat
 text:List UInt8
 n:Int
end Go.Proofs.YtgjdkgkgbmbffaaDoor.Tk
namespace Go.Proofs.YtgjdkgkgbmbffaaDoor
theorem tkQ {P:Program} {md:Region.Mode} {ops:Array Oper} {Q:Exit->Act->World->Prop} {S:World->Prop} {late:Nat->Bool} {fuel:Nat} {listed:Array Bool} {a:Act} {w:World} {v:Value} {op ty pos after guard} (i d:Nat) (hS:S w) (hy:∀ w,S w->(execOp a.eval ⟨some d,op,ty,pos,after,guard⟩).run P w=.ok (.value v) w) (h:wpAnyL P md ops Q S late fuel (listed.setIfInBounds i true) (a.put (some d) v) w)
  (hi:ops[i]?=some ⟨some d,op,ty,pos,after,guard⟩:=by rfl) (hs:Region.noSelect ops=true:=by kernel_rfl) (hf:Region.free md ops listed i=true:=by kernel_rfl) (hr:(Region.ready md ops listed).contains i=true:=by kernel_rfl) (hl:waitFor md ops late listed i=true:=by kernel_rfl) (hQ:∀ c a w,Q (.panic c) (a.put (some d) v) w->Q (.panic c) a w:=by exact fun _ _ _ h=>h) (hw:Region.wanted ⟨some d,op,ty,pos,after,guard⟩ (yielded ops a.tmps)=true:=by rfl):wpAnyL P md ops Q S late (fuel+1) listed a w:=
 zM hi hs hf hr hl hQ hS hw hy (h)
theorem tjQ {P:Program} {md:Region.Mode} {ops:Array Oper} {Q:Exit->Act->World->Prop} {S:World->Prop} {late:Nat->Bool} {fuel:Nat} {listed:Array Bool} {a:Act} {w:World} {v:Value} {oi:Oper} (i:Nat) (hS:S w) (hy:∀ w,S w->(execOp a.eval oi).run P w=.ok (.value v) w) (h:wpAnyL P md ops Q S late fuel (listed.setIfInBounds i true) (a.put oi.dst v) w)
  (hi:ops[i]?=some oi:=by rfl) (hs:Region.noSelect ops=true:=by kernel_rfl) (hf:Region.free md ops listed i=true:=by kernel_rfl) (hr:(Region.ready md ops listed).contains i=true:=by kernel_rfl) (hl:waitFor md ops late listed i=true:=by kernel_rfl) (hQ:∀ c a w,Q (.panic c) (a.put oi.dst v) w->Q (.panic c) a w:=by exact fun _ _ _ h=>h) (hw:Region.wanted oi (yielded ops a.tmps)=true:=by rfl):wpAnyL P md ops Q S late (fuel+1) listed a w:=
 zM hi hs hf hr hl hQ hS hw hy (h)
theorem tkR {P:Program} {md:Region.Mode} {ops:Array Oper} {Q:Exit->Act->World->Prop} {S:World->Prop} {late:Nat->Bool} {fuel:Nat} {listed:Array Bool} {a:Act} {w:World} {b:Act} {v:Value} {op ty pos after guard} (i d:Nat) (hS:S w)  (h:wpAnyL P md ops Q S late fuel (listed.setIfInBounds i true) b w)
  (hi:ops[i]?=some ⟨some d,op,ty,pos,after,guard⟩:=by rfl) (hs:Region.noSelect ops=true:=by kernel_rfl) (hf:Region.free md ops listed i=true:=by kernel_rfl) (hr:(Region.ready md ops listed).contains i=true:=by kernel_rfl) (hl:waitFor md ops late listed i=true:=by kernel_rfl) (hQ:∀ c a w,Q (.panic c) (a.put (some d) v) w->Q (.panic c) a w:=by exact fun _ _ _ h=>h) (hw:Region.wanted ⟨some d,op,ty,pos,after,guard⟩ (yielded ops a.tmps)=true:=by rfl) (hy:∀ w,S w->(execOp a.eval ⟨some d,op,ty,pos,after,guard⟩).run P w=.ok (.value v) w:=by intro wz hSw;go_simp;try rfl) (hb:a.put (some d) v=b:=by first | (simp only [Act.put,sT,sZ,sS];rfl) | rfl):wpAnyL P md ops Q S late (fuel+1) listed a w:=
 zM hi hs hf hr hl hQ hS hw hy (hb ▸ h)
theorem tjR {P:Program} {md:Region.Mode} {ops:Array Oper} {Q:Exit->Act->World->Prop} {S:World->Prop} {late:Nat->Bool} {fuel:Nat} {listed:Array Bool} {a:Act} {w:World} {b:Act} {v:Value} {oi:Oper} (i:Nat) (hS:S w)  (h:wpAnyL P md ops Q S late fuel (listed.setIfInBounds i true) b w)
  (hi:ops[i]?=some oi:=by rfl) (hs:Region.noSelect ops=true:=by kernel_rfl) (hf:Region.free md ops listed i=true:=by kernel_rfl) (hr:(Region.ready md ops listed).contains i=true:=by kernel_rfl) (hl:waitFor md ops late listed i=true:=by kernel_rfl) (hQ:∀ c a w,Q (.panic c) (a.put oi.dst v) w->Q (.panic c) a w:=by exact fun _ _ _ h=>h) (hw:Region.wanted oi (yielded ops a.tmps)=true:=by rfl) (hy:∀ w,S w->(execOp a.eval oi).run P w=.ok (.value v) w:=by intro wz hSw;go_simp;try rfl) (hb:a.put oi.dst v=b:=by first | (simp only [Act.put,sT,sZ,sS];rfl) | rfl):wpAnyL P md ops Q S late (fuel+1) listed a w:=
 zM hi hs hf hr hl hQ hS hw hy (hb ▸ h)
theorem tnQ {P:Program} {md:Region.Mode} {ops:Array Oper} {Q:Exit->Act->World->Prop} {S:World->Prop} {late:Nat->Bool} {fuel:Nat} {listed:Array Bool} {a:Act} {w:World} {o:Oper} (i:Nat) (h:∀ K':Act->World->Prop,Shut (∀ a w,(late i=false->S w)->wpAnyL P md ops Q S late fuel (listed.setIfInBounds i true) a w->K' a w)->Oper.wp P o a w K' Q)
  (ho:ops[i]?=some o:=by rfl) (hr:Region.ready md ops listed=[i]:=by kernel_rfl) (hw:Region.wanted o (yielded ops a.tmps)=true:=by rfl):wpAnyL P md ops Q S late (fuel+1) listed a w:=xV ho hr hw h
end Go.Proofs.YtgjdkgkgbmbffaaDoor
