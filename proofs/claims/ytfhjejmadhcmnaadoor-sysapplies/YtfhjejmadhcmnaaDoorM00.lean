set_option linter.unusedVariables false
set_option linter.unusedSimpArgs false
set_option maxHeartbeats 64000000
set_option maxRecDepth 100000
namespace Go.Proofs.YtfhjejmadhcmnaaDoor
theorem nmQ {α:Sort _} (e:α):∃ x,x=e:=⟨e,rfl⟩
theorem nR {n:Nat}:n≤n:=Nat.le_refl n
theorem gT {α:Type _} {l:List α} {i:Nat}:l.toArray[i]?=l[i]?:=List.getElem?_toArray
theorem gZ {α:Type _} {a:α} {l:List α}:(a :: l)[0]?=some a:=List.getElem?_cons_zero
theorem gS {α:Type _} {a:α} {l:List α} {i:Nat}:(a :: l)[i+1]?=l[i]?:=List.getElem?_cons_succ
theorem sT {α:Type _} {l:List α} {i:Nat} {a:α}:l.toArray.setIfInBounds i a=(l.set i a).toArray:=List.setIfInBounds_toArray ..
theorem sZ {α:Type _} {x:α} {l:List α} {a:α}:(x :: l).set 0 a=a :: l:=List.set_cons_zero ..
theorem sS {α:Type _} {x:α} {l:List α} {n:Nat} {a:α}:(x :: l).set (n+1) a=x :: l.set n a:=List.set_cons_succ ..
end Go.Proofs.YtfhjejmadhcmnaaDoor
namespace Go.Proofs.YtfhjejmadhcmnaaDoor.Tk
structure Tok where
 kind:Int
 place:Nat
 text:List UInt8
 n:Int
end Go.Proofs.YtfhjejmadhcmnaaDoor.Tk
