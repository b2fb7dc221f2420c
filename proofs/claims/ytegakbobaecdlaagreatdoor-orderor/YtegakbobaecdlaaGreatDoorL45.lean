import Derived.Test.YtegakbobaecdlaaGreatDoorL43
import Derived.WalkKit
import Derived.WalkSpells
import Derived.IntWalk
import Derived.Deep.Cut
import Derived.Deep.LoopGhost
import Derived.Ground.NamesProg
import Derived.Laws.Cover1
import Derived.Laws.EntriesVeiled
import Derived.Laws.Externs
import Derived.Lib.Hide
import Derived.Lib.MakeNoZero
import Derived.Lib.SlBuf
import Derived.Shelf.Bytes.SlSmallAll
import Derived.Shelf.Lay
import Derived.Test.YtegakbobaecdlaaGreatDoorRows
import Derived.FnData
import Derived.LaidSub
import Derived.Lib.LaidTab
import Derived.Maps.OwnSet
set_option linter.unusedVariables false
set_option linter.unusedSimpArgs false
set_option maxHeartbeats 64000000
set_option maxRecDepth 100000
namespace Go.Proofs.YtegakbobaecdlaaGreatDoor
open Go.RowKit Go.IntWalk
theorem heap_set_o8 (w:World) (p:Addr) (u:Value) {i:Nat} (h:p.block≠i):(w.setCell p u).heap[i]?=w.heap[i]?:=by
 cases e:w.heap[i]? with
 | none=>
  have hs:(w.setCell p u).heap.size=w.heap.size:=(by simp [World.setCell]);rw [Array.getElem?_eq_none_iff] at e ⊢;omega
 | some o=>exact zP e h u
end Go.Proofs.YtegakbobaecdlaaGreatDoor
namespace Go.Proofs.YtegakbobaecdlaaGreatDoor
open Go.RowKit Go.IntWalk Go.Deep
namespace Ld
variable {H:Type} {enc:TypeId × Value->H} {P:Program} {w:World} {base:Nat} {sp:Nat->Bool} {held:Bool}
def fieldsOf (P:Program) (t:TypeId):Option (List (TypeId × Nat)) :=
 match P.underlying t with
 | some (.struct fs)=>some (fs.toList.map fun f=>(f.type,f.offset))
 | _=>none
theorem trod_field {fuel:Nat} {t:TypeId} {cs:List Value} {L:List (TypeId × Nat)} {d:DataW H} {p:List MemPlace} (hF:fieldsOf P t=some L)
  (h:DataW.trod enc P w base sp held fuel t cs=some (d,p)) {j:Nat} {u:TypeId} {off:Nat} (hj:L[j]?=some (u,off)) :
  ∃ ds fuel' d' p',d=.agg ds/\ds[j]?=some d'/\DataW.trod enc P w base sp held fuel' u ((cs.drop off).take (P.cellsOf u))=some (d',p'):=by
 unfold fieldsOf at hF
 split at hF
 ·rename_i fs hu
  obtain rfl:=Option.some.inj hF
  cases fuel with
  | zero=>simp [DataW.trod] at h
  | succ fuel=>
   simp only [DataW.trod,hu] at h
   split at h
   ·obtain ⟨xs,hm,hx⟩:=Option.map_eq_some_iff.1 h
    simp only [List.getElem?_map,Option.map_eq_some_iff] at hj;obtain ⟨f,hf,hfe⟩:=hj;obtain ⟨b,hb,hb2⟩:=Lib.mapM_at hm j f hf;injection hfe with e1 e2;subst e1 e2;refine ⟨xs.map (·.1),fuel,b.1,b.2,?_,by simp [hb],hb2⟩;exact (congrArg Prod.fst hx).symm
   ·cases h
 ·cases hF
theorem trod_elem {fuel:Nat} {t e:TypeId} {n:Nat} {cs:List Value} {ds:List (DataW H)} {p:List MemPlace} (ht:P.underlying t=some (.array n e))
  (h:DataW.trod enc P w base sp held fuel t cs=some (.agg ds,p)) {i:Nat} (hi:i<n) :
  ∃ fuel' d' p',ds[i]?=some d'/\DataW.trod enc P w base sp held fuel' e ((cs.drop (i*P.cellsOf e)).take (P.cellsOf e))=some (d',p'):=by
 cases fuel with
 | zero=>simp [DataW.trod] at h
 | succ fuel=>
  simp only [DataW.trod,ht] at h
  split at h
  ·obtain ⟨xs,hm,hx⟩:=Option.map_eq_some_iff.1 h
   obtain ⟨b,hb,hb2⟩:=Lib.mapM_at hm i i (by simp [hi]);refine ⟨fuel,b.1,b.2,?_,hb2⟩;have:=congrArg Prod.fst hx;simp only [DataW.agg.injEq] at this;rw [<-this];simp [hb]
  ·cases h
theorem row_int {fuel:Nat} {t e u:TypeId} {n c off i j:Nat} {k:IntKind} {cs:List Value} {ds:List (DataW H)} {p:List MemPlace} {L:List (TypeId × Nat)} (ht:P.underlying t=some (.array n e)) (hc:P.cellsOf e=c) (hF:fieldsOf P e=some L)
  (h:DataW.trod enc P w base sp held fuel t cs=some (.agg ds,p)) (hi:i<n) (hj:L[j]?=some (u,off)) (hu:P.underlying u=some (.int k)) (hcu:P.cellsOf u=1) (ho:off<c)
  {es:List (DataW H)} {z:Int} (hd:ds[i]?=some (.agg es)) (he:es[j]?=some (.lit (.int k z))):cs[i*c+off]?=some (.int k z):=by
 obtain ⟨f1,d1,p1,h1,h2⟩:=trod_elem ht h hi;obtain ⟨ds2,f2,d2,p2,rfl,h3,h4⟩:=trod_field hF h2 hj;obtain ⟨s,h5,h6,_⟩:=DataW.trod_int hu h4;rw [hd] at h1;simp only [Option.some.injEq,DataW.agg.injEq] at h1;subst h1;rw [he] at h3;have h7:d2=.lit (.int k s):=congrArg Prod.fst h6;rw [h7] at h3;simp only [Option.some.injEq,DataW.lit.injEq,Lit.int.injEq,true_and] at h3;subst h3;have:=congrArg (·[0]?) h5;rw [hc,hcu] at this
 simpa [List.getElem?_take,List.getElem?_drop,ho] using this
end Ld
theorem heap_lt {W:World} {g j:Nat} {v:Value} (h:W.cell? ⟨g,j,none⟩=some v):g<W.heap.size:=by
 apply Classical.byContradiction
 intro hlt;have:W.heap[g]?=none:=(by simp;omega);simp [World.cell?,this] at h
def kopsL:List (DataW Unit):=Kd.opsT.map fun s=>.agg [.lit (.int .u8 s.1),.lit (.int .u8 s.2.1),.lit (.int .i64 s.2.2)]
theorem kops_eq:Rows.laid_loomwork_kinds_operators=.agg kopsL:=rfl
theorem globK_of {W : World} (h : laidMetH Tryz.prog [("loomwork/kinds.operators", Rows.laid_loomwork_kinds_operators)] W) : GlobK W := by
 have h : laidMet Tryz.prog [("loomwork/kinds.operators", Rows.laid_loomwork_kinds_operators)] W := h;obtain ⟨ps, ⟨g', t', cs, fuel, p, q, hg', ht', hvar, hd, _, _⟩, _⟩ := h;obtain rfl := Option.some.inj ((show Tryz.prog.globalNamed "loomwork/kinds.operators" = some 1 by kernel_rfl).symm.trans hg');obtain rfl := Option.some.inj ((show (Tryz.prog.globals[1]?).map (·.type) = some 177 by kernel_rfl).symm.trans ht');rw [kops_eq] at hd;have hu : Tryz.prog.underlying 177 = some (.array 15 176) := (by kernel_rfl);have hF : Ld.fieldsOf Tryz.prog 176 = some [(5, 0), (5, 1), (3, 2)] := (by kernel_rfl);have hc : Tryz.prog.cellsOf 176 = 3 := (by kernel_rfl);have h5 : Tryz.prog.cellsOf 5 = 1 := (by kernel_rfl);have h3 : Tryz.prog.cellsOf 3 = 1 := (by kernel_rfl);have u3 : Tryz.prog.underlying 3 = some (.int .i64) := (by kernel_rfl);have u5 : Tryz.prog.underlying 5 = some (.int .u8) := (by kernel_rfl);have hv := fun j => World.var?_cell (show Tryz.prog.globalNamed "loomwork/kinds.operators" = some 1 by kernel_rfl) hvar j;have hL : ∀ k, k < 15 -> kopsL[k]? = some (.agg [.lit (.int .u8 (Kd.opN k).1), .lit (.int .u8 (Kd.opN k).2.1), .lit (.int .i64 (Kd.opN k).2.2)]) := by
  intro k hk;have hk':k<Kd.opsT.length:=hk;unfold kopsL Kd.opN;rw [List.getElem?_map,List.getElem?_eq_getElem hk',List.getD_eq_getElem?_getD,List.getElem?_eq_getElem hk'];rfl
 have hall:∀ k,k<15->W.cell? ⟨1,k*3,none⟩=some (.int .u8 (Kd.opN k).1)/\W.cell? ⟨1,k*3+1,none⟩=some (.int .u8 (Kd.opN k).2.1)/\W.cell? ⟨1,k*3+2,none⟩=some (.int .i64 (Kd.opN k).2.2):=by
  intro k hk;have e:=hL k hk;refine ⟨?_,?_,?_⟩
  ·rw [hv,<-Array.getElem?_toList];exact Ld.row_int (j:=0) hu hc hF hd hk rfl u5 h5 (by decide) e rfl
  ·rw [hv,<-Array.getElem?_toList];exact Ld.row_int (j:=1) hu hc hF hd hk rfl u5 h5 (by decide) e rfl
  ·rw [hv,<-Array.getElem?_toList];exact Ld.row_int (j:=2) hu hc hF hd hk rfl u3 h3 (by decide) e rfl
 exact ⟨heap_lt (hall 0 (by decide)).1,hall⟩
def partsD:List (DataW Unit):=Sk.partsT.map fun s=>.lit (.int .i64 s)
theorem parts_eq:Rows.laid_loomwork_sys_partCounts=.agg partsD:=rfl
theorem globP_of {W : World} (h : laidMetH Tryz.prog [("loomwork/sys.partCounts", Rows.laid_loomwork_sys_partCounts)] W) : GlobP W := by
 have h : laidMet Tryz.prog [("loomwork/sys.partCounts", Rows.laid_loomwork_sys_partCounts)] W := h;obtain ⟨ps, ⟨g', t', cs, fuel, p, q, hg', ht', hvar, hd, _, _⟩, _⟩ := h;obtain rfl := Option.some.inj ((show Tryz.prog.globalNamed "loomwork/sys.partCounts" = some 0 by kernel_rfl).symm.trans hg');obtain rfl := Option.some.inj ((show (Tryz.prog.globals[0]?).map (·.type) = some 147 by kernel_rfl).symm.trans ht');rw [parts_eq] at hd;have hu : Tryz.prog.underlying 147 = some (.array 17 3) := (by kernel_rfl);have h3 : Tryz.prog.cellsOf 3 = 1 := (by kernel_rfl);have u3 : Tryz.prog.underlying 3 = some (.int .i64) := (by kernel_rfl);have hv := fun j => World.var?_cell (show Tryz.prog.globalNamed "loomwork/sys.partCounts" = some 0 by kernel_rfl) hvar j;have hall : ∀ k, k < 17 -> W.cell? ⟨0, k, none⟩ = some (.int .i64 (Sk.partsT.getD k 0)) := by
  intro k hk;obtain ⟨f1,d1,p1,h1,h2⟩:=Ld.trod_elem hu hd hk;obtain ⟨s,h5,h6,_⟩:=DataW.trod_int u3 h2;have hk':k<Sk.partsT.length:=hk;have e:partsD[k]?=some (.lit (.int .i64 (Sk.partsT.getD k 0))):=by
   unfold partsD;rw [List.getElem?_map,List.getElem?_eq_getElem hk',List.getD_eq_getElem?_getD,List.getElem?_eq_getElem hk'];rfl
  rw [e] at h1;have h7:d1=.lit (.int .i64 s):=congrArg Prod.fst h6;rw [h7] at h1;simp only [Option.some.injEq,DataW.lit.injEq,Lit.int.injEq,true_and] at h1;rw [hv,<-Array.getElem?_toList,h1];have:=congrArg (·[0]?) h5;rw [h3] at this
  simpa [List.getElem?_take,List.getElem?_drop] using this
 exact ⟨heap_lt (hall 0 (by decide)),hall⟩
section
variable {H:Type} {enc:TypeId × Value->H} {w:World}
instance:Inhabited Pu:=⟨⟨0,0,0,0⟩⟩
instance:Inhabited Sk.Vr:=⟨⟨0,0⟩⟩
instance:Inhabited Sk.Ru:=⟨⟨0,0,0,0,[],[]⟩⟩
instance:Inhabited RuV:=⟨⟨none,0,0,none,0,0⟩⟩
theorem qS {α:Type} [Inhabited α] {n:Nat} {p:Nat->α->Prop} (h:∀ i,i<n->∃ x,p i x):∃ f:Nat->α,∀ i,i<n->p i (f i):=by
 classical
 refine ⟨fun i=>if h1:i<n then Classical.choose (h i h1) else default,fun i hi=>?_⟩;simp only [hi,dif_pos];exact Classical.choose_spec (h i hi)
theorem c22:Tryz.prog.cellsOf 22=1:=by kernel_rfl
theorem c23:Tryz.prog.cellsOf 23=1:=by kernel_rfl
theorem c24:Tryz.prog.cellsOf 24=1:=by kernel_rfl
theorem c26:Tryz.prog.cellsOf 26=4:=by kernel_rfl
theorem c38:Tryz.prog.cellsOf 38=1:=by kernel_rfl
theorem c40:Tryz.prog.cellsOf 40=6:=by kernel_rfl
theorem c61:Tryz.prog.cellsOf 55=2:=by kernel_rfl
theorem c98:Tryz.prog.cellsOf 79=4:=by kernel_rfl
theorem y2:Tryz.prog.bytesOf 2=8:=by kernel_rfl
theorem y3:Tryz.prog.bytesOf 3=8:=by kernel_rfl
theorem y40:Tryz.prog.bytesOf 40=80:=by kernel_rfl
theorem y61:Tryz.prog.bytesOf 55=16:=by kernel_rfl
theorem y98:Tryz.prog.bytesOf 79=32:=by kernel_rfl
theorem two_of {cs:List Value} (h:cs.length=2):∃ a b,cs=[a,b]:=by
 match cs,h with
 | [a,b],_=>exact ⟨a,b,rfl⟩
theorem four_of {cs:List Value} (h:cs.length=4):∃ a b c d,cs=[a,b,c,d]:=by
 match cs,h with
 | [a,b,c,d],_=>exact ⟨a,b,c,d,rfl⟩
theorem six_of {cs:List Value} (h:cs.length=6):∃ a b c d e f,cs=[a,b,c,d,e,f]:=by
 match cs,h with
 | [a,b,c,d,e,f],_=>exact ⟨a,b,c,d,e,f,rfl⟩
theorem qK {v:Value} {t:TypeId} {k:IntKind} (ht:Tryz.prog.underlying t=some (.int k)) (h:Rd0 enc w t [v]):∃ n,v=.int k n:=by
 obtain ⟨n,e⟩:=open_num ht h;injection e with e _;exact ⟨n,e⟩
theorem open_push {cs:List Value} (h:Rd0 enc w 79 cs):∃ p:Pu,cs=p.cs:=by
 have hl:=len_of Tryz.underlying79 h;rw [c98] at hl;obtain ⟨a,b,c,d,rfl⟩:=four_of hl;obtain ⟨n0,rfl⟩:=qK Tryz.underlying3 (zZ Tryz.underlying79 h 0 3 0 rfl c3 _ rfl);obtain ⟨n1,rfl⟩:=qK Tryz.underlying3 (zZ Tryz.underlying79 h 1 3 1 rfl c3 _ rfl);obtain ⟨n2,rfl⟩:=qK Tryz.underlying3 (zZ Tryz.underlying79 h 2 3 2 rfl c3 _ rfl);obtain ⟨n3,rfl⟩:=qK Tryz.underlying2 (zZ Tryz.underlying79 h 3 2 3 rfl c2 _ rfl);exact ⟨⟨n0,n1,n2,n3⟩,rfl⟩
theorem open_var {cs:List Value} (h:Rd0 enc w 55 cs):∃ p:Sk.Vr,cs=[.int .u8 p.elem,.int .i64 p.n]:=by
 have hl:=len_of Tryz.underlying55 h;rw [c61] at hl;obtain ⟨a,b,rfl⟩:=two_of hl;obtain ⟨n0,rfl⟩:=qK Tryz.underlying5 (zZ Tryz.underlying55 h 0 5 0 rfl c5 _ rfl);obtain ⟨n1,rfl⟩:=qK Tryz.underlying3 (zZ Tryz.underlying55 h 1 3 1 rfl c3 _ rfl);exact ⟨⟨n0,n1⟩,rfl⟩
theorem jO {v:Value} (h:Rd0 enc w 23 [v]):∃ a n c L,v=.slice a n c/\n=L.length/\HInts (fun _=>True) w (.slice a n c) L:=by
 obtain ⟨fuel,x,h,hw⟩:=h;obtain ⟨a,n,c,C,m,D,Pl,e,hs,_,hi⟩:=vY Tryz.underlying23 c3 (by decide) y3 h hw;injection e with e _;obtain ⟨f,hf⟩:=qS (n:=n) (α:=Int) (p:=fun i x=>C i=[.int .i64 x]) (fun i h=>by
  obtain ⟨q,e⟩:=open_num (enc:=enc) (w:=w) Tryz.underlying3 ⟨m,_,(hi i h).1,(hi i h).2.1⟩;exact ⟨q,e⟩)
 obtain ⟨l,hl,hg⟩:=zAM n f;refine ⟨a,n,c,l,e,hl.symm,C,by rw [hl];exact hs,fun i h=>?_⟩;rw [hg i h];exact hf i (by omega)
theorem open_pushes {v:Value} (h:Rd0 enc w 38 [v]):∃ a n c L,v=.slice a n c/\n=L.length/\HPu (fun _=>True) w (.slice a n c) L:=by
 obtain ⟨fuel,x,h,hw⟩:=h;obtain ⟨a,n,c,C,m,D,Pl,e,hs,_,hi⟩:=vY Tryz.underlying38 c98 (by decide) y98 h hw;injection e with e _;obtain ⟨f,hf⟩:=qS (n:=n) (α:=Pu) (p:=fun i x=>C i=x.cs) (fun i h=>by
  exact open_push (enc:=enc) (w:=w) ⟨m,_,(hi i h).1,(hi i h).2.1⟩)
 obtain ⟨l,hl,hg⟩:=zAM n f;refine ⟨a,n,c,l,e,hl.symm,C,by rw [hl];exact hs,fun i h=>?_⟩;rw [hg i h];exact hf i (by omega)
theorem open_vars {v:Value} (h:Rd0 enc w 22 [v]):∃ a n c L,v=.slice a n c/\n=L.length/\HVars (fun _=>True) w (.slice a n c) L:=by
 obtain ⟨fuel,x,h,hw⟩:=h;obtain ⟨a,n,c,C,m,D,Pl,e,hs,_,hi⟩:=vY Tryz.underlying22 c61 (by decide) y61 h hw;injection e with e _;obtain ⟨f,hf⟩:=qS (n:=n) (α:=Sk.Vr) (p:=fun i x=>C i=[.int .u8 x.elem,.int .i64 x.n]) (fun i h=>by
  exact open_var (enc:=enc) (w:=w) ⟨m,_,(hi i h).1,(hi i h).2.1⟩)
 obtain ⟨l,hl,hg⟩:=zAM n f;refine ⟨a,n,c,l,e,hl.symm,C,by rw [hl];exact hs,fun i h=>?_⟩;rw [hg i h];exact hf i (by omega)
theorem open_rule {cs:List Value} (h:Rd0 enc w 40 cs):∃ (r:Sk.Ru) (y:RuV),cs=rcs r y/\HRu (fun _=>True) w y r:=by
 have hl:=len_of Tryz.underlying40 h;rw [c40] at hl;obtain ⟨v0,v1,v2,v3,v4,v5,rfl⟩:=six_of hl;obtain ⟨n0,rfl⟩:=qK Tryz.underlying3 (zZ Tryz.underlying40 h 0 3 0 rfl c3 _ rfl);obtain ⟨n1,rfl⟩:=qK Tryz.underlying3 (zZ Tryz.underlying40 h 1 3 1 rfl c3 _ rfl);obtain ⟨n2,rfl⟩:=qK Tryz.underlying3 (zZ Tryz.underlying40 h 2 3 2 rfl c3 _ rfl);obtain ⟨n3,rfl⟩:=qK Tryz.underlying2 (zZ Tryz.underlying40 h 3 2 3 rfl c2 _ rfl);obtain ⟨a,na,ca,A,rfl,-,hA⟩:=jO (zZ Tryz.underlying40 h 4 23 4 rfl c23 _ rfl);obtain ⟨b,nb,cb,E,rfl,-,hE⟩:=open_pushes (zZ Tryz.underlying40 h 5 38 5 rfl c38 _ rfl);exact ⟨⟨n0,n1,n2,n3,A,E⟩,⟨a,na,ca,b,nb,cb⟩,rfl,⟨hA,hE⟩⟩
theorem open_rules {v:Value} (h:Rd0 enc w 24 [v]):∃ a n c L,v=.slice a n c/\n=L.length/\HRus (fun _=>True) w (.slice a n c) L:=by
 obtain ⟨fuel,x,h,hw⟩:=h;obtain ⟨a,n,c,C,m,D,Pl,e,hs,_,hi⟩:=vY Tryz.underlying24 c40 (by decide) y40 h hw;injection e with e _;obtain ⟨f,hf⟩:=qS (n:=n) (α:=Sk.Ru) (p:=fun i x=>∃ y,C i=rcs x y/\HRu (fun _=>True) w y x) (fun i h=>by
  obtain ⟨r,y,h1,h2⟩:=open_rule (enc:=enc) (w:=w) ⟨m,_,(hi i h).1,(hi i h).2.1⟩;exact ⟨r,y,h1,h2⟩)
 obtain ⟨l,hl,hg⟩:=zAM n f;refine ⟨a,n,c,l,e,hl.symm,C,by rw [hl];exact hs,fun i h=>?_⟩;rw [hg i h];exact hf i (by omega)
theorem open_system {cs:List Value} (h:Rd0 enc w 26 cs):∃ aV aI aO aR cV cI cO cR,∃ S:Sk.Sys,cs=[.slice aV S.V.length cV,.slice aI S.I.length cI,.slice aO S.O.length cO,.slice aR S.R.length cR]/\HSys (fun _=>True) w aV aI aO aR cV cI cO cR S:=by
 have hl:=len_of Tryz.underlying26 h;rw [c26] at hl;obtain ⟨v0,v1,v2,v3,rfl⟩:=four_of hl;obtain ⟨aV,nV,cV,V,rfl,rfl,hV⟩:=open_vars (zZ Tryz.underlying26 h 0 22 0 rfl c22 _ rfl);obtain ⟨aI,nI,cI,I,rfl,rfl,hI⟩:=jO (zZ Tryz.underlying26 h 1 23 1 rfl c23 _ rfl);obtain ⟨aO,nO,cO,O,rfl,rfl,hO⟩:=jO (zZ Tryz.underlying26 h 2 23 2 rfl c23 _ rfl);obtain ⟨aR,nR,cR,R,rfl,rfl,hR⟩:=open_rules (zZ Tryz.underlying26 h 3 24 3 rfl c24 _ rfl);exact ⟨aV,aI,aO,aR,cV,cI,cO,cR,⟨V,I,O,R⟩,rfl,⟨hV,hI,hO,hR⟩⟩
end
end Go.Proofs.YtegakbobaecdlaaGreatDoor
namespace Go.Proofs.YtegakbobaecdlaaGreatDoor
open Go.RowKit Go.IntWalk
theorem cells25_any (n:Int) (w:World):Calls Tryz.prog 21 #[.int .i64 n] w fun e w'=>(∃ x:Int,e=.returned (.int .i64 x))/\w'=w:=by
 by_cases h:n<1
 ·go_enter Tryz.func21,Tryz.ntmps21
  go_wp2;go_ret;exact ⟨⟨_,rfl⟩,rfl⟩
 ·go_enter Tryz.func21,Tryz.ntmps21
  go_wp2;go_ret;exact ⟨⟨_,rfl⟩,rfl⟩
structure GreatR (w:World) (S:Sk.Sys) (e:Ending) (w':World):Prop where
 out:∃ b,e=.returned (.bool b)/\(b=false->(S.V.length<=150/\S.I.length<=150/\S.O.length<=150/\S.R.length<=150)/\∀ r ∈ S.R,r.A.length<=100/\r.E.length<=1000)/\Below w.heap.size w w'
theorem great8_any {ok:Nat->Prop} {w:World} {aV aI aO aR:Option Addr} {cV cI cO cR:Nat} {S:Sk.Sys} (hS:HSys ok w aV aI aO aR cV cI cO cR S) :
  Calls Tryz.prog 8 #[.agg #[.slice aV S.V.length cV,.slice aI S.I.length cI,.slice aO S.O.length cO,.slice aR S.R.length cR],.int .i64 150] w (GreatR w S):=by
 obtain ⟨aoV,cpV,evV,hV1,hV2,-⟩:=hS.V.at;injection evV with q1 q2 q3;subst q1 q3;obtain ⟨aoR,cpR,evR,hR1,hR2,-⟩:=hS.R.at;injection evR with q1 q2b q3;subst q1 q3;obtain ⟨aoI,cpI,evI,hI1,hI2,-⟩:=hS.I.at;injection evI with q1 q2c q3;subst q1 q3;obtain ⟨aoO,cpO,evO,hO1,hO2,-⟩:=hS.O.at;injection evO with q1 q2d q3;subst q1 q3;unfold maxLen at hV2 hR2 hI2 hO2;clear q2 q2b q2c q2d;have b1:Below w.heap.size w (w.alloc (.cells #[.slice aV S.V.length cV,.slice aI S.I.length cI,.slice aO S.O.length cO,.slice aR S.R.length cR] 26 (0,0))):=(Below.refl _ _).alloc zM _;have kS:=zI w (.cells #[.slice aV S.V.length cV,.slice aI S.I.length cI,.slice aO S.O.length cO,.slice aR S.R.length cR] 26 (0,0));have HS:=zE (hS.under b1);clear hS;by_cases hV:150<S.V.length
 case pos=>
  go_enter Tryz.func8,Tryz.ntmps8;go_upto_region 1 with fail;generalize w.alloc (.cells #[.slice aV S.V.length cV,.slice aI S.I.length cI,.slice aO S.O.length cO,.slice aR S.R.length cR] 26 (0,0))=w1 at b1 kS HS ⊢;have k0:=coQ kS 0;have k1:=coQ kS 1;have k2:=coQ kS 2;have k3:=coQ kS 3;simp at k0 k1 k2 k3;go_wp2;go_ret;exact ⟨⟨true,rfl,fun h=>(by cases h),b1⟩⟩
 case neg=>
  by_cases hR:150<S.R.length
  case pos=>
   go_enter Tryz.func8,Tryz.ntmps8;go_upto_region 1 with fail;generalize w.alloc (.cells #[.slice aV S.V.length cV,.slice aI S.I.length cI,.slice aO S.O.length cO,.slice aR S.R.length cR] 26 (0,0))=w1 at b1 kS HS ⊢;have k0:=coQ kS 0;have k1:=coQ kS 1;have k2:=coQ kS 2;have k3:=coQ kS 3;simp at k0 k1 k2 k3;go_wp2;go_ret;exact ⟨⟨true,rfl,fun h=>(by cases h),b1⟩⟩
  case neg=>
   by_cases hI:150<S.I.length
   case pos=>
    go_enter Tryz.func8,Tryz.ntmps8;go_upto_region 1 with fail;generalize w.alloc (.cells #[.slice aV S.V.length cV,.slice aI S.I.length cI,.slice aO S.O.length cO,.slice aR S.R.length cR] 26 (0,0))=w1 at b1 kS HS ⊢;have k0:=coQ kS 0;have k1:=coQ kS 1;have k2:=coQ kS 2;have k3:=coQ kS 3;simp at k0 k1 k2 k3;go_wp2;go_ret;exact ⟨⟨true,rfl,fun h=>(by cases h),b1⟩⟩
   case neg=>
    by_cases hO:150<S.O.length
    case pos=>
     go_enter Tryz.func8,Tryz.ntmps8;go_upto_region 1 with fail;generalize w.alloc (.cells #[.slice aV S.V.length cV,.slice aI S.I.length cI,.slice aO S.O.length cO,.slice aR S.R.length cR] 26 (0,0))=w1 at b1 kS HS ⊢;have k0:=coQ kS 0;have k1:=coQ kS 1;have k2:=coQ kS 2;have k3:=coQ kS 3;simp at k0 k1 k2 k3;go_wp2;go_ret;exact ⟨⟨true,rfl,fun h=>(by cases h),b1⟩⟩
    case neg=>
     go_enter Tryz.func8,Tryz.ntmps8;go_upto_region 1 with fail;generalize w.alloc (.cells #[.slice aV S.V.length cV,.slice aI S.I.length cI,.slice aO S.O.length cO,.slice aR S.R.length cR] 26 (0,0))=w1 at b1 kS HS ⊢;have k0:=coQ kS 0;have k1:=coQ kS 1;have k2:=coQ kS 2;have k3:=coQ kS 3;simp at k0 k1 k2 k3;have yS:=zG kS;go_wp2_with fail;go_loopg [5,6] S.V.length (fun k u v wr=>∃ (i:Nat) (x:Int),i<=S.V.length/\k=S.V.length-i/\u=.int .i64 x/\v=.int .i64 (i:Nat)/\wr=w1)
     case atStart=>exact ⟨0,0,Nat.zero_le _,rfl,rfl,rfl,rfl⟩
     case round=>
      obtain ⟨i,x,hi,rfl,rfl,rfl,rfl⟩:=hrel;by_cases hlt:i<S.V.length
      case pos=>
       obtain ⟨ao,cp,e1,-,-,hat⟩:=HS.out.V.at;injection e1 with q1 q2 q3;obtain ⟨bV,oV,hbV,yV,x0,y0⟩:=hat i hlt;rw [hbV] at q1;subst q1;generalize S.V[i]=va at x0 y0;obtain ⟨ve,vn⟩:=va;simp only at x0 y0;clear hat q2 q3 hbV;by_cases hm:1000<vn
       case pos=>
        go_wp2;go_ret;exact ⟨⟨true,rfl,fun h=>(by cases h),b1⟩⟩
       case neg=>
        go_wp2_with fail;refine (cells25_any _ _).mono ?_;rintro e w2 ⟨⟨cx,rfl⟩,rfl⟩;go_wp2_with fail;go_roundg (S.V.length-(i+1))
        case measure=>omega
        case rel=>exact ⟨i+1,_,by omega,rfl,rfl,by go_num,rfl⟩
      case neg=>
       have hin:i=S.V.length:=(by omega);subst hin;obtain ⟨wL,hwL⟩:=nmQ (wr);subst hwL;have HK:=zE kS;go_wp2_with fail;go_loopg [5,7] S.R.length (fun k u v wr=>∃ (i:Nat) (x:Int),i<=S.R.length/\k=S.R.length-i/\u=.int .i64 x/\v=.int .i64 (i:Nat)/\Hid (∀ r ∈ S.R.take i,r.A.length<=100/\r.E.length<=1000)/\Below wL.heap.size wL wr)
       case atStart=>exact ⟨0,_,Nat.zero_le _,rfl,rfl,rfl,zE (by simp),Below.refl _ _⟩
       case round=>
        clear k0 k1 k2 k3 kS;obtain ⟨i,x,hi,rfl,rfl,rfl,HF,hbr⟩:=hrel;have zr:=hbr.size;have B:=b1.trans (hbr.mono b1.size);have kSr:=(hbr.block _ yS).trans HK.out;have k3:=coQ kSr 3;simp at k3;by_cases hlt:i<S.R.length
        case neg=>
         have hin:i=S.R.length:=(by omega);subst hin;rw [List.take_length] at HF;go_wp2;go_ret;exact ⟨⟨_,rfl,fun _=>⟨⟨by omega,by omega,by omega,by omega⟩,HF.out⟩,B⟩⟩
        case pos=>
         obtain ⟨ao',cap',eqs,-,-,hat2⟩:=(HS.out.under hbr).R.at;injection eqs with q1 q2 q3;obtain ⟨bR,oR,y,hbR,yb,hat,hru⟩:=hat2 i hlt;rw [hbR] at q1;subst q1;obtain ⟨r,hr⟩:=nmQ (S.R[i]);have hsn:S.R.take (i+1)=S.R.take i++[r]:=(by rw [List.take_succ_eq_append_getElem hlt,hr]);rw [<-hr] at hat hru;obtain ⟨d0,d1,d2,d3,d4,d5⟩:=hat;have lA:y.nA=r.A.length:=(by obtain ⟨a',c',e',-⟩:=hru.A.at;injection e' with _ e' _);have lE:y.nE=r.E.length:=(by obtain ⟨a',c',e',-⟩:=hru.E.at;injection e' with _ e' _);have cA:y.nA<=9223372036854775807:=(by obtain ⟨a',c',e',h1,h2,-⟩:=hru.A.at;unfold maxLen at h2;injection e' with _ e' _;omega);have cE:y.nE<=9223372036854775807:=(by obtain ⟨a',c',e',h1,h2,-⟩:=hru.E.at;unfold maxLen at h2;injection e' with _ e' _;omega);have HSN:=zE hsn;have HLE:=zE (And.intro lA lE);have bA:Below wr.heap.size wr (wr.alloc (.cells #[.int .i64 r.op,.int .i64 r.k,.int .i64 r.out,.int .i64 r.n,.slice y.aA y.nA y.cA,.slice y.aE y.nE y.cE] 40 (0,0))):=(Below.refl _ _).alloc zM _;have kV:=zI wr (.cells #[.int .i64 r.op,.int .i64 r.k,.int .i64 r.out,.int .i64 r.n,.slice y.aA y.nA y.cA,.slice y.aE y.nE y.cE] 40 (0,0));obtain ⟨rop,rk,rout,rn,rA,rE⟩:=r;obtain ⟨yaA,ynA,ycA,yaE,ynE,ycE⟩:=y;simp only at d0 d1 d2 d3 d4 d5 HLE bA kV cA cE;clear hat2 q2 q3 hbR hr hsn hru lA lE;go_upto_region 14 with fail;generalize wr.alloc (.cells #[.int .i64 rop,.int .i64 rk,.int .i64 rout,.int .i64 rn,.slice yaA ynA ycA,.slice yaE ynE ycE] 40 (0,0))=wA at bA kV ⊢;have v0:=coQ kV 0;have v1:=coQ kV 1;have v2:=coQ kV 2;have v3:=coQ kV 3;have v4:=coQ kV 4;have v5:=coQ kV 5;simp at v0 v1 v2 v3 v4 v5;have BA:=hbr.trans (bA.mono zr);have BB:=b1.trans (BA.mono b1.size);clear d0 d1 d2 d3 d4 d5 kV k3;by_cases hA:100<ynA
         case pos=>
          go_wp2;go_ret;exact ⟨⟨true,rfl,fun h=>(by cases h),BB⟩⟩
         case neg=>
          by_cases hE:1000<ynE
          case pos=>
           go_wp2;go_ret;exact ⟨⟨true,rfl,fun h=>(by cases h),BB⟩⟩
          case neg=>
           have HF2:=zE (show ∀ r ∈ S.R.take (i+1),r.A.length<=100/\r.E.length<=1000 from fun r hr=>by
            rw [HSN.out] at hr;rcases List.mem_append.1 hr with q | q
            ·exact HF.out r q
            ·simp at q
             subst q;have:=HLE.out;simp only;omega)
           cases h15:(rop==15)
           case false=>
            go_wp2_with fail;go_roundg (S.R.length-(i+1))
            case measure=>omega
            case rel=>exact ⟨i+1,_,by omega,rfl,rfl,by go_num,HF2,BA⟩
           case true=>
            by_cases hN:1000<rn
            case pos=>
             go_wp2;go_ret;exact ⟨⟨true,rfl,fun h=>(by cases h),BB⟩⟩
            case neg=>
             go_wp2_with fail;go_roundg (S.R.length-(i+1))
             case measure=>omega
             case rel=>exact ⟨i+1,_,by omega,rfl,rfl,by go_num,HF2,BA⟩
theorem vK (A:List Int) (E:List Pu):foldI (usesL A E)=usesT A E:=foldI_eq _
theorem usesT_nodup (A:List Int) (E:List Pu):(usesT A E).Nodup:=by
 rw [<-vK];obtain ⟨h1,-⟩:=zAf (usesL A E) [] (by simp [SS]);exact List.Pairwise.imp (fun h=>by omega) h1
theorem jZ (r:Sk.Ru):(Sk.needs r).Nodup:=by
 unfold Sk.needs
 split
 ·simp
 ·exact usesT_nodup _ _
theorem zAp {ok:Nat->Prop} {w:World} {op k out n:Int} {aA aE:Option Addr} {nA cA nE cE:Nat} {A:List Int} {E:List Pu} (hA:HInts ok w (.slice aA nA cA) A) (hE:HPu ok w (.slice aE nE cE) E) (hAl:A.length<=1000000) (hEl:E.length<=1000000) :
  Calls Tryz.prog 30 #[.agg #[.int .i64 op,.int .i64 k,.int .i64 out,.int .i64 n,.slice aA nA cA,.slice aE nE cE]] w fun e w'=>∃ v,e=.returned v/\HInts (fun i=>w.heap.size<=i) w' v (usesT A (Sk.ownE op E))/\Below w.heap.size w w':=by
 have b1:Below w.heap.size w (w.alloc (.cells #[.int .i64 op,.int .i64 k,.int .i64 out,.int .i64 n,.slice aA nA cA,.slice aE nE cE] 40 (0,0))):=(Below.refl _ _).alloc zM _;have kA:=zI w (.cells #[.int .i64 op,.int .i64 k,.int .i64 out,.int .i64 n,.slice aA nA cA,.slice aE nE cE] 40 (0,0));have HA:=zE ((hA.wide (ok':=fun i=>i<w.heap.size) fun i _ h=>h).under b1);have HE:=zE ((hE.wide (ok':=fun i=>i<w.heap.size) fun i _ h=>h).under b1);by_cases h14:op<14
 case pos=>
  have e2:Sk.ownE op E=[]:=(by unfold Sk.ownE;rw [if_pos h14]);rw [e2];have HH:=zE hAl;clear hA hE e2 hAl hEl HE;go_enter Tryz.func30,Tryz.ntmps30;go_upto_region 1 with fail;generalize w.alloc (.cells #[.int .i64 op,.int .i64 k,.int .i64 out,.int .i64 n,.slice aA nA cA,.slice aE nE cE] 40 (0,0))=w1 at b1 kA HA ⊢;have d0:=coQ kA 0;have d1:=coQ kA 1;have d2:=coQ kA 2;have d3:=coQ kA 3;have d4:=coQ kA 4;have d5:=coQ kA 5;simp at d0 d1 d2 d3 d4 d5;have f5:=foQ kA 5;have KR:=zJ kA 5 (.slice none 0 0);simp at KR;have B2:=b1.setCell (p:=⟨w.heap.size,5,none⟩) zM (.slice none 0 0);have hs2:(w1.setCell ⟨w.heap.size,5,none⟩ (.slice none 0 0)).heap.size=w1.heap.size:=(by simp [World.setCell]);have HA2:=zE (HA.out.keep (w':=w1.setCell ⟨w.heap.size,5,none⟩ (.slice none 0 0)) (by omega) (fun i hi _=>heap_set_o8 _ _ _ (by show w.heap.size≠i;have h1:i<w.heap.size:=hi;omega)));go_upto_region 3 with fail;generalize w1.setCell ⟨w.heap.size,5,none⟩ (.slice none 0 0)=w2 at KR B2 HA2 hs2 ⊢;clear d0 d1 d2 d3 d4 d5 f5;have g0:=coQ KR 0;have g1:=coQ KR 1;have g2:=coQ KR 2;have g3:=coQ KR 3;have g4:=coQ KR 4;have g5:=coQ KR 5;simp at g0 g1 g2 g3 g4 g5;go_wp2_with fail;refine (jX (ok:=fun i=>i<w.heap.size) op k out n HA2.out HPu.hnil HH.out (Nat.zero_le _)).mono ?_;rintro e w3 ⟨v,rfl,own3,b3⟩;rw [vK] at own3;have HO:=zE ((zR own3.row).wide (ok':=fun i=>w.heap.size<=i) fun i hi _=>Nat.le_trans B2.size hi);obtain ⟨a3,c3,rfl,-,-⟩:=own3.form;clear own3;go_wp2;go_ret;exact ⟨_,rfl,HO.out,B2.trans (b3.mono B2.size)⟩
 case neg=>
  have e2:Sk.ownE op E=E:=(by unfold Sk.ownE;rw [if_neg h14]);rw [e2];have HH:=zE (And.intro hAl hEl);clear hA hE e2 hAl hEl;go_enter Tryz.func30,Tryz.ntmps30;go_upto_region 1 with fail;generalize w.alloc (.cells #[.int .i64 op,.int .i64 k,.int .i64 out,.int .i64 n,.slice aA nA cA,.slice aE nE cE] 40 (0,0))=w1 at b1 kA HA HE ⊢;have d0:=coQ kA 0;have d1:=coQ kA 1;have d2:=coQ kA 2;have d3:=coQ kA 3;have d4:=coQ kA 4;have d5:=coQ kA 5;simp at d0 d1 d2 d3 d4 d5;go_wp2_with fail;refine (jX (ok:=fun i=>i<w.heap.size) op k out n HA.out HE.out HH.out.1 HH.out.2).mono ?_;rintro e w3 ⟨v,rfl,own3,b3⟩;rw [vK] at own3;have HO:=zE ((zR own3.row).wide (ok':=fun i=>w.heap.size<=i) fun i hi _=>Nat.le_trans b1.size hi);obtain ⟨a3,c3,rfl,-,-⟩:=own3.form;clear own3;go_wp2;go_ret;exact ⟨_,rfl,HO.out,b1.trans (b3.mono b1.size)⟩
theorem cells9_any (v:Sk.Vr) (w:World):Calls Tryz.prog 21 #[.int .i64 v.n] w fun e w'=>e=.returned (.int .i64 (Sk.cnt v:Nat))/\w=w':=by
 have e:(Sk.cnt v:Int)=if v.n<1 then 1 else v.n:=by
  unfold Sk.cnt
  split<;>omega
 rw [e];by_cases h:v.n<1
 ·rw [if_pos h]
  generalize v.n=n at h;go_enter Tryz.func21,Tryz.ntmps21;go_wp2;go_ret;exact ⟨rfl,rfl⟩
 ·rw [if_neg h]
  generalize v.n=n at h;go_enter Tryz.func21,Tryz.ntmps21;go_wp2;go_ret;exact ⟨rfl,rfl⟩
end Go.Proofs.YtegakbobaecdlaaGreatDoor
