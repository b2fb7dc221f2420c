import Derived.Test.YtegakbobaecdlaaGreatDoorG34
import Derived.Test.YtegakbobaecdlaaGreatDoorRows
import Derived.WalkKit
import Derived.WalkSpells
import Derived.IntWalk
import Derived.Deep.Cut
import Derived.Deep.LoopGhost
import Derived.FnData
import Derived.Ground.NamesProg
import Derived.LaidSub
import Derived.Laws.Cover1
import Derived.Laws.EntriesVeiled
import Derived.Laws.Externs
import Derived.Lib.Hide
import Derived.Lib.LaidTab
import Derived.Lib.MakeNoZero
import Derived.Lib.SlBuf
import Derived.Shelf.Bytes.SlSmallAll
import Derived.Shelf.Lay
set_option linter.unusedVariables false
set_option linter.unusedSimpArgs false
set_option maxHeartbeats 64000000
set_option maxRecDepth 100000
namespace Go.Proofs.YtegakbobaecdlaaGreatDoor
open Go.RowKit Go.IntWalk Go.Deep
namespace Ld
variable {H:Type} {enc:TypeId × Value->H} {P:Program} {w:World} {base:Nat} {sp:Nat->Bool} {held:Bool}
def fieldsOf (P:Program) (t:TypeId):Option (List (TypeId × Nat)) :=
 match P.underlying t with
 | some (.struct fs)=>some (fs.toList.map fun f=>(f.type,f.offset))
 | _=>none
theorem trod_field {fuel:Nat} {t:TypeId} {cs:List Value} {L:List (TypeId × Nat)} {d:DataW H} {p:List MemPlace} (hF:fieldsOf P t=some L)
  (h:DataW.trod enc P w base sp held fuel t cs=some (d,p)) {j:Nat} {u:TypeId} {off:Nat} (hj:L[j]?=some (u,off)) :
  ∃ ds fuel' d' p',d=.agg ds/\ds[j]?=some d'/\DataW.trod enc P w base sp held fuel' u ((cs.drop off).take (P.cellsOf u))=some (d',p'):=by
 unfold fieldsOf at hF
 split at hF
 ·rename_i fs hu
  obtain rfl:=Option.some.inj hF
  cases fuel with
  | zero=>simp [DataW.trod] at h
  | succ fuel=>
   simp only [DataW.trod,hu] at h
   split at h
   ·obtain ⟨xs,hm,hx⟩:=Option.map_eq_some_iff.1 h
    simp only [List.getElem?_map,Option.map_eq_some_iff] at hj;obtain ⟨f,hf,hfe⟩:=hj;obtain ⟨b,hb,hb2⟩:=Lib.mapM_at hm j f hf;injection hfe with e1 e2;subst e1 e2;refine ⟨xs.map (·.1),fuel,b.1,b.2,?_,by simp [hb],hb2⟩;exact (congrArg Prod.fst hx).symm
   ·cases h
 ·cases hF
theorem trod_elem {fuel:Nat} {t e:TypeId} {n:Nat} {cs:List Value} {ds:List (DataW H)} {p:List MemPlace} (ht:P.underlying t=some (.array n e))
  (h:DataW.trod enc P w base sp held fuel t cs=some (.agg ds,p)) {i:Nat} (hi:i<n) :
  ∃ fuel' d' p',ds[i]?=some d'/\DataW.trod enc P w base sp held fuel' e ((cs.drop (i*P.cellsOf e)).take (P.cellsOf e))=some (d',p'):=by
 cases fuel with
 | zero=>simp [DataW.trod] at h
 | succ fuel=>
  simp only [DataW.trod,ht] at h
  split at h
  ·obtain ⟨xs,hm,hx⟩:=Option.map_eq_some_iff.1 h
   obtain ⟨b,hb,hb2⟩:=Lib.mapM_at hm i i (by simp [hi]);refine ⟨fuel,b.1,b.2,?_,hb2⟩;have:=congrArg Prod.fst hx;simp only [DataW.agg.injEq] at this;rw [<-this];simp [hb]
  ·cases h
theorem row_int {fuel:Nat} {t e u:TypeId} {n c off i j:Nat} {k:IntKind} {cs:List Value} {ds:List (DataW H)} {p:List MemPlace} {L:List (TypeId × Nat)} (ht:P.underlying t=some (.array n e)) (hc:P.cellsOf e=c) (hF:fieldsOf P e=some L)
  (h:DataW.trod enc P w base sp held fuel t cs=some (.agg ds,p)) (hi:i<n) (hj:L[j]?=some (u,off)) (hu:P.underlying u=some (.int k)) (hcu:P.cellsOf u=1) (ho:off<c)
  {es:List (DataW H)} {z:Int} (hd:ds[i]?=some (.agg es)) (he:es[j]?=some (.lit (.int k z))):cs[i*c+off]?=some (.int k z):=by
 obtain ⟨f1,d1,p1,h1,h2⟩:=trod_elem ht h hi;obtain ⟨ds2,f2,d2,p2,rfl,h3,h4⟩:=trod_field hF h2 hj;obtain ⟨s,h5,h6,_⟩:=DataW.trod_int hu h4;rw [hd] at h1;simp only [Option.some.injEq,DataW.agg.injEq] at h1;subst h1;rw [he] at h3;have h7:d2=.lit (.int k s):=congrArg Prod.fst h6;rw [h7] at h3;simp only [Option.some.injEq,DataW.lit.injEq,Lit.int.injEq,true_and] at h3;subst h3;have:=congrArg (·[0]?) h5;rw [hc,hcu] at this
 simpa [List.getElem?_take,List.getElem?_drop,ho] using this
end Ld
theorem heap_lt {W:World} {g j:Nat} {v:Value} (h:W.cell? ⟨g,j,none⟩=some v):g<W.heap.size:=by
 apply Classical.byContradiction
 intro hlt;have:W.heap[g]?=none:=(by simp;omega);simp [World.cell?,this] at h
def kopsL:List (DataW Unit):=Kd.opsT.map fun s=>.agg [.lit (.int .u8 s.1),.lit (.int .u8 s.2.1),.lit (.int .i64 s.2.2)]
theorem kops_eq:Rows.laid_loomwork_kinds_operators=.agg kopsL:=rfl
theorem globK_of {W : World} (h : laidMetH Tryz.prog [("loomwork/kinds.operators", Rows.laid_loomwork_kinds_operators)] W) : GlobK W := by
 have h : laidMet Tryz.prog [("loomwork/kinds.operators", Rows.laid_loomwork_kinds_operators)] W := h;obtain ⟨ps, ⟨g', t', cs, fuel, p, q, hg', ht', hvar, hd, _, _⟩, _⟩ := h;obtain rfl := Option.some.inj ((show Tryz.prog.globalNamed "loomwork/kinds.operators" = some 1 by kernel_rfl).symm.trans hg');obtain rfl := Option.some.inj ((show (Tryz.prog.globals[1]?).map (·.type) = some 177 by kernel_rfl).symm.trans ht');rw [kops_eq] at hd;have hu : Tryz.prog.underlying 177 = some (.array 15 176) := (by kernel_rfl);have hF : Ld.fieldsOf Tryz.prog 176 = some [(5, 0), (5, 1), (3, 2)] := (by kernel_rfl);have hc : Tryz.prog.cellsOf 176 = 3 := (by kernel_rfl);have h5 : Tryz.prog.cellsOf 5 = 1 := (by kernel_rfl);have h3 : Tryz.prog.cellsOf 3 = 1 := (by kernel_rfl);have u3 : Tryz.prog.underlying 3 = some (.int .i64) := (by kernel_rfl);have u5 : Tryz.prog.underlying 5 = some (.int .u8) := (by kernel_rfl);have hv := fun j => World.var?_cell (show Tryz.prog.globalNamed "loomwork/kinds.operators" = some 1 by kernel_rfl) hvar j;have hL : ∀ k, k < 15 -> kopsL[k]? = some (.agg [.lit (.int .u8 (Kd.opN k).1), .lit (.int .u8 (Kd.opN k).2.1), .lit (.int .i64 (Kd.opN k).2.2)]) := by
  intro k hk;have hk':k<Kd.opsT.length:=hk;unfold kopsL Kd.opN;rw [List.getElem?_map,List.getElem?_eq_getElem hk',List.getD_eq_getElem?_getD,List.getElem?_eq_getElem hk'];rfl
 have hall:∀ k,k<15->W.cell? ⟨1,k*3,none⟩=some (.int .u8 (Kd.opN k).1)/\W.cell? ⟨1,k*3+1,none⟩=some (.int .u8 (Kd.opN k).2.1)/\W.cell? ⟨1,k*3+2,none⟩=some (.int .i64 (Kd.opN k).2.2):=by
  intro k hk;have e:=hL k hk;refine ⟨?_,?_,?_⟩
  ·rw [hv,<-Array.getElem?_toList];exact Ld.row_int (j:=0) hu hc hF hd hk rfl u5 h5 (by decide) e rfl
  ·rw [hv,<-Array.getElem?_toList];exact Ld.row_int (j:=1) hu hc hF hd hk rfl u5 h5 (by decide) e rfl
  ·rw [hv,<-Array.getElem?_toList];exact Ld.row_int (j:=2) hu hc hF hd hk rfl u3 h3 (by decide) e rfl
 exact ⟨heap_lt (hall 0 (by decide)).1,hall⟩
def partsD:List (DataW Unit):=Sk.partsT.map fun s=>.lit (.int .i64 s)
theorem parts_eq:Rows.laid_loomwork_sys_partCounts=.agg partsD:=rfl
theorem globP_of {W : World} (h : laidMetH Tryz.prog [("loomwork/sys.partCounts", Rows.laid_loomwork_sys_partCounts)] W) : GlobP W := by
 have h : laidMet Tryz.prog [("loomwork/sys.partCounts", Rows.laid_loomwork_sys_partCounts)] W := h;obtain ⟨ps, ⟨g', t', cs, fuel, p, q, hg', ht', hvar, hd, _, _⟩, _⟩ := h;obtain rfl := Option.some.inj ((show Tryz.prog.globalNamed "loomwork/sys.partCounts" = some 0 by kernel_rfl).symm.trans hg');obtain rfl := Option.some.inj ((show (Tryz.prog.globals[0]?).map (·.type) = some 147 by kernel_rfl).symm.trans ht');rw [parts_eq] at hd;have hu : Tryz.prog.underlying 147 = some (.array 17 3) := (by kernel_rfl);have h3 : Tryz.prog.cellsOf 3 = 1 := (by kernel_rfl);have u3 : Tryz.prog.underlying 3 = some (.int .i64) := (by kernel_rfl);have hv := fun j => World.var?_cell (show Tryz.prog.globalNamed "loomwork/sys.partCounts" = some 0 by kernel_rfl) hvar j;have hall : ∀ k, k < 17 -> W.cell? ⟨0, k, none⟩ = some (.int .i64 (Sk.partsT.getD k 0)) := by
  intro k hk;obtain ⟨f1,d1,p1,h1,h2⟩:=Ld.trod_elem hu hd hk;obtain ⟨s,h5,h6,_⟩:=DataW.trod_int u3 h2;have hk':k<Sk.partsT.length:=hk;have e:partsD[k]?=some (.lit (.int .i64 (Sk.partsT.getD k 0))):=by
   unfold partsD;rw [List.getElem?_map,List.getElem?_eq_getElem hk',List.getD_eq_getElem?_getD,List.getElem?_eq_getElem hk'];rfl
  rw [e] at h1;have h7:d1=.lit (.int .i64 s):=congrArg Prod.fst h6;rw [h7] at h1;simp only [Option.some.injEq,DataW.lit.injEq,Lit.int.injEq,true_and] at h1;rw [hv,<-Array.getElem?_toList,h1];have:=congrArg (·[0]?) h5;rw [h3] at this
  simpa [List.getElem?_take,List.getElem?_drop] using this
 exact ⟨heap_lt (hall 0 (by decide)),hall⟩
section
variable {H:Type} {enc:TypeId × Value->H} {w:World}
instance:Inhabited Pu:=⟨⟨0,0,0,0⟩⟩
instance:Inhabited Sk.Vr:=⟨⟨0,0⟩⟩
instance:Inhabited Sk.Ru:=⟨⟨0,0,0,0,[],[]⟩⟩
instance:Inhabited RuV:=⟨⟨none,0,0,none,0,0⟩⟩
theorem xY {α:Type} [Inhabited α] {n:Nat} {p:Nat->α->Prop} (h:∀ i,i<n->∃ x,p i x):∃ f:Nat->α,∀ i,i<n->p i (f i):=by
 classical
 refine ⟨fun i=>if h1:i<n then Classical.choose (h i h1) else default,fun i hi=>?_⟩;simp only [hi,dif_pos];exact Classical.choose_spec (h i hi)
theorem c22:Tryz.prog.cellsOf 22=1:=by kernel_rfl
theorem c23:Tryz.prog.cellsOf 23=1:=by kernel_rfl
theorem c24:Tryz.prog.cellsOf 24=1:=by kernel_rfl
theorem c26:Tryz.prog.cellsOf 26=4:=by kernel_rfl
theorem c38:Tryz.prog.cellsOf 38=1:=by kernel_rfl
theorem c40:Tryz.prog.cellsOf 40=6:=by kernel_rfl
theorem c61:Tryz.prog.cellsOf 55=2:=by kernel_rfl
theorem c98:Tryz.prog.cellsOf 79=4:=by kernel_rfl
theorem y2:Tryz.prog.bytesOf 2=8:=by kernel_rfl
theorem y3:Tryz.prog.bytesOf 3=8:=by kernel_rfl
theorem y40:Tryz.prog.bytesOf 40=80:=by kernel_rfl
theorem y61:Tryz.prog.bytesOf 55=16:=by kernel_rfl
theorem y98:Tryz.prog.bytesOf 79=32:=by kernel_rfl
theorem two_of {cs:List Value} (h:cs.length=2):∃ a b,cs=[a,b]:=by
 match cs,h with
 | [a,b],_=>exact ⟨a,b,rfl⟩
theorem four_of {cs:List Value} (h:cs.length=4):∃ a b c d,cs=[a,b,c,d]:=by
 match cs,h with
 | [a,b,c,d],_=>exact ⟨a,b,c,d,rfl⟩
theorem six_of {cs:List Value} (h:cs.length=6):∃ a b c d e f,cs=[a,b,c,d,e,f]:=by
 match cs,h with
 | [a,b,c,d,e,f],_=>exact ⟨a,b,c,d,e,f,rfl⟩
theorem xR {v:Value} {t:TypeId} {k:IntKind} (ht:Tryz.prog.underlying t=some (.int k)) (h:Rd0 enc w t [v]):∃ n,v=.int k n:=by
 obtain ⟨n,e⟩:=open_num ht h;injection e with e _;exact ⟨n,e⟩
theorem open_push {cs:List Value} (h:Rd0 enc w 79 cs):∃ p:Pu,cs=p.cs:=by
 have hl:=len_of Tryz.underlying79 h;rw [c98] at hl;obtain ⟨a,b,c,d,rfl⟩:=four_of hl;obtain ⟨n0,rfl⟩:=xR Tryz.underlying3 (zT Tryz.underlying79 h 0 3 0 rfl c3 _ rfl);obtain ⟨n1,rfl⟩:=xR Tryz.underlying3 (zT Tryz.underlying79 h 1 3 1 rfl c3 _ rfl);obtain ⟨n2,rfl⟩:=xR Tryz.underlying3 (zT Tryz.underlying79 h 2 3 2 rfl c3 _ rfl);obtain ⟨n3,rfl⟩:=xR Tryz.underlying2 (zT Tryz.underlying79 h 3 2 3 rfl c2 _ rfl);exact ⟨⟨n0,n1,n2,n3⟩,rfl⟩
theorem open_var {cs:List Value} (h:Rd0 enc w 55 cs):∃ p:Sk.Vr,cs=[.int .u8 p.elem,.int .i64 p.n]:=by
 have hl:=len_of Tryz.underlying55 h;rw [c61] at hl;obtain ⟨a,b,rfl⟩:=two_of hl;obtain ⟨n0,rfl⟩:=xR Tryz.underlying5 (zT Tryz.underlying55 h 0 5 0 rfl c5 _ rfl);obtain ⟨n1,rfl⟩:=xR Tryz.underlying3 (zT Tryz.underlying55 h 1 3 1 rfl c3 _ rfl);exact ⟨⟨n0,n1⟩,rfl⟩
theorem vG {v:Value} (h:Rd0 enc w 23 [v]):∃ a n c L,v=.slice a n c/\n=L.length/\HInts (fun _=>True) w (.slice a n c) L:=by
 obtain ⟨fuel,x,h,hw⟩:=h;obtain ⟨a,n,c,C,m,D,Pl,e,hs,_,hi⟩:=qM Tryz.underlying23 c3 (by decide) y3 h hw;injection e with e _;obtain ⟨f,hf⟩:=xY (n:=n) (α:=Int) (p:=fun i x=>C i=[.int .i64 x]) (fun i h=>by
  obtain ⟨q,e⟩:=open_num (enc:=enc) (w:=w) Tryz.underlying3 ⟨m,_,(hi i h).1,(hi i h).2.1⟩;exact ⟨q,e⟩)
 obtain ⟨l,hl,hg⟩:=jB n f;refine ⟨a,n,c,l,e,hl.symm,C,by rw [hl];exact hs,fun i h=>?_⟩;rw [hg i h];exact hf i (by omega)
theorem open_pushes {v:Value} (h:Rd0 enc w 38 [v]):∃ a n c L,v=.slice a n c/\n=L.length/\HPu (fun _=>True) w (.slice a n c) L:=by
 obtain ⟨fuel,x,h,hw⟩:=h;obtain ⟨a,n,c,C,m,D,Pl,e,hs,_,hi⟩:=qM Tryz.underlying38 c98 (by decide) y98 h hw;injection e with e _;obtain ⟨f,hf⟩:=xY (n:=n) (α:=Pu) (p:=fun i x=>C i=x.cs) (fun i h=>by
  exact open_push (enc:=enc) (w:=w) ⟨m,_,(hi i h).1,(hi i h).2.1⟩)
 obtain ⟨l,hl,hg⟩:=jB n f;refine ⟨a,n,c,l,e,hl.symm,C,by rw [hl];exact hs,fun i h=>?_⟩;rw [hg i h];exact hf i (by omega)
theorem open_vars {v:Value} (h:Rd0 enc w 22 [v]):∃ a n c L,v=.slice a n c/\n=L.length/\HVars (fun _=>True) w (.slice a n c) L:=by
 obtain ⟨fuel,x,h,hw⟩:=h;obtain ⟨a,n,c,C,m,D,Pl,e,hs,_,hi⟩:=qM Tryz.underlying22 c61 (by decide) y61 h hw;injection e with e _;obtain ⟨f,hf⟩:=xY (n:=n) (α:=Sk.Vr) (p:=fun i x=>C i=[.int .u8 x.elem,.int .i64 x.n]) (fun i h=>by
  exact open_var (enc:=enc) (w:=w) ⟨m,_,(hi i h).1,(hi i h).2.1⟩)
 obtain ⟨l,hl,hg⟩:=jB n f;refine ⟨a,n,c,l,e,hl.symm,C,by rw [hl];exact hs,fun i h=>?_⟩;rw [hg i h];exact hf i (by omega)
theorem open_rule {cs:List Value} (h:Rd0 enc w 40 cs):∃ (r:Sk.Ru) (y:RuV),cs=rcs r y/\HRu (fun _=>True) w y r:=by
 have hl:=len_of Tryz.underlying40 h;rw [c40] at hl;obtain ⟨v0,v1,v2,v3,v4,v5,rfl⟩:=six_of hl;obtain ⟨n0,rfl⟩:=xR Tryz.underlying3 (zT Tryz.underlying40 h 0 3 0 rfl c3 _ rfl);obtain ⟨n1,rfl⟩:=xR Tryz.underlying3 (zT Tryz.underlying40 h 1 3 1 rfl c3 _ rfl);obtain ⟨n2,rfl⟩:=xR Tryz.underlying3 (zT Tryz.underlying40 h 2 3 2 rfl c3 _ rfl);obtain ⟨n3,rfl⟩:=xR Tryz.underlying2 (zT Tryz.underlying40 h 3 2 3 rfl c2 _ rfl);obtain ⟨a,na,ca,A,rfl,-,hA⟩:=vG (zT Tryz.underlying40 h 4 23 4 rfl c23 _ rfl);obtain ⟨b,nb,cb,E,rfl,-,hE⟩:=open_pushes (zT Tryz.underlying40 h 5 38 5 rfl c38 _ rfl);exact ⟨⟨n0,n1,n2,n3,A,E⟩,⟨a,na,ca,b,nb,cb⟩,rfl,⟨hA,hE⟩⟩
theorem open_rules {v:Value} (h:Rd0 enc w 24 [v]):∃ a n c L,v=.slice a n c/\n=L.length/\HRus (fun _=>True) w (.slice a n c) L:=by
 obtain ⟨fuel,x,h,hw⟩:=h;obtain ⟨a,n,c,C,m,D,Pl,e,hs,_,hi⟩:=qM Tryz.underlying24 c40 (by decide) y40 h hw;injection e with e _;obtain ⟨f,hf⟩:=xY (n:=n) (α:=Sk.Ru) (p:=fun i x=>∃ y,C i=rcs x y/\HRu (fun _=>True) w y x) (fun i h=>by
  obtain ⟨r,y,h1,h2⟩:=open_rule (enc:=enc) (w:=w) ⟨m,_,(hi i h).1,(hi i h).2.1⟩;exact ⟨r,y,h1,h2⟩)
 obtain ⟨l,hl,hg⟩:=jB n f;refine ⟨a,n,c,l,e,hl.symm,C,by rw [hl];exact hs,fun i h=>?_⟩;rw [hg i h];exact hf i (by omega)
theorem open_system {cs:List Value} (h:Rd0 enc w 26 cs):∃ aV aI aO aR cV cI cO cR,∃ S:Sk.Sys,cs=[.slice aV S.V.length cV,.slice aI S.I.length cI,.slice aO S.O.length cO,.slice aR S.R.length cR]/\HSys (fun _=>True) w aV aI aO aR cV cI cO cR S:=by
 have hl:=len_of Tryz.underlying26 h;rw [c26] at hl;obtain ⟨v0,v1,v2,v3,rfl⟩:=four_of hl;obtain ⟨aV,nV,cV,V,rfl,rfl,hV⟩:=open_vars (zT Tryz.underlying26 h 0 22 0 rfl c22 _ rfl);obtain ⟨aI,nI,cI,I,rfl,rfl,hI⟩:=vG (zT Tryz.underlying26 h 1 23 1 rfl c23 _ rfl);obtain ⟨aO,nO,cO,O,rfl,rfl,hO⟩:=vG (zT Tryz.underlying26 h 2 23 2 rfl c23 _ rfl);obtain ⟨aR,nR,cR,R,rfl,rfl,hR⟩:=open_rules (zT Tryz.underlying26 h 3 24 3 rfl c24 _ rfl);exact ⟨aV,aI,aO,aR,cV,cI,cO,cR,⟨V,I,O,R⟩,rfl,⟨hV,hI,hO,hR⟩⟩
end
end Go.Proofs.YtegakbobaecdlaaGreatDoor
