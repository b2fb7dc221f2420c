import Derived.Test.YtfhghlpfeeiaeaaGreatDoorX22
import Derived.Deep.Cut
import Derived.Deep.LoopGhost
import Derived.IntWalk
import Derived.Laws.Cover1
import Derived.Lib.Hide
import Derived.Lib.MakeNoZero
import Derived.WalkKit
import Derived.WalkSpells
import Derived.Ground.NamesProg
import Derived.Laws.EntriesVeiled
import Derived.Laws.Externs
import Derived.Lib.SlBuf
import Derived.Shelf.Bytes.SlSmallAll
import Derived.Shelf.Lay
import Derived.Test.YtfhghlpfeeiaeaaGreatDoorRows
import Derived.FnData
import Derived.LaidSub
import Derived.Lib.LaidTab
set_option linter.unusedVariables false
set_option linter.unusedSimpArgs false
set_option maxHeartbeats 64000000
set_option maxRecDepth 100000
namespace Go.Proofs.YtfhghlpfeeiaeaaGreatDoor
open Go.Shelf Go.RowKit Go.Lib Go.IntWalk
namespace Sk
end Sk
theorem IBlk.lt {w:World} {g:Nat} {l:List Int} {sp:List Value} (h:IBlk w g l sp):g<w.heap.size:=zBM h
theorem IBlk.below {w w':World} {g:Nat} {l:List Int} {sp:List Value} (h:IBlk w g l sp) (b:Below w.heap.size w w'):IBlk w' g l sp:=(b.block _ h.lt).trans h
end Go.Proofs.YtfhghlpfeeiaeaaGreatDoor
namespace Go.Proofs.YtfhghlpfeeiaeaaGreatDoor
open Go.RowKit Go.IntWalk
def nI (l:List Nat):List Int:=l.map Int.ofNat
theorem HRus.out {ok:Nat->Prop} {w:World} {ao:Option Addr} {n c:Nat} {l:List Sk.Ru} (h:HRus ok w (.slice ao n c) l) {j:Nat} (hj:j<l.length):∃ b o,ao=some ⟨b,o,none⟩/\b<w.heap.size/\ok b/\n=l.length/\l.length<=c/\c<=maxLen/\w.cell? ⟨b,o+j*6+2,none⟩=some (.int .i64 (l[j]).out):=by
 obtain ⟨C,⟨gw,cap,hv,h1,h2,h3⟩,hC⟩:=h;injection hv with e1 e2 e3;subst e1 e2 e3;obtain ⟨b,o,ha,gG,hb,hc⟩:=h3 (by omega);obtain ⟨y,e,hy⟩:=hC j hj;have:=(hc j hj).2 2 (by decide);rw [e] at this;exact ⟨b,o,ha,hb,gG,rfl,h1,h2,by simpa [rcs] using this⟩
theorem Tryz.infoLL:(Tryz.prog.info? 44).map (fun i=>(i.zero,i.size,i.bytes))=some (some (.slice none 0 0),1,24):=by kernel_rfl
def kLL:Kind (List Int) where
 ty:=44
 k:=1
 bytes:=24
 zero:=.slice none 0 0
 E:=fun ok w cs l=>∃ u,cs=[u]/\HInts ok w u l
 pos:=by decide
 zs:=rfl
 info:=Tryz.infoLL
 len:=by rintro _ _ _ _ ⟨u,rfl,_⟩;rfl
 one:=by
  rintro _ _ _ _ ⟨u,rfl,h⟩ v hv;simp at hv;subst hv;obtain ⟨ao,cap,rfl,_⟩:=h.at;rfl
 keep:=by rintro _ _ _ _ _ ⟨u,rfl,h⟩ hs hk;exact ⟨u,rfl,h.keep hs hk⟩
 wide:=by rintro _ _ _ _ _ ⟨u,rfl,h⟩ hk;exact ⟨u,rfl,h.wide hk⟩
theorem HRow.llAt {ok:Nat->Prop} {w:World} {v:Value} {l:List (List Int)} (h:HRow kLL ok w v l) :
  ∃ ao cap,v=.slice ao l.length cap/\l.length<=cap/\cap<=maxLen/\∀ i (h:i<l.length),∃ b o u,ao=some ⟨b,o,none⟩/\b<w.heap.size/\w.cell? ⟨b,o+i,none⟩=some u/\HInts ok w u l[i]:=by
 obtain ⟨C,⟨ao,cap,hv,h1,h2,h3⟩,hC⟩:=h;refine ⟨ao,cap,hv,h1,h2,fun i hi=>?_⟩;obtain ⟨b,o,ha,gG,hb,hc⟩:=h3 (by omega);obtain ⟨u,e,hu⟩:=hC i hi;have:=(hc i hi).2 0 (by decide);rw [e] at this;exact ⟨b,o,u,ha,hb,by simpa [kLL] using this,hu⟩
end Go.Proofs.YtfhghlpfeeiaeaaGreatDoor
namespace Go.Proofs.YtfhghlpfeeiaeaaGreatDoor
open Go.RowKit Go.IntWalk Go.Deep
namespace Ld
variable {H:Type} {enc:TypeId × Value->H} {P:Program} {w:World} {base:Nat} {sp:Nat->Bool} {held:Bool}
def fieldsOf (P:Program) (t:TypeId):Option (List (TypeId × Nat)) :=
 match P.underlying t with
 | some (.struct fs)=>some (fs.toList.map fun f=>(f.type,f.offset))
 | _=>none
theorem trod_field {fuel:Nat} {t:TypeId} {cs:List Value} {L:List (TypeId × Nat)} {d:DataW H} {p:List MemPlace} (hF:fieldsOf P t=some L)
  (h:DataW.trod enc P w base sp held fuel t cs=some (d,p)) {j:Nat} {u:TypeId} {off:Nat} (hj:L[j]?=some (u,off)) :
  ∃ ds fuel' d' p',d=.agg ds/\ds[j]?=some d'/\DataW.trod enc P w base sp held fuel' u ((cs.drop off).take (P.cellsOf u))=some (d',p'):=by
 unfold fieldsOf at hF
 split at hF
 ·rename_i fs hu
  obtain rfl:=Option.some.inj hF
  cases fuel with
  | zero=>simp [DataW.trod] at h
  | succ fuel=>
   simp only [DataW.trod,hu] at h
   split at h
   ·obtain ⟨xs,hm,hx⟩:=Option.map_eq_some_iff.1 h
    simp only [List.getElem?_map,Option.map_eq_some_iff] at hj;obtain ⟨f,hf,Bq⟩:=hj;obtain ⟨b,hb,lb⟩:=Lib.mapM_at hm j f hf;injection Bq with e1 e2;subst e1 e2;refine ⟨xs.map (·.1),fuel,b.1,b.2,?_,by simp [hb],lb⟩;exact (congrArg Prod.fst hx).symm
   ·cases h
 ·cases hF
theorem trod_elem {fuel:Nat} {t e:TypeId} {n:Nat} {cs:List Value} {ds:List (DataW H)} {p:List MemPlace} (ht:P.underlying t=some (.array n e))
  (h:DataW.trod enc P w base sp held fuel t cs=some (.agg ds,p)) {i:Nat} (hi:i<n) :
  ∃ fuel' d' p',ds[i]?=some d'/\DataW.trod enc P w base sp held fuel' e ((cs.drop (i*P.cellsOf e)).take (P.cellsOf e))=some (d',p'):=by
 cases fuel with
 | zero=>simp [DataW.trod] at h
 | succ fuel=>
  simp only [DataW.trod,ht] at h
  split at h
  ·obtain ⟨xs,hm,hx⟩:=Option.map_eq_some_iff.1 h
   obtain ⟨b,hb,lb⟩:=Lib.mapM_at hm i i (by simp [hi]);refine ⟨fuel,b.1,b.2,?_,lb⟩;have:=congrArg Prod.fst hx;simp only [DataW.agg.injEq] at this;rw [<-this];simp [hb]
  ·cases h
theorem row_int {fuel:Nat} {t e u:TypeId} {n c off i j:Nat} {k:IntKind} {cs:List Value} {ds:List (DataW H)} {p:List MemPlace} {L:List (TypeId × Nat)} (ht:P.underlying t=some (.array n e)) (hc:P.cellsOf e=c) (hF:fieldsOf P e=some L)
  (h:DataW.trod enc P w base sp held fuel t cs=some (.agg ds,p)) (hi:i<n) (hj:L[j]?=some (u,off)) (hu:P.underlying u=some (.int k)) (ld:P.cellsOf u=1) (ho:off<c)
  {es:List (DataW H)} {z:Int} (hd:ds[i]?=some (.agg es)) (he:es[j]?=some (.lit (.int k z))):cs[i*c+off]?=some (.int k z):=by
 obtain ⟨f1,d1,p1,h1,h2⟩:=trod_elem ht h hi;obtain ⟨Q4,f2,d2,p2,rfl,h3,h4⟩:=trod_field hF h2 hj;obtain ⟨s,h5,h6,_⟩:=DataW.trod_int hu h4;rw [hd] at h1;simp only [Option.some.injEq,DataW.agg.injEq] at h1;subst h1;rw [he] at h3;have h7:d2=.lit (.int k s):=congrArg Prod.fst h6;rw [h7] at h3;simp only [Option.some.injEq,DataW.lit.injEq,Lit.int.injEq,true_and] at h3;subst h3;have:=congrArg (·[0]?) h5;rw [hc,ld] at this
 simpa [List.getElem?_take,List.getElem?_drop,ho] using this
end Ld
theorem heap_lt {W:World} {g j:Nat} {v:Value} (h:W.cell? ⟨g,j,none⟩=some v):g<W.heap.size:=by
 apply Classical.byContradiction
 intro bd;have:W.heap[g]?=none:=(by simp;omega);simp [World.cell?,this] at h
def kopsL:List (DataW Unit):=Kd.opsT.map fun s=>.agg [.lit (.int .u8 s.1),.lit (.int .u8 s.2.1),.lit (.int .i64 s.2.2)]
theorem kops_eq:Rows.laid_loomwork_kinds_operators=.agg kopsL:=rfl
theorem globK_of {W : World} (h : laidMetH Tryz.prog [("loomwork/kinds.operators", Rows.laid_loomwork_kinds_operators)] W) : GlobK W := by
 have h : laidMet Tryz.prog [("loomwork/kinds.operators", Rows.laid_loomwork_kinds_operators)] W := h;obtain ⟨ps, ⟨g', t', cs, fuel, p, q, GH, Hn, xJ, hd, _, _⟩, _⟩ := h;obtain rfl := Option.some.inj ((show Tryz.prog.globalNamed "loomwork/kinds.operators" = some 1 by kernel_rfl).symm.trans GH);obtain rfl := Option.some.inj ((show (Tryz.prog.globals[1]?).map (·.type) = some 151 by kernel_rfl).symm.trans Hn);rw [kops_eq] at hd;have hu : Tryz.prog.underlying 151 = some (.array 15 150) := (by kernel_rfl);have hF : Ld.fieldsOf Tryz.prog 150 = some [(5, 0), (5, 1), (3, 2)] := (by kernel_rfl);have hc : Tryz.prog.cellsOf 150 = 3 := (by kernel_rfl);have h5 : Tryz.prog.cellsOf 5 = 1 := (by kernel_rfl);have h3 : Tryz.prog.cellsOf 3 = 1 := (by kernel_rfl);have u3 : Tryz.prog.underlying 3 = some (.int .i64) := (by kernel_rfl);have u5 : Tryz.prog.underlying 5 = some (.int .u8) := (by kernel_rfl);have hv := fun j => World.var?_cell (show Tryz.prog.globalNamed "loomwork/kinds.operators" = some 1 by kernel_rfl) xJ j;have hL : ∀ k, k < 15 -> kopsL[k]? = some (.agg [.lit (.int .u8 (Kd.opN k).1), .lit (.int .u8 (Kd.opN k).2.1), .lit (.int .i64 (Kd.opN k).2.2)]) := by
  intro k hk;have oD:k<Kd.opsT.length:=hk;unfold kopsL Kd.opN;rw [List.getElem?_map,List.getElem?_eq_getElem oD,List.getD_eq_getElem?_getD,List.getElem?_eq_getElem oD];rfl
 have eS:∀ k,k<15->W.cell? ⟨1,k*3,none⟩=some (.int .u8 (Kd.opN k).1)/\W.cell? ⟨1,k*3+1,none⟩=some (.int .u8 (Kd.opN k).2.1)/\W.cell? ⟨1,k*3+2,none⟩=some (.int .i64 (Kd.opN k).2.2):=by
  intro k hk;have e:=hL k hk;refine ⟨?_,?_,?_⟩
  ·rw [hv,<-Array.getElem?_toList];exact Ld.row_int (j:=0) hu hc hF hd hk rfl u5 h5 (by decide) e rfl
  ·rw [hv,<-Array.getElem?_toList];exact Ld.row_int (j:=1) hu hc hF hd hk rfl u5 h5 (by decide) e rfl
  ·rw [hv,<-Array.getElem?_toList];exact Ld.row_int (j:=2) hu hc hF hd hk rfl u3 h3 (by decide) e rfl
 exact ⟨heap_lt (eS 0 (by decide)).1,eS⟩
def partsD:List (DataW Unit):=Sk.partsT.map fun s=>.lit (.int .i64 s)
theorem parts_eq:Rows.laid_loomwork_sys_partCounts=.agg partsD:=rfl
theorem globP_of {W : World} (h : laidMetH Tryz.prog [("loomwork/sys.partCounts", Rows.laid_loomwork_sys_partCounts)] W) : GlobP W := by
 have h : laidMet Tryz.prog [("loomwork/sys.partCounts", Rows.laid_loomwork_sys_partCounts)] W := h;obtain ⟨ps, ⟨g', t', cs, fuel, p, q, GH, Hn, xJ, hd, _, _⟩, _⟩ := h;obtain rfl := Option.some.inj ((show Tryz.prog.globalNamed "loomwork/sys.partCounts" = some 0 by kernel_rfl).symm.trans GH);obtain rfl := Option.some.inj ((show (Tryz.prog.globals[0]?).map (·.type) = some 105 by kernel_rfl).symm.trans Hn);rw [parts_eq] at hd;have hu : Tryz.prog.underlying 105 = some (.array 17 3) := (by kernel_rfl);have h3 : Tryz.prog.cellsOf 3 = 1 := (by kernel_rfl);have u3 : Tryz.prog.underlying 3 = some (.int .i64) := (by kernel_rfl);have hv := fun j => World.var?_cell (show Tryz.prog.globalNamed "loomwork/sys.partCounts" = some 0 by kernel_rfl) xJ j;have eS : ∀ k, k < 17 -> W.cell? ⟨0, k, none⟩ = some (.int .i64 (Sk.partsT.getD k 0)) := by
  intro k hk;obtain ⟨f1,d1,p1,h1,h2⟩:=Ld.trod_elem hu hd hk;obtain ⟨s,h5,h6,_⟩:=DataW.trod_int u3 h2;have oD:k<Sk.partsT.length:=hk;have e:partsD[k]?=some (.lit (.int .i64 (Sk.partsT.getD k 0))):=by
   unfold partsD;rw [List.getElem?_map,List.getElem?_eq_getElem oD,List.getD_eq_getElem?_getD,List.getElem?_eq_getElem oD];rfl
  rw [e] at h1;have h7:d1=.lit (.int .i64 s):=congrArg Prod.fst h6;rw [h7] at h1;simp only [Option.some.injEq,DataW.lit.injEq,Lit.int.injEq,true_and] at h1;rw [hv,<-Array.getElem?_toList,h1];have:=congrArg (·[0]?) h5;rw [h3] at this
  simpa [List.getElem?_take,List.getElem?_drop] using this
 exact ⟨heap_lt (eS 0 (by decide)),eS⟩
section
variable {H:Type} {enc:TypeId × Value->H} {w:World}
instance:Inhabited Pu:=⟨⟨0,0,0,0⟩⟩
instance:Inhabited Sk.Vr:=⟨⟨0,0⟩⟩
instance:Inhabited Sk.Ru:=⟨⟨0,0,0,0,[],[]⟩⟩
instance:Inhabited RuV:=⟨⟨none,0,0,none,0,0⟩⟩
theorem zCB {α:Type} [Inhabited α] {n:Nat} {p:Nat->α->Prop} (h:∀ i,i<n->∃ x,p i x):∃ f:Nat->α,∀ i,i<n->p i (f i):=by
 classical
 refine ⟨fun i=>if h1:i<n then Classical.choose (h i h1) else default,fun i hi=>?_⟩;simp only [hi,dif_pos];exact Classical.choose_spec (h i hi)
theorem c22:Tryz.prog.cellsOf 22=1:=by kernel_rfl
theorem c23:Tryz.prog.cellsOf 23=1:=by kernel_rfl
theorem c24:Tryz.prog.cellsOf 24=1:=by kernel_rfl
theorem c26:Tryz.prog.cellsOf 26=4:=by kernel_rfl
theorem c38:Tryz.prog.cellsOf 40=1:=by kernel_rfl
theorem c40:Tryz.prog.cellsOf 42=6:=by kernel_rfl
theorem c52:Tryz.prog.cellsOf 44=1:=by kernel_rfl
theorem c61:Tryz.prog.cellsOf 39=2:=by kernel_rfl
theorem c98:Tryz.prog.cellsOf 66=4:=by kernel_rfl
theorem y2:Tryz.prog.bytesOf 2=8:=by kernel_rfl
theorem y3:Tryz.prog.bytesOf 3=8:=by kernel_rfl
theorem y40:Tryz.prog.bytesOf 42=80:=by kernel_rfl
theorem y52:Tryz.prog.bytesOf 44=24:=by kernel_rfl
theorem y61:Tryz.prog.bytesOf 39=16:=by kernel_rfl
theorem y98:Tryz.prog.bytesOf 66=32:=by kernel_rfl
theorem two_of {cs:List Value} (h:cs.length=2):∃ a b,cs=[a,b]:=by
 match cs,h with
 | [a,b],_=>exact ⟨a,b,rfl⟩
theorem four_of {cs:List Value} (h:cs.length=4):∃ a b c d,cs=[a,b,c,d]:=by
 match cs,h with
 | [a,b,c,d],_=>exact ⟨a,b,c,d,rfl⟩
theorem six_of {cs:List Value} (h:cs.length=6):∃ a b c d e f,cs=[a,b,c,d,e,f]:=by
 match cs,h with
 | [a,b,c,d,e,f],_=>exact ⟨a,b,c,d,e,f,rfl⟩
theorem zCW {v:Value} {t:TypeId} {k:IntKind} (ht:Tryz.prog.underlying t=some (.int k)) (h:Rd0 enc w t [v]):∃ n,v=.int k n:=by
 obtain ⟨n,e⟩:=open_num ht h;injection e with e _;exact ⟨n,e⟩
theorem open_var {cs:List Value} (h:Rd0 enc w 39 cs):∃ p:Sk.Vr,cs=[.int .u8 p.elem,.int .i64 p.n]:=by
 have hl:=len_of Tryz.underlying39 h;rw [c61] at hl;obtain ⟨a,b,rfl⟩:=two_of hl;obtain ⟨n0,rfl⟩:=zCW Tryz.underlying5 (zBe Tryz.underlying39 h 0 5 0 rfl c5 _ rfl);obtain ⟨n1,rfl⟩:=zCW Tryz.underlying3 (zBe Tryz.underlying39 h 1 3 1 rfl c3 _ rfl);exact ⟨⟨n0,n1⟩,rfl⟩
theorem zAF {v:Value} (h:Rd0 enc w 23 [v]):∃ a n c L,v=.slice a n c/\n=L.length/\HInts (fun _=>True) w (.slice a n c) L:=by
 obtain ⟨fuel,x,h,hw⟩:=h;obtain ⟨a,n,c,C,m,D,Pl,e,hs,_,hi⟩:=zCN Tryz.underlying23 c3 (by decide) y3 h hw;injection e with e _;obtain ⟨f,hf⟩:=zCB (n:=n) (α:=Int) (p:=fun i x=>C i=[.int .i64 x]) (fun i h=>by
  obtain ⟨q,e⟩:=open_num (enc:=enc) (w:=w) Tryz.underlying3 ⟨m,_,(hi i h).1,(hi i h).2.1⟩;exact ⟨q,e⟩)
 obtain ⟨l,hl,hg⟩:=zCa n f;refine ⟨a,n,c,l,e,hl.symm,C,by rw [hl];exact hs,fun i h=>?_⟩;rw [hg i h];exact hf i (by omega)
theorem open_vars {v:Value} (h:Rd0 enc w 22 [v]):∃ a n c L,v=.slice a n c/\n=L.length/\HVars (fun _=>True) w (.slice a n c) L:=by
 obtain ⟨fuel,x,h,hw⟩:=h;obtain ⟨a,n,c,C,m,D,Pl,e,hs,_,hi⟩:=zCN Tryz.underlying22 c61 (by decide) y61 h hw;injection e with e _;obtain ⟨f,hf⟩:=zCB (n:=n) (α:=Sk.Vr) (p:=fun i x=>C i=[.int .u8 x.elem,.int .i64 x.n]) (fun i h=>by
  exact open_var (enc:=enc) (w:=w) ⟨m,_,(hi i h).1,(hi i h).2.1⟩)
 obtain ⟨l,hl,hg⟩:=zCa n f;refine ⟨a,n,c,l,e,hl.symm,C,by rw [hl];exact hs,fun i h=>?_⟩;rw [hg i h];exact hf i (by omega)
end
end Go.Proofs.YtfhghlpfeeiaeaaGreatDoor
namespace Go.Proofs.YtfhghlpfeeiaeaaGreatDoor
open Go.RowKit Go.IntWalk
theorem zBn (l:List Nat):(nI l).length=l.length:=by simp [nI]
theorem nI_get (l:List Nat) (k:Nat) (h:k<(nI l).length):(nI l)[k]=((l[k]'(by rw [zBn] at h;exact h):Nat):Int):=by simp [nI]
namespace Sk
end Sk
end Go.Proofs.YtfhghlpfeeiaeaaGreatDoor
namespace Go.Proofs.YtfhghlpfeeiaeaaGreatDoor
open Go.RowKit Go.IntWalk
namespace Sk
theorem check_code (S:Sys) (h:(check S).1=0):check S=(0,0):=by
 unfold check at h ⊢
 split
 ·rename_i q;rw [if_pos q] at h;simp at h
 ·rename_i q0
  rw [if_neg q0] at h
  split
  ·rename_i q;rw [if_pos q] at h;exact absurd h q
  ·rename_i q1
   rw [if_neg q1] at h
   split
   ·rename_i q;rw [if_pos q] at h;exact absurd h q
   ·rename_i q2
    rw [if_neg q2] at h
    split
    ·rename_i q;rw [if_pos q] at h;exact absurd h q
    ·rename_i q3
     rw [if_neg q3] at h
     split
     ·rename_i q;rw [if_pos q] at h;exact absurd h q
     ·rename_i q4
      rw [if_neg q4] at h
      split
      ·rename_i q;rw [if_pos q] at h;exact absurd h q
      ·rename_i q5
       rw [if_neg q5] at h
       split
       ·rename_i q;rw [if_pos q] at h;exact absurd h q
       ·rfl
end Sk
theorem zCr {w W':World} {v:Value} {o:Obj} (hg:(w.alloc o).grownBy W' v.ownBlock):Aside v.ownBlock.toList w.heap.size w W' :=
 ⟨hg.os,hg.tape,hg.output,Nat.le_trans (by simp) hg.size,fun k hk hn=>by
  rw [hg.block k (by simp;omega) (fun e=>hn (by rw [<-e];simp))];exact Below.heap_alloc _ _ _ hk⟩
end Go.Proofs.YtfhghlpfeeiaeaaGreatDoor
namespace Go.Proofs.YtfhghlpfeeiaeaaGreatDoor
open Go.RowKit Go.IntWalk
theorem flat_appK (C D:Nat->List Value) (n:Nat):∀ m,flat (fun q=>if q<n then C q else D (q-n)) (n+m)=flat C n++flat D m
 | 0=>by
  rw [Nat.add_zero,zCR (D:=C) n (fun q hq=>by rw [if_pos hq])];simp [flat]
 | m+1=>by
  rw [<-Nat.add_assoc,flat,flat_appK C D n m,flat,if_neg (by omega),List.append_assoc]
  congr 3
  omega
theorem zCA {α:Type} (T:Kind α) {w:World} (t ty:TypeId) (ht:Tryz.prog.underlying t=some (.slice T.ty)) {ok qF:Nat->Prop} {v u:Value} {l r:List α} (cf:OwnX T ok w v l) (hr:HRow T qF w u r)
  (yX:∀ k,v.ownBlock=some k->¬qF k) (hM:(l.length+r.length)*T.bytes<=140737488355328) (hm:l.length+r.length<=maxLen) :
  ∃ v' w',(Builtin.append_ #[t,t] ty #[v,u]).run Tryz.prog w=.ok v' w'/\OwnX T (fun k=>ok k\/qF k\/w.heap.size<=k) w' v' (l++r)/\w.grownBy w' v.ownBlock/\(v'.ownBlock=v.ownBlock\/∃ k,v'.ownBlock=some k/\w.heap.size<=k):=by
 obtain ⟨i0,hi,iM,jw,dZ⟩:=info_parts T.info;have Cp:=cf;obtain ⟨D,dC,fN,hD⟩:=cf;obtain ⟨C,hS,hC⟩:=hr;have Gm:=hS;obtain ⟨ao,cap,rfl,h2,h3,h4⟩:=hS;have DN:∀ i,i<r.length->(C i).length=T.k:=fun i hi=>T.len (hC i hi);have Rf:∀ i,i<l.length->(D i).length=T.k:=fun i hi=>T.len (hD i hi)
 cases ao with
 | none=>
  have Hg:r=[]:=by
   cases r with
   | nil=>rfl
   | cons x r=>
    obtain ⟨b,o,e,_⟩:=h4 (by simp)
    cases e
  subst Hg;have cH:(Builtin.append_ #[t,t] ty #[v,.slice none 0 cap]).run Tryz.prog w=.ok v w:=by
   rcases dC.2 with ⟨rfl,h0⟩ | ⟨g,c,cur,rfl,_,_,mA,_⟩
   ·simp [Builtin.append_,run_underlying ht,sizeOf,typeInfo,hi,Builtin.lenOf,Builtin.firstCells]
   ·simp [Builtin.append_,run_underlying ht,sizeOf,typeInfo,hi,Builtin.lenOf,Builtin.firstCells,mA,storeCells]
  refine ⟨v,w,cH,?_,⟨rfl,rfl,rfl,Nat.le_refl _,fun _ _ _=>rfl⟩,.inl rfl⟩;rw [List.append_nil];exact Cp.wide (fun i hi _=>.inl hi)
 | some a=>
  have aj:∀ x ∈ flat C r.length,x.oneCell'=true:=fun x hx=>by
   obtain ⟨i,hi,hx⟩:=flat_mem _ _ hx;exact T.one (hC i hi) x hx
  have iJ:∀ j u,(flat C r.length)[j]?=some u->w.cell? (a.add j)=some u:=by
   by_cases h0:0<r.length
   ·obtain ⟨b,o,e,hb,tX,gO⟩:=h4 h0
    injection e with e;subst e;exact Sl.news T.pos Gm
   ·intro j u hj
    have e:r.length=0:=(by omega);rw [e] at hj;simp [flat] at hj
  obtain ⟨v',w',cH,lJ,eG,gF⟩:=zCt w 0 t ty T.ty i0 T.zero T.k T.bytes ht hi iM jw dZ T.zs T.pos v l.length _ dC a r.length cap (flat C r.length) (zBx _ DN) iJ aj hm hM (Nat.zero_le _);have Lx:∀ i,i<w.heap.size->some i≠v.ownBlock->some i≠v'.ownBlock:=by
   intro i hi hne;rcases gF with h | ⟨k,hk,hl⟩
   ·rw [h];exact hne
   ·rw [hk]
    intro e;injection e with e;omega
  refine ⟨v',w',cH,⟨fun q=>if q<l.length then D q else C (q-l.length),?_,fun k hk=>?_,fun j hj=>?_⟩,eG,gF⟩
  ·rw [List.length_append,flat_appK]
   exact lJ
  ·rcases gF with h | ⟨k',oD,hl⟩
   ·exact .inl (fN k (h ▸ hk))
   ·rw [hk] at oD
    injection oD with e;subst e;exact .inr (.inr hl)
  ·by_cases e:j<l.length
   ·simp only [if_pos e,List.getElem_append_left e]
    have g0:=T.wide (ok':=fun k=>(ok k/\some k≠v.ownBlock)/\k<w.heap.size) (hD j e) (fun k hk hl=>⟨hk,hl⟩);have g1:=T.keep g0 eG.size (fun k hk hl=>eG.block k hl hk.1.2);exact T.wide g1 (fun k hk _=>⟨.inl hk.1.1,Lx k hk.2 hk.1.2⟩)
   ·have gP:j-l.length<r.length:=by simp at hj;omega
    simp only [if_neg e,List.getElem_append_right (Nat.le_of_not_lt e)];have g0:=T.wide (ok':=fun k=>qF k/\k<w.heap.size) (hC _ gP) (fun k hk hl=>⟨hk,hl⟩);have g1:=T.keep g0 eG.size (fun k hk hl=>eG.block k hl (fun e=>yX k e.symm hk.1));exact T.wide g1 (fun k hk _=>⟨.inr (.inl hk.1),Lx k hk.2 (fun e=>yX k e.symm hk.1)⟩)
theorem zBc {w w':World} {ops:Array Oper} {rest:List Oper} {o:Oper} {a:Act} {Q:Exit->Act->World->Prop} (xa:o.guard=none) (s x:Operand) (t:TypeId) (ho:o.op=.call { callee:=.builtin .append,args:=#[s,x],argTypes:=#[t,t] }) (v u v':Value) (hs:a.eval s=v) (hx:a.eval x=u)
  (hr:(Builtin.append_ #[t,t] o.type #[v,u]).run Tryz.prog w=.ok v' w') (h:wpList Tryz.prog ops Q rest (a.put o.dst v') w'):wpList Tryz.prog ops Q (o :: rest) a w:=by
 refine wpList_plain xa fun _ hK=>?_;unfold Oper.wp execOp;simp only [ho,resolve,invoke,builtin,Sem.run_bind,Sem.run_pure,Result.andThen_ok,List.map_toArray,List.map_cons,List.map_nil,hs,hx,hr];exact hK _ _ h
theorem zBg {w w':World} {o:Oper} {a:Act} {K:Act->World->Prop} {Q:Exit->Act->World->Prop} (s x:Operand) (t:TypeId) (ho:o.op=.call { callee:=.builtin .append,args:=#[s,x],argTypes:=#[t,t] }) (v u v':Value) (hs:a.eval s=v) (hx:a.eval x=u)
  (hr:(Builtin.append_ #[t,t] o.type #[v,u]).run Tryz.prog w=.ok v' w') (h:K (a.put o.dst v') w'):Oper.wp Tryz.prog o a w K Q:=by
 unfold Oper.wp execOp;simp only [ho,resolve,invoke,builtin,Sem.run_bind,Sem.run_pure,Result.andThen_ok,List.map_toArray,List.map_cons,List.map_nil,hs,hx,hr];exact h
theorem row_tail {α:Type} {T:Kind α} {ok:Nat->Prop} {w:World} {ao:Option Addr} {n cap c:Nat} {l:List α} (h:HRow T ok w (.slice ao n cap) l) (hc:c<=n):HRow T ok w (sliced ao c n cap T.k) (l.drop c):=by
 obtain ⟨C,⟨a,cp,hv,h2,h3,h4⟩,hC⟩:=h;injection hv with e1 e2 e3;subst e1 e2 e3;have hl:(l.drop c).length=l.length-c:=List.length_drop;unfold sliced;refine ⟨fun i=>C (c+i),⟨_,_,by rw [hl],by omega,by omega,fun h0=>?_⟩,fun j hj=>?_⟩
 ·rw [hl] at h0
  obtain ⟨b,o,rfl,hb,tX,gO⟩:=h4 (by omega);rw [if_neg (by omega)];have kx:(⟨b,o,none⟩:Addr).add (c*T.k)=⟨b,o+c*T.k,none⟩:=by unfold Addr.add;split<;>simp_all
  refine ⟨b,o+c*T.k,by rw [Option.map_some,kx],hb,tX,fun i hi=>?_⟩;rw [hl] at hi;have hh:=gO (c+i) (by omega);refine ⟨hh.1,fun j hj=>?_⟩;rw [<-hh.2 j hj,Nat.add_mul]
  congr 2
  omega
 ·rw [hl] at hj
  have:=hC (c+j) (by omega);rw [List.getElem_drop];exact this
theorem row_head {α:Type} {T:Kind α} {ok:Nat->Prop} {w:World} {ao:Option Addr} {n cap c:Nat} {l:List α} (h:HRow T ok w (.slice ao n cap) l) (hc:c<=n):HRow T ok w (.slice ao c cap) (l.take c):=by
 obtain ⟨C,⟨a,cp,hv,h2,h3,h4⟩,hC⟩:=h;injection hv with e1 e2 e3;subst e1 e2 e3;have hl:(l.take c).length=c:=(by rw [List.length_take];omega);refine ⟨C,⟨_,_,by rw [hl],by omega,by omega,fun h0=>?_⟩,fun j hj=>?_⟩
 ·rw [hl] at h0
  obtain ⟨b,o,rfl,hb,tX,gO⟩:=h4 (by omega);exact ⟨b,o,rfl,hb,tX,fun i hi=>gO i (by omega)⟩
 ·rw [hl] at hj
  have:=hC j (by omega);rw [List.getElem_take];exact this
theorem zBt {α:Type} {T:Kind α} {ok:Nat->Prop} {B:Nat} {w:World} {v:Value} {l:List α} (h:OwnX T ok w v l) (hk:∀ k,v.ownBlock=some k->B<=k) (hE:∀ ok ok' w cs a,T.E ok w cs a->T.E ok' w cs a):OwnL T B w v l:=by
 obtain ⟨D,⟨h1,h2⟩,h3,h4⟩:=h;refine ⟨D,⟨h1,?_⟩,fun j hj=>hE _ _ _ _ _ (h4 j hj)⟩;rcases h2 with h | ⟨g,cap,cur,e1,e2,e3⟩
 ·exact .inl h
 ·exact .inr ⟨g,cap,cur,e1,hk g (by rw [e1];rfl),e3⟩
theorem OwnX.emptyRow {α:Type} {T:Kind α} {w:World}:OwnX T (fun i=>i=w.heap.size) (w.alloc (.cells #[] T.ty (0,0))) (.slice (some ⟨w.heap.size,0,none⟩) 0 0) [] :=
 ⟨fun _=>[],⟨by simp [flat],.inr ⟨w.heap.size,0,#[],rfl,Nat.zero_le _,zBO w _,Nat.le_refl _,Nat.zero_le _,by simp,by simp [flat]⟩⟩,fun k hk=>by injection hk with hk;exact hk.symm,fun j hj=>absurd hj (Nat.not_lt_zero _)⟩
theorem zCM {w W':World} {t:TypeId} (hg:(w.alloc (.cells #[] t (0,0))).grownBy W' (Value.slice (some ⟨w.heap.size,0,none⟩) 0 0).ownBlock):Below w.heap.size w W' :=
 ⟨hg.os,hg.tape,hg.output,Nat.le_trans (by simp) hg.size,fun k hk=>by
  rw [hg.block k (by simp;omega) (fun e=>by injection e with e;have e2:k=w.heap.size:=e;omega)];exact Below.heap_alloc _ _ _ hk⟩
theorem row_nil {α:Type} {T:Kind α} {ok:Nat->Prop} {w:World} {n c:Nat} {l:List α} (h:HRow T ok w (.slice none n c) l):l=[]:=by
 obtain ⟨C,⟨ao,cap,hv,h1,h2,h3⟩,hC⟩:=h;injection hv with e1 e2 e3;subst e1
 cases l with
 | nil=>rfl
 | cons x r=>
  obtain ⟨b,o,e,_⟩:=h3 (by simp)
  cases e
theorem Tryz.infoPu:(Tryz.prog.info? 66).map (fun i=>(i.zero,i.size,i.bytes))=some (some (.agg #[.int .i64 0,.int .i64 0,.int .i64 0,.int .i64 0]),4,32):=by kernel_rfl
def kPu:Kind Pu where
 ty:=66
 k:=4
 bytes:=32
 zero:=.agg #[.int .i64 0,.int .i64 0,.int .i64 0,.int .i64 0]
 E:=fun _ _ cs p=>cs=p.cs
 pos:=by decide
 zs:=rfl
 info:=Tryz.infoPu
 len:=by rintro _ _ _ _ rfl;rfl
 one:=by rintro _ _ _ _ rfl;intro u hu;simp [Pu.cs] at hu;rcases hu with rfl | rfl | rfl | rfl<;>rfl
 keep:=by rintro _ _ _ _ _ rfl _ _;rfl
 wide:=by rintro _ _ _ _ _ rfl _;rfl
theorem pus_row {ok:Nat->Prop} {w:World} {v:Value} {l:List Pu} (h:HRow kPu ok w v l):HPu ok w v l:=h
theorem Tryz.infoLg:(Tryz.prog.info? 2).map (fun i=>(i.zero,i.size,i.bytes))=some (some (.int .i64 0),1,8):=by kernel_rfl
def kLong:Kind Int where
 ty:=2
 k:=1
 bytes:=8
 zero:=.int .i64 0
 E:=fun _ _ cs x=>cs=[.int .i64 x]
 pos:=by decide
 zs:=rfl
 info:=Tryz.infoLg
 len:=by rintro _ _ _ _ rfl;rfl
 one:=by rintro _ _ _ _ rfl;simp;rfl
 keep:=by rintro _ _ _ _ _ rfl _ _;rfl
 wide:=by rintro _ _ _ _ _ rfl _;rfl
theorem zDF {ok:Nat->Prop} {w:World} {v:Value} {l:List Int} (h:HRow kLong ok w v l):HInts ok w v l:=h
theorem zAI {ok:Nat->Prop} {w:World} {v:Value} {l:List Sk.Vr} (hl:HRow kVar ok w v l) (hlen:l.length<=1000000) :
  Calls Tryz.prog 13 #[v] w fun e w'=>∃ v',e=.returned v'/\OwnL kVar w.heap.size w' v' l/\Below w.heap.size w w':=by
 obtain ⟨a,c,rfl,bH,cG⟩:=hl.form
 cases a with
 | none=>
  have h0:=row_nil hl;subst h0;clear hl;have heq:∀ W,(binOp BinOp.eql 22 (.slice none 0 c) (.slice none 0 0)).run Tryz.prog W=.ok (.bool true) W:=fun W=>by kernel_rfl
  go_enter Tryz.func13,Tryz.ntmps13;go_wp2;go_ret;exact ⟨_,rfl,OwnL.nil,Below.refl _ _⟩
 | some ad=>
  have bA:Below w.heap.size w (w.alloc (.cells #[] 39 (0,0))):=(Below.refl _ _).alloc zBR _;have jz:HRow kVar (fun i=>i<w.heap.size) (w.alloc (.cells #[] 39 (0,0))) (.slice (some ad) l.length c) l:=(hl.wide (ok':=fun i=>i<w.heap.size) fun i _ h=>h).keep bA.size (fun i _ h=>bA.block i h);obtain ⟨v',w',cH,hX,hg,gF⟩:=zCA kVar 22 22 Tryz.underlying22 (OwnX.emptyRow (T:=kVar) (w:=w)) jz (fun k hk=>by injection hk with hk;subst hk;exact Nat.lt_irrefl _) (by show (0+l.length)*16<=140737488355328;omega) (by simp;unfold maxLen;omega);have hB:=(zCM hg);have HX:=zBK hX;have Ak:=zBK gF;have HG:=zBK hg;have jv:(Builtin.append_ #[22,22] 22 #[.slice (some ⟨w.heap.size,0,none⟩) 0 0,.slice (some ad) l.length c]).run Tryz.prog (w.alloc (.cells #[] 39 (0,0)))=.ok v' w':=cH;clear hl jz hX gF hg cH;have heq:∀ W,(binOp BinOp.eql 22 (.slice (some ad) l.length c) (.slice none 0 0)).run Tryz.prog W=.ok (.bool false) W:=fun W=>by kernel_rfl
  go_enter Tryz.func13,Tryz.ntmps13
  go_wp2_with (at_builtin;refine zBc rfl _ _ 22 rfl _ _ _ (by rfl) (by rfl) jv ?_)
  go_ret;refine ⟨v',rfl,zBt HX.out (fun k hk=>?_) (fun _ _ _ _ _ h=>h),?_⟩
  ·rcases Ak.out with h | ⟨q,hq,aY⟩
   ·rw [h] at hk
    injection hk with hk;have iI:w.heap.size=k:=hk;omega
   ·rw [hq] at hk
    injection hk with hk;subst hk;have:(w.alloc (.cells #[] 39 (0,0))).heap.size=w.heap.size+1:=(by simp);have h3:(w.alloc (.cells #[] 39 (0,0))).heap.size<=q:=aY;omega
  ·exact hB
theorem zBk {ok:Nat->Prop} {w:World} {v:Value} {l:List Int} (hl:HRow kInt ok w v l) (hlen:l.length<=1000000) :
  Calls Tryz.prog 14 #[v] w fun e w'=>∃ v',e=.returned v'/\OwnL kInt w.heap.size w' v' l/\Below w.heap.size w w':=by
 obtain ⟨a,c,rfl,bH,cG⟩:=hl.form
 cases a with
 | none=>
  have h0:=row_nil hl;subst h0;clear hl;have heq:∀ W,(binOp BinOp.eql 23 (.slice none 0 c) (.slice none 0 0)).run Tryz.prog W=.ok (.bool true) W:=fun W=>by kernel_rfl
  go_enter Tryz.func14,Tryz.ntmps14;go_wp2;go_ret;exact ⟨_,rfl,OwnL.nil,Below.refl _ _⟩
 | some ad=>
  have bA:Below w.heap.size w (w.alloc (.cells #[] 3 (0,0))):=(Below.refl _ _).alloc zBR _;have jz:HRow kInt (fun i=>i<w.heap.size) (w.alloc (.cells #[] 3 (0,0))) (.slice (some ad) l.length c) l:=(hl.wide (ok':=fun i=>i<w.heap.size) fun i _ h=>h).keep bA.size (fun i _ h=>bA.block i h);obtain ⟨v',w',cH,hX,hg,gF⟩:=zCA kInt 23 23 Tryz.underlying23 (OwnX.emptyRow (T:=kInt) (w:=w)) jz (fun k hk=>by injection hk with hk;subst hk;exact Nat.lt_irrefl _) (by show (0+l.length)*8<=140737488355328;omega) (by simp;unfold maxLen;omega);have hB:=(zCM hg);have HX:=zBK hX;have Ak:=zBK gF;have HG:=zBK hg;have jv:(Builtin.append_ #[23,23] 23 #[.slice (some ⟨w.heap.size,0,none⟩) 0 0,.slice (some ad) l.length c]).run Tryz.prog (w.alloc (.cells #[] 3 (0,0)))=.ok v' w':=cH;clear hl jz hX gF hg cH;have heq:∀ W,(binOp BinOp.eql 23 (.slice (some ad) l.length c) (.slice none 0 0)).run Tryz.prog W=.ok (.bool false) W:=fun W=>by kernel_rfl
  go_enter Tryz.func14,Tryz.ntmps14
  go_wp2_with (at_builtin;refine zBc rfl _ _ 23 rfl _ _ _ (by rfl) (by rfl) jv ?_)
  go_ret;refine ⟨v',rfl,zBt HX.out (fun k hk=>?_) (fun _ _ _ _ _ h=>h),?_⟩
  ·rcases Ak.out with h | ⟨q,hq,aY⟩
   ·rw [h] at hk
    injection hk with hk;have iI:w.heap.size=k:=hk;omega
   ·rw [hq] at hk
    injection hk with hk;subst hk;have:(w.alloc (.cells #[] 3 (0,0))).heap.size=w.heap.size+1:=(by simp);have h3:(w.alloc (.cells #[] 3 (0,0))).heap.size<=q:=aY;omega
  ·exact hB
theorem clone93_any {ok:Nat->Prop} {w:World} {v:Value} {l:List Pu} (hl:HRow kPu ok w v l) (hlen:l.length<=1000000) :
  Calls Tryz.prog 29 #[v] w fun e w'=>∃ v',e=.returned v'/\OwnL kPu w.heap.size w' v' l/\Below w.heap.size w w':=by
 obtain ⟨a,c,rfl,bH,cG⟩:=hl.form
 cases a with
 | none=>
  have h0:=row_nil hl;subst h0;clear hl;have heq:∀ W,(binOp BinOp.eql 40 (.slice none 0 c) (.slice none 0 0)).run Tryz.prog W=.ok (.bool true) W:=fun W=>by kernel_rfl
  go_enter Tryz.func29,Tryz.ntmps29;go_wp2;go_ret;exact ⟨_,rfl,OwnL.nil,Below.refl _ _⟩
 | some ad=>
  have bA:Below w.heap.size w (w.alloc (.cells #[] 66 (0,0))):=(Below.refl _ _).alloc zBR _;have jz:HRow kPu (fun i=>i<w.heap.size) (w.alloc (.cells #[] 66 (0,0))) (.slice (some ad) l.length c) l:=(hl.wide (ok':=fun i=>i<w.heap.size) fun i _ h=>h).keep bA.size (fun i _ h=>bA.block i h);obtain ⟨v',w',cH,hX,hg,gF⟩:=zCA kPu 40 40 Tryz.underlying40 (OwnX.emptyRow (T:=kPu) (w:=w)) jz (fun k hk=>by injection hk with hk;subst hk;exact Nat.lt_irrefl _) (by show (0+l.length)*32<=140737488355328;omega) (by simp;unfold maxLen;omega);have hB:=(zCM hg);have HX:=zBK hX;have Ak:=zBK gF;have HG:=zBK hg;have jv:(Builtin.append_ #[40,40] 40 #[.slice (some ⟨w.heap.size,0,none⟩) 0 0,.slice (some ad) l.length c]).run Tryz.prog (w.alloc (.cells #[] 66 (0,0)))=.ok v' w':=cH;clear hl jz hX gF hg cH;have heq:∀ W,(binOp BinOp.eql 40 (.slice (some ad) l.length c) (.slice none 0 0)).run Tryz.prog W=.ok (.bool false) W:=fun W=>by kernel_rfl
  go_enter Tryz.func29,Tryz.ntmps29
  go_wp2_with (at_builtin;refine zBc rfl _ _ 40 rfl _ _ _ (by rfl) (by rfl) jv ?_)
  go_ret;refine ⟨v',rfl,zBt HX.out (fun k hk=>?_) (fun _ _ _ _ _ h=>h),?_⟩
  ·rcases Ak.out with h | ⟨q,hq,aY⟩
   ·rw [h] at hk
    injection hk with hk;have iI:w.heap.size=k:=hk;omega
   ·rw [hq] at hk
    injection hk with hk;subst hk;have:(w.alloc (.cells #[] 66 (0,0))).heap.size=w.heap.size+1:=(by simp);have h3:(w.alloc (.cells #[] 66 (0,0))).heap.size<=q:=aY;omega
  ·exact hB
end Go.Proofs.YtfhghlpfeeiaeaaGreatDoor
