import Derived.Test.YtophfbefnaelfaaGreatDoorM36
import Derived.Test.YtophfbefnaelfaaGreatDoorM37
import Derived.Test.YtophfbefnaelfaaGreatDoorM47
import Derived.Test.YtophfbefnaelfaaGreatDoorM10
import Derived.Test.YtophfbefnaelfaaGreatDoorRows
import Derived.Lib.LaidTab
import Derived.LaidSub
import Derived.FnData
import Derived.Test.YtophfbefnaelfaaGreatDoorM06
set_option linter.unusedVariables false
set_option linter.unusedSimpArgs false
set_option maxHeartbeats 64000000
set_option maxRecDepth 100000
namespace Go.Proofs.YtophfbefnaelfaaGreatDoor
open Go.RowKit Go.IntWalk
theorem GlobT.under {w w':World} (h:GlobT w) (b:Below w.heap.size w w'):GlobT w':=h.keep b.size (b.block 6 h.1)
theorem Gl.under {w w':World} (h:Gl (fun i=>i<w.heap.size) w) (b:Below w.heap.size w w'):Gl (fun i=>i<w'.heap.size) w':=by
 have g:=h.keep (Keep.ofBelow b);have:=b.size;exact ⟨g.s,g.o,g.t,Nat.lt_of_lt_of_le h.k0 this,Nat.lt_of_lt_of_le h.k1 this,Nat.lt_of_lt_of_le h.k2 this⟩
end Go.Proofs.YtophfbefnaelfaaGreatDoor
namespace Go.Proofs.YtophfbefnaelfaaGreatDoor
open Go.RowKit Go.IntWalk
namespace Ld
variable {H:Type} {enc:TypeId × Value→H} {P:Program} {w:World} {base:Nat} {sp:Nat→Bool} {held:Bool}
theorem cells_of_strs {fuel:Nat} {t e:TypeId} {n:Nat} {cs:List Value} {zs:List (List UInt8)} {p:List MemPlace}
  (ht:P.underlying t=some (.array n e)) (he:P.underlying e=some .string) (hce:P.cellsOf e=1) (hct:P.cellsOf t=n)
  (h:DataW.trod enc P w base sp held fuel t cs=some (.agg (zs.map fun z=>.lit (.string z)),p)):cs=zs.map fun z=>Value.string (str z):=by
 cases fuel with
 | zero=>simp [DataW.trod] at h
 | succ fuel=>
  simp only [DataW.trod,ht,hce,hct,Nat.mul_one] at h
  split at h
  ·rename_i hl
   obtain ⟨xs,hm,hx⟩:=Option.map_eq_some_iff.1 h;have hxs:xs.map (·.1)=zs.map fun z=>(DataW.lit (.string z):DataW H):=by
    have:=congrArg Prod.fst hx
    simpa using this
   have hxl:xs.length=n:=(by simpa using Lib.mapM_length hm);have hzl:zs.length=n:=by
    have:=congrArg List.length hxs;simp at this;omega
   apply List.ext_getElem?
   intro i;by_cases hi:i<n
   ·obtain ⟨b,hb,hf⟩:=Lib.mapM_at hm i i (by simp [hi])
    obtain ⟨s,hc,rfl,_⟩:=DataW.trod_string he hf;have h1:cs[i]?=some (.string s):=by
     have:=congrArg (·[0]?) hc
     simpa [List.getElem?_take,List.getElem?_drop] using this
    have h2:(xs.map (·.1))[i]?=some (DataW.lit (.string s.data.toList):DataW H):=(by simp [hb]);rw [hxs] at h2;simp only [List.getElem?_map,Option.map_eq_some_iff,DataW.lit.injEq,Lit.string.injEq] at h2;obtain ⟨z',hz',rfl⟩:=h2;simp [h1,hz',str]
   ·rw [List.getElem?_eq_none (by omega),List.getElem?_eq_none (by simp;omega)]
  ·cases h
def fieldsOf (P:Program) (t:TypeId):Option (List (TypeId × Nat)) :=
 match P.underlying t with
 | some (.struct fs)=>some (fs.toList.map fun f=>(f.type,f.offset))
 | _=>none
theorem trod_field {fuel:Nat} {t:TypeId} {cs:List Value} {L:List (TypeId × Nat)} {d:DataW H} {p:List MemPlace} (hF:fieldsOf P t=some L)
  (h:DataW.trod enc P w base sp held fuel t cs=some (d,p)) {j:Nat} {u:TypeId} {off:Nat} (hj:L[j]?=some (u,off)) :
  ∃ ds fuel' d' p',d=.agg ds∧ds[j]?=some d'∧DataW.trod enc P w base sp held fuel' u ((cs.drop off).take (P.cellsOf u))=some (d',p'):=by
 unfold fieldsOf at hF
 split at hF
 ·rename_i fs hu
  obtain rfl:=Option.some.inj hF
  cases fuel with
  | zero=>simp [DataW.trod] at h
  | succ fuel=>
   simp only [DataW.trod,hu] at h
   split at h
   ·obtain ⟨xs,hm,hx⟩:=Option.map_eq_some_iff.1 h
    simp only [List.getElem?_map,Option.map_eq_some_iff] at hj;obtain ⟨f,hf,hfe⟩:=hj;obtain ⟨b,hb,hb2⟩:=Lib.mapM_at hm j f hf;injection hfe with e1 e2;subst e1 e2;refine ⟨xs.map (·.1),fuel,b.1,b.2,?_,by simp [hb],hb2⟩;exact (congrArg Prod.fst hx).symm
   ·cases h
 ·cases hF
theorem trod_elem {fuel:Nat} {t e:TypeId} {n:Nat} {cs:List Value} {ds:List (DataW H)} {p:List MemPlace} (ht:P.underlying t=some (.array n e))
  (h:DataW.trod enc P w base sp held fuel t cs=some (.agg ds,p)) {i:Nat} (hi:i<n) :
  ∃ fuel' d' p',ds[i]?=some d'∧DataW.trod enc P w base sp held fuel' e ((cs.drop (i*P.cellsOf e)).take (P.cellsOf e))=some (d',p'):=by
 cases fuel with
 | zero=>simp [DataW.trod] at h
 | succ fuel=>
  simp only [DataW.trod,ht] at h
  split at h
  ·obtain ⟨xs,hm,hx⟩:=Option.map_eq_some_iff.1 h
   obtain ⟨b,hb,hb2⟩:=Lib.mapM_at hm i i (by simp [hi]);refine ⟨fuel,b.1,b.2,?_,hb2⟩;have:=congrArg Prod.fst hx;simp only [DataW.agg.injEq] at this;rw [←this];simp [hb]
  ·cases h
theorem row_str {fuel:Nat} {t e u:TypeId} {n c off i j:Nat} {cs:List Value} {ds:List (DataW H)} {p:List MemPlace} {L:List (TypeId × Nat)} (ht:P.underlying t=some (.array n e)) (hc:P.cellsOf e=c) (hF:fieldsOf P e=some L)
  (h:DataW.trod enc P w base sp held fuel t cs=some (.agg ds,p)) (hi:i<n) (hj:L[j]?=some (u,off)) (hu:P.underlying u=some .string) (hcu:P.cellsOf u=1) (ho:off<c)
  {es:List (DataW H)} {z:ByteArray} (hd:ds[i]?=some (.agg es)) (he:es[j]?=some (.lit (.string z.data.toList))):cs[i*c+off]?=some (.string z):=by
 obtain ⟨f1,d1,p1,h1,h2⟩:=trod_elem ht h hi;obtain ⟨ds2,f2,d2,p2,rfl,h3,h4⟩:=trod_field hF h2 hj;obtain ⟨s,h5,h6,_⟩:=DataW.trod_string hu h4;rw [hd] at h1;simp only [Option.some.injEq,DataW.agg.injEq] at h1;subst h1;rw [he] at h3;have h7:d2=.lit (.string s.data.toList):=congrArg Prod.fst h6;rw [h7] at h3;simp only [Option.some.injEq,DataW.lit.injEq,Lit.string.injEq] at h3;have hz:z=s:=by
  obtain ⟨⟨a⟩⟩:=z;obtain ⟨⟨b⟩⟩:=s;simp at h3;rw [h3]
 subst hz;have:=congrArg (·[0]?) h5;rw [hc,hcu] at this
 simpa [List.getElem?_take,List.getElem?_drop,ho] using this
theorem row_int {fuel:Nat} {t e u:TypeId} {n c off i j:Nat} {k:IntKind} {cs:List Value} {ds:List (DataW H)} {p:List MemPlace} {L:List (TypeId × Nat)} (ht:P.underlying t=some (.array n e)) (hc:P.cellsOf e=c) (hF:fieldsOf P e=some L)
  (h:DataW.trod enc P w base sp held fuel t cs=some (.agg ds,p)) (hi:i<n) (hj:L[j]?=some (u,off)) (hu:P.underlying u=some (.int k)) (hcu:P.cellsOf u=1) (ho:off<c)
  {es:List (DataW H)} {z:Int} (hd:ds[i]?=some (.agg es)) (he:es[j]?=some (.lit (.int k z))):cs[i*c+off]?=some (.int k z):=by
 obtain ⟨f1,d1,p1,h1,h2⟩:=trod_elem ht h hi;obtain ⟨ds2,f2,d2,p2,rfl,h3,h4⟩:=trod_field hF h2 hj;obtain ⟨s,h5,h6,_⟩:=DataW.trod_int hu h4;rw [hd] at h1;simp only [Option.some.injEq,DataW.agg.injEq] at h1;subst h1;rw [he] at h3;have h7:d2=.lit (.int k s):=congrArg Prod.fst h6;rw [h7] at h3;simp only [Option.some.injEq,DataW.lit.injEq,Lit.int.injEq,true_and] at h3;subst h3;have:=congrArg (·[0]?) h5;rw [hc,hcu] at this
 simpa [List.getElem?_take,List.getElem?_drop,ho] using this
end Ld
theorem heap_lt {W:World} {g j:Nat} {v:Value} (h:W.cell? ⟨g,j,none⟩=some v):g<W.heap.size:=by
 apply Classical.byContradiction
 intro hlt;have:W.heap[g]?=none:=(by simp;omega);simp [World.cell?,this] at h
def shapesL:List (DataW Unit):=Rn.shpT.map fun s=>.agg [.lit (.string s.1.data.toList),.lit (.int .i64 s.2.1),.lit (.int .i64 s.2.2.1),.lit (.int .i64 s.2.2.2.1),.lit (.int .i64 s.2.2.2.2.1),.lit (.int .i64 s.2.2.2.2.2)]
theorem shapes_eq:Rows.laid_loomwork_render_shapes=.agg shapesL:=rfl
theorem globS_of {W : World} (h : laidMetH Tryz.prog [("loomwork/render.shapes", Rows.laid_loomwork_render_shapes)] W) : GlobS W := by
 have h : laidMet Tryz.prog [("loomwork/render.shapes", Rows.laid_loomwork_render_shapes)] W := h;obtain ⟨ps, ⟨g', t', cs, fuel, p, q, hg', ht', hvar, hd, _, _⟩, _⟩ := h;obtain rfl := Option.some.inj ((show Tryz.prog.globalNamed "loomwork/render.shapes" = some 0 by kernel_rfl).symm.trans hg');obtain rfl := Option.some.inj ((show (Tryz.prog.globals[0]?).map (·.type) = some 165 by kernel_rfl).symm.trans ht');rw [shapes_eq] at hd;have hu : Tryz.prog.underlying 165 = some (.array 16 164) := (by kernel_rfl);have hF : Ld.fieldsOf Tryz.prog 164 = some [(9, 0), (3, 1), (3, 2), (3, 3), (3, 4), (3, 5)] := (by kernel_rfl);have hc : Tryz.prog.cellsOf 164 = 6 := (by kernel_rfl);have h9 : Tryz.prog.cellsOf 9 = 1 := (by kernel_rfl);have h3 : Tryz.prog.cellsOf 3 = 1 := (by kernel_rfl);have u3 : Tryz.prog.underlying 3 = some (.int .i64) := (by kernel_rfl);have u9 : Tryz.prog.underlying 9 = some .string := (by kernel_rfl);have hv := fun j => World.var?_cell (show Tryz.prog.globalNamed "loomwork/render.shapes" = some 0 by kernel_rfl) hvar j;have hL : ∀ k, k < 16 → shapesL[k]? = some (.agg [.lit (.string (Rn.shp k).1.data.toList), .lit (.int .i64 (Rn.shp k).2.1), .lit (.int .i64 (Rn.shp k).2.2.1), .lit (.int .i64 (Rn.shp k).2.2.2.1), .lit (.int .i64 (Rn.shp k).2.2.2.2.1), .lit (.int .i64 (Rn.shp k).2.2.2.2.2)]) := by
  intro k hk;have hk':k<Rn.shpT.length:=hk;unfold shapesL Rn.shp;rw [List.getElem?_map,List.getElem?_eq_getElem hk',List.getD_eq_getElem?_getD,List.getElem?_eq_getElem hk'];rfl
 have hall:∀ k,k<16→W.cell? ⟨0,k*6,none⟩=some (.string (Rn.shp k).1)∧W.cell? ⟨0,k*6+1,none⟩=some (.int .i64 (Rn.shp k).2.1)∧W.cell? ⟨0,k*6+2,none⟩=some (.int .i64 (Rn.shp k).2.2.1)∧W.cell? ⟨0,k*6+3,none⟩=some (.int .i64 (Rn.shp k).2.2.2.1)∧W.cell? ⟨0,k*6+4,none⟩=some (.int .i64 (Rn.shp k).2.2.2.2.1)∧W.cell? ⟨0,k*6+5,none⟩=some (.int .i64 (Rn.shp k).2.2.2.2.2):=by
  intro k hk;have e:=hL k hk;refine ⟨?_,?_,?_,?_,?_,?_⟩
  ·rw [hv,←Array.getElem?_toList];exact Ld.row_str (j:=0) hu hc hF hd hk rfl u9 h9 (by decide) e rfl
  ·rw [hv,←Array.getElem?_toList];exact Ld.row_int (j:=1) hu hc hF hd hk rfl u3 h3 (by decide) e rfl
  ·rw [hv,←Array.getElem?_toList];exact Ld.row_int (j:=2) hu hc hF hd hk rfl u3 h3 (by decide) e rfl
  ·rw [hv,←Array.getElem?_toList];exact Ld.row_int (j:=3) hu hc hF hd hk rfl u3 h3 (by decide) e rfl
  ·rw [hv,←Array.getElem?_toList];exact Ld.row_int (j:=4) hu hc hF hd hk rfl u3 h3 (by decide) e rfl
  ·rw [hv,←Array.getElem?_toList];exact Ld.row_int (j:=5) hu hc hF hd hk rfl u3 h3 (by decide) e rfl
 exact ⟨heap_lt (hall 0 (by decide)).1,hall⟩
def opsL:List (DataW Unit):=Tx.opsT.map fun s=>.agg [.lit (.string s.1.data.toList),.lit (.string s.2.1.data.toList),.lit (.int .i64 s.2.2)]
theorem ops_eq:Rows.laid_loomwork_render_operators=.agg opsL:=rfl
theorem globO_of {W : World} (h : laidMetH Tryz.prog [("loomwork/render.operators", Rows.laid_loomwork_render_operators)] W) : GlobO W := by
 have h : laidMet Tryz.prog [("loomwork/render.operators", Rows.laid_loomwork_render_operators)] W := h;obtain ⟨ps, ⟨g', t', cs, fuel, p, q, hg', ht', hvar, hd, _, _⟩, _⟩ := h;obtain rfl := Option.some.inj ((show Tryz.prog.globalNamed "loomwork/render.operators" = some 2 by kernel_rfl).symm.trans hg');obtain rfl := Option.some.inj ((show (Tryz.prog.globals[2]?).map (·.type) = some 181 by kernel_rfl).symm.trans ht');rw [ops_eq] at hd;have hu : Tryz.prog.underlying 181 = some (.array 15 180) := (by kernel_rfl);have hF : Ld.fieldsOf Tryz.prog 180 = some [(9, 0), (9, 1), (3, 2)] := (by kernel_rfl);have hc : Tryz.prog.cellsOf 180 = 3 := (by kernel_rfl);have h9 : Tryz.prog.cellsOf 9 = 1 := (by kernel_rfl);have h3 : Tryz.prog.cellsOf 3 = 1 := (by kernel_rfl);have u3 : Tryz.prog.underlying 3 = some (.int .i64) := (by kernel_rfl);have u9 : Tryz.prog.underlying 9 = some .string := (by kernel_rfl);have hv := fun j => World.var?_cell (show Tryz.prog.globalNamed "loomwork/render.operators" = some 2 by kernel_rfl) hvar j;have hL : ∀ k, k < 15 → opsL[k]? = some (.agg [.lit (.string (Tx.opT k).1.data.toList), .lit (.string (Tx.opT k).2.1.data.toList), .lit (.int .i64 (Tx.opT k).2.2)]) := by
  intro k hk;have hk':k<Tx.opsT.length:=hk;unfold opsL Tx.opT;rw [List.getElem?_map,List.getElem?_eq_getElem hk',List.getD_eq_getElem?_getD,List.getElem?_eq_getElem hk'];rfl
 have hall:∀ k,k<15→W.cell? ⟨2,k*3,none⟩=some (.string (Tx.opT k).1)∧W.cell? ⟨2,k*3+1,none⟩=some (.string (Tx.opT k).2.1)∧W.cell? ⟨2,k*3+2,none⟩=some (.int .i64 (Tx.opT k).2.2):=by
  intro k hk;have e:=hL k hk;refine ⟨?_,?_,?_⟩
  ·rw [hv,←Array.getElem?_toList];exact Ld.row_str (j:=0) hu hc hF hd hk rfl u9 h9 (by decide) e rfl
  ·rw [hv,←Array.getElem?_toList];exact Ld.row_str (j:=1) hu hc hF hd hk rfl u9 h9 (by decide) e rfl
  ·rw [hv,←Array.getElem?_toList];exact Ld.row_int (j:=2) hu hc hF hd hk rfl u3 h3 (by decide) e rfl
 exact ⟨heap_lt (hall 0 (by decide)).1,hall⟩
theorem globT_of {W : World} (h : laidMetH Tryz.prog [("loomwork/syntax.operators", Rows.laid_loomwork_syntax_operators)] W) : GlobT W := by
 have h : laidMet Tryz.prog [("loomwork/syntax.operators", Rows.laid_loomwork_syntax_operators)] W := h;obtain ⟨ps, ⟨g', t', cs, fuel, p, q, hg', ht', hvar, hd, _, _⟩, _⟩ := h;obtain rfl := Option.some.inj ((show Tryz.prog.globalNamed "loomwork/syntax.operators" = some 6 by kernel_rfl).symm.trans hg');obtain rfl := Option.some.inj ((show (Tryz.prog.globals[6]?).map (·.type) = some 198 by kernel_rfl).symm.trans ht');have hcs := Ld.cells_of_strs (zs := Ps.words) (show Tryz.prog.underlying 198 = some (.array 14 9) by kernel_rfl) (show Tryz.prog.underlying 9 = some .string by kernel_rfl) (by kernel_rfl) (by kernel_rfl) hd;have hc : ∀ j (h : j < Ps.words.length), W.cell? ⟨6, j, none⟩ = some (.string (str Ps.words[j])) := by
  intro j hj;have := World.var?_cell (show Tryz.prog.globalNamed "loomwork/syntax.operators" = some 6 by kernel_rfl) hvar j;rw [this, ← Array.getElem?_toList, hcs];simp [hj]
 exact ⟨heap_lt (hc 0 (by decide)),hc⟩
theorem pow_eq:Rows.laid_internal_strconv_uint64pow10=(Lib.tabData .u64 Lib.pow10Tab:DataW Unit):=rfl
theorem tabN_of {W : World} (h : laidMetH Tryz.prog [("internal/strconv.uint64pow10", Rows.laid_internal_strconv_uint64pow10)] W) : TabN W := by
 have h : laidMet Tryz.prog [("internal/strconv.uint64pow10", Rows.laid_internal_strconv_uint64pow10)] W := h;rw [pow_eq] at h;exact Lib.tabIs_of_head named1 (show (Tryz.prog.globals[1]?).map (·.type) = some 169 by kernel_rfl) (show Tryz.prog.underlying 169 = some (.array 20 153) by kernel_rfl) (by kernel_rfl) (by kernel_rfl) (by kernel_rfl) h
theorem laid_all {W:World} (h:laidMetH Tryz.prog Rows.renderChecksRow.laid W):GlobT W∧Gl (fun i=>i<W.heap.size) W:=by
 have hT : GlobT W := globT_of (h.filter (fun x => x.1 == "loomwork/syntax.operators"));have hS : GlobS W := globS_of (h.filter (fun x => x.1 == "loomwork/render.shapes"));have hO : GlobO W := globO_of (h.filter (fun x => x.1 == "loomwork/render.operators"));have hN : TabN W := tabN_of (h.filter (fun x => x.1 == "internal/strconv.uint64pow10"));exact ⟨hT, hS, hO, hN, hS.1, hN.lt, hO.1⟩
end Go.Proofs.YtophfbefnaelfaaGreatDoor
namespace Go.Proofs.YtophfbefnaelfaaGreatDoor
open Go.RowKit Go.IntWalk
theorem refExprs_step (q:Nat) (HL:ComparesR q) {ok ok':Nat→Prop} {w:World} {v u:Value} {l r:List Ex} (hqq:partsL l<q+1) (hl:HExs ok w v l) (hr:HExs ok' w u r) :
  Calls Tryz.prog 35 #[v,u] w fun e w'=>e=.returned (.bool (eqL xeq l r))∧∃ m,w'=w.drewN m:=by
 obtain ⟨ao,cap,rfl,hc1,hc2,hat⟩:=hl.at;obtain ⟨ao',cap',rfl,hd1,hd2,hat'⟩:=hr.at;unfold maxLen at hc2 hd2;have HQ:=hide hqq;clear hqq;obtain ⟨R,hR⟩:=nmQ (eqL xeq l r);rw [←hR];have HR:=hide hR;clear hR hl hr;obtain ⟨n,hn⟩:=nmQ (l.length);obtain ⟨m,hm⟩:=nmQ (r.length);rw [←hn] at hc1 ⊢;rw [←hm] at hd1 ⊢;have HN:=hide hn;have HM:=hide hm;by_cases hlen:n=m
 ·subst hlen
  have hq:((n:Int) != (n:Int))=false:=(by simp);clear hn hm;go_enter Tryz.func35,Tryz.ntmps35;go_wp2;go_loopg [5] n (fun k v wr=>∃ i d,i≤n∧k=n-i∧v=.int .i64 (i:Nat)∧Hid (∀ j (h:j<l.length) (h':j<r.length),j<i→xeq l[j] r[j]=true)∧wr=w.drewN d)
  case atStart=>exact ⟨0,0,Nat.zero_le _,rfl,rfl,fun j _ _ h=>absurd h (Nat.not_lt_zero _),rfl⟩
  case round=>
   obtain ⟨i,d,hi,rfl,rfl,H,hW⟩:=hrel;have HW:=hide hW;clear hW;by_cases hlt:i<n
   ·have hil:i<l.length:=by have:=HN.out;omega
    have hir:i<r.length:=(by have:=HM.out;omega);obtain ⟨b,o,x,rfl,_,hb,hxa,hx⟩:=hat i hil;obtain ⟨b',o',y,rfl,_,hb',hya,hy⟩:=hat' i hir;obtain ⟨c0,c1,c2,c3,c4,c5⟩:=hxa.keep (w':=wr) (by rw [HW.out];rfl);obtain ⟨d0,d1,d2,d3,d4,d5⟩:=hya.keep (w':=wr) (by rw [HW.out];rfl);obtain ⟨x1,x2,x3,x4,xS,xL⟩:=hx.parts;obtain ⟨y1,y2,y3,y4,yS,yL⟩:=hy.parts;rw [x1] at c0;rw [x2] at c1;rw [x3] at c2;rw [x4] at c3;rw [y1] at d0;rw [y2] at d1;rw [y3] at d2;rw [y4] at d3;obtain ⟨p,hp⟩:=nmQ (l[i]);obtain ⟨s,hs⟩:=nmQ (r[i]);have hqi:parts l[i]<q+1:=Nat.lt_of_le_of_lt (parts_mem l i hil) HQ.out;rw [←hp] at c0 c1 c2 c3 xS xL hqi;rw [←hs] at d0 d1 d2 d3 yS yL;have HX:=hide hp;have HY:=hide hs;clear hxa hya hx hy x1 x2 x3 x4 y1 y2 y3 y4 hp hs;obtain ⟨ao,ak,an,am,aS,aL⟩:=p;obtain ⟨bo,bk,bn,bs,bS,bL⟩:=s;simp only [Ex.op,Ex.k,Ex.n,Ex.name,Ex.S,Ex.L] at c0 c1 c2 c3 d0 d1 d2 d3 xS xL yS yL;have hqL:partsL aL<q:=(by rw [parts] at hqi;omega);have callS:=fun z=>refSizes_any (w:=wr.drewN z) (xS.under (drewN2 HW.out z)) (yS.under (drewN2 HW.out z));have callL:=fun z=>HL _ _ (wr.drewN z) _ _ _ _ hqL (xL.under (drewN2 HW.out z)) (yL.under (drewN2 HW.out z));clear xS xL yS yL hqi hqL;clear hat hat'
    cases h0:(ao==bo)
    ·
     have hbad:xeq l[i] r[i]=false:=(by rw [←HX.out,←HY.out];simp [xeq,seq,xeqs_eq,h0]);have HBAD:=hide hbad;clear hbad;clear callS callL;have k0:(ao != bo)=true:=(by rw [bne,h0];rfl)
     as_aux_lemma=>
      go_wp2_with fail
      (simp only [List.append_eq,List.cons_append,List.nil_append];go_quiet (first | (go_at_call 34;refine Calls.quiet_of (callS _)) | (go_at_call 35;refine Calls.quiet_of (callL _))))
      go_wp2;go_ret;refine ⟨ret_bool ?_,_,by rw [HW.out];exact World.drewN_drewN _ _ _⟩;rw [HR.out];exact (eqL_bad i hil hir HBAD.out).symm
    ·
     have k0:(ao != bo)=false:=(by rw [bne,h0];rfl)
     cases h1:(ak==bk)
     ·
      have hbad:xeq l[i] r[i]=false:=(by rw [←HX.out,←HY.out];simp [xeq,seq,xeqs_eq,h0,h1]);have HBAD:=hide hbad;clear hbad;clear callS callL;have k1:(ak != bk)=true:=(by rw [bne,h1];rfl)
      as_aux_lemma=>
       go_wp2_with fail
       (simp only [List.append_eq,List.cons_append,List.nil_append];go_quiet (first | (go_at_call 34;refine Calls.quiet_of (callS _)) | (go_at_call 35;refine Calls.quiet_of (callL _))))
       go_wp2;go_ret;refine ⟨ret_bool ?_,_,by rw [HW.out];exact World.drewN_drewN _ _ _⟩;rw [HR.out];exact (eqL_bad i hil hir HBAD.out).symm
     ·
      have k1:(ak != bk)=false:=(by rw [bne,h1];rfl)
      cases h2:(am.toList==bs.toList)
      ·
       have hbad:xeq l[i] r[i]=false:=(by rw [←HX.out,←HY.out];simp [xeq,seq,xeqs_eq,h0,h1,h2]);have HBAD:=hide hbad;clear hbad;clear callS callL
       as_aux_lemma=>
        go_wp2_with fail
        (simp only [List.append_eq,List.cons_append,List.nil_append];go_quiet (first | (go_at_call 34;refine Calls.quiet_of (callS _)) | (go_at_call 35;refine Calls.quiet_of (callL _))))
        go_wp2;go_ret;refine ⟨ret_bool ?_,_,by rw [HW.out];exact World.drewN_drewN _ _ _⟩;rw [HR.out];exact (eqL_bad i hil hir HBAD.out).symm
      ·
       cases h3:(an==bn)
       ·
        have hbad:xeq l[i] r[i]=false:=(by rw [←HX.out,←HY.out];simp [xeq,seq,xeqs_eq,h0,h1,h2,h3]);have HBAD:=hide hbad;clear hbad;clear callS callL;have k3:(an != bn)=true:=(by rw [bne,h3];rfl)
        as_aux_lemma=>
         go_wp2_with fail
         (simp only [List.append_eq,List.cons_append,List.nil_append];go_quiet (first | (go_at_call 34;refine Calls.quiet_of (callS _)) | (go_at_call 35;refine Calls.quiet_of (callL _))))
         go_wp2;go_ret;refine ⟨ret_bool ?_,_,by rw [HW.out];exact World.drewN_drewN _ _ _⟩;rw [HR.out];exact (eqL_bad i hil hir HBAD.out).symm
       ·
        have k3:(an != bn)=false:=(by rw [bne,h3];rfl)
        cases h4:eqL (eqL teq) aS bS
        ·
         have hbad:xeq l[i] r[i]=false:=(by rw [←HX.out,←HY.out];simp [xeq,seq,xeqs_eq,h0,h1,h2,h3,h4]);have HBAD:=hide hbad;clear hbad;rw [h4] at callS;clear callL
         as_aux_lemma=>
          go_wp2_with fail
          (simp only [List.append_eq,List.cons_append,List.nil_append];go_quiet (first | (go_at_call 34;refine Calls.quiet_of (callS _)) | (go_at_call 35;refine Calls.quiet_of (callL _))))
          go_wp2;go_ret;refine ⟨ret_bool ?_,_,by rw [HW.out];exact World.drewN_drewN _ _ _⟩;rw [HR.out];exact (eqL_bad i hil hir HBAD.out).symm
        ·
         rw [h4] at callS
         cases h5:eqL xeq aL bL
         ·
          have hbad:xeq l[i] r[i]=false:=(by rw [←HX.out,←HY.out];simp [xeq,seq,xeqs_eq,h0,h1,h2,h3,h4,h5]);have HBAD:=hide hbad;clear hbad;rw [h5] at callL
          as_aux_lemma=>
           go_wp2_with fail
           (simp only [List.append_eq,List.cons_append,List.nil_append];go_quiet (first | (go_at_call 34;refine Calls.quiet_of (callS _)) | (go_at_call 35;refine Calls.quiet_of (callL _))))
           go_wp2;go_ret;refine ⟨ret_bool ?_,_,by rw [HW.out];exact World.drewN_drewN _ _ _⟩;rw [HR.out];exact (eqL_bad i hil hir HBAD.out).symm
         ·
          rw [h5] at callL;have hall:xeq l[i] r[i]=true:=(by rw [←HX.out,←HY.out];simp [xeq,seq,xeqs_eq,h0,h1,h2,h3,h4,h5]);have HALL:=hide hall;clear hall
          as_aux_lemma=>
           go_wp2_with fail
           (simp only [List.append_eq,List.cons_append,List.nil_append];go_quiet (first | (go_at_call 34;refine Calls.quiet_of (callS _)) | (go_at_call 35;refine Calls.quiet_of (callL _))))
           go_wp2;go_roundg (n-(i+1))
           case measure=>omega
           case rel=>
            refine ⟨i+1,_,by omega,rfl,by go_num,fun j hj hj' hji=>?_,by rw [HW.out];exact World.drewN_drewN _ _ _⟩;by_cases e:j=i
            ·subst e
             exact HALL.out
            ·exact H.out j hj hj' (by omega)
   ·have hie:i=n:=by omega
    subst hie;clear hat hat';go_wp2;go_ret;refine ⟨ret_bool ?_,_,HW.out⟩;rw [HR.out];exact (eqL_all (by rw [←HN.out,←HM.out]) (fun j hj hj'=>H.out j hj hj' (by rw [HN.out];exact hj))).symm
 ·have hq:((n:Int) != (m:Int))=true:=by simp;omega
  clear hat hat' hn hm;go_enter Tryz.func35,Tryz.ntmps35;go_wp2;go_ret;refine ⟨ret_bool ?_,0,rfl⟩;rw [HR.out];exact (eqL_len (by rw [←HN.out,←HM.out];exact hlen)).symm
theorem comparesR:∀ q,ComparesR q
 | 0=>fun ok ok' w v u l r hq hl hr=>absurd hq (Nat.not_lt_zero _)
 | q+1=>fun ok ok' w v u l r hq hl hr=>refExprs_step q (comparesR q) hq hl hr
theorem refExprs_any {ok ok':Nat→Prop} {w:World} {v u:Value} {l r:List Ex} (hl:HExs ok w v l) (hr:HExs ok' w u r) :
  Calls Tryz.prog 35 #[v,u] w fun e w'=>e=.returned (.bool (eqL xeq l r))∧∃ m,w'=w.drewN m:=comparesR (partsL l+1) _ _ _ _ _ _ _ (Nat.lt_succ_self _) hl hr
end Go.Proofs.YtophfbefnaelfaaGreatDoor
