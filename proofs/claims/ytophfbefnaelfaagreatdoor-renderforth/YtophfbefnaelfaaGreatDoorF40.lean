import Derived.Test.YtophfbefnaelfaaGreatDoorF39
import Derived.Test.YtophfbefnaelfaaGreatDoorRows
import Derived.Lib.LaidTab
import Derived.LaidSub
import Derived.FnData
set_option linter.unusedVariables false
set_option linter.unusedSimpArgs false
set_option maxHeartbeats 64000000
set_option maxRecDepth 100000
namespace Go.Proofs.YtophfbefnaelfaaGreatDoor
open Go.RowKit Go.IntWalk
namespace Ld
variable {H:Type} {enc:TypeId × Value→H} {P:Program} {w:World} {base:Nat} {sp:Nat→Bool} {held:Bool}
theorem cells_of_strs {fuel:Nat} {t e:TypeId} {n:Nat} {cs:List Value} {zs:List (List UInt8)} {p:List MemPlace}
  (ht:P.underlying t=some (.array n e)) (he:P.underlying e=some .string) (hce:P.cellsOf e=1) (hct:P.cellsOf t=n)
  (h:DataW.trod enc P w base sp held fuel t cs=some (.agg (zs.map fun z=>.lit (.string z)),p)):cs=zs.map fun z=>Value.string (str z):=by
 cases fuel with
 | zero=>simp [DataW.trod] at h
 | succ fuel=>
  simp only [DataW.trod,ht,hce,hct,Nat.mul_one] at h
  split at h
  ·rename_i hl
   obtain ⟨xs,hm,hx⟩:=Option.map_eq_some_iff.1 h;have hxs:xs.map (·.1)=zs.map fun z=>(DataW.lit (.string z):DataW H):=by
    have:=congrArg Prod.fst hx
    simpa using this
   have hxl:xs.length=n:=(by simpa using Lib.mapM_length hm);have hzl:zs.length=n:=by
    have:=congrArg List.length hxs;simp at this;omega
   apply List.ext_getElem?
   intro i;by_cases hi:i<n
   ·obtain ⟨b,hb,hf⟩:=Lib.mapM_at hm i i (by simp [hi])
    obtain ⟨s,hc,rfl,_⟩:=DataW.trod_string he hf;have h1:cs[i]?=some (.string s):=by
     have:=congrArg (·[0]?) hc
     simpa [List.getElem?_take,List.getElem?_drop] using this
    have h2:(xs.map (·.1))[i]?=some (DataW.lit (.string s.data.toList):DataW H):=(by simp [hb]);rw [hxs] at h2;simp only [List.getElem?_map,Option.map_eq_some_iff,DataW.lit.injEq,Lit.string.injEq] at h2;obtain ⟨z',hz',rfl⟩:=h2;simp [h1,hz',str]
   ·rw [List.getElem?_eq_none (by omega),List.getElem?_eq_none (by simp;omega)]
  ·cases h
def fieldsOf (P:Program) (t:TypeId):Option (List (TypeId × Nat)) :=
 match P.underlying t with
 | some (.struct fs)=>some (fs.toList.map fun f=>(f.type,f.offset))
 | _=>none
theorem trod_field {fuel:Nat} {t:TypeId} {cs:List Value} {L:List (TypeId × Nat)} {d:DataW H} {p:List MemPlace} (hF:fieldsOf P t=some L)
  (h:DataW.trod enc P w base sp held fuel t cs=some (d,p)) {j:Nat} {u:TypeId} {off:Nat} (hj:L[j]?=some (u,off)) :
  ∃ ds fuel' d' p',d=.agg ds∧ds[j]?=some d'∧DataW.trod enc P w base sp held fuel' u ((cs.drop off).take (P.cellsOf u))=some (d',p'):=by
 unfold fieldsOf at hF
 split at hF
 ·rename_i fs hu
  obtain rfl:=Option.some.inj hF
  cases fuel with
  | zero=>simp [DataW.trod] at h
  | succ fuel=>
   simp only [DataW.trod,hu] at h
   split at h
   ·obtain ⟨xs,hm,hx⟩:=Option.map_eq_some_iff.1 h
    simp only [List.getElem?_map,Option.map_eq_some_iff] at hj;obtain ⟨f,hf,hfe⟩:=hj;obtain ⟨b,hb,hb2⟩:=Lib.mapM_at hm j f hf;injection hfe with e1 e2;subst e1 e2;refine ⟨xs.map (·.1),fuel,b.1,b.2,?_,by simp [hb],hb2⟩;exact (congrArg Prod.fst hx).symm
   ·cases h
 ·cases hF
theorem trod_elem {fuel:Nat} {t e:TypeId} {n:Nat} {cs:List Value} {ds:List (DataW H)} {p:List MemPlace} (ht:P.underlying t=some (.array n e))
  (h:DataW.trod enc P w base sp held fuel t cs=some (.agg ds,p)) {i:Nat} (hi:i<n) :
  ∃ fuel' d' p',ds[i]?=some d'∧DataW.trod enc P w base sp held fuel' e ((cs.drop (i*P.cellsOf e)).take (P.cellsOf e))=some (d',p'):=by
 cases fuel with
 | zero=>simp [DataW.trod] at h
 | succ fuel=>
  simp only [DataW.trod,ht] at h
  split at h
  ·obtain ⟨xs,hm,hx⟩:=Option.map_eq_some_iff.1 h
   obtain ⟨b,hb,hb2⟩:=Lib.mapM_at hm i i (by simp [hi]);refine ⟨fuel,b.1,b.2,?_,hb2⟩;have:=congrArg Prod.fst hx;simp only [DataW.agg.injEq] at this;rw [←this];simp [hb]
  ·cases h
theorem row_str {fuel:Nat} {t e u:TypeId} {n c off i j:Nat} {cs:List Value} {ds:List (DataW H)} {p:List MemPlace} {L:List (TypeId × Nat)} (ht:P.underlying t=some (.array n e)) (hc:P.cellsOf e=c) (hF:fieldsOf P e=some L)
  (h:DataW.trod enc P w base sp held fuel t cs=some (.agg ds,p)) (hi:i<n) (hj:L[j]?=some (u,off)) (hu:P.underlying u=some .string) (hcu:P.cellsOf u=1) (ho:off<c)
  {es:List (DataW H)} {z:ByteArray} (hd:ds[i]?=some (.agg es)) (he:es[j]?=some (.lit (.string z.data.toList))):cs[i*c+off]?=some (.string z):=by
 obtain ⟨f1,d1,p1,h1,h2⟩:=trod_elem ht h hi;obtain ⟨ds2,f2,d2,p2,rfl,h3,h4⟩:=trod_field hF h2 hj;obtain ⟨s,h5,h6,_⟩:=DataW.trod_string hu h4;rw [hd] at h1;simp only [Option.some.injEq,DataW.agg.injEq] at h1;subst h1;rw [he] at h3;have h7:d2=.lit (.string s.data.toList):=congrArg Prod.fst h6;rw [h7] at h3;simp only [Option.some.injEq,DataW.lit.injEq,Lit.string.injEq] at h3;have hz:z=s:=by
  obtain ⟨⟨a⟩⟩:=z;obtain ⟨⟨b⟩⟩:=s;simp at h3;rw [h3]
 subst hz;have:=congrArg (·[0]?) h5;rw [hc,hcu] at this
 simpa [List.getElem?_take,List.getElem?_drop,ho] using this
theorem row_int {fuel:Nat} {t e u:TypeId} {n c off i j:Nat} {k:IntKind} {cs:List Value} {ds:List (DataW H)} {p:List MemPlace} {L:List (TypeId × Nat)} (ht:P.underlying t=some (.array n e)) (hc:P.cellsOf e=c) (hF:fieldsOf P e=some L)
  (h:DataW.trod enc P w base sp held fuel t cs=some (.agg ds,p)) (hi:i<n) (hj:L[j]?=some (u,off)) (hu:P.underlying u=some (.int k)) (hcu:P.cellsOf u=1) (ho:off<c)
  {es:List (DataW H)} {z:Int} (hd:ds[i]?=some (.agg es)) (he:es[j]?=some (.lit (.int k z))):cs[i*c+off]?=some (.int k z):=by
 obtain ⟨f1,d1,p1,h1,h2⟩:=trod_elem ht h hi;obtain ⟨ds2,f2,d2,p2,rfl,h3,h4⟩:=trod_field hF h2 hj;obtain ⟨s,h5,h6,_⟩:=DataW.trod_int hu h4;rw [hd] at h1;simp only [Option.some.injEq,DataW.agg.injEq] at h1;subst h1;rw [he] at h3;have h7:d2=.lit (.int k s):=congrArg Prod.fst h6;rw [h7] at h3;simp only [Option.some.injEq,DataW.lit.injEq,Lit.int.injEq,true_and] at h3;subst h3;have:=congrArg (·[0]?) h5;rw [hc,hcu] at this
 simpa [List.getElem?_take,List.getElem?_drop,ho] using this
end Ld
theorem heap_lt {W:World} {g j:Nat} {v:Value} (h:W.cell? ⟨g,j,none⟩=some v):g<W.heap.size:=by
 apply Classical.byContradiction
 intro hlt;have:W.heap[g]?=none:=(by simp;omega);simp [World.cell?,this] at h
def shapesL:List (DataW Unit):=Rn.shpT.map fun s=>.agg [.lit (.string s.1.data.toList),.lit (.int .i64 s.2.1),.lit (.int .i64 s.2.2.1),.lit (.int .i64 s.2.2.2.1),.lit (.int .i64 s.2.2.2.2.1),.lit (.int .i64 s.2.2.2.2.2)]
theorem shapes_eq:Rows.laid_loomwork_render_shapes=.agg shapesL:=rfl
theorem globS_of {W : World} (h : laidMetH Tryz.prog [("loomwork/render.shapes", Rows.laid_loomwork_render_shapes)] W) : GlobS W := by
 have h : laidMet Tryz.prog [("loomwork/render.shapes", Rows.laid_loomwork_render_shapes)] W := h;obtain ⟨ps, ⟨g', t', cs, fuel, p, q, hg', ht', hvar, hd, _, _⟩, _⟩ := h;obtain rfl := Option.some.inj ((show Tryz.prog.globalNamed "loomwork/render.shapes" = some 0 by kernel_rfl).symm.trans hg');obtain rfl := Option.some.inj ((show (Tryz.prog.globals[0]?).map (·.type) = some 165 by kernel_rfl).symm.trans ht');rw [shapes_eq] at hd;have hu : Tryz.prog.underlying 165 = some (.array 16 164) := (by kernel_rfl);have hF : Ld.fieldsOf Tryz.prog 164 = some [(9, 0), (3, 1), (3, 2), (3, 3), (3, 4), (3, 5)] := (by kernel_rfl);have hc : Tryz.prog.cellsOf 164 = 6 := (by kernel_rfl);have h9 : Tryz.prog.cellsOf 9 = 1 := (by kernel_rfl);have h3 : Tryz.prog.cellsOf 3 = 1 := (by kernel_rfl);have u3 : Tryz.prog.underlying 3 = some (.int .i64) := (by kernel_rfl);have u9 : Tryz.prog.underlying 9 = some .string := (by kernel_rfl);have hv := fun j => World.var?_cell (show Tryz.prog.globalNamed "loomwork/render.shapes" = some 0 by kernel_rfl) hvar j;have hL : ∀ k, k < 16 → shapesL[k]? = some (.agg [.lit (.string (Rn.shp k).1.data.toList), .lit (.int .i64 (Rn.shp k).2.1), .lit (.int .i64 (Rn.shp k).2.2.1), .lit (.int .i64 (Rn.shp k).2.2.2.1), .lit (.int .i64 (Rn.shp k).2.2.2.2.1), .lit (.int .i64 (Rn.shp k).2.2.2.2.2)]) := by
  intro k hk;have hk':k<Rn.shpT.length:=hk;unfold shapesL Rn.shp;rw [List.getElem?_map,List.getElem?_eq_getElem hk',List.getD_eq_getElem?_getD,List.getElem?_eq_getElem hk'];rfl
 have hall:∀ k,k<16→W.cell? ⟨0,k*6,none⟩=some (.string (Rn.shp k).1)∧W.cell? ⟨0,k*6+1,none⟩=some (.int .i64 (Rn.shp k).2.1)∧W.cell? ⟨0,k*6+2,none⟩=some (.int .i64 (Rn.shp k).2.2.1)∧W.cell? ⟨0,k*6+3,none⟩=some (.int .i64 (Rn.shp k).2.2.2.1)∧W.cell? ⟨0,k*6+4,none⟩=some (.int .i64 (Rn.shp k).2.2.2.2.1)∧W.cell? ⟨0,k*6+5,none⟩=some (.int .i64 (Rn.shp k).2.2.2.2.2):=by
  intro k hk;have e:=hL k hk;refine ⟨?_,?_,?_,?_,?_,?_⟩
  ·rw [hv,←Array.getElem?_toList];exact Ld.row_str (j:=0) hu hc hF hd hk rfl u9 h9 (by decide) e rfl
  ·rw [hv,←Array.getElem?_toList];exact Ld.row_int (j:=1) hu hc hF hd hk rfl u3 h3 (by decide) e rfl
  ·rw [hv,←Array.getElem?_toList];exact Ld.row_int (j:=2) hu hc hF hd hk rfl u3 h3 (by decide) e rfl
  ·rw [hv,←Array.getElem?_toList];exact Ld.row_int (j:=3) hu hc hF hd hk rfl u3 h3 (by decide) e rfl
  ·rw [hv,←Array.getElem?_toList];exact Ld.row_int (j:=4) hu hc hF hd hk rfl u3 h3 (by decide) e rfl
  ·rw [hv,←Array.getElem?_toList];exact Ld.row_int (j:=5) hu hc hF hd hk rfl u3 h3 (by decide) e rfl
 exact ⟨heap_lt (hall 0 (by decide)).1,hall⟩
def opsL:List (DataW Unit):=Tx.opsT.map fun s=>.agg [.lit (.string s.1.data.toList),.lit (.string s.2.1.data.toList),.lit (.int .i64 s.2.2)]
theorem ops_eq:Rows.laid_loomwork_render_operators=.agg opsL:=rfl
theorem globO_of {W : World} (h : laidMetH Tryz.prog [("loomwork/render.operators", Rows.laid_loomwork_render_operators)] W) : GlobO W := by
 have h : laidMet Tryz.prog [("loomwork/render.operators", Rows.laid_loomwork_render_operators)] W := h;obtain ⟨ps, ⟨g', t', cs, fuel, p, q, hg', ht', hvar, hd, _, _⟩, _⟩ := h;obtain rfl := Option.some.inj ((show Tryz.prog.globalNamed "loomwork/render.operators" = some 2 by kernel_rfl).symm.trans hg');obtain rfl := Option.some.inj ((show (Tryz.prog.globals[2]?).map (·.type) = some 181 by kernel_rfl).symm.trans ht');rw [ops_eq] at hd;have hu : Tryz.prog.underlying 181 = some (.array 15 180) := (by kernel_rfl);have hF : Ld.fieldsOf Tryz.prog 180 = some [(9, 0), (9, 1), (3, 2)] := (by kernel_rfl);have hc : Tryz.prog.cellsOf 180 = 3 := (by kernel_rfl);have h9 : Tryz.prog.cellsOf 9 = 1 := (by kernel_rfl);have h3 : Tryz.prog.cellsOf 3 = 1 := (by kernel_rfl);have u3 : Tryz.prog.underlying 3 = some (.int .i64) := (by kernel_rfl);have u9 : Tryz.prog.underlying 9 = some .string := (by kernel_rfl);have hv := fun j => World.var?_cell (show Tryz.prog.globalNamed "loomwork/render.operators" = some 2 by kernel_rfl) hvar j;have hL : ∀ k, k < 15 → opsL[k]? = some (.agg [.lit (.string (Tx.opT k).1.data.toList), .lit (.string (Tx.opT k).2.1.data.toList), .lit (.int .i64 (Tx.opT k).2.2)]) := by
  intro k hk;have hk':k<Tx.opsT.length:=hk;unfold opsL Tx.opT;rw [List.getElem?_map,List.getElem?_eq_getElem hk',List.getD_eq_getElem?_getD,List.getElem?_eq_getElem hk'];rfl
 have hall:∀ k,k<15→W.cell? ⟨2,k*3,none⟩=some (.string (Tx.opT k).1)∧W.cell? ⟨2,k*3+1,none⟩=some (.string (Tx.opT k).2.1)∧W.cell? ⟨2,k*3+2,none⟩=some (.int .i64 (Tx.opT k).2.2):=by
  intro k hk;have e:=hL k hk;refine ⟨?_,?_,?_⟩
  ·rw [hv,←Array.getElem?_toList];exact Ld.row_str (j:=0) hu hc hF hd hk rfl u9 h9 (by decide) e rfl
  ·rw [hv,←Array.getElem?_toList];exact Ld.row_str (j:=1) hu hc hF hd hk rfl u9 h9 (by decide) e rfl
  ·rw [hv,←Array.getElem?_toList];exact Ld.row_int (j:=2) hu hc hF hd hk rfl u3 h3 (by decide) e rfl
 exact ⟨heap_lt (hall 0 (by decide)).1,hall⟩
theorem globT_of {W : World} (h : laidMetH Tryz.prog [("loomwork/syntax.operators", Rows.laid_loomwork_syntax_operators)] W) : GlobT W := by
 have h : laidMet Tryz.prog [("loomwork/syntax.operators", Rows.laid_loomwork_syntax_operators)] W := h;obtain ⟨ps, ⟨g', t', cs, fuel, p, q, hg', ht', hvar, hd, _, _⟩, _⟩ := h;obtain rfl := Option.some.inj ((show Tryz.prog.globalNamed "loomwork/syntax.operators" = some 6 by kernel_rfl).symm.trans hg');obtain rfl := Option.some.inj ((show (Tryz.prog.globals[6]?).map (·.type) = some 198 by kernel_rfl).symm.trans ht');have hcs := Ld.cells_of_strs (zs := Ps.words) (show Tryz.prog.underlying 198 = some (.array 14 9) by kernel_rfl) (show Tryz.prog.underlying 9 = some .string by kernel_rfl) (by kernel_rfl) (by kernel_rfl) hd;have hc : ∀ j (h : j < Ps.words.length), W.cell? ⟨6, j, none⟩ = some (.string (str Ps.words[j])) := by
  intro j hj;have := World.var?_cell (show Tryz.prog.globalNamed "loomwork/syntax.operators" = some 6 by kernel_rfl) hvar j;rw [this, ← Array.getElem?_toList, hcs];simp [hj]
 exact ⟨heap_lt (hc 0 (by decide)),hc⟩
theorem pow_eq:Rows.laid_internal_strconv_uint64pow10=(Lib.tabData .u64 Lib.pow10Tab:DataW Unit):=rfl
theorem tabN_of {W : World} (h : laidMetH Tryz.prog [("internal/strconv.uint64pow10", Rows.laid_internal_strconv_uint64pow10)] W) : TabN W := by
 have h : laidMet Tryz.prog [("internal/strconv.uint64pow10", Rows.laid_internal_strconv_uint64pow10)] W := h;rw [pow_eq] at h;exact Lib.tabIs_of_head named1 (show (Tryz.prog.globals[1]?).map (·.type) = some 169 by kernel_rfl) (show Tryz.prog.underlying 169 = some (.array 20 153) by kernel_rfl) (by kernel_rfl) (by kernel_rfl) (by kernel_rfl) h
theorem laid_all {W:World} (h:laidMetH Tryz.prog Rows.renderChecksRow.laid W):GlobT W∧Gl (fun i=>i<W.heap.size) W:=by
 have hT : GlobT W := globT_of (h.filter (fun x => x.1 == "loomwork/syntax.operators"));have hS : GlobS W := globS_of (h.filter (fun x => x.1 == "loomwork/render.shapes"));have hO : GlobO W := globO_of (h.filter (fun x => x.1 == "loomwork/render.operators"));have hN : TabN W := tabN_of (h.filter (fun x => x.1 == "internal/strconv.uint64pow10"));exact ⟨hT, hS, hO, hN, hS.1, hN.lt, hO.1⟩
end Go.Proofs.YtophfbefnaelfaaGreatDoor
