import Derived.Test.YtnhmcpnbaajjcaaGreatDoorC43
import Derived.Test.YtnhmcpnbaajjcaaGreatDoorC30
import Derived.Deep.Cut
import Derived.Deep.LoopGhost
import Derived.Ground.NamesProg
import Derived.IntWalk
import Derived.Laws.Cover1
import Derived.Laws.EntriesVeiled
import Derived.Laws.Externs
import Derived.Lib.Hide
import Derived.Lib.MakeNoZero
import Derived.Lib.SlBuf
import Derived.Maps.OwnSet
import Derived.Shelf.Bytes.SlSmallAll
import Derived.Shelf.Lay
import Derived.WalkKit
import Derived.WalkSpells
import Derived.Test.YtnhmcpnbaajjcaaGreatDoorRows
import Derived.FnData
import Derived.LaidSub
import Derived.Lib.LaidTab
set_option linter.unusedVariables false
set_option linter.unusedSimpArgs false
set_option maxHeartbeats 64000000
set_option maxRecDepth 100000
namespace Go.Proofs.YtnhmcpnbaajjcaaGreatDoor
open Go.RowKit Go.IntWalk
def NewPost (w:World) (S:Sk.Sys) (e:Ending) (w':World):Prop :=
 ((Sk.sortF S).1≠0/\e=.returned (.tuple #[.pointer none,.agg #[.int .i64 (Sk.sortF S).1,.int .i64 (Sk.sortF S).2]])/\Below w.heap.size w w') \/
 (Sk.sortF S=(0,0)/\Sk.Okay S/\(Sk.turns S).2.2=[]/\∃ mb,e=.returned (.tuple #[.pointer (some ⟨mb,0,none⟩),.agg #[.int .i64 0,.int .i64 0]])/\(∀ L:List Nat,(∀ q ∈ L,q<w.heap.size)->MeanAt (mb :: L) w' mb (Sk.sortS S) (fun _=>none))/\w.heap.size<=mb/\Below w.heap.size w w')
theorem new_any {ok:Nat->Prop} {w:World} {aV aI aO aR:Option Addr} {cV cI cO cR:Nat} {S:Sk.Sys} (hG:GlobK w) (hP:GlobP w) (hS:HSys ok w aV aI aO aR cV cI cO cR S) (hfit:∀ r ∈ S.R,r.A.length<=1000000/\r.E.length<=1000000) :
  Calls Tryz.prog 20 #[.agg #[.slice aV S.V.length cV,.slice aI S.I.length cI,.slice aO S.O.length cO,.slice aR S.R.length cR]] w (NewPost w S):=by
 have b1:Below w.heap.size w ((w.alloc (.cells #[.slice aV S.V.length cV,.slice aI S.I.length cI,.slice aO S.O.length cO,.slice aR S.R.length cR] 26 (0,0))).alloc (.cells #[.int .i64 0,.int .i64 0] 30 (0,0))):=((Below.refl _ _).alloc zL _).alloc (by simp) _;have kF:((w.alloc (.cells #[.slice aV S.V.length cV,.slice aI S.I.length cI,.slice aO S.O.length cO,.slice aR S.R.length cR] 26 (0,0))).alloc (.cells #[.int .i64 0,.int .i64 0] 30 (0,0))).heap[w.heap.size+1]?=some (.cells #[.int .i64 0,.int .i64 0] 30 (0,0)):=(by have:=zH (w.alloc (.cells #[.slice aV S.V.length cV,.slice aI S.I.length cI,.slice aO S.O.length cO,.slice aR S.R.length cR] 26 (0,0))) (.cells #[.int .i64 0,.int .i64 0] 30 (0,0));simpa using this);have kS:=(Below.heap_alloc (w.alloc (.cells #[.slice aV S.V.length cV,.slice aI S.I.length cI,.slice aO S.O.length cO,.slice aR S.R.length cR] 26 (0,0))) (.cells #[.int .i64 0,.int .i64 0] 30 (0,0)) w.heap.size (by simp)).trans (zH w (.cells #[.slice aV S.V.length cV,.slice aI S.I.length cI,.slice aO S.O.length cO,.slice aR S.R.length cR] 26 (0,0)));have HCT:=zD (sort_any2 (hG.under b1) (hP.under b1) (hS.under b1) hfit);obtain ⟨PP,hPP⟩:=nmQ (NewPost w S);rw [<-hPP];have HPP:=zD hPP;have HKF:=zD kF;have HB1:=zD b1;clear hG hP hS hfit hPP kF b1;go_enter Tryz.func20,Tryz.ntmps20;go_upto_region 1 with fail;generalize (w.alloc (.cells #[.slice aV S.V.length cV,.slice aI S.I.length cI,.slice aO S.O.length cO,.slice aR S.R.length cR] 26 (0,0))).alloc (.cells #[.int .i64 0,.int .i64 0] 30 (0,0))=w1 at HB1 HKF kS HCT ⊢;have k0:=coQ kS 0;have k1:=coQ kS 1;have k2:=coQ kS 2;have k3:=coQ kS 3;simp at k0 k1 k2 k3;go_wp2_with fail;refine HCT.out.mono ?_;intro e w2 hpost;clear k0 k1 k2 k3 kS HCT;unfold SortPost at hpost;rcases hpost with ⟨hc,rfl,b2⟩ | ⟨hz,okay,htl,aV',aI',aO',aR',cV',cI',cO',cR',rfl,hS2,b2⟩
 case inl=>
  have HC:=zD hc;have B2:Below w.heap.size w w2:=HB1.out.trans (b2.mono HB1.out.size);have kF2:=(b2.block _ (zG HKF.out)).trans HKF.out;have hq:((Sk.sortF S).1 != 0)=true:=(by simpa using hc);generalize hfe:Sk.sortF S=fe at HC hq ⊢;obtain ⟨fc,fa⟩:=fe;simp only at HC hq;have HFE:=zD hfe;have o2:∃ o2,o2=(w2.alloc (.cells #[.slice none 0 0,.slice none 0 0,.slice none 0 0,.slice none 0 0] 26 (0,0))).alloc (.cells #[.int .i64 fc,.int .i64 fa] 30 (0,0)):=⟨_,rfl⟩;have b3:Below w2.heap.size w2 ((w2.alloc (.cells #[.slice none 0 0,.slice none 0 0,.slice none 0 0,.slice none 0 0] 26 (0,0))).alloc (.cells #[.int .i64 fc,.int .i64 fa] 30 (0,0))):=((Below.refl _ _).alloc zL _).alloc (by simp) _;have kG:((w2.alloc (.cells #[.slice none 0 0,.slice none 0 0,.slice none 0 0,.slice none 0 0] 26 (0,0))).alloc (.cells #[.int .i64 fc,.int .i64 fa] 30 (0,0))).heap[w2.heap.size+1]?=some (.cells #[.int .i64 fc,.int .i64 fa] 30 (0,0)):=(by have:=zH (w2.alloc (.cells #[.slice none 0 0,.slice none 0 0,.slice none 0 0,.slice none 0 0] 26 (0,0))) (.cells #[.int .i64 fc,.int .i64 fa] 30 (0,0));simpa using this);have kF3:=(b3.block _ (zG kF2)).trans kF2;clear hc hfe b2;go_upto_region 3 with fail;generalize (w2.alloc (.cells #[.slice none 0 0,.slice none 0 0,.slice none 0 0,.slice none 0 0] 26 (0,0))).alloc (.cells #[.int .i64 fc,.int .i64 fa] 30 (0,0))=w3 at b3 kG kF3 ⊢;have B3:Below w.heap.size w w3:=B2.trans (b3.mono B2.size);have g0:=coQ kG 0;have g1:=coQ kG 1;simp at g0 g1;have yG:=zG kG;have yF:=zG kF3;refine zK (fun w'=>Below w3.heap.size w3 w') (fun i=>i==2) (by kernel_rfl) ?_;have hH0:Below w3.heap.size w3 w3.drew:=(Below.refl _ _).drew;generalize w3.drew=wd0 at hH0 ⊢;refine' tkQ 0 14 hH0 ?hyv ?o1
  case hyv=>
   intro wz hSw;have zc0:=(hSw.cell (p:=⟨w2.heap.size+1,0,none⟩) yG).trans g0;have zc1:=(hSw.cell (p:=⟨w2.heap.size+1,1,none⟩) yG).trans g1;go_simp
   try rfl
  try simp only [Act.put,sT,sZ,sS]
  refine' tkR 1 2 hH0 ?o2
  refine tnQ 2 (fun K hK=>?_);have kf5:=(hH0.block _ yF).trans kF3;have st0:=coQ kf5 0;have st1:=coQ kf5 1;have fr0:=foQ kf5 0;have fr1:=foQ kf5 1;simp at st0 st1;have KR:=zP (zP kf5 0 (.int .i64 fc)) 1 (.int .i64 fa);simp at KR;have HKR:=zD KR;have BE:Below w.heap.size w ((wd0.setCell ⟨w.heap.size+1,0,none⟩ (.int .i64 fc)).setCell ⟨w.heap.size+1,1,none⟩ (.int .i64 fa)):=((B3.trans (hH0.mono B3.size)).setCell (p:=⟨w.heap.size+1,0,none⟩) (by simp) _).setCell (p:=⟨w.heap.size+1,1,none⟩) (by simp) _;have HBE:=zD BE;clear KR BE kf5;go_simp;refine hK.out _ _ (fun h=>absurd h (by decide)) ?_;clear hK K st0 st1 fr0 fr1
  try simp only [Act.put,sT,sZ,sS]
  generalize ((wd0.setCell ⟨w.heap.size+1,0,none⟩ (.int .i64 fc)).setCell ⟨w.heap.size+1,1,none⟩ (.int .i64 fa))=wd1 at HKR HBE ⊢;refine zJ (by kernel_rfl) ?_ _;have r0:=coQ HKR.out 0;have r1:=coQ HKR.out 1;simp at r0 r1;clear g0 g1 kG;go_wp2;exact bodyPost_ret (v:=.tuple #[.pointer none,.agg #[.int .i64 fc,.int .i64 fa]]) (by simp [results,Tryz.results20,go_sem,r0,r1]) rfl (by rw [HPP.out];unfold NewPost;rw [HFE.out];exact .inl ⟨HC.out,rfl,HBE.out⟩)
 case inr=>
  have B2:Below w.heap.size w w2:=HB1.out.trans (b2.mono HB1.out.size);have kF2:=zD ((b2.block _ (zG HKF.out)).trans HKF.out);have hl:(Sk.turns S).1.length=(Sk.sortS S).R.length:=(by simp [Sk.sortS]);obtain ⟨tl,htl2⟩:=nmQ ((Sk.turns S).1.length);rw [<-htl2];have HTL:=zD (htl2.trans hl);have HOK:=zD (And.intro hz (And.intro okay htl));have HS2:=zD hS2;clear hz okay htl htl2 hl hS2 b2;go_upto_region 2 with fail;have b3:Below w2.heap.size w2 ((w2.alloc (.cells #[.slice aV' S.V.length cV',.slice aI' S.I.length cI',.slice aO' S.O.length cO',.slice aR' tl cR'] 26 (0,0))).alloc (.cells #[.int .i64 0,.int .i64 0] 30 (0,0))):=((Below.refl _ _).alloc zL _).alloc (by simp) _;have kG:((w2.alloc (.cells #[.slice aV' S.V.length cV',.slice aI' S.I.length cI',.slice aO' S.O.length cO',.slice aR' tl cR'] 26 (0,0))).alloc (.cells #[.int .i64 0,.int .i64 0] 30 (0,0))).heap[w2.heap.size+1]?=some (.cells #[.int .i64 0,.int .i64 0] 30 (0,0)):=(by have:=zH (w2.alloc (.cells #[.slice aV' S.V.length cV',.slice aI' S.I.length cI',.slice aO' S.O.length cO',.slice aR' tl cR'] 26 (0,0))) (.cells #[.int .i64 0,.int .i64 0] 30 (0,0));simpa using this);have kT:=(Below.heap_alloc (w2.alloc (.cells #[.slice aV' S.V.length cV',.slice aI' S.I.length cI',.slice aO' S.O.length cO',.slice aR' tl cR'] 26 (0,0))) (.cells #[.int .i64 0,.int .i64 0] 30 (0,0)) w2.heap.size (by simp)).trans (zH w2 (.cells #[.slice aV' S.V.length cV',.slice aI' S.I.length cI',.slice aO' S.O.length cO',.slice aR' tl cR'] 26 (0,0)));generalize (w2.alloc (.cells #[.slice aV' S.V.length cV',.slice aI' S.I.length cI',.slice aO' S.O.length cO',.slice aR' tl cR'] 26 (0,0))).alloc (.cells #[.int .i64 0,.int .i64 0] 30 (0,0))=w3 at b3 kG kT ⊢;have B3:Below w.heap.size w w3:=B2.trans (b3.mono B2.size);have g0:=coQ kG 0;have t0:=coQ kT 0;have t1:=coQ kT 1;have t2:=coQ kT 2;have t3:=coQ kT 3;simp at g0 t0 t1 t2 t3;have kF3:=(b3.block _ (zG kF2.out)).trans kF2.out;have st0:=coQ kF3 0;have st1:=coQ kF3 1;have fr0:=foQ kF3 0;have fr1:=foQ kF3 1;simp at st0 st1;have yF3:=zG kF3;have KR:=zP (zP kF3 0 (.int .i64 0)) 1 (.int .i64 0);simp at KR;have T2:Below w.heap.size w3 ((w3.setCell ⟨w.heap.size+1,0,none⟩ (.int .i64 0)).setCell ⟨w.heap.size+1,1,none⟩ (.int .i64 0)):=((Below.refl _ _).setCell (p:=⟨w.heap.size+1,0,none⟩) (by simp) _).setCell (p:=⟨w.heap.size+1,1,none⟩) (by simp) _;have T3:Aside [w.heap.size+1] w3.heap.size w3 ((w3.setCell ⟨w.heap.size+1,0,none⟩ (.int .i64 0)).setCell ⟨w.heap.size+1,1,none⟩ (.int .i64 0)):=jF;have hsz:((w3.setCell ⟨w.heap.size+1,0,none⟩ (.int .i64 0)).setCell ⟨w.heap.size+1,1,none⟩ (.int .i64 0)).heap.size=w3.heap.size:=(by simp [World.setCell]);have h12:=zG HKF.out;have HS3:=zD ((HS2.out.wide (ok':=fun i=>i≠w.heap.size+1/\(i≠w3.heap.size/\w.heap.size<=i)) fun i h1 h2=>by have h3:w1.heap.size<=i:=h1;have:=b3.size;have:=HB1.out.size;exact ⟨by omega,by omega,by omega⟩).under b3 |>.keep T3.size (fun i hi hl=>T3.block i hl (by simpa using hi.1)));have HNB:=zD (And.intro KR (And.intro (B3.trans T2) hsz));clear KR T2 T3 hsz;go_upto_region 4 with fail;clear g0;go_wp2;obtain ⟨KR,BT,hsz⟩:=HNB.out;generalize (w3.setCell ⟨w.heap.size+1,0,none⟩ (.int .i64 0)).setCell ⟨w.heap.size+1,1,none⟩ (.int .i64 0)=w4 at KR BT hsz HS3 ⊢;have b5:Below w4.heap.size w4 (w4.alloc (.cells #[.slice aV' S.V.length cV',.slice aI' S.I.length cI',.slice aO' S.O.length cO',.slice aR' tl cR',.map none] 82 (0,0))):=(Below.refl _ _).alloc zL _;have KR5:=(b5.block _ (zG KR)).trans KR;have r0:=coQ KR5 0;have r1:=coQ KR5 1;simp at r0 r1;have HMB:=zD (show ∀ L:List Nat,(∀ q ∈ L,q<w.heap.size)->MeanAt (w3.heap.size :: L) (w4.alloc (.cells #[.slice aV' S.V.length cV',.slice aI' S.I.length cI',.slice aO' S.O.length cO',.slice aR' tl cR',.map none] 82 (0,0))) w3.heap.size (Sk.sortS S) (fun _=>none) from fun L hL=>⟨aV',aI',aO',aR',cV',cI',cO',cR',none,fun _=>none,
   (by have h:=zH w4 (.cells #[.slice aV' S.V.length cV',.slice aI' S.I.length cI',.slice aO' S.O.length cO',.slice aR' tl cR',.map none] 82 (0,0));rw [hsz] at h;rw [HTL.out] at h;rw [HTL.out];exact h),
   (HS3.out.wide (ok':=(· ∉ w3.heap.size :: L)) fun i h _=>by simp;exact ⟨h.2.1,fun hm=>by have:=hL i hm;have:=h.2.2;omega⟩).under b5,.inl ⟨rfl,rfl⟩,fun x=>.inl ⟨rfl,rfl⟩,by simp,fun q hq=>by
    rcases List.mem_cons.1 hq with e | e
    ·rw [e];simp [hsz]
    ·have:=hL q e;have:=B3.size;simp [hsz];omega⟩)
  exact bodyPost_ret (v:=.tuple #[.pointer (some ⟨w3.heap.size,0,none⟩),.agg #[.int .i64 0,.int .i64 0]]) (by simp [results,Tryz.results20,go_sem,r0,r1]) rfl (by rw [HPP.out];unfold NewPost;exact .inr ⟨HOK.out.1,HOK.out.2.1,HOK.out.2.2,_,rfl,HMB.out,B3.size,BT.trans (b5.mono BT.size)⟩)
end Go.Proofs.YtnhmcpnbaajjcaaGreatDoor
namespace Go.Proofs.YtnhmcpnbaajjcaaGreatDoor
open Go.RowKit Go.IntWalk Go.Deep
namespace Ld
variable {H:Type} {enc:TypeId × Value->H} {P:Program} {w:World} {base:Nat} {sp:Nat->Bool} {held:Bool}
def fieldsOf (P:Program) (t:TypeId):Option (List (TypeId × Nat)) :=
 match P.underlying t with
 | some (.struct fs)=>some (fs.toList.map fun f=>(f.type,f.offset))
 | _=>none
theorem trod_field {fuel:Nat} {t:TypeId} {cs:List Value} {L:List (TypeId × Nat)} {d:DataW H} {p:List MemPlace} (hF:fieldsOf P t=some L)
  (h:DataW.trod enc P w base sp held fuel t cs=some (d,p)) {j:Nat} {u:TypeId} {off:Nat} (hj:L[j]?=some (u,off)) :
  ∃ ds fuel' d' p',d=.agg ds/\ds[j]?=some d'/\DataW.trod enc P w base sp held fuel' u ((cs.drop off).take (P.cellsOf u))=some (d',p'):=by
 unfold fieldsOf at hF
 split at hF
 ·rename_i fs hu
  obtain rfl:=Option.some.inj hF
  cases fuel with
  | zero=>simp [DataW.trod] at h
  | succ fuel=>
   simp only [DataW.trod,hu] at h
   split at h
   ·obtain ⟨xs,hm,hx⟩:=Option.map_eq_some_iff.1 h
    simp only [List.getElem?_map,Option.map_eq_some_iff] at hj;obtain ⟨f,hf,hfe⟩:=hj;obtain ⟨b,hb,hb2⟩:=Lib.mapM_at hm j f hf;injection hfe with e1 e2;subst e1 e2;refine ⟨xs.map (·.1),fuel,b.1,b.2,?_,by simp [hb],hb2⟩;exact (congrArg Prod.fst hx).symm
   ·cases h
 ·cases hF
theorem trod_elem {fuel:Nat} {t e:TypeId} {n:Nat} {cs:List Value} {ds:List (DataW H)} {p:List MemPlace} (ht:P.underlying t=some (.array n e))
  (h:DataW.trod enc P w base sp held fuel t cs=some (.agg ds,p)) {i:Nat} (hi:i<n) :
  ∃ fuel' d' p',ds[i]?=some d'/\DataW.trod enc P w base sp held fuel' e ((cs.drop (i*P.cellsOf e)).take (P.cellsOf e))=some (d',p'):=by
 cases fuel with
 | zero=>simp [DataW.trod] at h
 | succ fuel=>
  simp only [DataW.trod,ht] at h
  split at h
  ·obtain ⟨xs,hm,hx⟩:=Option.map_eq_some_iff.1 h
   obtain ⟨b,hb,hb2⟩:=Lib.mapM_at hm i i (by simp [hi]);refine ⟨fuel,b.1,b.2,?_,hb2⟩;have:=congrArg Prod.fst hx;simp only [DataW.agg.injEq] at this;rw [<-this];simp [hb]
  ·cases h
theorem row_int {fuel:Nat} {t e u:TypeId} {n c off i j:Nat} {k:IntKind} {cs:List Value} {ds:List (DataW H)} {p:List MemPlace} {L:List (TypeId × Nat)} (ht:P.underlying t=some (.array n e)) (hc:P.cellsOf e=c) (hF:fieldsOf P e=some L)
  (h:DataW.trod enc P w base sp held fuel t cs=some (.agg ds,p)) (hi:i<n) (hj:L[j]?=some (u,off)) (hu:P.underlying u=some (.int k)) (hcu:P.cellsOf u=1) (ho:off<c)
  {es:List (DataW H)} {z:Int} (hd:ds[i]?=some (.agg es)) (he:es[j]?=some (.lit (.int k z))):cs[i*c+off]?=some (.int k z):=by
 obtain ⟨f1,d1,p1,h1,h2⟩:=trod_elem ht h hi;obtain ⟨ds2,f2,d2,p2,rfl,h3,h4⟩:=trod_field hF h2 hj;obtain ⟨s,h5,h6,_⟩:=DataW.trod_int hu h4;rw [hd] at h1;simp only [Option.some.injEq,DataW.agg.injEq] at h1;subst h1;rw [he] at h3;have h7:d2=.lit (.int k s):=congrArg Prod.fst h6;rw [h7] at h3;simp only [Option.some.injEq,DataW.lit.injEq,Lit.int.injEq,true_and] at h3;subst h3;have:=congrArg (·[0]?) h5;rw [hc,hcu] at this
 simpa [List.getElem?_take,List.getElem?_drop,ho] using this
end Ld
theorem heap_lt {W:World} {g j:Nat} {v:Value} (h:W.cell? ⟨g,j,none⟩=some v):g<W.heap.size:=by
 apply Classical.byContradiction
 intro hlt;have:W.heap[g]?=none:=(by simp;omega);simp [World.cell?,this] at h
def kopsL:List (DataW Unit):=Kd.opsT.map fun s=>.agg [.lit (.int .u8 s.1),.lit (.int .u8 s.2.1),.lit (.int .i64 s.2.2)]
theorem kops_eq:Rows.laid_loomwork_kinds_operators=.agg kopsL:=rfl
theorem globK_of {W : World} (h : laidMetH Tryz.prog [("loomwork/kinds.operators", Rows.laid_loomwork_kinds_operators)] W) : GlobK W := by
 have h : laidMet Tryz.prog [("loomwork/kinds.operators", Rows.laid_loomwork_kinds_operators)] W := h;obtain ⟨ps, ⟨g', t', cs, fuel, p, q, hg', ht', hvar, hd, _, _⟩, _⟩ := h;obtain rfl := Option.some.inj ((show Tryz.prog.globalNamed "loomwork/kinds.operators" = some 1 by kernel_rfl).symm.trans hg');obtain rfl := Option.some.inj ((show (Tryz.prog.globals[1]?).map (·.type) = some 182 by kernel_rfl).symm.trans ht');rw [kops_eq] at hd;have hu : Tryz.prog.underlying 182 = some (.array 15 181) := (by kernel_rfl);have hF : Ld.fieldsOf Tryz.prog 181 = some [(5, 0), (5, 1), (3, 2)] := (by kernel_rfl);have hc : Tryz.prog.cellsOf 181 = 3 := (by kernel_rfl);have h5 : Tryz.prog.cellsOf 5 = 1 := (by kernel_rfl);have h3 : Tryz.prog.cellsOf 3 = 1 := (by kernel_rfl);have u3 : Tryz.prog.underlying 3 = some (.int .i64) := (by kernel_rfl);have u5 : Tryz.prog.underlying 5 = some (.int .u8) := (by kernel_rfl);have hv := fun j => World.var?_cell (show Tryz.prog.globalNamed "loomwork/kinds.operators" = some 1 by kernel_rfl) hvar j;have hL : ∀ k, k < 15 -> kopsL[k]? = some (.agg [.lit (.int .u8 (Kd.opN k).1), .lit (.int .u8 (Kd.opN k).2.1), .lit (.int .i64 (Kd.opN k).2.2)]) := by
  intro k hk;have hk':k<Kd.opsT.length:=hk;unfold kopsL Kd.opN;rw [List.getElem?_map,List.getElem?_eq_getElem hk',List.getD_eq_getElem?_getD,List.getElem?_eq_getElem hk'];rfl
 have hall:∀ k,k<15->W.cell? ⟨1,k*3,none⟩=some (.int .u8 (Kd.opN k).1)/\W.cell? ⟨1,k*3+1,none⟩=some (.int .u8 (Kd.opN k).2.1)/\W.cell? ⟨1,k*3+2,none⟩=some (.int .i64 (Kd.opN k).2.2):=by
  intro k hk;have e:=hL k hk;refine ⟨?_,?_,?_⟩
  ·rw [hv,<-Array.getElem?_toList];exact Ld.row_int (j:=0) hu hc hF hd hk rfl u5 h5 (by decide) e rfl
  ·rw [hv,<-Array.getElem?_toList];exact Ld.row_int (j:=1) hu hc hF hd hk rfl u5 h5 (by decide) e rfl
  ·rw [hv,<-Array.getElem?_toList];exact Ld.row_int (j:=2) hu hc hF hd hk rfl u3 h3 (by decide) e rfl
 exact ⟨heap_lt (hall 0 (by decide)).1,hall⟩
def partsD:List (DataW Unit):=Sk.partsT.map fun s=>.lit (.int .i64 s)
theorem parts_eq:Rows.laid_loomwork_sys_partCounts=.agg partsD:=rfl
theorem globP_of {W : World} (h : laidMetH Tryz.prog [("loomwork/sys.partCounts", Rows.laid_loomwork_sys_partCounts)] W) : GlobP W := by
 have h : laidMet Tryz.prog [("loomwork/sys.partCounts", Rows.laid_loomwork_sys_partCounts)] W := h;obtain ⟨ps, ⟨g', t', cs, fuel, p, q, hg', ht', hvar, hd, _, _⟩, _⟩ := h;obtain rfl := Option.some.inj ((show Tryz.prog.globalNamed "loomwork/sys.partCounts" = some 0 by kernel_rfl).symm.trans hg');obtain rfl := Option.some.inj ((show (Tryz.prog.globals[0]?).map (·.type) = some 151 by kernel_rfl).symm.trans ht');rw [parts_eq] at hd;have hu : Tryz.prog.underlying 151 = some (.array 17 3) := (by kernel_rfl);have h3 : Tryz.prog.cellsOf 3 = 1 := (by kernel_rfl);have u3 : Tryz.prog.underlying 3 = some (.int .i64) := (by kernel_rfl);have hv := fun j => World.var?_cell (show Tryz.prog.globalNamed "loomwork/sys.partCounts" = some 0 by kernel_rfl) hvar j;have hall : ∀ k, k < 17 -> W.cell? ⟨0, k, none⟩ = some (.int .i64 (Sk.partsT.getD k 0)) := by
  intro k hk;obtain ⟨f1,d1,p1,h1,h2⟩:=Ld.trod_elem hu hd hk;obtain ⟨s,h5,h6,_⟩:=DataW.trod_int u3 h2;have hk':k<Sk.partsT.length:=hk;have e:partsD[k]?=some (.lit (.int .i64 (Sk.partsT.getD k 0))):=by
   unfold partsD;rw [List.getElem?_map,List.getElem?_eq_getElem hk',List.getD_eq_getElem?_getD,List.getElem?_eq_getElem hk'];rfl
  rw [e] at h1;have h7:d1=.lit (.int .i64 s):=congrArg Prod.fst h6;rw [h7] at h1;simp only [Option.some.injEq,DataW.lit.injEq,Lit.int.injEq,true_and] at h1;rw [hv,<-Array.getElem?_toList,h1];have:=congrArg (·[0]?) h5;rw [h3] at this
  simpa [List.getElem?_take,List.getElem?_drop] using this
 exact ⟨heap_lt (hall 0 (by decide)),hall⟩
section
variable {H:Type} {enc:TypeId × Value->H} {w:World}
instance:Inhabited Pu:=⟨⟨0,0,0,0⟩⟩
instance:Inhabited Sk.Vr:=⟨⟨0,0⟩⟩
instance:Inhabited Sk.Ru:=⟨⟨0,0,0,0,[],[]⟩⟩
instance:Inhabited RuV:=⟨⟨none,0,0,none,0,0⟩⟩
theorem xY {α:Type} [Inhabited α] {n:Nat} {p:Nat->α->Prop} (h:∀ i,i<n->∃ x,p i x):∃ f:Nat->α,∀ i,i<n->p i (f i):=by
 classical
 refine ⟨fun i=>if h1:i<n then Classical.choose (h i h1) else default,fun i hi=>?_⟩;simp only [hi,dif_pos];exact Classical.choose_spec (h i hi)
theorem c22:Tryz.prog.cellsOf 22=1:=by kernel_rfl
theorem c23:Tryz.prog.cellsOf 23=1:=by kernel_rfl
theorem c24:Tryz.prog.cellsOf 24=1:=by kernel_rfl
theorem c26:Tryz.prog.cellsOf 26=4:=by kernel_rfl
theorem c38:Tryz.prog.cellsOf 38=1:=by kernel_rfl
theorem c40:Tryz.prog.cellsOf 40=6:=by kernel_rfl
theorem c52:Tryz.prog.cellsOf 52=1:=by kernel_rfl
theorem c61:Tryz.prog.cellsOf 61=2:=by kernel_rfl
theorem c98:Tryz.prog.cellsOf 98=4:=by kernel_rfl
theorem y2:Tryz.prog.bytesOf 2=8:=by kernel_rfl
theorem y3:Tryz.prog.bytesOf 3=8:=by kernel_rfl
theorem y40:Tryz.prog.bytesOf 40=80:=by kernel_rfl
theorem y52:Tryz.prog.bytesOf 52=24:=by kernel_rfl
theorem y61:Tryz.prog.bytesOf 61=16:=by kernel_rfl
theorem y98:Tryz.prog.bytesOf 98=32:=by kernel_rfl
theorem two_of {cs:List Value} (h:cs.length=2):∃ a b,cs=[a,b]:=by
 match cs,h with
 | [a,b],_=>exact ⟨a,b,rfl⟩
theorem four_of {cs:List Value} (h:cs.length=4):∃ a b c d,cs=[a,b,c,d]:=by
 match cs,h with
 | [a,b,c,d],_=>exact ⟨a,b,c,d,rfl⟩
theorem six_of {cs:List Value} (h:cs.length=6):∃ a b c d e f,cs=[a,b,c,d,e,f]:=by
 match cs,h with
 | [a,b,c,d,e,f],_=>exact ⟨a,b,c,d,e,f,rfl⟩
theorem qN {v:Value} {t:TypeId} {k:IntKind} (ht:Tryz.prog.underlying t=some (.int k)) (h:Rd0 enc w t [v]):∃ n,v=.int k n:=by
 obtain ⟨n,e⟩:=zAX ht h;injection e with e _;exact ⟨n,e⟩
theorem open_push {cs:List Value} (h:Rd0 enc w 98 cs):∃ p:Pu,cs=p.cs:=by
 have hl:=len_of Tryz.underlying98 h;rw [c98] at hl;obtain ⟨a,b,c,d,rfl⟩:=four_of hl;obtain ⟨n0,rfl⟩:=qN Tryz.underlying3 (xA Tryz.underlying98 h 0 3 0 rfl c3 _ rfl);obtain ⟨n1,rfl⟩:=qN Tryz.underlying3 (xA Tryz.underlying98 h 1 3 1 rfl c3 _ rfl);obtain ⟨n2,rfl⟩:=qN Tryz.underlying3 (xA Tryz.underlying98 h 2 3 2 rfl c3 _ rfl);obtain ⟨n3,rfl⟩:=qN Tryz.underlying2 (xA Tryz.underlying98 h 3 2 3 rfl c2 _ rfl);exact ⟨⟨n0,n1,n2,n3⟩,rfl⟩
theorem open_var {cs:List Value} (h:Rd0 enc w 61 cs):∃ p:Sk.Vr,cs=[.int .u8 p.elem,.int .i64 p.n]:=by
 have hl:=len_of Tryz.underlying61 h;rw [c61] at hl;obtain ⟨a,b,rfl⟩:=two_of hl;obtain ⟨n0,rfl⟩:=qN Tryz.underlying5 (xA Tryz.underlying61 h 0 5 0 rfl c5 _ rfl);obtain ⟨n1,rfl⟩:=qN Tryz.underlying3 (xA Tryz.underlying61 h 1 3 1 rfl c3 _ rfl);exact ⟨⟨n0,n1⟩,rfl⟩
theorem jT {v:Value} (h:Rd0 enc w 23 [v]):∃ a n c L,v=.slice a n c/\n=L.length/\HInts (fun _=>True) w (.slice a n c) L:=by
 obtain ⟨fuel,x,h,hw⟩:=h;obtain ⟨a,n,c,C,m,D,Pl,e,hs,_,hi⟩:=qO Tryz.underlying23 c3 (by decide) y3 h hw;injection e with e _;obtain ⟨f,hf⟩:=xY (n:=n) (α:=Int) (p:=fun i x=>C i=[.int .i64 x]) (fun i h=>by
  obtain ⟨q,e⟩:=zAX (enc:=enc) (w:=w) Tryz.underlying3 ⟨m,_,(hi i h).1,(hi i h).2.1⟩;exact ⟨q,e⟩)
 obtain ⟨l,hl,hg⟩:=vG n f;refine ⟨a,n,c,l,e,hl.symm,C,by rw [hl];exact hs,fun i h=>?_⟩;rw [hg i h];exact hf i (by omega)
theorem open_longs {v:Value} (h:Rd0 enc w 52 [v]):∃ a n c L,v=.slice a n c/\n=L.length/\HInts (fun _=>True) w (.slice a n c) L:=by
 obtain ⟨fuel,x,h,hw⟩:=h;obtain ⟨a,n,c,C,m,D,Pl,e,hs,_,hi⟩:=qO Tryz.underlying52 c2 (by decide) y2 h hw;injection e with e _;obtain ⟨f,hf⟩:=xY (n:=n) (α:=Int) (p:=fun i x=>C i=[.int .i64 x]) (fun i h=>by
  obtain ⟨q,e⟩:=zAX (enc:=enc) (w:=w) Tryz.underlying2 ⟨m,_,(hi i h).1,(hi i h).2.1⟩;exact ⟨q,e⟩)
 obtain ⟨l,hl,hg⟩:=vG n f;refine ⟨a,n,c,l,e,hl.symm,C,by rw [hl];exact hs,fun i h=>?_⟩;rw [hg i h];exact hf i (by omega)
theorem open_pushes {v:Value} (h:Rd0 enc w 38 [v]):∃ a n c L,v=.slice a n c/\n=L.length/\HPu (fun _=>True) w (.slice a n c) L:=by
 obtain ⟨fuel,x,h,hw⟩:=h;obtain ⟨a,n,c,C,m,D,Pl,e,hs,_,hi⟩:=qO Tryz.underlying38 c98 (by decide) y98 h hw;injection e with e _;obtain ⟨f,hf⟩:=xY (n:=n) (α:=Pu) (p:=fun i x=>C i=x.cs) (fun i h=>by
  exact open_push (enc:=enc) (w:=w) ⟨m,_,(hi i h).1,(hi i h).2.1⟩)
 obtain ⟨l,hl,hg⟩:=vG n f;refine ⟨a,n,c,l,e,hl.symm,C,by rw [hl];exact hs,fun i h=>?_⟩;rw [hg i h];exact hf i (by omega)
theorem open_vars {v:Value} (h:Rd0 enc w 22 [v]):∃ a n c L,v=.slice a n c/\n=L.length/\HVars (fun _=>True) w (.slice a n c) L:=by
 obtain ⟨fuel,x,h,hw⟩:=h;obtain ⟨a,n,c,C,m,D,Pl,e,hs,_,hi⟩:=qO Tryz.underlying22 c61 (by decide) y61 h hw;injection e with e _;obtain ⟨f,hf⟩:=xY (n:=n) (α:=Sk.Vr) (p:=fun i x=>C i=[.int .u8 x.elem,.int .i64 x.n]) (fun i h=>by
  exact open_var (enc:=enc) (w:=w) ⟨m,_,(hi i h).1,(hi i h).2.1⟩)
 obtain ⟨l,hl,hg⟩:=vG n f;refine ⟨a,n,c,l,e,hl.symm,C,by rw [hl];exact hs,fun i h=>?_⟩;rw [hg i h];exact hf i (by omega)
theorem open_rows {v:Value} (h:Rd0 enc w 47 [v]):∃ a n c L,v=.slice a n c/\n=L.length/\HRow kLL (fun _=>True) w (.slice a n c) L:=by
 obtain ⟨fuel,x,h,hw⟩:=h;obtain ⟨a,n,c,C,m,D,Pl,e,hs,_,hi⟩:=qO Tryz.underlying47 c52 (by decide) y52 h hw;injection e with e _;obtain ⟨f,hf⟩:=xY (n:=n) (α:=List Int) (p:=fun i x=>∃ u,C i=[u]/\HInts (fun _=>True) w u x) (fun i h=>by
  obtain ⟨u,hu⟩:∃ u,C i=[u]:=by
   obtain ⟨_,_,_,_,_,h5⟩:=hs;obtain ⟨_,_,_,_,_,h6⟩:=h5 (by omega);exact List.length_eq_one_iff.1 (h6 i h).1
  have h0:Rd0 enc w 52 [u]:=(by rw [<-hu];exact ⟨m,_,(hi i h).1,(hi i h).2.1⟩);obtain ⟨a,n,c,L,e,-,hL⟩:=open_longs h0;exact ⟨L,u,hu,by rw [e];exact hL⟩)
 obtain ⟨l,hl,hg⟩:=vG n f;refine ⟨a,n,c,l,e,hl.symm,C,by rw [hl];exact hs,fun i h=>?_⟩;rw [hg i h];exact hf i (by omega)
theorem open_rule {cs:List Value} (h:Rd0 enc w 40 cs):∃ (r:Sk.Ru) (y:RuV),cs=rcs r y/\HRu (fun _=>True) w y r:=by
 have hl:=len_of Tryz.underlying40 h;rw [c40] at hl;obtain ⟨v0,v1,v2,v3,v4,v5,rfl⟩:=six_of hl;obtain ⟨n0,rfl⟩:=qN Tryz.underlying3 (xA Tryz.underlying40 h 0 3 0 rfl c3 _ rfl);obtain ⟨n1,rfl⟩:=qN Tryz.underlying3 (xA Tryz.underlying40 h 1 3 1 rfl c3 _ rfl);obtain ⟨n2,rfl⟩:=qN Tryz.underlying3 (xA Tryz.underlying40 h 2 3 2 rfl c3 _ rfl);obtain ⟨n3,rfl⟩:=qN Tryz.underlying2 (xA Tryz.underlying40 h 3 2 3 rfl c2 _ rfl);obtain ⟨a,na,ca,A,rfl,-,hA⟩:=jT (xA Tryz.underlying40 h 4 23 4 rfl c23 _ rfl);obtain ⟨b,nb,cb,E,rfl,-,hE⟩:=open_pushes (xA Tryz.underlying40 h 5 38 5 rfl c38 _ rfl);exact ⟨⟨n0,n1,n2,n3,A,E⟩,⟨a,na,ca,b,nb,cb⟩,rfl,⟨hA,hE⟩⟩
theorem open_rules {v:Value} (h:Rd0 enc w 24 [v]):∃ a n c L,v=.slice a n c/\n=L.length/\HRus (fun _=>True) w (.slice a n c) L:=by
 obtain ⟨fuel,x,h,hw⟩:=h;obtain ⟨a,n,c,C,m,D,Pl,e,hs,_,hi⟩:=qO Tryz.underlying24 c40 (by decide) y40 h hw;injection e with e _;obtain ⟨f,hf⟩:=xY (n:=n) (α:=Sk.Ru) (p:=fun i x=>∃ y,C i=rcs x y/\HRu (fun _=>True) w y x) (fun i h=>by
  obtain ⟨r,y,h1,h2⟩:=open_rule (enc:=enc) (w:=w) ⟨m,_,(hi i h).1,(hi i h).2.1⟩;exact ⟨r,y,h1,h2⟩)
 obtain ⟨l,hl,hg⟩:=vG n f;refine ⟨a,n,c,l,e,hl.symm,C,by rw [hl];exact hs,fun i h=>?_⟩;rw [hg i h];exact hf i (by omega)
theorem open_system {cs:List Value} (h:Rd0 enc w 26 cs):∃ aV aI aO aR cV cI cO cR,∃ S:Sk.Sys,cs=[.slice aV S.V.length cV,.slice aI S.I.length cI,.slice aO S.O.length cO,.slice aR S.R.length cR]/\HSys (fun _=>True) w aV aI aO aR cV cI cO cR S:=by
 have hl:=len_of Tryz.underlying26 h;rw [c26] at hl;obtain ⟨v0,v1,v2,v3,rfl⟩:=four_of hl;obtain ⟨aV,nV,cV,V,rfl,rfl,hV⟩:=open_vars (xA Tryz.underlying26 h 0 22 0 rfl c22 _ rfl);obtain ⟨aI,nI,cI,I,rfl,rfl,hI⟩:=jT (xA Tryz.underlying26 h 1 23 1 rfl c23 _ rfl);obtain ⟨aO,nO,cO,O,rfl,rfl,hO⟩:=jT (xA Tryz.underlying26 h 2 23 2 rfl c23 _ rfl);obtain ⟨aR,nR,cR,R,rfl,rfl,hR⟩:=open_rules (xA Tryz.underlying26 h 3 24 3 rfl c24 _ rfl);exact ⟨aV,aI,aO,aR,cV,cI,cO,cR,⟨V,I,O,R⟩,rfl,⟨hV,hI,hO,hR⟩⟩
end
end Go.Proofs.YtnhmcpnbaajjcaaGreatDoor
