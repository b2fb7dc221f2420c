import Derived.Test.YtfhghlpfeeiaeaaGreatDoorX23
import Derived.Deep.Cut
import Derived.Deep.LoopGhost
import Derived.Ground.NamesProg
import Derived.IntWalk
import Derived.Laws.Cover1
import Derived.Laws.EntriesVeiled
import Derived.Laws.Externs
import Derived.Lib.Hide
import Derived.Lib.MakeNoZero
import Derived.Lib.SlBuf
import Derived.Shelf.Bytes.SlSmallAll
import Derived.Shelf.Lay
import Derived.WalkKit
import Derived.WalkSpells
set_option linter.unusedVariables false
set_option linter.unusedSimpArgs false
set_option maxHeartbeats 64000000
set_option maxRecDepth 100000
namespace Go.Proofs.YtfhghlpfeeiaeaaGreatDoor
open Go.RowKit Go.IntWalk
theorem Tryz.infoRu:(Tryz.prog.info? 42).map (fun i=>(i.zero,i.size,i.bytes))=some (some (.agg #[.int .i64 0,.int .i64 0,.int .i64 0,.int .i64 0,.slice none 0 0,.slice none 0 0]),6,80):=by kernel_rfl
def kRu:Kind Sk.Ru where
 ty:=42
 k:=6
 bytes:=80
 zero:=.agg #[.int .i64 0,.int .i64 0,.int .i64 0,.int .i64 0,.slice none 0 0,.slice none 0 0]
 E:=fun ok w cs r=>∃ y,cs=rcs r y/\HRu ok w y r
 pos:=by decide
 zs:=rfl
 info:=Tryz.infoRu
 len:=by rintro _ _ _ _ ⟨y,rfl,_⟩;rfl
 one:=by
  rintro _ _ _ _ ⟨y,rfl,_⟩ u hu;simp [rcs] at hu;rcases hu with rfl | rfl | rfl | rfl | rfl | rfl<;>rfl
 keep:=by rintro _ _ _ _ _ ⟨y,rfl,h⟩ hs hk;exact ⟨y,rfl,h.keep hs hk⟩
 wide:=by rintro _ _ _ _ _ ⟨y,rfl,h⟩ hk;exact ⟨y,rfl,h.wide hk⟩
theorem rus_row {ok:Nat->Prop} {w:World} {v:Value} {l:List Sk.Ru} (h:HRow kRu ok w v l):HRus ok w v l:=h
theorem zBU (w:World) (p:Addr) (u:Value) {i:Nat} (h:p.block≠i):(w.setCell p u).heap[i]?=w.heap[i]?:=by
 cases e:w.heap[i]? with
 | none=>
  have hs:(w.setCell p u).heap.size=w.heap.size:=(by simp [World.setCell]);rw [Array.getElem?_eq_none_iff] at e ⊢;omega
 | some o=>exact zBT e h u
theorem own54_core {ok:Nat->Prop} {w:World} {op k out n:Int} {aA aE:Option Addr} {nA cA nE cE:Nat} {A:List Int} {E:List Pu} (hA:HInts ok w (.slice aA nA cA) A) (hE:HPu ok w (.slice aE nE cE) E) (dm:A.length<=1000000) (fo:E.length<=1000000) :
  Calls Tryz.prog 15 #[.agg #[.int .i64 op,.int .i64 k,.int .i64 out,.int .i64 n,.slice aA nA cA,.slice aE nE cE]] w fun e w'=>∃ a1 n1 c1 a2 n2 c2,e=.returned (.agg #[.int .i64 op,.int .i64 k,.int .i64 out,.int .i64 n,.slice a1 n1 c1,.slice a2 n2 c2])/\HInts (fun i=>w.heap.size<=i) w' (.slice a1 n1 c1) A/\HPu (fun i=>w.heap.size<=i) w' (.slice a2 n2 c2) E/\Below w.heap.size w w':=by
 have b1:Below w.heap.size w ((w.alloc (.cells #[.int .i64 op,.int .i64 k,.int .i64 out,.int .i64 n,.slice aA nA cA,.slice aE nE cE] 42 (0,0))).alloc (.cells #[.int .i64 0,.int .i64 0,.int .i64 0,.int .i64 0,.slice none 0 0,.slice none 0 0] 42 (0,0))):=((Below.refl _ _).alloc zBR _).alloc (by simp) _;have kR:((w.alloc (.cells #[.int .i64 op,.int .i64 k,.int .i64 out,.int .i64 n,.slice aA nA cA,.slice aE nE cE] 42 (0,0))).alloc (.cells #[.int .i64 0,.int .i64 0,.int .i64 0,.int .i64 0,.slice none 0 0,.slice none 0 0] 42 (0,0))).heap[w.heap.size]?=some (.cells #[.int .i64 op,.int .i64 k,.int .i64 out,.int .i64 n,.slice aA nA cA,.slice aE nE cE] 42 (0,0)):=(Below.heap_alloc _ _ _ (by simp)).trans (zBO w _);have kZ:((w.alloc (.cells #[.int .i64 op,.int .i64 k,.int .i64 out,.int .i64 n,.slice aA nA cA,.slice aE nE cE] 42 (0,0))).alloc (.cells #[.int .i64 0,.int .i64 0,.int .i64 0,.int .i64 0,.slice none 0 0,.slice none 0 0] 42 (0,0))).heap[w.heap.size+1]?=some (.cells #[.int .i64 0,.int .i64 0,.int .i64 0,.int .i64 0,.slice none 0 0,.slice none 0 0] 42 (0,0)):=by
  have:=zBO (w.alloc (.cells #[.int .i64 op,.int .i64 k,.int .i64 out,.int .i64 n,.slice aA nA cA,.slice aE nE cE] 42 (0,0))) (.cells #[.int .i64 0,.int .i64 0,.int .i64 0,.int .i64 0,.slice none 0 0,.slice none 0 0] 42 (0,0))
  simpa using this
 have HA:=zBK (hA.under b1);have HE:=zBK (hE.under b1);clear hA hE;go_enter Tryz.func15,Tryz.ntmps15;go_upto_region 1 with fail;generalize (w.alloc (.cells #[.int .i64 op,.int .i64 k,.int .i64 out,.int .i64 n,.slice aA nA cA,.slice aE nE cE] 42 (0,0))).alloc (.cells #[.int .i64 0,.int .i64 0,.int .i64 0,.int .i64 0,.slice none 0 0,.slice none 0 0] 42 (0,0))=w1 at b1 kR kZ HA HE ⊢;have c0:=coQ kR 0;have c1:=coQ kR 1;have c2:=coQ kR 2;have c3:=coQ kR 3;have c4:=coQ kR 4;have c5:=coQ kR 5;simp at c0 c1 c2 c3 c4 c5;have yR:=zBM kR;have yZ:=zBM kZ;have aM:=zBK (fun (wz:World) (hSw:Below w1.heap.size w1 wz)=>And.intro ((hSw.cell (p:=⟨w.heap.size,0,none⟩) yR).trans c0) (And.intro ((hSw.cell (p:=⟨w.heap.size,1,none⟩) yR).trans c1) (And.intro ((hSw.cell (p:=⟨w.heap.size,2,none⟩) yR).trans c2) (And.intro ((hSw.cell (p:=⟨w.heap.size,3,none⟩) yR).trans c3) (And.intro ((hSw.cell (p:=⟨w.heap.size,4,none⟩) yR).trans c4) ((hSw.cell (p:=⟨w.heap.size,5,none⟩) yR).trans c5))))));refine zBP (fun w'=>Below w1.heap.size w1 w') (fun i=>i==7 || i==8 || i==9) (by kernel_rfl) ?_;have ab:Below w1.heap.size w1 w1.drew:=(Below.refl _ _).drew;generalize w1.drew=ag at ab ⊢;refine' tkR 0 3 ab ?o1
 refine' tkQ 1 4 ab ?hyv ?o2
 case hyv=>
  intro wz hSw;have bk:=aM.out wz hSw;go_simp
  try rfl
 try simp only [Act.put,sT,sZ,sS]
 refine' tkR 3 6 ab ?o3
 refine' tkQ 4 7 ab ?hyv ?o4
 case hyv=>
  intro wz hSw;have bk:=aM.out wz hSw;go_simp
  try rfl
 try simp only [Act.put,sT,sZ,sS]
 refine tnQ 2 (fun K hK=>?_);go_simp;refine (zBk (ok:=ok) (HA.out.under ab) dm).mono ?_;rintro eq aw ⟨v1,rfl,mI,cY⟩;obtain ⟨a1,mr,rfl,-,-⟩:=mI.form;have af:Below w1.heap.size w1 aw:=ab.trans (cY.mono ab.size);have H1:=zBK ((zBj mI.row).wide (ok':=fun i=>w1.heap.size<=i) fun i hi _=>Nat.le_trans ab.size hi);clear mI;refine hK.out _ _ (fun _=>af) ?_;clear hK K
 try simp only [Act.put,sT,sZ,sS]
 refine' tkR 6 9 af ?o5
 refine tnQ 5 (fun K hK=>?_);go_simp;refine (clone93_any (ok:=ok) (HE.out.under af) fo).mono ?_;rintro eq aJ ⟨v2,rfl,jP,dz⟩;obtain ⟨a2,mW,rfl,-,-⟩:=jP.form;have ay:Below w1.heap.size w1 aJ:=af.trans (dz.mono af.size);have H2:=zBK ((pus_row jP.row).wide (ok':=fun i=>w1.heap.size<=i) fun i hi _=>Nat.le_trans af.size hi);have yi:=zBK (H1.out.under dz);clear jP H1;refine hK.out _ _ (fun _=>ay) ?_;clear hK K
 try simp only [Act.put,sT,sZ,sS]
 refine tnQ 7 (fun K hK=>?_);have dT:=(ay.block _ yR).trans kR;have Mb:=(ay.block _ yZ).trans kZ;have B5:=b1.trans (ay.mono b1.size);have uR:=coQ dT 4;have F4:=foQ dT 4;simp at uR;have KR:=zBQ dT 4 (.slice a1 A.length mr);simp at KR;have KZ:=zBT (p:=⟨w.heap.size,4,none⟩) Mb (by show w.heap.size≠w.heap.size+1;omega) (.slice a1 A.length mr);have B6:=B5.setCell (p:=⟨w.heap.size,4,none⟩) zBR (.slice a1 A.length mr);have M7:=zBK (show Below (w.heap.size+2) aJ (aJ.setCell ⟨w.heap.size,4,none⟩ (.slice a1 A.length mr))->True from fun _=>trivial);have yj:=zBK (show HInts (fun i=>w1.heap.size<=i) (aJ.setCell ⟨w.heap.size,4,none⟩ (.slice a1 A.length mr)) (.slice a1 A.length mr) A from yi.out.keep (by simp [World.setCell]) (fun i hi _=>zBU _ _ _ (by show w.heap.size≠i;have h1:w1.heap.size<=i:=hi;omega)));have Et:=zBK (show HPu (fun i=>w1.heap.size<=i) (aJ.setCell ⟨w.heap.size,4,none⟩ (.slice a1 A.length mr)) (.slice a2 E.length mW) E from H2.out.keep (by simp [World.setCell]) (fun i hi _=>zBU _ _ _ (by show w.heap.size≠i;have h1:w1.heap.size<=i:=hi;omega)));clear dT Mb yi H2 M7;go_simp;refine hK.out _ _ (fun h=>absurd h (by decide)) ?_;clear hK K
 try simp only [Act.put,sT,sZ,sS]
 clear uR F4;generalize aJ.setCell ⟨w.heap.size,4,none⟩ (.slice a1 A.length mr)=bF at KR KZ B6 yj Et ⊢;refine tnQ 8 (fun K hK=>?_);go_simp;refine hK.out _ _ (fun h=>absurd h (by decide)) ?_;clear hK K
 try simp only [Act.put,sT,sZ,sS]
 refine tnQ 9 (fun K hK=>?_);have uS:=coQ KR 5;have F5:=foQ KR 5;simp at uS;have r8:=zBQ KR 5 (.slice a2 E.length mW);simp at r8;have mn:=zBT (p:=⟨w.heap.size,5,none⟩) KZ (by show w.heap.size≠w.heap.size+1;omega) (.slice a2 E.length mW);have B7:=B6.setCell (p:=⟨w.heap.size,5,none⟩) zBR (.slice a2 E.length mW);have uW:=zBK (show HInts (fun i=>w1.heap.size<=i) (bF.setCell ⟨w.heap.size,5,none⟩ (.slice a2 E.length mW)) (.slice a1 A.length mr) A from yj.out.keep (by simp [World.setCell]) (fun i hi _=>zBU _ _ _ (by show w.heap.size≠i;have h1:w1.heap.size<=i:=hi;omega)));have uX:=zBK (show HPu (fun i=>w1.heap.size<=i) (bF.setCell ⟨w.heap.size,5,none⟩ (.slice a2 E.length mW)) (.slice a2 E.length mW) E from Et.out.keep (by simp [World.setCell]) (fun i hi _=>zBU _ _ _ (by show w.heap.size≠i;have h1:w1.heap.size<=i:=hi;omega)));clear KR KZ yj Et;go_simp;refine hK.out _ _ (fun h=>absurd h (by decide)) ?_;clear hK K
 try simp only [Act.put,sT,sZ,sS]
 clear uS F5;generalize bF.setCell ⟨w.heap.size,5,none⟩ (.slice a2 E.length mW)=rG at r8 mn B7 uW uX ⊢;refine zBN (by kernel_rfl) ?_ _;have d0:=coQ r8 0;have s0:=coQ mn 0;have f0:=foQ mn 0;have d1:=coQ r8 1;have s1:=coQ mn 1;have f1:=foQ mn 1;have d2:=coQ r8 2;have s2:=coQ mn 2;have f2:=foQ mn 2;have d3:=coQ r8 3;have s3:=coQ mn 3;have f3:=foQ mn 3;have d4:=coQ r8 4;have s4:=coQ mn 4;have f4:=foQ mn 4;have d5:=coQ r8 5;have s5:=coQ mn 5;have f5:=foQ mn 5;simp at d0 s0 d1 s1 d2 s2 d3 s3 d4 s4 d5 s5;have KE:=zBQ (zBQ (zBQ (zBQ (zBQ (zBQ (mn) 0 (.int .i64 op)) 1 (.int .i64 k)) 2 (.int .i64 out)) 3 (.int .i64 n)) 4 (.slice a1 A.length mr)) 5 (.slice a2 E.length mW);have BE:=((((((B7).setCell (p:=⟨w.heap.size+1,0,none⟩) (by simp) (.int .i64 op)).setCell (p:=⟨w.heap.size+1,1,none⟩) (by simp) (.int .i64 k)).setCell (p:=⟨w.heap.size+1,2,none⟩) (by simp) (.int .i64 out)).setCell (p:=⟨w.heap.size+1,3,none⟩) (by simp) (.int .i64 n)).setCell (p:=⟨w.heap.size+1,4,none⟩) (by simp) (.slice a1 A.length mr)).setCell (p:=⟨w.heap.size+1,5,none⟩) (by simp) (.slice a2 E.length mW);have aj:∀ (X:World) (u:Value) (j:Nat) (i:Nat),w1.heap.size<=i->(X.setCell ⟨w.heap.size+1,j,none⟩ u).heap[i]?=X.heap[i]?:=fun X u j i hi=>zBU _ _ _ (by show w.heap.size+1≠i;omega);have gA:=zBK (show HInts (fun i=>w1.heap.size<=i) (((((((rG).setCell ⟨w.heap.size+1,0,none⟩ (.int .i64 op)).setCell ⟨w.heap.size+1,1,none⟩ (.int .i64 k)).setCell ⟨w.heap.size+1,2,none⟩ (.int .i64 out)).setCell ⟨w.heap.size+1,3,none⟩ (.int .i64 n)).setCell ⟨w.heap.size+1,4,none⟩ (.slice a1 A.length mr)).setCell ⟨w.heap.size+1,5,none⟩ (.slice a2 E.length mW)) (.slice a1 A.length mr) A/\HPu (fun i=>w1.heap.size<=i) (((((((rG).setCell ⟨w.heap.size+1,0,none⟩ (.int .i64 op)).setCell ⟨w.heap.size+1,1,none⟩ (.int .i64 k)).setCell ⟨w.heap.size+1,2,none⟩ (.int .i64 out)).setCell ⟨w.heap.size+1,3,none⟩ (.int .i64 n)).setCell ⟨w.heap.size+1,4,none⟩ (.slice a1 A.length mr)).setCell ⟨w.heap.size+1,5,none⟩ (.slice a2 E.length mW)) (.slice a2 E.length mW) E from ⟨uW.out.keep (by simp [World.setCell]) (fun i hi _=>by rw [aj _ _ _ i hi,aj _ _ _ i hi,aj _ _ _ i hi,aj _ _ _ i hi,aj _ _ _ i hi,aj _ _ _ i hi]),uX.out.keep (by simp [World.setCell]) (fun i hi _=>by rw [aj _ _ _ i hi,aj _ _ _ i hi,aj _ _ _ i hi,aj _ _ _ i hi,aj _ _ _ i hi,aj _ _ _ i hi])⟩);have r0:=coQ KE 0;have r1:=coQ KE 1;have r2:=coQ KE 2;have r3:=coQ KE 3;have r4:=coQ KE 4;have r5:=coQ KE 5;simp at r0 r1 r2 r3 r4 r5;clear KE r8 mn uW uX aj B6 kR kZ c0 c1 c2 c3 c4 c5;go_wp2;exact bodyPost_ret (v:=.agg #[.int .i64 op,.int .i64 k,.int .i64 out,.int .i64 n,.slice a1 A.length mr,.slice a2 E.length mW]) (by simp [results,Tryz.results15,go_sem,r0,r1,r2,r3,r4,r5]) rfl ⟨_,_,_,_,_,_,rfl,gA.out.1.wide (fun i hi _=>Nat.le_trans b1.size hi),gA.out.2.wide (fun i hi _=>Nat.le_trans b1.size hi),BE⟩
theorem own54_any {ok:Nat->Prop} {w:World} {r:Sk.Ru} {y:RuV} (hR:HRu ok w y r) (dm:r.A.length<=1000000) (fo:r.E.length<=1000000) :
  Calls Tryz.prog 15 #[.agg #[.int .i64 r.op,.int .i64 r.k,.int .i64 r.out,.int .i64 r.n,.slice y.aA y.nA y.cA,.slice y.aE y.nE y.cE]] w fun e w'=>∃ z:RuV,e=.returned (.agg #[.int .i64 r.op,.int .i64 r.k,.int .i64 r.out,.int .i64 r.n,.slice z.aA z.nA z.cA,.slice z.aE z.nE z.cE])/\HRu (fun i=>w.heap.size<=i) w' z r/\Below w.heap.size w w':=
 (own54_core hR.A hR.E dm fo).mono fun _ _ ⟨a1,n1,c1,a2,n2,c2,h1,h2,h3,h4⟩=>⟨⟨a1,n1,c1,a2,n2,c2⟩,h1,⟨h2,h3⟩,h4⟩
theorem zBa {α:Type} {T:Kind α} {B:Nat} {w:World} {v:Value} {l:List α} {sb:Nat} {cs:Array Value} {t:TypeId} (h:OwnL T B w v l) (hE:∀ ok ok' w cs a,T.E ok w cs a->T.E ok' w cs a) (hs:w.heap[sb]?=some (.cells cs t (0,0))) (ht:T.ty≠t):HRow T (fun i=>B<=i/\i<w.heap.size/\i≠sb) w v l:=by
 have hx:OwnX T (fun i=>v.ownBlock=some i) w v l:=by
  obtain ⟨D,⟨h1,h2⟩,h3⟩:=h;refine ⟨D,⟨h1,?_⟩,fun k hk=>hk,fun j hj=>hE _ _ _ _ _ (h3 j hj)⟩;rcases h2 with h | ⟨g,cap,cur,e1,e2,e3⟩
  ·exact .inl h
  ·exact .inr ⟨g,cap,cur,e1,Nat.zero_le _,e3⟩
 have hl:=h.lt;refine hx.row.wide fun i hi _=>⟨(hl i hi).1,(hl i hi).2,?_⟩;rintro rfl;obtain ⟨D,⟨h1,h2⟩,h3⟩:=h;rcases h2 with ⟨e,_⟩ | ⟨g,cap,cur,e1,e2,e3,_⟩
 ·rw [e] at hi;cases hi
 ·rw [e1] at hi
  injection hi with hi;have gW:g=i:=hi;rw [gW,hs] at e3;injection e3 with e3;injection e3 with _ e4;exact ht e4.symm
theorem zBb {α:Type} {T:Kind α} {B B':Nat} {w:World} {v:Value} {l:List α} (h:OwnL T B w v l) (hb:B'<=B):OwnL T B' w v l:=zAV (zCY h) (fun i hi=>Nat.le_trans hb hi.1)
end Go.Proofs.YtfhghlpfeeiaeaaGreatDoor
namespace Go.Proofs.YtfhghlpfeeiaeaaGreatDoor
open Go.RowKit Go.IntWalk
namespace Sk
theorem needs_in {S:Sys} (ok:Okay S):∀ r ∈ S.R,∀ z ∈ needs r,0<=z/\z<S.V.length:=fun r hr z hz=>(ok.rules r hr).2.uses z (needs_uses (ok.rules r hr).2 hz fun y hy=>uses_A hy)
end Sk
end Go.Proofs.YtfhghlpfeeiaeaaGreatDoor
namespace Go.Proofs.YtfhghlpfeeiaeaaGreatDoor
open Go Go.RowKit Go.IntWalk
section
variable {P:Program} {ops:Array Oper} {Q:Exit->Act->World->Prop} {md:Region.Mode} {S:World->Prop} {late:Nat->Bool}
end
def Blk (w:World) (B:Nat) (t:Value) (ty:TypeId) (v:Value):Prop:=∃ b,t=.pointer (some ⟨b,0,none⟩)/\B<=b/\w.heap[b]?=some (.cells #[v] ty (0,0))
theorem Blk.off {w:World} {B:Nat} {t:Value} {ty:TypeId} {v v' z:Value} {d d':Bool} (h:Blk w B t ty (if d=true then v else z)) (e:d=false) (e':d'=false):Blk w B t ty (if d'=true then v' else z):=by
 subst e e'
 simpa using h
def SlI (B:Nat) (w:World) (t:Value) (l:List Int):Prop:=(∃ p q c,t=.slice p q c)/\HInts (fun i=>i<B) w t l
theorem SlI.keep {B B1:Nat} {w w':World} {t:Value} {l:List Int} (h:SlI B w t l) (hb:Below B1 w w') (hB:B<=B1):SlI B w' t l:=⟨h.1,h.2.keep hb.size (fun i hi _=>hb.block i (Nat.lt_of_lt_of_le hi hB))⟩
end Go.Proofs.YtfhghlpfeeiaeaaGreatDoor
namespace Go.Proofs.YtfhghlpfeeiaeaaGreatDoor
open Go.RowKit Go.IntWalk
namespace Sk
structure Fine (V:List Vr) (L:List Int) (C:List (List Int)):Prop where
 len:C.length=V.length
 made:∀ x ∈ L,(cAt C x).length=cnt (vAt V x)
theorem cAt_set {C:List (List Int)} {x y:Int} {l:List Int} (hx:0<=x/\x<C.length) (hy:0<=y):cAt (C.set x.toNat l) y=if y=x then l else cAt C y:=by
 unfold cAt;by_cases e:y=x
 ·subst e
  have:y.toNat<C.length:=(by omega);simp [List.getD_eq_getElem?_getD,this]
 ·have:¬x.toNat=y.toNat:=by omega
  rw [if_neg e];simp [List.getD_eq_getElem?_getD,this]
theorem Fine.set {V:List Vr} {L:List Int} {C:List (List Int)} (h:Fine V L C) {x:Int} {l:List Int} (hx:0<=x/\x<V.length) (hl:l.length=cnt (vAt V x)) (hL:∀ y ∈ L,0<=y):Fine V (L++[x]) (C.set x.toNat l):=by
 refine ⟨by rw [List.length_set];exact h.len,fun y hy=>?_⟩;have lM:0<=x/\x<C.length:=(by rw [h.len];exact hx);have PL:0<=y:=by
  rcases List.mem_append.1 hy with q | q
  ·exact hL y q
  ·simp at q;omega
 rw [cAt_set lM PL];by_cases e:y=x
 ·rw [if_pos e,e];exact hl
 ·rw [if_neg e]
  rcases List.mem_append.1 hy with q | q
  ·exact h.made y q
  ·simp at q;exact absurd q e
def AhFine (V:List Vr) (ah:Int->Option (List Int)):Prop:=∀ x l,ah x=some l->l.length=cnt (vAt V x)
theorem evalR_len (V:List Vr) (C:List (List Int)) (ah:Int->Option (List Int)) (r:Ru):(evalR V C ah r).length=cnt (vAt V r.out):=by simp [evalR]
theorem fine_pos {S:Sys} (ok:Okay S) (i:Nat):∀ y ∈ S.I++(S.R.take i).map (·.out),0<=y:=by
 intro y hy;rcases List.mem_append.1 hy with q | q
 ·exact (ok.ins y q).1
 ·obtain ⟨r,hr,e⟩:=List.mem_map.1 q
  rw [<-e];exact (ok.rules r (List.mem_of_mem_take hr)).1.1.1
theorem fine_step {S:Sys} (ok:Okay S) {ah:Int->Option (List Int)} {i:Nat} (hi:i<S.R.length) {C:List (List Int)} (h:Fine S.V (S.I++(S.R.take i).map (·.out)) C):Fine S.V (S.I++(S.R.take (i+1)).map (·.out)) (C.set (S.R[i]).out.toNat (evalR S.V C ah S.R[i])):=by
 have:=h.set (ok.rules S.R[i] (List.getElem_mem _)).1.1 (evalR_len S.V C ah S.R[i]) (fine_pos ok i);rw [List.take_succ_eq_append_getElem hi,List.map_append,<-List.append_assoc];exact this
theorem runR_fine {S:Sys} (ok:Okay S) {ah:Int->Option (List Int)}:∀ (n i:Nat) {C:List (List Int)},n+i=S.R.length->Fine S.V (S.I++(S.R.take i).map (·.out)) C->Fine S.V (S.I++S.R.map (·.out)) (runR S.V ah C (S.R.drop i))
 | 0,i,C,e,h=>by
  have e2:i=S.R.length:=(by omega);subst e2;rw [List.drop_length];rw [List.take_length] at h;exact h
 | n+1,i,C,e,h=>by
  have hi:i<S.R.length:=(by omega);rw [List.drop_eq_getElem_cons hi];unfold runR;exact runR_fine ok n (i+1) (by omega) (fine_step ok hi h)
def wid (V:List Vr):List Int->Nat
 | []=>0
 | x :: r=>cnt (vAt V x)+wid V r
theorem wid_append (V:List Vr):∀ (a b:List Int),wid V (a++b)=wid V a+wid V b
 | [],b=>by simp [wid]
 | x :: r,b=>by
  rw [List.cons_append,wid,wid,wid_append V r b];omega
theorem width_wid {V:List Vr}:∀ (I:List Int),(∀ x ∈ I,0<=x/\x<V.length)->width V I=wid V I
 | [],_=>rfl
 | x :: r,h=>by
  unfold width;rw [if_pos (h x (by simp)),width_wid r fun y hy=>h y (by simp [hy])];simp [wid]
theorem wid_take_le (V:List Vr) (I:List Int) (j:Nat) (hj:j<I.length):wid V (I.take j)+cnt (vAt V I[j])<=wid V I:=by
 have e:I=I.take j++I[j] :: I.drop (j+1):=(by rw [<-List.drop_eq_getElem_cons hj,List.take_append_drop]);have:wid V I=wid V (I.take j++I[j] :: I.drop (j+1)):=(by rw [<-e]);rw [this,wid_append,wid];omega
theorem wid_succ (V:List Vr) (I:List Int) (j:Nat) (hj:j<I.length):wid V (I.take (j+1))=wid V (I.take j)+cnt (vAt V I[j]):=by
 rw [List.take_succ_eq_append_getElem hj,wid_append,wid,wid];omega
theorem takeV_fine {S:Sys} (ok:Okay S) {inp:List Int} (hw:inp.length=width S.V S.I):∀ (n j:Nat) {C:List (List Int)},n+j=S.I.length->Fine S.V (S.I.take j) C->(takeV S.V inp (wid S.V (S.I.take j)) (S.I.drop j) C).1.1=0->Fine S.V S.I (takeV S.V inp (wid S.V (S.I.take j)) (S.I.drop j) C).2
 | 0,j,C,e,h,_=>by
  have e2:j=S.I.length:=(by omega);subst e2;rw [List.drop_length];rw [List.take_length] at h;exact h
 | n+1,j,C,e,h,hz=>by
  have hj:j<S.I.length:=(by omega);rw [List.drop_eq_getElem_cons hj] at hz ⊢;unfold takeV at hz ⊢
  split at hz
  ·simp at hz
  ·rename_i hn
   rw [if_neg hn];rw [<-wid_succ S.V S.I j hj] at hz ⊢;refine takeV_fine ok hw n (j+1) (by omega) ?_ hz;have hl:((inp.drop (wid S.V (S.I.take j))).take (cnt (vAt S.V S.I[j]))).length=cnt (vAt S.V S.I[j]):=by
    have:=wid_take_le S.V S.I j hj;rw [List.length_take,List.length_drop,hw,width_wid S.I ok.ins];omega
   have:=h.set (ok.ins S.I[j] (List.getElem_mem _)) hl fun y hy=>(ok.ins y (List.mem_of_mem_take hy)).1;rw [List.take_succ_eq_append_getElem hj];exact this
theorem fine_start (V:List Vr):Fine V [] (List.replicate V.length []):=⟨by simp,fun x hx=>by cases hx⟩
theorem keepF_fine {V:List Vr} {C:List (List Int)}:∀ (R:List Ru) {f:Int->Option (List Int)},AhFine V f->(∀ r ∈ R,r.op=13->(cAt C (aN r 1)).length=cnt (vAt V (aN r 1)))->AhFine V (keepF C f R)
 | [],f,h,_=>h
 | r :: l,f,h,hr=>by
  unfold keepF;refine keepF_fine l ?_ fun q hq=>hr q (by simp [hq])
  split
  ·rename_i e
   intro x t ht;unfold putA at ht
   split at ht
   ·rename_i ex
    injection ht with ht;rw [<-ht,ex];exact hr r (by simp) e
   ·exact h x t ht
  ·exact h
theorem pre_used {V:List Vr} {r:Ru} (h:RuOk V r) (e:r.op=13):r.A.length=2/\aN r 1 ∈ uses r:=by
 have cw:=h.form;unfold hasForm at cw;rw [Bool.and_eq_true,Bool.and_eq_true,decide_eq_true_iff,decide_eq_true_iff,beq_iff_eq] at cw;have hA:=cw.2;rw [e] at hA;have:partsT.getD (13:Int).toNat 0=2:=rfl;rw [this] at hA;have hl:r.A.length=2:=(by omega);exact ⟨hl,uses_A (aN_mem (by omega))⟩
theorem keep_fine {S:Sys} (ok:Okay S) {C:List (List Int)} (h:Fine S.V (S.I++S.R.map (·.out)) C):AhFine S.V (keepF C (fun _=>none) S.R):=by
 refine keepF_fine S.R (fun x l hl=>by cases hl) fun r hr e=>?_;have:=(pre_used (ok.rules r hr).2 e).2;exact h.made _ (by have:=ok.used r hr _ this;simpa using this)
end Sk
end Go.Proofs.YtfhghlpfeeiaeaaGreatDoor
