import Derived.Test.YtfhghlpfeeiaeaaGreatDoorX31
import Derived.Test.YtfhghlpfeeiaeaaGreatDoorX29
set_option linter.unusedVariables false
set_option linter.unusedSimpArgs false
set_option maxHeartbeats 64000000
set_option maxRecDepth 100000
namespace Go.Proofs.YtfhghlpfeeiaeaaGreatDoor
open Go.RowKit Go.IntWalk
theorem partD_any {L:List Nat} {mb vb:Nat} {g:MgV} {S:Sk.Sys} {ah:Int->Option (List Int)} {C:List (List Int)} {E:List Pu} {aE:Option Addr} {cE k n:Nat} (hT:Sk.TFit C n E) (nK:k<n) (hC:Sk.WdC C) (hB:∀ z,(Sk.cAt C z).length<=300) (hO:∀ p ∈ E,nmd p=true->OfAt L mb vb g S ah C p.v) :
  ∀ i,i<E.length->∀ W,MgSt L mb vb g S ah C W->HPu (· ∉ L) W (.slice aE E.length cE) E->Calls Tryz.prog 87 #[.pointer (some ⟨mb,0,none⟩),.slice aE E.length cE,.int .i64 (i:Int),.int .i64 (k:Int)] W (PartD L mb vb g S ah C k E (i+1) W):=by
 intro i
 induction i using Nat.strongRecOn with
 | _ i IH=>
  intro hi W hs hE;have hlen:=hT.len;have dt:=hT.sz;have lZ:=hT.wide;have hk:k<=1000000:=(by omega);have yz:∀ q,0<(Sk.stkS C k E q).length->q<=i->∀ V,MgSt L mb vb g S ah C V->HPu (· ∉ L) V (.slice aE E.length cE) E->Calls Tryz.prog 87 #[.pointer (some ⟨mb,0,none⟩),.slice aE E.length cE,.int .i64 ((q:Int)-1),.int .i64 (k:Int)] V (PartD L mb vb g S ah C k E (q) V):=fun q h0 hq V hV A3=>by
   have h1:=Sk.stkS_pos h0;obtain ⟨r,rfl⟩:∃ r,q=r+1:=⟨q-1,by omega⟩;have h2:=IH r (by omega) (by omega) V hV A3;have e:((r+1:Nat):Int)-1=(r:Int):=(by omega);rw [e];exact h2
  obtain ⟨f1,-⟩:=(hT.stk k).at' i hi;have Co:=hT.ops _ (List.getElem_mem hi);have sR:=hT.step _ (List.getElem_mem hi);have Cl:=hO _ (List.getElem_mem hi);obtain ⟨p,hp⟩:∃ p,E[i]=p:=⟨_,rfl⟩;rw [hp] at f1 Co sR Cl;obtain ⟨op,pk,pv,pn⟩:=p
  dsimp only at f1 Co Cl
  have L2:2<=(Sk.stkS C k E i).length->∀ (b:Int) (m:Nat),Sk.PartS C k E i b m->∀ V,MgSt L mb vb g S ah C V->HPu (· ∉ L) V (.slice aE E.length cE) E->Calls Tryz.prog 87 #[.pointer (some ⟨mb,0,none⟩),.slice aE E.length cE,.int .i64 ((m:Int)-1),.int .i64 (k:Int)] V (PartD L mb vb g S ah C k E (m) V):=fun h2 b m h V hV A3=>
   yz m (by have:=h.len;omega) h.lt V hV A3
  have hc:op=1\/op=2\/op=3\/op=4\/op=5\/op=6\/op=7\/op=8:=(by omega);rcases hc with rfl | rfl | rfl | rfl | rfl | rfl | rfl | rfl
  ·exact partD1_any hs hE hi hlen hp
  ·exact partD2_any hs hE hi hlen hp (Cl (by unfold nmd;rfl)) (sR.f2 rfl).2
  ·obtain ⟨-,h0,h1⟩:=sR.f3 rfl
   dsimp only at h0 h1
   obtain ⟨m,rfl⟩:∃ m:Nat,pn=(m:Int):=⟨pn.toNat,by omega⟩;exact partD3_any hs hE hi hlen hp (Cl (by unfold nmd;rfl)) (by omega) (by have h9:=hB pv;omega)
  ·exact partD4_any hs hE hi hlen hp (by omega) (sR.f4 rfl)
  ·exact partDU_any hs hE hi hlen hC lZ hk hp (fun V=>yz i (by simp [Sk.takesN] at f1;omega) zBR V)
  ·have h2:2<=(Sk.stkS C k E i).length:=by simp [Sk.takesN] at f1;omega
   exact partDB_any hs hE hi hlen hC lZ hk hp (yz i (by omega) zBR) (L2 h2)
  ·have h3:3<=(Sk.stkS C k E i).length:=by simp [Sk.takesN] at f1;omega
   exact partDS_any hs hE hi hlen hC lZ hk hp (yz i (by omega) zBR) (L2 (by omega)) fun b m a q h1 h2 V hV A3=>yz q (by have:=h1.len;have:=h2.len;omega) (Nat.le_trans h2.lt h1.lt) V hV A3
  ·have h2:2<=(Sk.stkS C k E i).length:=by simp [Sk.takesN] at f1;omega
   exact partDA_any hs hE hi hlen hC lZ hk hp (Cl (by unfold nmd;rfl)) (yz i (by omega) zBR) (L2 h2)
def TreeD (L:List Nat) (mb vb:Nat) (g:MgV) (S:Sk.Sys) (ah:Int->Option (List Int)) (C:List (List Int)) (k:Nat) (E:List Pu) (w:World) (e:Ending) (w':World):Prop :=
 e=.returned (.int .i64 (Sk.treeV C k [] E))/\MgSt L mb vb g S ah C w'/\Aside [vb] w.heap.size w w'
theorem zDG {L:List Nat} {mb vb:Nat} {g:MgV} {S:Sk.Sys} {ah:Int->Option (List Int)} {C:List (List Int)} {w:World} {E:List Pu} {aE:Option Addr} {cE k n:Nat} (hs:MgSt L mb vb g S ah C w) (hE:HPu (· ∉ L) w (.slice aE E.length cE) E) (hT:Sk.TFit C n E) (nK:k<n) (hC:Sk.WdC C) (hB:∀ z,(Sk.cAt C z).length<=300) (hO:∀ p ∈ E,nmd p=true->OfAt L mb vb g S ah C p.v) :
  Calls Tryz.prog 77 #[.pointer (some ⟨mb,0,none⟩),.slice aE E.length cE,.int .i64 (k:Int)] w (TreeD L mb vb g S ah C k E w):=by
 have Pd:=hT.pos;have hl:=hT.len;have HC:=zBK (show Calls Tryz.prog 87 #[.pointer (some ⟨mb,0,none⟩),.slice aE E.length cE,.int .i64 ((E.length:Int)-1),.int .i64 (k:Int)] w (PartD L mb vb g S ah C k E (E.length) w) by
  obtain ⟨r,hr⟩:∃ r,E.length=r+1:=⟨E.length-1,by omega⟩;have h2:=partD_any (aE:=aE) (cE:=cE) hT nK hC hB hO r (by omega) w hs hE;have e:(E.length:Int)-1=(r:Int):=(by omega);rw [e];rw [<-hr] at h2;exact h2)
 have HT:=zBK (fun (v:Int) (j:Nat) (h:Sk.PartS C k E E.length v j)=>h.tree (hT.stk k));clear hs hE hT nK hC hB hO;unfold TreeD;generalize Sk.treeV C k [] E=R at HT ⊢;obtain ⟨ne,hne⟩:=nmQ (E.length);rw [<-hne] at HC HT Pd hl ⊢;clear hne;go_enter Tryz.func77,Tryz.ntmps77;go_wp2_with fail;refine HC.out.mono ?_;rintro e w1 ⟨v,j,rfl,hP,cQ,ha⟩;have hv:=HT.out v j hP;subst hv;have eF:=zBK cQ;have HA:=zBK ha;clear hP HT HC cQ ha;go_wp2;go_ret;exact ⟨rfl,eF.out,HA.out⟩
theorem zDH {w w':World} {v:Value} {B:Nat} (g:w.grownBy w' v.ownBlock) (hv:∀ k,v.ownBlock=some k->B<=k) (hB:B<=w.heap.size):Below B w w' :=
 ⟨g.os,g.tape,g.output,g.size,fun k hk=>g.block k (by omega) (fun e=>by have:=hv k e.symm;omega)⟩
theorem zBf {α:Type} (T:Kind α) {w:World} (t ty:TypeId) (ht:Tryz.prog.underlying t=some (.slice T.ty)) {ok:Nat->Prop} {u:Value} {r:List α} (hr:HRow T ok w u r) (hE:∀ ok ok' w cs a,T.E ok w cs a->T.E ok' w cs a) (hM:r.length*T.bytes<=140737488355328) (hm:r.length<=maxLen) :
  ∃ a c w',(Builtin.append_ #[t,t] ty #[.slice none 0 0,u]).run Tryz.prog w=.ok (.slice a r.length c) w'/\OwnL T w.heap.size w' (.slice a r.length c) r/\Below w.heap.size w w':=by
 obtain ⟨v',w',h1,h2,h3,h4⟩:=zCA T t ty ht (OwnX.nil (T:=T) (ok:=fun _=>False)) hr (fun k h=>by cases h) (by simpa using hM) (by simpa using hm);rw [List.nil_append] at h2;obtain ⟨a,c,rfl,-,-⟩:=h2.form;refine ⟨a,c,w',h1,zBt h2 (fun k hk=>?_) hE,zDH h3 (fun k hk=>by cases hk) zBR⟩;rcases h4 with h | ⟨q,hq,aY⟩
 ·rw [h] at hk;cases hk
 ·rw [hq] at hk;injection hk with hk;omega
theorem zBG {ok:Nat->Prop} {w:World} {op k out n:Int} {aA aE:Option Addr} {nA cA nE cE:Nat} {A:List Int} {E:List Pu} (hA:HInts ok w (.slice aA nA cA) A) (hE:HPu ok w (.slice aE nE cE) E) (dm:A.length<=1000000) (fo:E.length<=1000000) :
  Calls Tryz.prog 23 #[.agg #[.int .i64 op,.int .i64 k,.int .i64 out,.int .i64 n,.slice aA nA cA,.slice aE nE cE]] w fun e w'=>∃ a1 n1 c1 a2 n2 c2,e=.returned (.agg #[.int .i64 op,.int .i64 k,.int .i64 out,.int .i64 n,.slice a1 n1 c1,.slice a2 n2 c2])/\HInts (fun i=>w.heap.size<=i) w' (.slice a1 n1 c1) A/\HPu (fun i=>w.heap.size<=i) w' (.slice a2 n2 c2) E/\Below w.heap.size w w':=by
 have b1:Below w.heap.size w ((w.alloc (.cells #[.int .i64 op,.int .i64 k,.int .i64 out,.int .i64 n,.slice aA nA cA,.slice aE nE cE] 42 (0,0))).alloc (.cells #[.int .i64 0,.int .i64 0,.int .i64 0,.int .i64 0,.slice none 0 0,.slice none 0 0] 42 (0,0))):=((Below.refl _ _).alloc zBR _).alloc (by simp) _;have kR:((w.alloc (.cells #[.int .i64 op,.int .i64 k,.int .i64 out,.int .i64 n,.slice aA nA cA,.slice aE nE cE] 42 (0,0))).alloc (.cells #[.int .i64 0,.int .i64 0,.int .i64 0,.int .i64 0,.slice none 0 0,.slice none 0 0] 42 (0,0))).heap[w.heap.size]?=some (.cells #[.int .i64 op,.int .i64 k,.int .i64 out,.int .i64 n,.slice aA nA cA,.slice aE nE cE] 42 (0,0)):=(Below.heap_alloc _ _ _ (by simp)).trans (zBO w _);have kZ:((w.alloc (.cells #[.int .i64 op,.int .i64 k,.int .i64 out,.int .i64 n,.slice aA nA cA,.slice aE nE cE] 42 (0,0))).alloc (.cells #[.int .i64 0,.int .i64 0,.int .i64 0,.int .i64 0,.slice none 0 0,.slice none 0 0] 42 (0,0))).heap[w.heap.size+1]?=some (.cells #[.int .i64 0,.int .i64 0,.int .i64 0,.int .i64 0,.slice none 0 0,.slice none 0 0] 42 (0,0)):=by
  have:=zBO (w.alloc (.cells #[.int .i64 op,.int .i64 k,.int .i64 out,.int .i64 n,.slice aA nA cA,.slice aE nE cE] 42 (0,0))) (.cells #[.int .i64 0,.int .i64 0,.int .i64 0,.int .i64 0,.slice none 0 0,.slice none 0 0] 42 (0,0))
  simpa using this
 have HA:=zBK (hA.under b1);have HE:=zBK ((hE.wide (ok':=fun i=>i<w.heap.size) fun i _ h=>h).under b1);clear hA hE;go_enter Tryz.func23,Tryz.ntmps23;go_upto_region 3 with fail;generalize (w.alloc (.cells #[.int .i64 op,.int .i64 k,.int .i64 out,.int .i64 n,.slice aA nA cA,.slice aE nE cE] 42 (0,0))).alloc (.cells #[.int .i64 0,.int .i64 0,.int .i64 0,.int .i64 0,.slice none 0 0,.slice none 0 0] 42 (0,0))=w1 at b1 kR kZ HA HE ⊢;have e0:=coQ kR 0;have e1:=coQ kR 1;have e2:=coQ kR 2;have e3:=coQ kR 3;have e4:=coQ kR 4;have e5:=coQ kR 5;simp at e0 e1 e2 e3 e4 e5;have yR:=zBM kR;have yZ:=zBM kZ;obtain ⟨a1,c1,w2,r2,o2,b2⟩:=zBf kInt (w:=w1) 23 23 Tryz.underlying23 (ok:=ok) HA.out (fun _ _ _ _ _ h=>h) (by show A.length*8<=_;omega) (by unfold maxLen;omega);have H1:=zBK (zBj o2.row);have yp:=zBK (HE.out.under b2);have td:=(b2.block _ yR).trans kR;have CO:=(b2.block _ yZ).trans kZ;have uR:=coQ td 4;have F4:=foQ td 4;simp at uR;have B2:=b1.trans (b2.mono b1.size);have zW:=b2.size;clear o2 HE HA;have KR:=zBQ td 4 (.slice a1 A.length c1);simp at KR;have KZ:=zBT (p:=⟨w.heap.size,4,none⟩) CO (by show w.heap.size≠w.heap.size+1;omega) (.slice a1 A.length c1);have B3:=B2.setCell (p:=⟨w.heap.size,4,none⟩) zBR (.slice a1 A.length c1);have LM:(w2.setCell ⟨w.heap.size,4,none⟩ (.slice a1 A.length c1)).heap.size=w2.heap.size:=(by simp [World.setCell]);have GN:∀ i,i≠w.heap.size->(w2.setCell ⟨w.heap.size,4,none⟩ (.slice a1 A.length c1)).heap[i]?=w2.heap[i]?:=fun i hi=>zBU _ _ _ (by show w.heap.size≠i;omega);have yi:=zBK (H1.out.keep (w':=w2.setCell ⟨w.heap.size,4,none⟩ (.slice a1 A.length c1)) (by omega) (fun i hi _=>GN i (by have h1:w1.heap.size<=i:=hi;omega)));have yq:=zBK (yp.out.keep (w':=w2.setCell ⟨w.heap.size,4,none⟩ (.slice a1 A.length c1)) (by omega) (fun i hi _=>GN i (by have h1:i<w.heap.size:=hi;omega)));go_upto_region 4 with (at_builtin;refine zBc rfl _ _ 23 rfl _ _ _ (by rfl) (by rfl) r2 ?_);clear uR F4 td CO H1 yp e0 e1 e2 e3 e4 e5 kR kZ b2 B2 r2;clear GN;generalize w2.setCell ⟨w.heap.size,4,none⟩ (.slice a1 A.length c1)=w3 at KR KZ B3 yi yq LM ⊢;have x5:=coQ KR 5;simp at x5;obtain ⟨a2,c2,w4,r4,o4,b4⟩:=zBf kPu (w:=w3) 40 40 Tryz.underlying40 (ok:=fun i=>i<w.heap.size) yq.out (fun _ _ _ _ _ h=>h) (by show E.length*32<=_;omega) (by unfold maxLen;omega);have H2:=zBK (pus_row o4.row);have yj:=zBK (yi.out.under b4);have Ql:=zBM KR;have Qp:=zBM KZ;have lg:=(b4.block _ Ql).trans KR;have Ma:=(b4.block _ Qp).trans KZ;have uS:=coQ lg 5;have F5:=foQ lg 5;simp at uS;have B4:=B3.trans (b4.mono B3.size);have r9:=zBQ lg 5 (.slice a2 E.length c2);simp at r9;have mq:=zBT (p:=⟨w.heap.size,5,none⟩) Ma (by show w.heap.size≠w.heap.size+1;omega) (.slice a2 E.length c2);have B5:=B4.setCell (p:=⟨w.heap.size,5,none⟩) zBR (.slice a2 E.length c2);have LN:(w4.setCell ⟨w.heap.size,5,none⟩ (.slice a2 E.length c2)).heap.size=w4.heap.size:=(by simp [World.setCell]);have GO:∀ i,i≠w.heap.size->(w4.setCell ⟨w.heap.size,5,none⟩ (.slice a2 E.length c2)).heap[i]?=w4.heap[i]?:=fun i hi=>zBU _ _ _ (by show w.heap.size≠i;omega);have uW:=zBK (yj.out.keep (w':=w4.setCell ⟨w.heap.size,5,none⟩ (.slice a2 E.length c2)) (by omega) (fun i hi _=>GO i (by have h1:w1.heap.size<=i:=hi;omega)));have uX:=zBK ((H2.out.wide (ok':=fun i=>w1.heap.size<=i) fun i hi _=>by have h1:w3.heap.size<=i:=hi;omega).keep (w':=w4.setCell ⟨w.heap.size,5,none⟩ (.slice a2 E.length c2)) (by omega) (fun i hi _=>GO i (by have h1:w1.heap.size<=i:=hi;omega)));clear o4 yq yi yj H2 GO;go_upto_region 5 with (at_builtin;refine zBc rfl _ _ 40 rfl _ _ _ (by rfl) (by rfl) r4 ?_);clear uS F5 lg Ma KR KZ B3 B4 b4 r4 x5 LM;generalize w4.setCell ⟨w.heap.size,5,none⟩ (.slice a2 E.length c2)=w5 at r9 mq B5 uW uX LN ⊢;have d0:=coQ r9 0;have s0:=coQ mq 0;have f0:=foQ mq 0;have d1:=coQ r9 1;have s1:=coQ mq 1;have f1:=foQ mq 1;have d2:=coQ r9 2;have s2:=coQ mq 2;have f2:=foQ mq 2;have d3:=coQ r9 3;have s3:=coQ mq 3;have f3:=foQ mq 3;have d4:=coQ r9 4;have s4:=coQ mq 4;have f4:=foQ mq 4;have d5:=coQ r9 5;have s5:=coQ mq 5;have f5:=foQ mq 5;simp at d0 s0 d1 s1 d2 s2 d3 s3 d4 s4 d5 s5;have KE:=zBQ (zBQ (zBQ (zBQ (zBQ (zBQ (mq) 0 (.int .i64 op)) 1 (.int .i64 k)) 2 (.int .i64 out)) 3 (.int .i64 n)) 4 (.slice a1 A.length c1)) 5 (.slice a2 E.length c2);have BE:=((((((B5).setCell (p:=⟨w.heap.size+1,0,none⟩) (by simp) (.int .i64 op)).setCell (p:=⟨w.heap.size+1,1,none⟩) (by simp) (.int .i64 k)).setCell (p:=⟨w.heap.size+1,2,none⟩) (by simp) (.int .i64 out)).setCell (p:=⟨w.heap.size+1,3,none⟩) (by simp) (.int .i64 n)).setCell (p:=⟨w.heap.size+1,4,none⟩) (by simp) (.slice a1 A.length c1)).setCell (p:=⟨w.heap.size+1,5,none⟩) (by simp) (.slice a2 E.length c2);have aj:∀ (X:World) (u:Value) (j:Nat) (i:Nat),w1.heap.size<=i->(X.setCell ⟨w.heap.size+1,j,none⟩ u).heap[i]?=X.heap[i]?:=fun X u j i hi=>zBU _ _ _ (by show w.heap.size+1≠i;omega);have gA:=zBK (show HInts (fun i=>w1.heap.size<=i) (((((((w5).setCell ⟨w.heap.size+1,0,none⟩ (.int .i64 op)).setCell ⟨w.heap.size+1,1,none⟩ (.int .i64 k)).setCell ⟨w.heap.size+1,2,none⟩ (.int .i64 out)).setCell ⟨w.heap.size+1,3,none⟩ (.int .i64 n)).setCell ⟨w.heap.size+1,4,none⟩ (.slice a1 A.length c1)).setCell ⟨w.heap.size+1,5,none⟩ (.slice a2 E.length c2)) (.slice a1 A.length c1) A/\HPu (fun i=>w1.heap.size<=i) (((((((w5).setCell ⟨w.heap.size+1,0,none⟩ (.int .i64 op)).setCell ⟨w.heap.size+1,1,none⟩ (.int .i64 k)).setCell ⟨w.heap.size+1,2,none⟩ (.int .i64 out)).setCell ⟨w.heap.size+1,3,none⟩ (.int .i64 n)).setCell ⟨w.heap.size+1,4,none⟩ (.slice a1 A.length c1)).setCell ⟨w.heap.size+1,5,none⟩ (.slice a2 E.length c2)) (.slice a2 E.length c2) E from ⟨uW.out.keep (by simp [World.setCell]) (fun i hi _=>by rw [aj _ _ _ i hi,aj _ _ _ i hi,aj _ _ _ i hi,aj _ _ _ i hi,aj _ _ _ i hi,aj _ _ _ i hi]),uX.out.keep (by simp [World.setCell]) (fun i hi _=>by rw [aj _ _ _ i hi,aj _ _ _ i hi,aj _ _ _ i hi,aj _ _ _ i hi,aj _ _ _ i hi,aj _ _ _ i hi])⟩);have r0:=coQ KE 0;have r1:=coQ KE 1;have r2:=coQ KE 2;have r3:=coQ KE 3;have r4:=coQ KE 4;have r5:=coQ KE 5;simp at r0 r1 r2 r3 r4 r5;clear KE r9 mq uW uX aj LN;go_wp2;exact bodyPost_ret (v:=.agg #[.int .i64 op,.int .i64 k,.int .i64 out,.int .i64 n,.slice a1 A.length c1,.slice a2 E.length c2]) (by simp [results,Tryz.results23,go_sem,r0,r1,r2,r3,r4,r5]) rfl ⟨_,_,_,_,_,_,rfl,gA.out.1.wide (fun i hi _=>Nat.le_trans b1.size hi),gA.out.2.wide (fun i hi _=>Nat.le_trans b1.size hi),BE⟩
theorem zCu {ok:Nat->Prop} {w:World} {r:Sk.Ru} {y:RuV} (hR:HRu ok w y r) (dm:r.A.length<=1000000) (fo:r.E.length<=1000000) :
  Calls Tryz.prog 23 #[.agg #[.int .i64 r.op,.int .i64 r.k,.int .i64 r.out,.int .i64 r.n,.slice y.aA y.nA y.cA,.slice y.aE y.nE y.cE]] w fun e w'=>∃ z:RuV,e=.returned (.agg #[.int .i64 r.op,.int .i64 r.k,.int .i64 r.out,.int .i64 r.n,.slice z.aA z.nA z.cA,.slice z.aE z.nE z.cE])/\HRu (fun i=>w.heap.size<=i) w' z r/\Below w.heap.size w w':=
 (zBG hR.A hR.E dm fo).mono fun _ _ ⟨a1,n1,c1,a2,n2,c2,h1,h2,h3,h4⟩=>⟨⟨a1,n1,c1,a2,n2,c2⟩,h1,⟨h2,h3⟩,h4⟩
def kHd:Kind Value where
 ty:=44
 k:=1
 bytes:=24
 zero:=.slice none 0 0
 E:=fun _ _ cs u=>cs=[u]/\u.oneCell'=true
 pos:=by decide
 zs:=rfl
 info:=Tryz.infoLL
 len:=by rintro _ _ _ _ ⟨rfl,_⟩;rfl
 one:=by
  rintro _ _ _ _ ⟨rfl,h⟩ v hv;simp at hv;subst hv;exact h
 keep:=by rintro _ _ _ _ _ h _ _;exact h
 wide:=by rintro _ _ _ _ _ h _;exact h
theorem RowS.one {L:List Nat} {w:World} {u:Value} {l:List Int} (h:RowS L w u l):u.oneCell'=true:=by
 obtain ⟨a,c,rfl,_⟩:=h;rfl
theorem RowS.less {L L':List Nat} {w:World} {u:Value} {l:List Int} (h:RowS L' w u l) (hs:∀ q ∈ L,q ∈ L'):RowS L w u l:=by
 obtain ⟨a,c,e,h⟩:=h;exact ⟨a,c,e,h.wide fun i hi _ hm=>hi (hs i hm)⟩
theorem RowS.grow {L:List Nat} {w w':World} {u:Value} {l:List Int} {q:Nat} (h:RowS L w u l) (h1:w.heap.size<=w'.heap.size) (h2:∀ i,i ∉ L->i<w.heap.size->w'.heap[i]?=w.heap[i]?) (hq:q ∈ L\/w.heap.size<=q):RowS (q :: L) w' u l:=by
 obtain ⟨a,c,e,h⟩:=h;refine ⟨a,c,e,?_⟩;have h3:=h.wide (ok':=fun i=>i ∉ L/\i<w.heap.size) (fun i hi hl=>⟨hi,hl⟩);refine (h3.keep h1 fun i hi hl=>h2 i hi.1 hl).wide fun i hi _=>?_;simp;refine ⟨fun e=>?_,hi.1⟩;rcases hq with q1 | q1
 ·exact hi.1 (e ▸ q1)
 ·have:=hi.2;omega
theorem MgSt.grow {L:List Nat} {mb vb:Nat} {g:MgV} {S:Sk.Sys} {ah:Int->Option (List Int)} {C:List (List Int)} {w w':World} {q:Nat} (h:MgSt L mb vb g S ah C w) (h1:w.heap.size<=w'.heap.size) (h2:∀ i,i ∉ L->i<w.heap.size->w'.heap[i]?=w.heap[i]?) (hm:w'.heap[mb]?=w.heap[mb]?) (hv:w'.heap[vb]?=w.heap[vb]?) (hq:q ∈ L\/w.heap.size<=q) (aY:q<w'.heap.size):MgSt (q :: L) mb vb g S ah C w':=by
 have hk:∀ i,(i ∉ L/\i<w.heap.size)->i ∉ q :: L:=fun i hi=>by
  simp;refine ⟨fun e=>?_,hi.1⟩;rcases hq with q1 | q1
  ·exact hi.1 (e ▸ q1)
  ·have:=hi.2;omega
 refine ⟨hm.trans h.m,?_,?_,?_,by simp [h.mL],by simp [h.vL],fun z hz=>?_,h.ne⟩
 ·exact ((h.sys.wide (ok':=fun i=>i ∉ L/\i<w.heap.size) fun i hi hl=>⟨hi,hl⟩).keep h1 fun i hi hl=>h2 i hi.1 hl).wide fun i hi _=>hk i hi
 ·rcases h.keep with h0 | ⟨h0,kb,ks,e,rp,hh,hr⟩
  ·exact .inl h0
  ·refine .inr ⟨h0,kb,ks,e,hk kb ⟨rp,zBM hh⟩,(h2 kb rp (zBM hh)).trans hh,fun i hi ho=>?_⟩
   obtain ⟨l,u,e1,e2,h3⟩:=hr i hi ho;exact ⟨l,u,e1,e2,h3.grow h1 h2 hq⟩
 ·obtain ⟨cs,k,hs,jX,hI⟩:=h.memo
  refine ⟨cs,hv.trans k,hs,fun i hi=>?_,fun x hx=>?_⟩
  ·rcases jX i hi with h | ⟨u,e,hr⟩
   ·exact .inl h
   ·exact .inr ⟨u,e,hr.grow h1 h2 hq⟩
  ·obtain ⟨u,e,hr⟩:=hI x hx
   exact ⟨u,e,hr.grow h1 h2 hq⟩
 ·rcases List.mem_cons.1 hz with e | hz
  ·rw [e];exact aY
  ·exact Nat.lt_of_lt_of_le (h.lt z hz) h1
theorem MgSt.less {L L':List Nat} {mb vb:Nat} {g:MgV} {S:Sk.Sys} {ah:Int->Option (List Int)} {C:List (List Int)} {w:World} (h:MgSt L' mb vb g S ah C w) (hs:∀ q ∈ L,q ∈ L') (hm:mb ∈ L) (hv:vb ∈ L):MgSt L mb vb g S ah C w:=by
 have hk:∀ i,i ∉ L'->i ∉ L:=fun i hi hm=>hi (hs i hm);refine ⟨h.m,h.sys.wide fun i hi _=>hk i hi,?_,?_,hm,hv,fun q hq=>h.lt q (hs q hq),h.ne⟩
 ·rcases h.keep with h0 | ⟨h0,kb,ks,e,rp,hh,hr⟩
  ·exact .inl h0
  ·refine .inr ⟨h0,kb,ks,e,hk kb rp,hh,fun i hi ho=>?_⟩
   obtain ⟨l,u,e1,e2,h3⟩:=hr i hi ho;exact ⟨l,u,e1,e2,h3.less hs⟩
 ·obtain ⟨cs,k,Pk,jX,hI⟩:=h.memo
  refine ⟨cs,k,Pk,fun i hi=>?_,fun x hx=>?_⟩
  ·rcases jX i hi with h | ⟨u,e,hr⟩
   ·exact .inl h
   ·exact .inr ⟨u,e,hr.less hs⟩
  ·obtain ⟨u,e,hr⟩:=hI x hx
   exact ⟨u,e,hr.less hs⟩
structure PtsAt (L L':List Nat) (mb vb:Nat) (g:MgV) (S:Sk.Sys) (ah:Int->Option (List Int)) (C:List (List Int)) (B:Nat) (w:World) (va:Value) (us:List Value) (zs:List Int):Prop where
 own:OwnL kHd B w va us
 len:us.length=zs.length
 row:∀ j (h:j<zs.length) (h2:j<us.length),RowS L' w us[j] (Sk.cAt C zs[j])
 blk:∀ q,va.ownBlock=some q->q ∈ L'
 sub:∀ q ∈ L,q ∈ L'
 st:MgSt L' mb vb g S ah C w
 lo:mb<B/\vb<B
 new:∀ q ∈ L',q ∈ L\/B<=q
theorem RowS.past {L:List Nat} {vb:Nat} {w w':World} {u:Value} {l:List Int} (h:RowS L w u l) (a:Aside [vb] w.heap.size w w') (hv:vb ∈ L):RowS L w' u l :=
 h.keep a.size fun i hi hl=>a.block i hl (by simp;intro e;exact hi (e ▸ hv))
theorem PtsAt.past {L L':List Nat} {mb vb:Nat} {g:MgV} {S:Sk.Sys} {ah:Int->Option (List Int)} {C:List (List Int)} {B:Nat} {w w':World} {va:Value} {us:List Value} {zs:List Int} (h:PtsAt L L' mb vb g S ah C B w va us zs) (a:Aside [vb] w.heap.size w w') (hs:MgSt L' mb vb g S ah C w'):PtsAt L L' mb vb g S ah C B w' va us zs :=
 ⟨h.own.past a (by intro k hk;simp at hk;rw [hk];exact h.lo.2),h.len,fun j h1 h2=>(h.row j h1 h2).past a hs.vL,h.blk,h.sub,hs,h.lo,h.new⟩
theorem PtsAt.under {L L':List Nat} {mb vb:Nat} {g:MgV} {S:Sk.Sys} {ah:Int->Option (List Int)} {C:List (List Int)} {B:Nat} {w w':World} {va:Value} {us:List Value} {zs:List Int} (h:PtsAt L L' mb vb g S ah C B w va us zs) (b:Below w.heap.size w w'):PtsAt L L' mb vb g S ah C B w' va us zs:=h.past (aside b) (h.st.under b)
theorem PtsAt.more {L L':List Nat} {mb vb:Nat} {g:MgV} {S:Sk.Sys} {ah:Int->Option (List Int)} {C:List (List Int)} {B:Nat} {w w':World} {va v' u:Value} {us:List Value} {zs:List Int} {z:Int} {t:TypeId} (h:PtsAt L L' mb vb g S ah C B w va us zs) (hu:RowS L' w u (Sk.cAt C z)) (pP:B<=w.heap.size) (own:OwnL kHd B w' v' (us++[u])) (hg:(w.alloc (.cells #[u] t (0,0))).grownBy w' va.ownBlock) (hm:Moved (w.alloc (.cells #[u] t (0,0))) va v'):∃ L2,PtsAt L L2 mb vb g S ah C B w' v' (us++[u]) (zs++[z]):=by
 obtain ⟨q,hq⟩:∃ q,v'.ownBlock=some q:=by
  obtain ⟨D,h1,h2⟩:=own;rcases h1.2 with ⟨rfl,h0⟩ | ⟨g',cap,cur,rfl,_⟩
  ·simp at h0
  ·exact ⟨g',rfl⟩
 have Cs:=(own.lt q hq);have h1:w.heap.size<=w'.heap.size:=Nat.le_trans (by simp) hg.size;have hne:∀ i,i ∉ L'->i<w.heap.size->w'.heap[i]?=w.heap[i]?:=fun i hi hl=>by
  rw [hg.block i (by simp;omega) (fun e=>hi (h.blk i e.symm))];exact Below.heap_alloc _ _ _ hl
 have ix:∀ i,i<B->w'.heap[i]?=w.heap[i]?:=fun i hi=>by
  rw [hg.block i (by simp;omega) (fun e=>by have:=(h.own.lt i e.symm).1;omega)];exact Below.heap_alloc _ _ _ (by omega)
 have je:q ∈ L'\/w.heap.size<=q:=by
  rcases hm with e | ⟨k,e,hk⟩
  ·exact .inl (h.blk q (e ▸ hq))
  ·rw [hq] at e
   injection e with e;subst e;simp at hk;exact .inr (by omega)
 refine ⟨q :: L',own,by simp [h.len],fun j hj h2=>?_,fun k hk=>?_,fun k hk=>by simp [h.sub k hk],h.st.grow h1 hne (ix mb h.lo.1) (ix vb h.lo.2) je Cs.2,h.lo,fun k hk=>by
  rcases List.mem_cons.1 hk with e | hk
  ·rw [e];exact .inr Cs.1
  ·exact h.new k hk⟩
 ·by_cases gP:j<zs.length
  ·have Lm:j<us.length:=by rw [h.len];exact gP
   rw [List.getElem_append_left gP,List.getElem_append_left Lm];exact (h.row j gP Lm).grow h1 hne je
  ·have e:j=zs.length:=by simp at hj;omega
   subst e;have e2:(zs++[z])[zs.length]=z:=(by simp);have e3:(us++[u])[zs.length]=u:=(by simp [h.len.symm]);rw [e2,e3];exact hu.grow h1 hne je
 ·rw [hq] at hk
  injection hk with hk;rw [<-hk];simp
theorem PtsAt.get {L L':List Nat} {mb vb:Nat} {g:MgV} {S:Sk.Sys} {ah:Int->Option (List Int)} {C:List (List Int)} {B:Nat} {w:World} {va:Value} {us:List Value} {zs:List Int} (h:PtsAt L L' mb vb g S ah C B w va us zs) {j:Nat} (hj:j<zs.length):∃ ga c a cu,va=.slice (some ⟨ga,0,none⟩) zs.length c/\ga<w.heap.size/\ga≠vb/\w.cell? ⟨ga,j,none⟩=some (.slice (some a) (Sk.cAt C zs[j]).length cu)/\HInts (· ∉ L') w (.slice (some a) (Sk.cAt C zs[j]).length cu) (Sk.cAt C zs[j]):=by
 have gP:j<us.length:=(by rw [h.len];exact hj);obtain ⟨a,cu,e,hI⟩:=h.row j hj gP;obtain ⟨D,h1,h2⟩:=h.own;have hD:∀ i (hi:i<us.length),D i=[us[i]]:=fun i hi=>(h2 i hi).1;rcases h1.2 with ⟨rfl,h0⟩ | ⟨ga,cap,cur,rfl,e2,e3,e4,e5,e6,e7⟩
 ·omega
 refine ⟨ga,cap,a,cu,by rw [h.len],zBM e3,fun e=>by have:=h.lo.2;omega,?_,e ▸ hI⟩;have k1:kHd.k=1:=rfl;rw [k1,Nat.mul_one] at e7;have fV:cur[j]?=some us[j]:=by
  rw [<-Array.getElem?_toList];have t1:(cur.toList.take us.length)[j]?=cur.toList[j]?:=List.getElem?_take_of_lt gP;rw [<-t1,e7];have t2:=zCU (C:=D) (k:=1) us.length (fun i hi=>by rw [hD i hi];rfl) j 0 gP (by decide);rw [Nat.mul_one,Nat.add_zero] at t2;rw [t2,hD j gP];rfl
 have hc:=coQ e3 j;rw [fV,e] at hc;exact hc
theorem PtsAt.start {L:List Nat} {mb vb:Nat} {g:MgV} {S:Sk.Sys} {ah:Int->Option (List Int)} {C:List (List Int)} {B:Nat} {w:World} (h:MgSt L mb vb g S ah C w) (hB:mb<B/\vb<B):PtsAt L L mb vb g S ah C B w (.slice none 0 0) [] [] :=
 ⟨OwnL.nil,rfl,fun j hj=>absurd hj (Nat.not_lt_zero _),fun q hq=>(by cases hq),fun q hq=>hq,h,hB,fun q hq=>.inl hq⟩
theorem Sk.needs_A {op k out n:Int} {A:List Int} {E:List Pu} (h:op≠13) {z:Int} (hz:z ∈ A):z ∈ Sk.needs ⟨op,k,out,n,A,E⟩:=by
 unfold Sk.needs;rw [if_neg (fun e=>h e.1)];exact Sk.uses_A hz
theorem Sk.needs_E {op k out n:Int} {A:List Int} {E:List Pu} (h:14<=op) {p:Pu} (hp:p ∈ E) (hn:nmd p=true):p.v ∈ Sk.needs ⟨op,k,out,n,A,E⟩:=by
 unfold Sk.needs;rw [if_neg (fun e=>by have:=e.1;dsimp only at this;omega)];exact zBi.2 (.inr ⟨p,by unfold Sk.ownE;rw [if_neg (by dsimp only;omega)];exact hp,hn,rfl⟩)
theorem Sk.needs_pre {k out n:Int} {A:List Int} {E:List Pu} (h:A.length=2):Sk.needs ⟨13,k,out,n,A,E⟩=[A[0]]:=by
 unfold Sk.needs;rw [if_pos ⟨rfl,h⟩];simp [h]
theorem Sk.pt_get {C:List (List Int)} {op k out n:Int} {A:List Int} {E:List Pu} {j:Nat} (h:j<A.length):Sk.cAt C A[j]=Sk.pt C ⟨op,k,out,n,A,E⟩ j:=by
 unfold Sk.pt Sk.aN
 dsimp only
 rw [List.getD_eq_getElem?_getD,List.getElem?_eq_getElem h];rfl
def RuleD (L:List Nat) (mb vb:Nat) (g:MgV) (S:Sk.Sys) (ah:Int->Option (List Int)) (C:List (List Int)) (r:Sk.Ru) (w:World) (e:Ending) (w':World):Prop :=
 ∃ u,e=.returned u/\RowS L w' u (Sk.evalR S.V C ah r)/\MgSt L mb vb g S ah C w'/\Aside [vb] w.heap.size w w'
theorem PtsAt.head {L L':List Nat} {mb vb:Nat} {g:MgV} {S:Sk.Sys} {ah:Int->Option (List Int)} {C:List (List Int)} {B:Nat} {w:World} {sa:Option Addr} {n c:Nat} {us:List Value} {zs:List Int} (h:PtsAt L L' mb vb g S ah C B w (.slice sa n c) us zs) (h0:0<zs.length):∃ ga,sa=some ⟨ga,0,none⟩/\n=zs.length/\ga<w.heap.size/\ga≠vb:=by
 obtain ⟨ga,c',a,cu,e,h1,h2,-⟩:=h.get h0;injection e with e1 e2 e3;exact ⟨ga,e1,e2,h1,h2⟩
theorem PtsAt.part {L L':List Nat} {mb vb:Nat} {g:MgV} {S:Sk.Sys} {ah:Int->Option (List Int)} {C:List (List Int)} {B:Nat} {w:World} {ga n c:Nat} {us:List Value} {zs:List Int} (h:PtsAt L L' mb vb g S ah C B w (.slice (some ⟨ga,0,none⟩) n c) us zs) {j:Nat} (hj:j<zs.length):∃ a cu,w.cell? ⟨ga,j,none⟩=some (.slice (some a) (Sk.cAt C zs[j]).length cu)/\HInts (· ∉ L') w (.slice (some a) (Sk.cAt C zs[j]).length cu) (Sk.cAt C zs[j]):=by
 obtain ⟨Rb,c',a,cu,e,h1,h2,h3,h4⟩:=h.get hj;injection e with e1 e2 e3;injection e1 with e1;injection e1 with e1;subst e1;exact ⟨a,cu,h3,h4⟩
theorem HInts.opened {ok:Nat->Prop} {w:World} {a:Addr} {n c:Nat} {l:List Int} (h:HInts ok w (.slice (some a) n c) l) (h0:0<l.length):∃ b o,a=⟨b,o,none⟩/\n=l.length/\l.length<=c/\c<=maxLen/\ok b/\b<w.heap.size/\∀ i (hi:i<l.length),w.cell? ⟨b,o+i,none⟩=some (.int .i64 l[i]):=by
 have bo:=h.at;obtain ⟨C,⟨ao,cp,e,h1,h2,h3⟩,hC⟩:=h;injection e with e1 e2 e3;subst e1 e3;obtain ⟨b,o,hb,gG,tX,-⟩:=h3 h0;injection hb with hb;subst hb;refine ⟨b,o,rfl,e2,h1,h2,gG,tX,fun i hi=>?_⟩;obtain ⟨gw,QW,e',-,-,bo⟩:=bo;injection e' with q1 q2 q3;obtain ⟨b',o',ea,-,hc⟩:=bo i hi;rw [ea] at q1;injection q1 with q1;injection q1 with z1 z2;rw [z1,z2];exact hc
theorem zBV {V:List Sk.Vr} {C:List (List Int)} {ah:Int->Option (List Int)} {r:Sk.Ru} {k:Nat}:(Sk.outL V C ah r k).length=k:=by simp [Sk.outL]
theorem zBd {L:List Nat} {B:Nat} {w:World} {u:Value} {l:List Int} (h:OwnL kLong B w u l) (hL:∀ q ∈ L,q<B) (h0:0<l.length):RowS L w u l :=
 RowS.of ((zDF h.row).wide fun i hi _ hm=>by have:=hL i hm;omega) h0
theorem join_longs {B:Nat} {w:World} {v u:Value} {l r:List Int} {qF:Nat->Prop} (hv:OwnL kLong B w v l) (hu:HInts qF w u r) (yX:∀ k,v.ownBlock=some k->¬qF k) (pP:B<=w.heap.size) (hn:l.length+r.length<=2000000) :
  ∃ a c w',(Builtin.append_ #[44,44] 44 #[v,u]).run Tryz.prog w=.ok (.slice a (l++r).length c) w'/\OwnL kLong B w' (.slice a (l++r).length c) (l++r)/\Below B w w':=by
 obtain ⟨v',w',cH,hX,hg,gF⟩:=zCA kLong 44 44 Tryz.underlying44 (zCY hv) (show HRow kLong qF w u r from hu) yX (by show (l.length+r.length)*8<=140737488355328;omega) (by unfold maxLen;omega);obtain ⟨a,c,rfl,-,-⟩:=hX.form;refine ⟨a,c,w',cH,zBt hX (fun k hk=>?_) (fun _ _ _ _ _ h=>h),zDH hg (fun k hk=>(hv.lt k hk).1) pP⟩;rcases gF with q | ⟨z,hz,dZ⟩
 ·exact (hv.lt k (q ▸ hk)).1
 ·rw [hz] at hk
  injection hk with hk;omega
structure OutAt (L L':List Nat) (mb vb:Nat) (g:MgV) (S:Sk.Sys) (ah:Int->Option (List Int)) (C:List (List Int)) (B0 B:Nat) (w:World) (va:Value) (us:List Value) (zs:List Int) (vo:Value) (l:List Int):Prop where
 pts:PtsAt L L' mb vb g S ah C B0 w va us zs
 own:OwnL kLong B w vo l
 blk:∀ q,vo.ownBlock=some q->q ∈ L'
 lo:B0<=B
 va:∀ q,va.ownBlock=some q->q<B
 sz:B<=w.heap.size
theorem OutAt.start {L L':List Nat} {mb vb:Nat} {g:MgV} {S:Sk.Sys} {ah:Int->Option (List Int)} {C:List (List Int)} {B:Nat} {w:World} {va:Value} {us:List Value} {zs:List Int} (h:PtsAt L L' mb vb g S ah C B w va us zs) (hB:B<=w.heap.size):OutAt L L' mb vb g S ah C B w.heap.size w va us zs (.slice none 0 0) [] :=
 ⟨h,OwnL.nil,fun q hq=>(by cases hq),hB,fun q hq=>(h.own.lt q hq).2,Nat.le_refl _⟩
theorem OutAt.past {L L':List Nat} {mb vb:Nat} {g:MgV} {S:Sk.Sys} {ah:Int->Option (List Int)} {C:List (List Int)} {B0 B:Nat} {w w':World} {va vo:Value} {us:List Value} {zs l:List Int} (h:OutAt L L' mb vb g S ah C B0 B w va us zs vo l) (a:Aside [vb] w.heap.size w w') (hs:MgSt L' mb vb g S ah C w'):OutAt L L' mb vb g S ah C B0 B w' va us zs vo l :=
 ⟨h.pts.past a hs,h.own.past a (by intro k hk;simp at hk;rw [hk];have:=h.pts.lo.2;have:=h.lo;omega),h.blk,h.lo,h.va,Nat.le_trans h.sz a.size⟩
theorem OutAt.under {L L':List Nat} {mb vb:Nat} {g:MgV} {S:Sk.Sys} {ah:Int->Option (List Int)} {C:List (List Int)} {B0 B:Nat} {w w':World} {va vo:Value} {us:List Value} {zs l:List Int} (h:OutAt L L' mb vb g S ah C B0 B w va us zs vo l) (b:Below w.heap.size w w'):OutAt L L' mb vb g S ah C B0 B w' va us zs vo l:=h.past (aside b) (h.pts.st.under b)
theorem OutAt.more {L L':List Nat} {mb vb:Nat} {g:MgV} {S:Sk.Sys} {ah:Int->Option (List Int)} {C:List (List Int)} {B0 B:Nat} {w w':World} {va vo v':Value} {us:List Value} {zs l:List Int} {x:Int} {o:Obj} (h:OutAt L L' mb vb g S ah C B0 B w va us zs vo l) (own:OwnL kLong B w' v' (l++[x])) (hg:(w.alloc o).grownBy w' vo.ownBlock) (hm:Moved (w.alloc o) vo v'):∃ L2,OutAt L L2 mb vb g S ah C B0 B w' va us zs v' (l++[x]):=by
 obtain ⟨q,hq⟩:∃ q,v'.ownBlock=some q:=by
  obtain ⟨D,h1,h2⟩:=own;rcases h1.2 with ⟨rfl,h0⟩ | ⟨g',cap,cur,rfl,_⟩
  ·simp at h0
  ·exact ⟨g',rfl⟩
 have Cs:=(own.lt q hq);have dt:=h.sz;have h1:w.heap.size<=w'.heap.size:=Nat.le_trans (by simp) hg.size;have hne:∀ i,i ∉ L'->i<w.heap.size->w'.heap[i]?=w.heap[i]?:=fun i hi hl=>by
  rw [hg.block i (by simp;omega) (fun e=>hi (h.blk i e.symm))];exact Below.heap_alloc _ _ _ hl
 have ix:∀ i,i<B->w'.heap[i]?=w.heap[i]?:=fun i hi=>by
  rw [hg.block i (by simp;omega) (fun e=>by have:=(h.own.lt i e.symm).1;omega)];exact Below.heap_alloc _ _ _ (by omega)
 have je:q ∈ L'\/w.heap.size<=q:=by
  rcases hm with e | ⟨k,e,hk⟩
  ·exact .inl (h.blk q (e ▸ hq))
  ·rw [hq] at e
   injection e with e;subst e;simp at hk;exact .inr (by omega)
 have BP:=h.pts.lo;have OY:=h.lo;have cf:OwnL kHd B0 w' va us:=by
  obtain ⟨D,e1,e2⟩:=h.pts.own;refine ⟨D,⟨e1.1,?_⟩,fun j hj=>e2 j hj⟩;rcases e1.2 with q1 | ⟨g',cap,cur,rfl,q2,q3,q4⟩
  ·exact .inl q1
  ·exact .inr ⟨g',cap,cur,rfl,q2,(ix g' (h.va g' rfl)).trans q3,q4⟩
 refine ⟨q :: L',⟨cf,h.pts.len,fun j hj h2=>(h.pts.row j hj h2).grow h1 hne je,fun k hk=>by simp [h.pts.blk k hk],fun k hk=>by simp [h.pts.sub k hk],h.pts.st.grow h1 hne (ix mb (by omega)) (ix vb (by omega)) je Cs.2,h.pts.lo,fun k hk=>by
  rcases List.mem_cons.1 hk with e | hk
  ·rw [e];exact .inr (Nat.le_trans OY Cs.1)
  ·exact h.pts.new k hk⟩,own,fun k hk=>?_,h.lo,h.va,Nat.le_trans h.sz h1⟩
 rw [hq] at hk;injection hk with hk;rw [<-hk];simp
end Go.Proofs.YtfhghlpfeeiaeaaGreatDoor
