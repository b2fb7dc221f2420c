import Derived.Test.YthkpanbgkimhoaaGreatDoorM12
set_option linter.unusedVariables false
set_option linter.unusedSimpArgs false
set_option maxHeartbeats 64000000
set_option maxRecDepth 100000
namespace Go.Proofs.YthkpanbgkimhoaaGreatDoor
open Go.RowKit Go.IntWalk
theorem zCo {P:Program} {ops:Array Oper} {Q:Exit→Act→World→Prop} {md:Region.Mode} {S:World→Prop} {late:Nat→Bool} {i:Nat} {oi:Oper} {v:Value} (hi:ops[i]?=some oi) (hsel:∀ (j:Nat) (o:Oper) cs b,ops[j]?=some o→o.op≠.select cs b)
  (hQ:∀ c a w,Q (.panic c) (a.put oi.dst v) w→Q (.panic c) a w) :
  ∀ (fuel:Nat) (listed:Array Bool) (a:Act) (w:World),
   (∀ j oj,ops[j]?=some oj→j≠i→listed.getD j true=false→(∀ e ∈ oj.after,Region.binds md e=true→e.on≠i)→oi.apart ops oj=true) →
   i ∈ Region.ready md ops listed→YieldsIf P ops (fun _=>True) oi v a→(late i=false→S w) →
   wpAnyL P md ops Q S late fuel (listed.setIfInBounds i true) (a.put oi.dst v) w→(late i=false→∀ j,j ∈ Region.ready md ops listed→j≠i→late j=false)→(∀ j oj,ops[j]?=some oj→listed.getD j true=false→j≠i→late j=false∨late i=true)→wpAnyL P md ops Q S late (fuel+1) listed a w:=by
 intro fuel
 induction fuel with
 | zero=>
  intro listed a w _ hr hy hS H _ _;refine ⟨fun h=>(by rw [h] at hr;cases hr),fun j hj=>?_⟩;by_cases hji:j=i
  ·subst hji;exact hy.wpOp hi trivial ⟨hS,H⟩
  ·have:=ready_mono hj hji
   rw [H.1] at this
   cases this
 | succ fuel ih=>
  intro listed a w hfree hr hy hS H hl hl2;refine ⟨fun h=>(by rw [h] at hr;cases hr),fun j hj=>?_⟩;by_cases hji:j=i
  ·subst hji;exact hy.wpOp hi trivial ⟨hS,H⟩
  ·have h1:=H.2 j (ready_mono hj hji)
   obtain ⟨hjun,oj,hoj,hall⟩:=mem_ready.1 hj;have hnot:∀ e ∈ oj.after,Region.binds md e=true→e.on≠i:=fun e he hb heq=>by
    have h1:=hall e he hb;have h0:=(mem_ready.1 hr).1;rw [heq] at h1;rcases Nat.lt_or_ge i listed.size with h' | h'
    ·simp [h'] at h0 h1;rw [h0] at h1;cases h1
    ·simp [Array.getElem?_eq_none h'] at h1
   have h2:=wpOp_putIf hoj (hfree j oj hoj hji hjun hnot) (fun cs b=>hsel i oi cs b hi) (fun cs b=>hsel j oj cs b hoj) hQ hy h1;have hfree':∀ k ok,ops[k]?=some ok→k≠i→(listed.setIfInBounds j true).getD k true=false →
     (∀ e ∈ ok.after,Region.binds md e=true→e.on≠i)→oi.apart ops ok=true:=fun k ok hk hki hun hno=>by
    refine hfree k ok hk hki ?_ hno;by_cases hjk:j=k
    ·subst hjk;exact hjun
    ·rw [getD_set_ne true hjk] at hun;exact hun
   have hl2':∀ k ok,ops[k]?=some ok→(listed.setIfInBounds j true).getD k true=false→k≠i→late k=false∨late i=true:=fun k ok hk hun hki=>by
    refine hl2 k ok hk ?_ hki;by_cases hjk:j=k
    ·subst hjk;exact hjun
    ·rw [getD_set_ne true hjk] at hun;exact hun
   refine wpOp_mono (fun a' w' h3=>⟨h3.2.1,ih (listed.setIfInBounds j true) a' w' hfree' (ready_mono hr (Ne.symm hji)) h3.1 (fun hli=>h3.2.1 (hl hli j hj hji)) ?_ (fun hli k hk hki=>?_) hl2'⟩) h2
   ·rw [Array.setIfInBounds_comm _ _ hji]
    exact h3.2.2
   ·obtain ⟨hkun,ok,hok,_⟩:=mem_ready.1 hk
    rcases hl2' k ok hok hkun hki with q | q
    ·exact q
    ·rw [q] at hli;cases hli
theorem jB {P:Program} {ops:Array Oper} {Q:Exit→Act→World→Prop} {md:Region.Mode} {S:World→Prop} {late:Nat→Bool} {i:Nat} {oi:Oper} {v:Value} {fuel:Nat} {listed:Array Bool} {a:Act} {w:World} (hi:ops[i]?=some oi)
  (hs:Region.noSelect ops=true) (hf:Region.free md ops listed i=true) (hr:(Region.ready md ops listed).contains i=true) (hl:late i=true)
  (hQ:∀ c a w,Q (.panic c) (a.put oi.dst v) w→Q (.panic c) a w) (hw:Region.wanted oi (yielded ops a.tmps)=true) (hy:∀ w,(execOp a.eval oi).run P w=.ok (.value v) w)
  (h:wpAnyL P md ops Q S late fuel (listed.setIfInBounds i true) (a.put oi.dst v) w):wpAnyL P md ops Q S late (fuel+1) listed a w:=
 zCo hi (Region.noSelect_spec hs) hQ fuel listed a w (Region.free_spec hi hf) (by simpa using hr) (.inl ⟨hw,fun w _=>hy w⟩) (fun q=>by rw [hl] at q;cases q) h (fun q=>by rw [hl] at q;cases q) (fun _ _ _ _ _=>.inr hl)
theorem OwnX.pos {α:Type} {T:Kind α} {ok:Nat→Prop} {w:World} {v:Value} {l:List α} (h:OwnX T ok w v l) (hl:0<l.length):∃ g c,v=.slice (some ⟨g,0,none⟩) l.length c∧l.length≤c∧c≤maxLen∧g<w.heap.size:=by
 obtain ⟨D,h1,h2,h3⟩:=h;obtain ⟨g,cap,hv,_,hg,hn,hm,_⟩:=zAe h1 hl;exact ⟨g,cap,hv,hn,hm,hg⟩
theorem OwnX.lastCells {ok:Nat→Prop} {w:World} {g c:Nat} {l:List Ex} {y:Ex} (h:OwnX kExpr ok w (.slice (some ⟨g,0,none⟩) (l.length+1) c) (l++[y])) :
  ∃ u0 u1 u2 u3 u4 u5,w.cell? ⟨g,l.length*6,none⟩=some u0∧w.cell? ⟨g,l.length*6+1,none⟩=some u1∧w.cell? ⟨g,l.length*6+2,none⟩=some u2∧w.cell? ⟨g,l.length*6+3,none⟩=some u3∧w.cell? ⟨g,l.length*6+4,none⟩=some u4∧w.cell? ⟨g,l.length*6+5,none⟩=some u5∧∀ o,w.frozen? ⟨g,o,none⟩=false:=by
 obtain ⟨D,h1,h2,h3⟩:=h;have hlen:(l++[y]).length=l.length+1:=(by simp);rw [hlen] at h1;rcases h1.2 with ⟨hv,h0⟩ | ⟨g',cap,cur,hv,hb,hcg,hnc,hcm,hcs,htk⟩
 ·omega
 ·injection hv with e1 e2 e3
  injection e1 with e1;injection e1 with e4 e5 e6;subst e4 e3;have hk6:kExpr.k=6:=rfl;rw [hk6] at hcs;have hsz:l.length*6+5<cur.size:=by
   have:(l.length+1)*6≤c*6:=Nat.mul_le_mul_right 6 hnc;omega
  have hc:∀ o,o<cur.size→w.cell? ⟨g,o,none⟩=some cur[o]! := fun o ho=>by
   rw [co hcg];simp [ho]
  exact ⟨_,_,_,_,_,_,hc _ (by omega),hc _ (by omega),hc _ (by omega),hc _ (by omega),hc _ (by omega),hc _ (by omega),fun o=>fo hcg o⟩
theorem zAQ {S:List Nat} {B k o:Nat} {w w':World} {y:ExV} (h:Aside S B w w') (hk:B≤k):Aside S B w (putAt w' k o y):=by
 unfold putAt;exact (((((h.set (p:=⟨k,o,none⟩) hk _).set (p:=⟨k,o+1,none⟩) hk _).set (p:=⟨k,o+2,none⟩) hk _).set (p:=⟨k,o+3,none⟩) hk _).set (p:=⟨k,o+4,none⟩) hk _).set (p:=⟨k,o+5,none⟩) hk _
theorem zCX {b g cap rb eb N0:Nat} {I:Inp} {op nx:Nat} {E:Nat→Res Ex} {e:Ex} {w:World} (HE:Does 108 b g cap I op exV E) (hv:Env b g rb eb N0) (h:Rd w b g cap I.L I.len nx op) (hG:GlobB b w) (hone:1<eb) (hN0:N0≤w.heap.size) (hrb:w.heap[rb]?=some (.cells #[.pointer (some ⟨b,0,none⟩)] 76 (0,0))) (hS:ExSt N0 eb w e) (hlen:e.L.length≤1000) :
  Calls Tryz.prog 129 #[.pointer (some ⟨eb,0,none⟩),.pointer (some ⟨rb,0,none⟩)] w (PostE b g cap eb N0 I op nx w (Ps.part I E .part e nx)):=by
 obtain ⟨vS,vL,okS,okL,heb,ownS,ownL,hokS,hokL,hdis⟩:=hS;obtain ⟨v0,v1,v2,v3,v4,v5,v6,v7⟩:=hv;obtain ⟨aS,cS,rfl,hS1,hS2⟩:=ownS.form;obtain ⟨aL,cL,rfl,hL1,hL2⟩:=ownL.form;unfold maxLen at hL2;have hd5:Rd w.drew b g cap I.L I.len nx op:=h.drew;have hb5:w.drew.heap[eb]?=some (.cells #[.int .i64 e.op,.int .i64 e.k,.int .i64 e.n,.string e.name,.slice aS e.S.length cS,.slice aL e.L.length cL] 45 (0,0)):=heb;have hr5:w.drew.heap[rb]?=some (.cells #[.pointer (some ⟨b,0,none⟩)] 76 (0,0)):=hrb;have A5d:Aside [b,eb] N0 w w.drew:=(Aside.refl w).drew;have z5d:w.drew.heap.size=w.heap.size:=rfl;have om5:=(ownL.under (Below.refl _ w).drew).wide (ok':=fun i=>okL i∧i<w.heap.size) (fun i hi hl=>⟨hi,hl⟩);have oo5:=(ownS.under (Below.refl _ w).drew).wide (ok':=fun i=>okS i∧i<w.heap.size) (fun i hi hl=>⟨hi,hl⟩);go_enter Tryz.func129,Tryz.ntmps129;go_wp2_with fail;refine zL (fun w'=>w'.cell? ⟨eb,5,none⟩=some (.slice aL e.L.length cL)∧w'.cell? ⟨rb,0,none⟩=some (.pointer (some ⟨b,0,none⟩))) (fun j=>decide (6<j)) (by kernel_rfl) ?_;generalize w.drew=wd at hd5 hb5 hr5 A5d z5d om5 oo5 ⊢;clear h heb hrb ownS ownL;have c4:=co hb5 5;have cr:=co hr5 0;simp only [gT,gZ,gS] at c4 cr;have hH:=And.intro c4 cr;refine' zE (i:=0) (v:=_) rfl (by kernel_rfl) (by kernel_rfl) (by kernel_rfl) (by kernel_rfl) (fun _ _ _ h=>h) hH (by rfl) ?hyv ?o1
 case hyv=>
  intro wz hSw;obtain ⟨k0,k1⟩:=hSw;go_simp
  try rfl
 try simp only [Act.put,sT,sZ,sS]
 refine' zE (i:=1) (v:=_) rfl (by kernel_rfl) (by kernel_rfl) (by kernel_rfl) (by kernel_rfl) (fun _ _ _ h=>h) hH (by rfl) ?hyv ?o2
 case hyv=>
  intro wz hSw;obtain ⟨k0,k1⟩:=hSw;go_simp
  try rfl
 try simp only [Act.put,sT,sZ,sS]
 refine' zE (i:=2) (v:=_) rfl (by kernel_rfl) (by kernel_rfl) (by kernel_rfl) (by kernel_rfl) (fun _ _ _ h=>h) hH (by rfl) ?hyv ?o3
 case hyv=>
  intro wz hSw;obtain ⟨k0,k1⟩:=hSw;go_simp
  try rfl
 try simp only [Act.put,sT,sZ,sS]
 refine' zE (i:=4) (v:=_) rfl (by kernel_rfl) (by kernel_rfl) (by kernel_rfl) (by kernel_rfl) (fun _ _ _ h=>h) hH (by rfl) ?hyv ?o4
 case hyv=>
  intro wz hSw;obtain ⟨k0,k1⟩:=hSw;go_simp
  try rfl
 try simp only [Act.put,sT,sZ,sS]
 refine zBk (i:=3) (j:=5) rfl rfl (by kernel_rfl) (by rfl) (by rfl) (fun K hK=>?_) (fun K hK=>?_)
 ·go_simp
  clear hH c4 cr;refine (HE _ _ hd5 (hG.far2 A5d hone v3)).mono ?_;rintro r w6 ⟨a6,hres⟩;have z6:=a6.size;have A6:Aside [b,eb] N0 w w6:=A5d.trans (zAT a6) (by omega);have hb6:=a6.keep hb5 (by omega) (by simp;omega);have hr6:=a6.keep hr5 (by omega) (by simp;omega);have om6:=om5.past a6 (fun i hi=>by have:=hokL i hi.1;simp;omega);have oo6:=oo5.past a6 (fun i hi=>by have:=hokS i hi.1;simp;omega)
  skip
  clear hd5 hb5 hr5 A5d om5 oo5
  cases ht:E nx with
  | err c0 a0=>
   rw [ht] at hres;obtain rfl:r=_:=hres;exact ⟨rfl,PostE.fail (by unfold Ps.part;simp only [];rw [ht];rfl) A6⟩
  | ok y n2=>
   rw [ht] at hres;obtain ⟨le6,h6,_,rfl,x6,rfl,hV⟩:=hres;have m6:Hid (Ps.part I E .part e nx=.ok (Ps.Ex.addL e y) n2):=by
    show Ps.part I E .part e nx=_
    unfold Ps.part;simp only [];rw [ht];rfl
   clear ht;have c4:=co hb6 5;have cr:=co hr6 0;simp only [gT,gZ,gS] at c4 cr;refine hK.out _ _ (fun _=>And.intro c4 cr) ?_;clear hK K
   try simp only [Act.put,sT,sZ,sS]
   have H7a:=co (kA hb6 Zb) 5;have H7b:=co (kA hr6 Zb) 0;simp only [gT,gZ,gS] at H7a H7b;have H7h:=zD (And.intro H7a H7b);clear H7a H7b;refine zG (i:=5) rfl (by kernel_rfl) (by rfl) (fun K hK=>?_);go_simp;refine hK.out _ _ (fun _=>H7h.out) ?_;clear hK K
   try simp only [Act.put,sT,sZ,sS]
   clear H7h c4 cr;have bZ:=(Below.refl w6.heap.size w6).alloc nR Zb;have hb6:=kA hb6 Zb;have hr6:=kA hr6 Zb;have om6:=om6.under bZ;have oo6:=oo6.under bZ;have h6:=h6.alloc Zb;have A6:=A6.alloc (by omega) Zb;have hz:=zF w6 Zb;have he6:=(hV.wide (ok':=fun i=>wd.heap.size≤i∧i<w6.heap.size) (fun i hi hl=>⟨hi,hl⟩)).under bZ;have zz:(w6.alloc Zb).heap.size=w6.heap.size+1:=(by simp);clear hV bZ;generalize w6.alloc Zb=WW at hb6 hr6 om6 oo6 h6 A6 hz he6 zz ⊢;have he6:=he6.wide (ok':=fun i=>wd.heap.size≤i∧i<WW.heap.size) (fun i hi hl=>⟨hi.1,hl⟩);have q1:kExpr.E (fun i=>WW.heap.size≤i) WW [.int .i64 0,.int .i64 0,.int .i64 0,.string ⟨#[]⟩,.slice none 0 0,.slice none 0 0] (.mk 0 0 0 ⟨#[]⟩ [] []):=HEx.leaf 0 0 0 ⟨#[]⟩;have q2:(e.L.length+1)*kExpr.bytes≤140737488355328:=(by show (e.L.length+1)*88≤_;omega);have q3:e.L.length+1≤maxLen:=(by unfold maxLen;omega);have hlit:∀ j u,[.int .i64 0,.int .i64 0,.int .i64 0,.string ⟨#[]⟩,.slice none 0 0,.slice none 0 0][j]?=some u→WW.cell? ((⟨w6.heap.size,0,none⟩:Addr).add j)=some u:=fun j u hj=>by
    have adds:(⟨w6.heap.size,0,none⟩:Addr).add j=⟨w6.heap.size,j,none⟩:=by unfold Addr.add;split<;>simp_all
    rw [adds,co hz]
    simpa using hj
   refine zG (i:=6) rfl (by kernel_rfl) (by rfl) (fun K hK=>?_);refine zDR kExpr _ _ 41 rfl Tryz.underlying41 WW.heap.size w6.heap.size _ _ e.L (by rfl) om6 [.int .i64 0,.int .i64 0,.int .i64 0,.string ⟨#[]⟩,.slice none 0 0,.slice none 0 0] (.mk 0 0 0 ⟨#[]⟩ [] []) q1 hlit (by rfl) (fun i hi=>by omega) nR q2 q3 ?_;intro v8 w8 om8 gr8;have hvb:=fun k hk=>(om6.lt k hk).1;have hoth:∀ k,k<WW.heap.size→¬(okL k∧k<w.heap.size)→w8.heap[k]?=WW.heap[k]?:=fun k hk hn=>gr8.block k hk (fun e=>hn (hvb k e.symm));have z8:=gr8.size;have A8:Aside [b,eb] N0 w w8:=A6.trans ⟨gr8.os,gr8.tape,gr8.output,z8,fun k hk _=>hoth k (by omega) (fun hh=>by have:=hokL k hh.1;omega)⟩ nR;have hb8:=(hoth eb (zC hb6) (fun hh=>by have:=hokL eb hh.1;omega)).trans hb6;have hr8:=(hoth rb (zC hr6) (fun hh=>by have:=hokL rb hh.1;omega)).trans hr6;have oo8:=oo6.keep z8 (fun i hi hl=>hoth i hl (fun hh=>hdis i hi.1 hh.1));have he8:=he6.keep z8 (fun i hi hl=>hoth i hl (fun hh=>by omega));have h8:Rd w8 b g cap I.L I.len n2 op:=⟨(hoth b h6.bb (fun hh=>by have:=hokL b hh.1;omega)).trans h6.here,h6.toks.keep (hoth g h6.gb (fun hh=>by have:=hokL g hh.1;omega)),h6.apart,Nat.lt_of_lt_of_le h6.gb z8,h6.le,h6.lc,h6.cm⟩;clear A6 hb6 hr6 om6 oo6 h6 he6 q1 hlit hz gr8 hoth hvb;have c4:=co hb8 5;have cr:=co hr8 0;simp only [gT,gZ,gS] at c4 cr;refine hK.out _ _ (fun _=>And.intro c4 cr) ?_;clear hK K
   try simp only [Act.put,sT,sZ,sS]
   obtain ⟨g8,c8,hv8,_,hcm8,hg8⟩:=om8.pos (by simp);rw [List.length_append,List.length_singleton] at hv8;subst hv8;have hg8ok:=(om8.lt g8 rfl).1;unfold maxLen at hcm8;have hidx:(e.L.length:Int)<(e.L.length:Int)+1:=(by omega);have hgN:N0≤g8:=(by rcases hg8ok with q | q;exact hokL g8 q.1;omega);have hg2:¬(wd.heap.size≤g8∧g8<WW.heap.size):=(by rcases hg8ok with q | q;have:=q.2;omega;omega);refine' jB (i:=7) (v:=_) rfl (by kernel_rfl) (by kernel_rfl) (by kernel_rfl) rfl (fun _ _ _ h=>h) (by rfl) ?hyv ?o5
   case hyv=>
    intro wz;go_simp
    try rfl
   try simp only [Act.put,sT,sZ,sS]
   refine' jB (i:=9) (v:=_) rfl (by kernel_rfl) (by kernel_rfl) (by kernel_rfl) rfl (fun _ _ _ h=>h) (by rfl) ?hyv ?o6
   case hyv=>
    intro wz;go_simp
    try rfl
   try simp only [Act.put,sT,sZ,sS]
   refine zBk (i:=8) (j:=10) rfl rfl (by kernel_rfl) (by rfl) (by rfl) (fun K hK=>?_) (fun K hK=>?_)
   ·skip
    obtain ⟨u0,u1,u2,u3,u4,u5,d0,d1,d2,d3,d4,d5,fr⟩:=om8.lastCells;go_simp;refine hK.out _ _ (fun h=>by cases h) ?_;clear hK K
    try simp only [Act.put,sT,sZ,sS]
    have om9:=om8.last he8 hg2;have oo9:=oo8.keep (w':=putAt w8 g8 (e.L.length*6) x6) (by rw [qM];exact Nat.le_refl _) (fun i hi _=>zY _ _ _ _ _ (fun q=>by subst q;rcases hg8ok with q | q;exact hdis _ hi.1 q.1;have:=hi.2;omega));have hb9:=(zY w8 g8 (e.L.length*6) x6 eb (by omega)).trans hb8;have h9:Rd (putAt w8 g8 (e.L.length*6) x6) b g cap I.L I.len n2 op:=⟨(zY _ _ _ _ _ (by omega)).trans h8.here,h8.toks.keep (zY _ _ _ _ _ (by omega)),h8.apart,by rw [qM];exact h8.gb,h8.le,h8.lc,h8.cm⟩;have A9:Aside [b,eb] N0 w (putAt w8 g8 (e.L.length*6) x6):=zAQ A8 hgN;clear d0 d1 d2 d3 d4 d5 fr c4 cr;have c9:=co hb9 5;have f9:=fun o=>fo hb9 o;simp only [gT,gZ,gS] at c9
    change wpAnyL _ _ _ _ _ _ _ _ _ (putAt w8 g8 (e.L.length*6) x6)
    generalize hw9:putAt w8 g8 (e.L.length*6) x6=w9 at om9 oo9 hb9 h9 A9 c9 f9 ⊢;clear hw9;refine zG (i:=10) rfl (by kernel_rfl) (by rfl) (fun K hK=>?_);go_simp;refine hK.out _ _ (fun h=>by cases h) ?_;clear hK K
    try simp only [Act.put,sT,sZ,sS]
    have hbA:=zJ hb9 5 (.slice (some ⟨g8,0,none⟩) (e.L.length+1) c8);have hA:=h9.set (p:=⟨eb,5,none⟩) (by simp;omega) (by simp;omega) (.slice (some ⟨g8,0,none⟩) (e.L.length+1) c8);have AA:Aside [b,eb] N0 w (w9.setCell ⟨eb,5,none⟩ (.slice (some ⟨g8,0,none⟩) (e.L.length+1) c8)):=A9.trans (Aside.setCell (by simp) _) nR;have omA:=om9.set (p:=⟨eb,5,none⟩) (by intro hh;have hh2:((okL eb∧eb<w.heap.size)∨WW.heap.size≤eb)∨(wd.heap.size≤eb∧eb<WW.heap.size):=hh;rcases hh2 with (q | q) | q;exact absurd (hokL eb q.1) (by omega);omega;omega) (.slice (some ⟨g8,0,none⟩) (e.L.length+1) c8);have ooA:=oo9.set (p:=⟨eb,5,none⟩) (by intro hh;have hh2:okS eb∧eb<w.heap.size:=hh;have:=hokS eb hh2.1;omega) (.slice (some ⟨g8,0,none⟩) (e.L.length+1) c8);simp only [sT,sZ,sS] at hbA;refine zR (by kernel_rfl) ?_ _;go_wp2;go_end0;exact PostE.good m6.out AA le6 hA ⟨_,_,fun i=>okS i∧i<w.heap.size,fun i=>((okL i∧i<w.heap.size)∨WW.heap.size≤i)∨(wd.heap.size≤i∧i<WW.heap.size),hbA,ooA,omA,fun i hi=>hokS i hi.1,fun i hi=>by rcases hi with (q | q) | q;exact hokL i q.1;omega;omega,fun i hi hj=>by rcases hj with (q | q) | q;exact hdis i hi.1 q.1;omega;omega⟩
   ·have f8:=fun o=>fo hb8 o
    go_simp;refine hK.out _ _ (fun h=>by cases h) ?_;clear hK K
    try simp only [Act.put,sT,sZ,sS]
    have hb9:=zJ hb8 5 (.slice (some ⟨g8,0,none⟩) (e.L.length+1) c8);have h9:=h8.set (p:=⟨eb,5,none⟩) (by simp;omega) (by simp;omega) (.slice (some ⟨g8,0,none⟩) (e.L.length+1) c8);have A9:Aside [b,eb] N0 w (w8.setCell ⟨eb,5,none⟩ (.slice (some ⟨g8,0,none⟩) (e.L.length+1) c8)):=A8.trans (Aside.setCell (by simp) _) nR;have om9:=om8.set (p:=⟨eb,5,none⟩) (by intro hh;have hh2:(okL eb∧eb<w.heap.size)∨WW.heap.size≤eb:=hh;rcases hh2 with q | q;exact absurd (hokL eb q.1) (by omega);omega) (.slice (some ⟨g8,0,none⟩) (e.L.length+1) c8);have oo9:=oo8.set (p:=⟨eb,5,none⟩) (by intro hh;have hh2:okS eb∧eb<w.heap.size:=hh;have:=hokS eb hh2.1;omega) (.slice (some ⟨g8,0,none⟩) (e.L.length+1) c8);simp only [sT,sZ,sS] at hb9;have he9:=he8.set (p:=⟨eb,5,none⟩) (by intro hh;have hh2:wd.heap.size≤eb∧eb<WW.heap.size:=hh;omega) (.slice (some ⟨g8,0,none⟩) (e.L.length+1) c8);clear c4 cr f8;generalize w8.setCell ⟨eb,5,none⟩ (.slice (some ⟨g8,0,none⟩) (e.L.length+1) c8)=w9 at om9 oo9 hb9 h9 A9 he9 ⊢;obtain ⟨u0,u1,u2,u3,u4,u5,d0,d1,d2,d3,d4,d5,fr⟩:=om9.lastCells;refine zG (i:=8) rfl (by kernel_rfl) (by rfl) (fun K hK=>?_);go_simp;refine hK.out _ _ (fun h=>by cases h) ?_;clear hK K
    try simp only [Act.put,sT,sZ,sS]
    have omA:=om9.last he9 hg2;have ooA:=oo9.keep (w':=putAt w9 g8 (e.L.length*6) x6) (by rw [qM];exact Nat.le_refl _) (fun i hi _=>zY _ _ _ _ _ (fun q=>by subst q;rcases hg8ok with q | q;exact hdis _ hi.1 q.1;have:=hi.2;omega));have hbA:=(zY w9 g8 (e.L.length*6) x6 eb (by omega)).trans hb9;have hA:Rd (putAt w9 g8 (e.L.length*6) x6) b g cap I.L I.len n2 op:=⟨(zY _ _ _ _ _ (by omega)).trans h9.here,h9.toks.keep (zY _ _ _ _ _ (by omega)),h9.apart,by rw [qM];exact h9.gb,h9.le,h9.lc,h9.cm⟩;have AA:Aside [b,eb] N0 w (putAt w9 g8 (e.L.length*6) x6):=zAQ A9 hgN;refine zR (by kernel_rfl) ?_ _;go_wp2;go_end0;exact PostE.good m6.out AA le6 hA ⟨_,_,fun i=>okS i∧i<w.heap.size,fun i=>((okL i∧i<w.heap.size)∨WW.heap.size≤i)∨(wd.heap.size≤i∧i<WW.heap.size),hbA,ooA,omA,fun i hi=>hokS i hi.1,fun i hi=>by rcases hi with (q | q) | q;exact hokL i q.1;omega;omega,fun i hi hj=>by rcases hj with (q | q) | q;exact hdis i hi.1 q.1;omega;omega⟩
 ·go_simp
  have H7a:=co (kA hb5 Zb) 5;have H7b:=co (kA hr5 Zb) 0;simp only [gT,gZ,gS] at H7a H7b;refine hK.out _ _ (fun _=>And.intro H7a H7b) ?_;clear hK K hH c4 cr H7a H7b
  try simp only [Act.put,sT,sZ,sS]
  have bZ:=(Below.refl wd.heap.size wd).alloc nR Zb;have hd5:=hd5.alloc Zb;have hb5:=kA hb5 Zb;have hr5:=kA hr5 Zb;have om5:=om5.under bZ;have oo5:=oo5.under bZ;have A5d:=A5d.alloc (by omega) Zb;have hz5:=zF wd Zb;rw [z5d] at hz5;have zz:(wd.alloc Zb).heap.size=wd.heap.size+1:=(by simp);clear bZ;generalize wd.alloc Zb=wz at hd5 hb5 hr5 om5 oo5 A5d hz5 zz ⊢;have c4:=co hb5 5;have cr:=co hr5 0;simp only [gT,gZ,gS] at c4 cr;refine zG (i:=3) rfl (by kernel_rfl) (by rfl) (fun K hK=>?_);go_simp;clear c4 cr;refine (HE _ _ hd5 (hG.far2 A5d hone v3)).mono ?_;rintro r w6 ⟨a6,hres⟩;have z6:=a6.size;have A6:Aside [b,eb] N0 w w6:=A5d.trans (zAT a6) (by omega);have hb6:=a6.keep hb5 (by omega) (by simp;omega);have hr6:=a6.keep hr5 (by omega) (by simp;omega);have om6:=om5.past a6 (fun i hi=>by have:=hokL i hi.1;simp;omega);have oo6:=oo5.past a6 (fun i hi=>by have:=hokS i hi.1;simp;omega);have hz:=a6.keep hz5 (by omega) (by simp;omega);clear hd5 hb5 hr5 A5d om5 oo5
  cases ht:E nx with
  | err c0 a0=>
   rw [ht] at hres;obtain rfl:r=_:=hres;exact ⟨rfl,PostE.fail (by unfold Ps.part;simp only [];rw [ht];rfl) A6⟩
  | ok y n2=>
   rw [ht] at hres;obtain ⟨le6,h6,_,rfl,x6,rfl,hV⟩:=hres;have m6:Hid (Ps.part I E .part e nx=.ok (Ps.Ex.addL e y) n2):=by
    show Ps.part I E .part e nx=_
    unfold Ps.part;simp only [];rw [ht];rfl
   clear ht;have c4:=co hb6 5;have cr:=co hr6 0;simp only [gT,gZ,gS] at c4 cr;refine hK.out _ _ (fun _=>And.intro c4 cr) ?_;clear hK K
   try simp only [Act.put,sT,sZ,sS]
   have he6:=hV.wide (ok':=fun i=>wd.heap.size≤i∧i<w6.heap.size) (fun i hi hl=>⟨by omega,hl⟩);clear hV c4 cr hz5;obtain ⟨WW,hWW⟩:=nm (w6);subst hWW;have he6:=he6.wide (ok':=fun i=>wd.heap.size≤i∧i<WW.heap.size) (fun i hi hl=>⟨hi.1,hl⟩);have q1:kExpr.E (fun i=>WW.heap.size≤i) WW [.int .i64 0,.int .i64 0,.int .i64 0,.string ⟨#[]⟩,.slice none 0 0,.slice none 0 0] (.mk 0 0 0 ⟨#[]⟩ [] []):=HEx.leaf 0 0 0 ⟨#[]⟩;have q2:(e.L.length+1)*kExpr.bytes≤140737488355328:=(by show (e.L.length+1)*88≤_;omega);have q3:e.L.length+1≤maxLen:=(by unfold maxLen;omega);have hlit:∀ j u,[.int .i64 0,.int .i64 0,.int .i64 0,.string ⟨#[]⟩,.slice none 0 0,.slice none 0 0][j]?=some u→WW.cell? ((⟨w.heap.size,0,none⟩:Addr).add j)=some u:=fun j u hj=>by
    have adds:(⟨w.heap.size,0,none⟩:Addr).add j=⟨w.heap.size,j,none⟩:=by unfold Addr.add;split<;>simp_all
    rw [adds,co hz]
    simpa using hj
   refine zG (i:=6) rfl (by kernel_rfl) (by rfl) (fun K hK=>?_);refine zDR kExpr _ _ 41 rfl Tryz.underlying41 WW.heap.size w.heap.size _ _ e.L (by rfl) om6 [.int .i64 0,.int .i64 0,.int .i64 0,.string ⟨#[]⟩,.slice none 0 0,.slice none 0 0] (.mk 0 0 0 ⟨#[]⟩ [] []) q1 hlit (by rfl) (fun i hi=>by omega) nR q2 q3 ?_;intro v8 w8 om8 gr8;have hvb:=fun k hk=>(om6.lt k hk).1;have hoth:∀ k,k<WW.heap.size→¬(okL k∧k<w.heap.size)→w8.heap[k]?=WW.heap[k]?:=fun k hk hn=>gr8.block k hk (fun e=>hn (hvb k e.symm));have z8:=gr8.size;have A8:Aside [b,eb] N0 w w8:=A6.trans ⟨gr8.os,gr8.tape,gr8.output,z8,fun k hk _=>hoth k (by omega) (fun hh=>by have:=hokL k hh.1;omega)⟩ nR;have hb8:=(hoth eb (zC hb6) (fun hh=>by have:=hokL eb hh.1;omega)).trans hb6;have hr8:=(hoth rb (zC hr6) (fun hh=>by have:=hokL rb hh.1;omega)).trans hr6;have oo8:=oo6.keep z8 (fun i hi hl=>hoth i hl (fun hh=>hdis i hi.1 hh.1));have he8:=he6.keep z8 (fun i hi hl=>hoth i hl (fun hh=>by omega));have h8:Rd w8 b g cap I.L I.len n2 op:=⟨(hoth b h6.bb (fun hh=>by have:=hokL b hh.1;omega)).trans h6.here,h6.toks.keep (hoth g h6.gb (fun hh=>by have:=hokL g hh.1;omega)),h6.apart,Nat.lt_of_lt_of_le h6.gb z8,h6.le,h6.lc,h6.cm⟩;clear A6 hb6 hr6 om6 oo6 h6 he6 q1 hlit hz gr8 hoth hvb;have c4:=co hb8 5;have cr:=co hr8 0;simp only [gT,gZ,gS] at c4 cr;refine hK.out _ _ (fun _=>And.intro c4 cr) ?_;clear hK K
   try simp only [Act.put,sT,sZ,sS]
   obtain ⟨g8,c8,hv8,_,hcm8,hg8⟩:=om8.pos (by simp);rw [List.length_append,List.length_singleton] at hv8;subst hv8;have hg8ok:=(om8.lt g8 rfl).1;unfold maxLen at hcm8;have hidx:(e.L.length:Int)<(e.L.length:Int)+1:=(by omega);have hgN:N0≤g8:=(by rcases hg8ok with q | q;exact hokL g8 q.1;omega);have hg2:¬(wd.heap.size≤g8∧g8<WW.heap.size):=(by rcases hg8ok with q | q;have:=q.2;omega;omega);refine' jB (i:=7) (v:=_) rfl (by kernel_rfl) (by kernel_rfl) (by kernel_rfl) rfl (fun _ _ _ h=>h) (by rfl) ?hyv ?o7
   case hyv=>
    intro wz;go_simp
    try rfl
   try simp only [Act.put,sT,sZ,sS]
   refine' jB (i:=9) (v:=_) rfl (by kernel_rfl) (by kernel_rfl) (by kernel_rfl) rfl (fun _ _ _ h=>h) (by rfl) ?hyv ?o8
   case hyv=>
    intro wz;go_simp
    try rfl
   try simp only [Act.put,sT,sZ,sS]
   refine zBk (i:=8) (j:=10) rfl rfl (by kernel_rfl) (by rfl) (by rfl) (fun K hK=>?_) (fun K hK=>?_)
   ·skip
    obtain ⟨u0,u1,u2,u3,u4,u5,d0,d1,d2,d3,d4,d5,fr⟩:=om8.lastCells;go_simp;refine hK.out _ _ (fun h=>by cases h) ?_;clear hK K
    try simp only [Act.put,sT,sZ,sS]
    have om9:=om8.last he8 hg2;have oo9:=oo8.keep (w':=putAt w8 g8 (e.L.length*6) x6) (by rw [qM];exact Nat.le_refl _) (fun i hi _=>zY _ _ _ _ _ (fun q=>by subst q;rcases hg8ok with q | q;exact hdis _ hi.1 q.1;have:=hi.2;omega));have hb9:=(zY w8 g8 (e.L.length*6) x6 eb (by omega)).trans hb8;have h9:Rd (putAt w8 g8 (e.L.length*6) x6) b g cap I.L I.len n2 op:=⟨(zY _ _ _ _ _ (by omega)).trans h8.here,h8.toks.keep (zY _ _ _ _ _ (by omega)),h8.apart,by rw [qM];exact h8.gb,h8.le,h8.lc,h8.cm⟩;have A9:Aside [b,eb] N0 w (putAt w8 g8 (e.L.length*6) x6):=zAQ A8 hgN;clear d0 d1 d2 d3 d4 d5 fr c4 cr;have c9:=co hb9 5;have f9:=fun o=>fo hb9 o;simp only [gT,gZ,gS] at c9
    change wpAnyL _ _ _ _ _ _ _ _ _ (putAt w8 g8 (e.L.length*6) x6)
    generalize hw9:putAt w8 g8 (e.L.length*6) x6=w9 at om9 oo9 hb9 h9 A9 c9 f9 ⊢;clear hw9;refine zG (i:=10) rfl (by kernel_rfl) (by rfl) (fun K hK=>?_);go_simp;refine hK.out _ _ (fun h=>by cases h) ?_;clear hK K
    try simp only [Act.put,sT,sZ,sS]
    have hbA:=zJ hb9 5 (.slice (some ⟨g8,0,none⟩) (e.L.length+1) c8);have hA:=h9.set (p:=⟨eb,5,none⟩) (by simp;omega) (by simp;omega) (.slice (some ⟨g8,0,none⟩) (e.L.length+1) c8);have AA:Aside [b,eb] N0 w (w9.setCell ⟨eb,5,none⟩ (.slice (some ⟨g8,0,none⟩) (e.L.length+1) c8)):=A9.trans (Aside.setCell (by simp) _) nR;have omA:=om9.set (p:=⟨eb,5,none⟩) (by intro hh;have hh2:((okL eb∧eb<w.heap.size)∨WW.heap.size≤eb)∨(wd.heap.size≤eb∧eb<WW.heap.size):=hh;rcases hh2 with (q | q) | q;exact absurd (hokL eb q.1) (by omega);omega;omega) (.slice (some ⟨g8,0,none⟩) (e.L.length+1) c8);have ooA:=oo9.set (p:=⟨eb,5,none⟩) (by intro hh;have hh2:okS eb∧eb<w.heap.size:=hh;have:=hokS eb hh2.1;omega) (.slice (some ⟨g8,0,none⟩) (e.L.length+1) c8);simp only [sT,sZ,sS] at hbA;refine zR (by kernel_rfl) ?_ _;go_wp2;go_end0;exact PostE.good m6.out AA le6 hA ⟨_,_,fun i=>okS i∧i<w.heap.size,fun i=>((okL i∧i<w.heap.size)∨WW.heap.size≤i)∨(wd.heap.size≤i∧i<WW.heap.size),hbA,ooA,omA,fun i hi=>hokS i hi.1,fun i hi=>by rcases hi with (q | q) | q;exact hokL i q.1;omega;omega,fun i hi hj=>by rcases hj with (q | q) | q;exact hdis i hi.1 q.1;omega;omega⟩
   ·have f8:=fun o=>fo hb8 o
    go_simp;refine hK.out _ _ (fun h=>by cases h) ?_;clear hK K
    try simp only [Act.put,sT,sZ,sS]
    have hb9:=zJ hb8 5 (.slice (some ⟨g8,0,none⟩) (e.L.length+1) c8);have h9:=h8.set (p:=⟨eb,5,none⟩) (by simp;omega) (by simp;omega) (.slice (some ⟨g8,0,none⟩) (e.L.length+1) c8);have A9:Aside [b,eb] N0 w (w8.setCell ⟨eb,5,none⟩ (.slice (some ⟨g8,0,none⟩) (e.L.length+1) c8)):=A8.trans (Aside.setCell (by simp) _) nR;have om9:=om8.set (p:=⟨eb,5,none⟩) (by intro hh;have hh2:(okL eb∧eb<w.heap.size)∨WW.heap.size≤eb:=hh;rcases hh2 with q | q;exact absurd (hokL eb q.1) (by omega);omega) (.slice (some ⟨g8,0,none⟩) (e.L.length+1) c8);have oo9:=oo8.set (p:=⟨eb,5,none⟩) (by intro hh;have hh2:okS eb∧eb<w.heap.size:=hh;have:=hokS eb hh2.1;omega) (.slice (some ⟨g8,0,none⟩) (e.L.length+1) c8);simp only [sT,sZ,sS] at hb9;have he9:=he8.set (p:=⟨eb,5,none⟩) (by intro hh;have hh2:wd.heap.size≤eb∧eb<WW.heap.size:=hh;omega) (.slice (some ⟨g8,0,none⟩) (e.L.length+1) c8);clear c4 cr f8;generalize w8.setCell ⟨eb,5,none⟩ (.slice (some ⟨g8,0,none⟩) (e.L.length+1) c8)=w9 at om9 oo9 hb9 h9 A9 he9 ⊢;obtain ⟨u0,u1,u2,u3,u4,u5,d0,d1,d2,d3,d4,d5,fr⟩:=om9.lastCells;refine zG (i:=8) rfl (by kernel_rfl) (by rfl) (fun K hK=>?_);go_simp;refine hK.out _ _ (fun h=>by cases h) ?_;clear hK K
    try simp only [Act.put,sT,sZ,sS]
    have omA:=om9.last he9 hg2;have ooA:=oo9.keep (w':=putAt w9 g8 (e.L.length*6) x6) (by rw [qM];exact Nat.le_refl _) (fun i hi _=>zY _ _ _ _ _ (fun q=>by subst q;rcases hg8ok with q | q;exact hdis _ hi.1 q.1;have:=hi.2;omega));have hbA:=(zY w9 g8 (e.L.length*6) x6 eb (by omega)).trans hb9;have hA:Rd (putAt w9 g8 (e.L.length*6) x6) b g cap I.L I.len n2 op:=⟨(zY _ _ _ _ _ (by omega)).trans h9.here,h9.toks.keep (zY _ _ _ _ _ (by omega)),h9.apart,by rw [qM];exact h9.gb,h9.le,h9.lc,h9.cm⟩;have AA:Aside [b,eb] N0 w (putAt w9 g8 (e.L.length*6) x6):=zAQ A9 hgN;refine zR (by kernel_rfl) ?_ _;go_wp2;go_end0;exact PostE.good m6.out AA le6 hA ⟨_,_,fun i=>okS i∧i<w.heap.size,fun i=>((okL i∧i<w.heap.size)∨WW.heap.size≤i)∨(wd.heap.size≤i∧i<WW.heap.size),hbA,ooA,omA,fun i hi=>hokS i hi.1,fun i hi=>by rcases hi with (q | q) | q;exact hokL i q.1;omega;omega,fun i hi hj=>by rcases hj with (q | q) | q;exact hdis i hi.1 q.1;omega;omega⟩
theorem idx0 (w:World):(Instr.index 144 (.agg #[.string ⟨#[97,100,100]⟩,.string ⟨#[115,117,98]⟩,.string ⟨#[109,117,108]⟩,.string ⟨#[100,105,118]⟩,.string ⟨#[109,111,100]⟩,.string ⟨#[109,105,110]⟩,.string ⟨#[109,97,120]⟩,.string ⟨#[108,101,115,115]⟩,.string ⟨#[101,113]⟩,.string ⟨#[97,110,100]⟩,.string ⟨#[111,114]⟩,.string ⟨#[120,111,114]⟩,.string ⟨#[110,101,103]⟩,.string ⟨#[110,111,116]⟩]) (.int .i64 0)).run Tryz.prog w=.ok (.string ⟨#[97,100,100]⟩) w:=by kernel_rfl
theorem idx1 (w:World):(Instr.index 144 (.agg #[.string ⟨#[97,100,100]⟩,.string ⟨#[115,117,98]⟩,.string ⟨#[109,117,108]⟩,.string ⟨#[100,105,118]⟩,.string ⟨#[109,111,100]⟩,.string ⟨#[109,105,110]⟩,.string ⟨#[109,97,120]⟩,.string ⟨#[108,101,115,115]⟩,.string ⟨#[101,113]⟩,.string ⟨#[97,110,100]⟩,.string ⟨#[111,114]⟩,.string ⟨#[120,111,114]⟩,.string ⟨#[110,101,103]⟩,.string ⟨#[110,111,116]⟩]) (.int .i64 1)).run Tryz.prog w=.ok (.string ⟨#[115,117,98]⟩) w:=by kernel_rfl
theorem idx2 (w:World):(Instr.index 144 (.agg #[.string ⟨#[97,100,100]⟩,.string ⟨#[115,117,98]⟩,.string ⟨#[109,117,108]⟩,.string ⟨#[100,105,118]⟩,.string ⟨#[109,111,100]⟩,.string ⟨#[109,105,110]⟩,.string ⟨#[109,97,120]⟩,.string ⟨#[108,101,115,115]⟩,.string ⟨#[101,113]⟩,.string ⟨#[97,110,100]⟩,.string ⟨#[111,114]⟩,.string ⟨#[120,111,114]⟩,.string ⟨#[110,101,103]⟩,.string ⟨#[110,111,116]⟩]) (.int .i64 2)).run Tryz.prog w=.ok (.string ⟨#[109,117,108]⟩) w:=by kernel_rfl
theorem idx3 (w:World):(Instr.index 144 (.agg #[.string ⟨#[97,100,100]⟩,.string ⟨#[115,117,98]⟩,.string ⟨#[109,117,108]⟩,.string ⟨#[100,105,118]⟩,.string ⟨#[109,111,100]⟩,.string ⟨#[109,105,110]⟩,.string ⟨#[109,97,120]⟩,.string ⟨#[108,101,115,115]⟩,.string ⟨#[101,113]⟩,.string ⟨#[97,110,100]⟩,.string ⟨#[111,114]⟩,.string ⟨#[120,111,114]⟩,.string ⟨#[110,101,103]⟩,.string ⟨#[110,111,116]⟩]) (.int .i64 3)).run Tryz.prog w=.ok (.string ⟨#[100,105,118]⟩) w:=by kernel_rfl
theorem idx4 (w:World):(Instr.index 144 (.agg #[.string ⟨#[97,100,100]⟩,.string ⟨#[115,117,98]⟩,.string ⟨#[109,117,108]⟩,.string ⟨#[100,105,118]⟩,.string ⟨#[109,111,100]⟩,.string ⟨#[109,105,110]⟩,.string ⟨#[109,97,120]⟩,.string ⟨#[108,101,115,115]⟩,.string ⟨#[101,113]⟩,.string ⟨#[97,110,100]⟩,.string ⟨#[111,114]⟩,.string ⟨#[120,111,114]⟩,.string ⟨#[110,101,103]⟩,.string ⟨#[110,111,116]⟩]) (.int .i64 4)).run Tryz.prog w=.ok (.string ⟨#[109,111,100]⟩) w:=by kernel_rfl
theorem idx5 (w:World):(Instr.index 144 (.agg #[.string ⟨#[97,100,100]⟩,.string ⟨#[115,117,98]⟩,.string ⟨#[109,117,108]⟩,.string ⟨#[100,105,118]⟩,.string ⟨#[109,111,100]⟩,.string ⟨#[109,105,110]⟩,.string ⟨#[109,97,120]⟩,.string ⟨#[108,101,115,115]⟩,.string ⟨#[101,113]⟩,.string ⟨#[97,110,100]⟩,.string ⟨#[111,114]⟩,.string ⟨#[120,111,114]⟩,.string ⟨#[110,101,103]⟩,.string ⟨#[110,111,116]⟩]) (.int .i64 5)).run Tryz.prog w=.ok (.string ⟨#[109,105,110]⟩) w:=by kernel_rfl
theorem idx6 (w:World):(Instr.index 144 (.agg #[.string ⟨#[97,100,100]⟩,.string ⟨#[115,117,98]⟩,.string ⟨#[109,117,108]⟩,.string ⟨#[100,105,118]⟩,.string ⟨#[109,111,100]⟩,.string ⟨#[109,105,110]⟩,.string ⟨#[109,97,120]⟩,.string ⟨#[108,101,115,115]⟩,.string ⟨#[101,113]⟩,.string ⟨#[97,110,100]⟩,.string ⟨#[111,114]⟩,.string ⟨#[120,111,114]⟩,.string ⟨#[110,101,103]⟩,.string ⟨#[110,111,116]⟩]) (.int .i64 6)).run Tryz.prog w=.ok (.string ⟨#[109,97,120]⟩) w:=by kernel_rfl
theorem idx7 (w:World):(Instr.index 144 (.agg #[.string ⟨#[97,100,100]⟩,.string ⟨#[115,117,98]⟩,.string ⟨#[109,117,108]⟩,.string ⟨#[100,105,118]⟩,.string ⟨#[109,111,100]⟩,.string ⟨#[109,105,110]⟩,.string ⟨#[109,97,120]⟩,.string ⟨#[108,101,115,115]⟩,.string ⟨#[101,113]⟩,.string ⟨#[97,110,100]⟩,.string ⟨#[111,114]⟩,.string ⟨#[120,111,114]⟩,.string ⟨#[110,101,103]⟩,.string ⟨#[110,111,116]⟩]) (.int .i64 7)).run Tryz.prog w=.ok (.string ⟨#[108,101,115,115]⟩) w:=by kernel_rfl
theorem idx8 (w:World):(Instr.index 144 (.agg #[.string ⟨#[97,100,100]⟩,.string ⟨#[115,117,98]⟩,.string ⟨#[109,117,108]⟩,.string ⟨#[100,105,118]⟩,.string ⟨#[109,111,100]⟩,.string ⟨#[109,105,110]⟩,.string ⟨#[109,97,120]⟩,.string ⟨#[108,101,115,115]⟩,.string ⟨#[101,113]⟩,.string ⟨#[97,110,100]⟩,.string ⟨#[111,114]⟩,.string ⟨#[120,111,114]⟩,.string ⟨#[110,101,103]⟩,.string ⟨#[110,111,116]⟩]) (.int .i64 8)).run Tryz.prog w=.ok (.string ⟨#[101,113]⟩) w:=by kernel_rfl
theorem idx9 (w:World):(Instr.index 144 (.agg #[.string ⟨#[97,100,100]⟩,.string ⟨#[115,117,98]⟩,.string ⟨#[109,117,108]⟩,.string ⟨#[100,105,118]⟩,.string ⟨#[109,111,100]⟩,.string ⟨#[109,105,110]⟩,.string ⟨#[109,97,120]⟩,.string ⟨#[108,101,115,115]⟩,.string ⟨#[101,113]⟩,.string ⟨#[97,110,100]⟩,.string ⟨#[111,114]⟩,.string ⟨#[120,111,114]⟩,.string ⟨#[110,101,103]⟩,.string ⟨#[110,111,116]⟩]) (.int .i64 9)).run Tryz.prog w=.ok (.string ⟨#[97,110,100]⟩) w:=by kernel_rfl
theorem idx10 (w:World):(Instr.index 144 (.agg #[.string ⟨#[97,100,100]⟩,.string ⟨#[115,117,98]⟩,.string ⟨#[109,117,108]⟩,.string ⟨#[100,105,118]⟩,.string ⟨#[109,111,100]⟩,.string ⟨#[109,105,110]⟩,.string ⟨#[109,97,120]⟩,.string ⟨#[108,101,115,115]⟩,.string ⟨#[101,113]⟩,.string ⟨#[97,110,100]⟩,.string ⟨#[111,114]⟩,.string ⟨#[120,111,114]⟩,.string ⟨#[110,101,103]⟩,.string ⟨#[110,111,116]⟩]) (.int .i64 10)).run Tryz.prog w=.ok (.string ⟨#[111,114]⟩) w:=by kernel_rfl
theorem idx11 (w:World):(Instr.index 144 (.agg #[.string ⟨#[97,100,100]⟩,.string ⟨#[115,117,98]⟩,.string ⟨#[109,117,108]⟩,.string ⟨#[100,105,118]⟩,.string ⟨#[109,111,100]⟩,.string ⟨#[109,105,110]⟩,.string ⟨#[109,97,120]⟩,.string ⟨#[108,101,115,115]⟩,.string ⟨#[101,113]⟩,.string ⟨#[97,110,100]⟩,.string ⟨#[111,114]⟩,.string ⟨#[120,111,114]⟩,.string ⟨#[110,101,103]⟩,.string ⟨#[110,111,116]⟩]) (.int .i64 11)).run Tryz.prog w=.ok (.string ⟨#[120,111,114]⟩) w:=by kernel_rfl
theorem idx12 (w:World):(Instr.index 144 (.agg #[.string ⟨#[97,100,100]⟩,.string ⟨#[115,117,98]⟩,.string ⟨#[109,117,108]⟩,.string ⟨#[100,105,118]⟩,.string ⟨#[109,111,100]⟩,.string ⟨#[109,105,110]⟩,.string ⟨#[109,97,120]⟩,.string ⟨#[108,101,115,115]⟩,.string ⟨#[101,113]⟩,.string ⟨#[97,110,100]⟩,.string ⟨#[111,114]⟩,.string ⟨#[120,111,114]⟩,.string ⟨#[110,101,103]⟩,.string ⟨#[110,111,116]⟩]) (.int .i64 12)).run Tryz.prog w=.ok (.string ⟨#[110,101,103]⟩) w:=by kernel_rfl
theorem idx13 (w:World):(Instr.index 144 (.agg #[.string ⟨#[97,100,100]⟩,.string ⟨#[115,117,98]⟩,.string ⟨#[109,117,108]⟩,.string ⟨#[100,105,118]⟩,.string ⟨#[109,111,100]⟩,.string ⟨#[109,105,110]⟩,.string ⟨#[109,97,120]⟩,.string ⟨#[108,101,115,115]⟩,.string ⟨#[101,113]⟩,.string ⟨#[97,110,100]⟩,.string ⟨#[111,114]⟩,.string ⟨#[120,111,114]⟩,.string ⟨#[110,101,103]⟩,.string ⟨#[110,111,116]⟩]) (.int .i64 13)).run Tryz.prog w=.ok (.string ⟨#[110,111,116]⟩) w:=by kernel_rfl
def intV:Nat→World→Value→Int→Prop:=fun _ _ x k=>x=.int .i64 k
theorem xB {I:Inp} {n:Nat}:∀ (l:List (List UInt8)) (i:Nat) (k:Int),(∀ j (h:j<l.length),j<i→Ps.sees I l[j] n=false)→Ps.wordAt I n l k=Ps.wordAt I n (l.drop i) (k+i)
 | l,0,k,h=>by simp
 | [],i+1,k,h=>by simp [Ps.wordAt]
 | x :: l,i+1,k,h=>by
  have h0:=h 0 (by simp) (by omega);simp only [List.getElem_cons_zero] at h0;rw [Ps.wordAt,if_neg (by rw [h0];simp),xB l i (k+1) (fun j hj hji=>by have:=h (j+1) (by simp;omega) (by omega);simpa using this)];simp only [List.drop_succ_cons]
  congr 1
  omega
theorem operator_any {b g cap:Nat} {I:Inp} {op:Nat}:Does 132 b g cap I op intV (Ps.oper I):=by
 intro nx w h hG;have hb:=h.bb;have hg:=h.gb;obtain ⟨hb1,h1,hw⟩:=hG;have e14:Ps.words.length=14:=rfl;have t0:w.cell? ⟨1,0,none⟩=some (.string ⟨#[97,100,100]⟩):=hw 0 (by decide);have t1:w.cell? ⟨1,1,none⟩=some (.string ⟨#[115,117,98]⟩):=hw 1 (by decide);have t2:w.cell? ⟨1,2,none⟩=some (.string ⟨#[109,117,108]⟩):=hw 2 (by decide);have t3:w.cell? ⟨1,3,none⟩=some (.string ⟨#[100,105,118]⟩):=hw 3 (by decide);have t4:w.cell? ⟨1,4,none⟩=some (.string ⟨#[109,111,100]⟩):=hw 4 (by decide);have t5:w.cell? ⟨1,5,none⟩=some (.string ⟨#[109,105,110]⟩):=hw 5 (by decide);have t6:w.cell? ⟨1,6,none⟩=some (.string ⟨#[109,97,120]⟩):=hw 6 (by decide);have t7:w.cell? ⟨1,7,none⟩=some (.string ⟨#[108,101,115,115]⟩):=hw 7 (by decide);have t8:w.cell? ⟨1,8,none⟩=some (.string ⟨#[101,113]⟩):=hw 8 (by decide);have t9:w.cell? ⟨1,9,none⟩=some (.string ⟨#[97,110,100]⟩):=hw 9 (by decide);have t10:w.cell? ⟨1,10,none⟩=some (.string ⟨#[111,114]⟩):=hw 10 (by decide);have t11:w.cell? ⟨1,11,none⟩=some (.string ⟨#[120,111,114]⟩):=hw 11 (by decide);have t12:w.cell? ⟨1,12,none⟩=some (.string ⟨#[110,101,103]⟩):=hw 12 (by decide);have t13:w.cell? ⟨1,13,none⟩=some (.string ⟨#[110,111,116]⟩):=hw 13 (by decide);clear hw;go_enter Tryz.func132,Tryz.ntmps132;go_wp2;go_loopg [3,4,6] 14 (fun k v3 v4 v6 wr=>∃ (i:Nat),i≤14∧k=14-i∧v6=.int .i64 (i:Nat)∧Rd wr b g cap I.L I.len nx op∧Aside [b] w.heap.size w wr∧Hid (∀ j (h:j<Ps.words.length),j<i→Ps.sees I Ps.words[j] nx=false))
 case atStart=>exact ⟨0,Nat.zero_le _,rfl,rfl,h,Aside.refl _,fun j _ hj=>absurd hj (Nat.not_lt_zero _)⟩
 case round=>
  obtain ⟨i,hi,rfl,rfl,hr,hA,hf⟩:=hrel;by_cases h14:i=14
  ·subst h14
   go_wp2_with fail;refine (zAH hr).mono ?_;rintro r w1 ⟨rfl,b1⟩;refine ⟨rfl,Post.fail ?_ (hA.trans (aside b1) hA.size)⟩;unfold Ps.oper;rw [xB Ps.words 14 1 (fun j hj hj2=>hf.out j hj hj2)];rfl
  ·have hcases:i=0∨i=1∨i=2∨i=3∨i=4∨i=5∨i=6∨i=7∨i=8∨i=9∨i=10∨i=11∨i=12∨i=13:=by omega
   clear h14 hi;rcases hcases with rfl | rfl | rfl | rfl | rfl | rfl | rfl | rfl | rfl | rfl | rfl | rfl | rfl | rfl
   ·have hix:=idx0
    go_wp2_with fail;clear hix;refine (zS hr ⟨#[97,100,100]⟩ (by decide)).mono ?_;rintro r w1 ⟨rfl,h1,a1⟩;have es:(⟨#[97,100,100]⟩:ByteArray).data.toList=[97,100,100]:=rfl;rw [es] at h1;simp only [es];clear es;have A1:=hA.trans a1 hA.size
    cases hq:Ps.sees I [97,100,100] nx with
    | true=>
     rw [hq] at h1;simp only [if_true] at h1;have hm:Hid (Ps.oper I nx=.ok 1 (nx+1)):=by
      show Ps.oper I nx=_
      unfold Ps.oper;rw [xB Ps.words 0 1 (fun j hj hj2=>hf.out j hj hj2)];simp [Ps.words,Ps.wordAt,hq]
     go_wp2;go_ret;exact Post.good hm.out A1 (Nat.le_succ _) h1 rfl
    | false=>
     rw [hq] at h1;simp only [Bool.false_eq_true,if_false] at h1;go_wp2;go_roundg (14-1)
     case measure=>omega
     case rel=>
      refine ⟨1,by omega,rfl,rfl,h1,A1,fun q hq1 hq2=>?_⟩;by_cases e:q=0
      ·subst e
       exact hq
      ·exact hf.out q hq1 (by omega)
   ·have hix:=idx1
    go_wp2_with fail;clear hix;refine (zS hr ⟨#[115,117,98]⟩ (by decide)).mono ?_;rintro r w1 ⟨rfl,h1,a1⟩;have es:(⟨#[115,117,98]⟩:ByteArray).data.toList=[115,117,98]:=rfl;rw [es] at h1;simp only [es];clear es;have A1:=hA.trans a1 hA.size
    cases hq:Ps.sees I [115,117,98] nx with
    | true=>
     rw [hq] at h1;simp only [if_true] at h1;have hm:Hid (Ps.oper I nx=.ok 2 (nx+1)):=by
      show Ps.oper I nx=_
      unfold Ps.oper;rw [xB Ps.words 1 1 (fun j hj hj2=>hf.out j hj hj2)];simp [Ps.words,Ps.wordAt,hq]
     go_wp2;go_ret;exact Post.good hm.out A1 (Nat.le_succ _) h1 rfl
    | false=>
     rw [hq] at h1;simp only [Bool.false_eq_true,if_false] at h1;go_wp2;go_roundg (14-2)
     case measure=>omega
     case rel=>
      refine ⟨2,by omega,rfl,rfl,h1,A1,fun q hq1 hq2=>?_⟩;by_cases e:q=1
      ·subst e
       exact hq
      ·exact hf.out q hq1 (by omega)
   ·have hix:=idx2
    go_wp2_with fail;clear hix;refine (zS hr ⟨#[109,117,108]⟩ (by decide)).mono ?_;rintro r w1 ⟨rfl,h1,a1⟩;have es:(⟨#[109,117,108]⟩:ByteArray).data.toList=[109,117,108]:=rfl;rw [es] at h1;simp only [es];clear es;have A1:=hA.trans a1 hA.size
    cases hq:Ps.sees I [109,117,108] nx with
    | true=>
     rw [hq] at h1;simp only [if_true] at h1;have hm:Hid (Ps.oper I nx=.ok 3 (nx+1)):=by
      show Ps.oper I nx=_
      unfold Ps.oper;rw [xB Ps.words 2 1 (fun j hj hj2=>hf.out j hj hj2)];simp [Ps.words,Ps.wordAt,hq]
     go_wp2;go_ret;exact Post.good hm.out A1 (Nat.le_succ _) h1 rfl
    | false=>
     rw [hq] at h1;simp only [Bool.false_eq_true,if_false] at h1;go_wp2;go_roundg (14-3)
     case measure=>omega
     case rel=>
      refine ⟨3,by omega,rfl,rfl,h1,A1,fun q hq1 hq2=>?_⟩;by_cases e:q=2
      ·subst e
       exact hq
      ·exact hf.out q hq1 (by omega)
   ·have hix:=idx3
    go_wp2_with fail;clear hix;refine (zS hr ⟨#[100,105,118]⟩ (by decide)).mono ?_;rintro r w1 ⟨rfl,h1,a1⟩;have es:(⟨#[100,105,118]⟩:ByteArray).data.toList=[100,105,118]:=rfl;rw [es] at h1;simp only [es];clear es;have A1:=hA.trans a1 hA.size
    cases hq:Ps.sees I [100,105,118] nx with
    | true=>
     rw [hq] at h1;simp only [if_true] at h1;have hm:Hid (Ps.oper I nx=.ok 4 (nx+1)):=by
      show Ps.oper I nx=_
      unfold Ps.oper;rw [xB Ps.words 3 1 (fun j hj hj2=>hf.out j hj hj2)];simp [Ps.words,Ps.wordAt,hq]
     go_wp2;go_ret;exact Post.good hm.out A1 (Nat.le_succ _) h1 rfl
    | false=>
     rw [hq] at h1;simp only [Bool.false_eq_true,if_false] at h1;go_wp2;go_roundg (14-4)
     case measure=>omega
     case rel=>
      refine ⟨4,by omega,rfl,rfl,h1,A1,fun q hq1 hq2=>?_⟩;by_cases e:q=3
      ·subst e
       exact hq
      ·exact hf.out q hq1 (by omega)
   ·have hix:=idx4
    go_wp2_with fail;clear hix;refine (zS hr ⟨#[109,111,100]⟩ (by decide)).mono ?_;rintro r w1 ⟨rfl,h1,a1⟩;have es:(⟨#[109,111,100]⟩:ByteArray).data.toList=[109,111,100]:=rfl;rw [es] at h1;simp only [es];clear es;have A1:=hA.trans a1 hA.size
    cases hq:Ps.sees I [109,111,100] nx with
    | true=>
     rw [hq] at h1;simp only [if_true] at h1;have hm:Hid (Ps.oper I nx=.ok 5 (nx+1)):=by
      show Ps.oper I nx=_
      unfold Ps.oper;rw [xB Ps.words 4 1 (fun j hj hj2=>hf.out j hj hj2)];simp [Ps.words,Ps.wordAt,hq]
     go_wp2;go_ret;exact Post.good hm.out A1 (Nat.le_succ _) h1 rfl
    | false=>
     rw [hq] at h1;simp only [Bool.false_eq_true,if_false] at h1;go_wp2;go_roundg (14-5)
     case measure=>omega
     case rel=>
      refine ⟨5,by omega,rfl,rfl,h1,A1,fun q hq1 hq2=>?_⟩;by_cases e:q=4
      ·subst e
       exact hq
      ·exact hf.out q hq1 (by omega)
   ·have hix:=idx5
    go_wp2_with fail;clear hix;refine (zS hr ⟨#[109,105,110]⟩ (by decide)).mono ?_;rintro r w1 ⟨rfl,h1,a1⟩;have es:(⟨#[109,105,110]⟩:ByteArray).data.toList=[109,105,110]:=rfl;rw [es] at h1;simp only [es];clear es;have A1:=hA.trans a1 hA.size
    cases hq:Ps.sees I [109,105,110] nx with
    | true=>
     rw [hq] at h1;simp only [if_true] at h1;have hm:Hid (Ps.oper I nx=.ok 6 (nx+1)):=by
      show Ps.oper I nx=_
      unfold Ps.oper;rw [xB Ps.words 5 1 (fun j hj hj2=>hf.out j hj hj2)];simp [Ps.words,Ps.wordAt,hq]
     go_wp2;go_ret;exact Post.good hm.out A1 (Nat.le_succ _) h1 rfl
    | false=>
     rw [hq] at h1;simp only [Bool.false_eq_true,if_false] at h1;go_wp2;go_roundg (14-6)
     case measure=>omega
     case rel=>
      refine ⟨6,by omega,rfl,rfl,h1,A1,fun q hq1 hq2=>?_⟩;by_cases e:q=5
      ·subst e
       exact hq
      ·exact hf.out q hq1 (by omega)
   ·have hix:=idx6
    go_wp2_with fail;clear hix;refine (zS hr ⟨#[109,97,120]⟩ (by decide)).mono ?_;rintro r w1 ⟨rfl,h1,a1⟩;have es:(⟨#[109,97,120]⟩:ByteArray).data.toList=[109,97,120]:=rfl;rw [es] at h1;simp only [es];clear es;have A1:=hA.trans a1 hA.size
    cases hq:Ps.sees I [109,97,120] nx with
    | true=>
     rw [hq] at h1;simp only [if_true] at h1;have hm:Hid (Ps.oper I nx=.ok 7 (nx+1)):=by
      show Ps.oper I nx=_
      unfold Ps.oper;rw [xB Ps.words 6 1 (fun j hj hj2=>hf.out j hj hj2)];simp [Ps.words,Ps.wordAt,hq]
     go_wp2;go_ret;exact Post.good hm.out A1 (Nat.le_succ _) h1 rfl
    | false=>
     rw [hq] at h1;simp only [Bool.false_eq_true,if_false] at h1;go_wp2;go_roundg (14-7)
     case measure=>omega
     case rel=>
      refine ⟨7,by omega,rfl,rfl,h1,A1,fun q hq1 hq2=>?_⟩;by_cases e:q=6
      ·subst e
       exact hq
      ·exact hf.out q hq1 (by omega)
   ·have hix:=idx7
    go_wp2_with fail;clear hix;refine (zS hr ⟨#[108,101,115,115]⟩ (by decide)).mono ?_;rintro r w1 ⟨rfl,h1,a1⟩;have es:(⟨#[108,101,115,115]⟩:ByteArray).data.toList=[108,101,115,115]:=rfl;rw [es] at h1;simp only [es];clear es;have A1:=hA.trans a1 hA.size
    cases hq:Ps.sees I [108,101,115,115] nx with
    | true=>
     rw [hq] at h1;simp only [if_true] at h1;have hm:Hid (Ps.oper I nx=.ok 8 (nx+1)):=by
      show Ps.oper I nx=_
      unfold Ps.oper;rw [xB Ps.words 7 1 (fun j hj hj2=>hf.out j hj hj2)];simp [Ps.words,Ps.wordAt,hq]
     go_wp2;go_ret;exact Post.good hm.out A1 (Nat.le_succ _) h1 rfl
    | false=>
     rw [hq] at h1;simp only [Bool.false_eq_true,if_false] at h1;go_wp2;go_roundg (14-8)
     case measure=>omega
     case rel=>
      refine ⟨8,by omega,rfl,rfl,h1,A1,fun q hq1 hq2=>?_⟩;by_cases e:q=7
      ·subst e
       exact hq
      ·exact hf.out q hq1 (by omega)
   ·have hix:=idx8
    go_wp2_with fail;clear hix;refine (zS hr ⟨#[101,113]⟩ (by decide)).mono ?_;rintro r w1 ⟨rfl,h1,a1⟩;have es:(⟨#[101,113]⟩:ByteArray).data.toList=[101,113]:=rfl;rw [es] at h1;simp only [es];clear es;have A1:=hA.trans a1 hA.size
    cases hq:Ps.sees I [101,113] nx with
    | true=>
     rw [hq] at h1;simp only [if_true] at h1;have hm:Hid (Ps.oper I nx=.ok 9 (nx+1)):=by
      show Ps.oper I nx=_
      unfold Ps.oper;rw [xB Ps.words 8 1 (fun j hj hj2=>hf.out j hj hj2)];simp [Ps.words,Ps.wordAt,hq]
     go_wp2;go_ret;exact Post.good hm.out A1 (Nat.le_succ _) h1 rfl
    | false=>
     rw [hq] at h1;simp only [Bool.false_eq_true,if_false] at h1;go_wp2;go_roundg (14-9)
     case measure=>omega
     case rel=>
      refine ⟨9,by omega,rfl,rfl,h1,A1,fun q hq1 hq2=>?_⟩;by_cases e:q=8
      ·subst e
       exact hq
      ·exact hf.out q hq1 (by omega)
   ·have hix:=idx9
    go_wp2_with fail;clear hix;refine (zS hr ⟨#[97,110,100]⟩ (by decide)).mono ?_;rintro r w1 ⟨rfl,h1,a1⟩;have es:(⟨#[97,110,100]⟩:ByteArray).data.toList=[97,110,100]:=rfl;rw [es] at h1;simp only [es];clear es;have A1:=hA.trans a1 hA.size
    cases hq:Ps.sees I [97,110,100] nx with
    | true=>
     rw [hq] at h1;simp only [if_true] at h1;have hm:Hid (Ps.oper I nx=.ok 10 (nx+1)):=by
      show Ps.oper I nx=_
      unfold Ps.oper;rw [xB Ps.words 9 1 (fun j hj hj2=>hf.out j hj hj2)];simp [Ps.words,Ps.wordAt,hq]
     go_wp2;go_ret;exact Post.good hm.out A1 (Nat.le_succ _) h1 rfl
    | false=>
     rw [hq] at h1;simp only [Bool.false_eq_true,if_false] at h1;go_wp2;go_roundg (14-10)
     case measure=>omega
     case rel=>
      refine ⟨10,by omega,rfl,rfl,h1,A1,fun q hq1 hq2=>?_⟩;by_cases e:q=9
      ·subst e
       exact hq
      ·exact hf.out q hq1 (by omega)
   ·have hix:=idx10
    go_wp2_with fail;clear hix;refine (zS hr ⟨#[111,114]⟩ (by decide)).mono ?_;rintro r w1 ⟨rfl,h1,a1⟩;have es:(⟨#[111,114]⟩:ByteArray).data.toList=[111,114]:=rfl;rw [es] at h1;simp only [es];clear es;have A1:=hA.trans a1 hA.size
    cases hq:Ps.sees I [111,114] nx with
    | true=>
     rw [hq] at h1;simp only [if_true] at h1;have hm:Hid (Ps.oper I nx=.ok 11 (nx+1)):=by
      show Ps.oper I nx=_
      unfold Ps.oper;rw [xB Ps.words 10 1 (fun j hj hj2=>hf.out j hj hj2)];simp [Ps.words,Ps.wordAt,hq]
     go_wp2;go_ret;exact Post.good hm.out A1 (Nat.le_succ _) h1 rfl
    | false=>
     rw [hq] at h1;simp only [Bool.false_eq_true,if_false] at h1;go_wp2;go_roundg (14-11)
     case measure=>omega
     case rel=>
      refine ⟨11,by omega,rfl,rfl,h1,A1,fun q hq1 hq2=>?_⟩;by_cases e:q=10
      ·subst e
       exact hq
      ·exact hf.out q hq1 (by omega)
   ·have hix:=idx11
    go_wp2_with fail;clear hix;refine (zS hr ⟨#[120,111,114]⟩ (by decide)).mono ?_;rintro r w1 ⟨rfl,h1,a1⟩;have es:(⟨#[120,111,114]⟩:ByteArray).data.toList=[120,111,114]:=rfl;rw [es] at h1;simp only [es];clear es;have A1:=hA.trans a1 hA.size
    cases hq:Ps.sees I [120,111,114] nx with
    | true=>
     rw [hq] at h1;simp only [if_true] at h1;have hm:Hid (Ps.oper I nx=.ok 12 (nx+1)):=by
      show Ps.oper I nx=_
      unfold Ps.oper;rw [xB Ps.words 11 1 (fun j hj hj2=>hf.out j hj hj2)];simp [Ps.words,Ps.wordAt,hq]
     go_wp2;go_ret;exact Post.good hm.out A1 (Nat.le_succ _) h1 rfl
    | false=>
     rw [hq] at h1;simp only [Bool.false_eq_true,if_false] at h1;go_wp2;go_roundg (14-12)
     case measure=>omega
     case rel=>
      refine ⟨12,by omega,rfl,rfl,h1,A1,fun q hq1 hq2=>?_⟩;by_cases e:q=11
      ·subst e
       exact hq
      ·exact hf.out q hq1 (by omega)
   ·have hix:=idx12
    go_wp2_with fail;clear hix;refine (zS hr ⟨#[110,101,103]⟩ (by decide)).mono ?_;rintro r w1 ⟨rfl,h1,a1⟩;have es:(⟨#[110,101,103]⟩:ByteArray).data.toList=[110,101,103]:=rfl;rw [es] at h1;simp only [es];clear es;have A1:=hA.trans a1 hA.size
    cases hq:Ps.sees I [110,101,103] nx with
    | true=>
     rw [hq] at h1;simp only [if_true] at h1;have hm:Hid (Ps.oper I nx=.ok 13 (nx+1)):=by
      show Ps.oper I nx=_
      unfold Ps.oper;rw [xB Ps.words 12 1 (fun j hj hj2=>hf.out j hj hj2)];simp [Ps.words,Ps.wordAt,hq]
     go_wp2;go_ret;exact Post.good hm.out A1 (Nat.le_succ _) h1 rfl
    | false=>
     rw [hq] at h1;simp only [Bool.false_eq_true,if_false] at h1;go_wp2;go_roundg (14-13)
     case measure=>omega
     case rel=>
      refine ⟨13,by omega,rfl,rfl,h1,A1,fun q hq1 hq2=>?_⟩;by_cases e:q=12
      ·subst e
       exact hq
      ·exact hf.out q hq1 (by omega)
   ·have hix:=idx13
    go_wp2_with fail;clear hix;refine (zS hr ⟨#[110,111,116]⟩ (by decide)).mono ?_;rintro r w1 ⟨rfl,h1,a1⟩;have es:(⟨#[110,111,116]⟩:ByteArray).data.toList=[110,111,116]:=rfl;rw [es] at h1;simp only [es];clear es;have A1:=hA.trans a1 hA.size
    cases hq:Ps.sees I [110,111,116] nx with
    | true=>
     rw [hq] at h1;simp only [if_true] at h1;have hm:Hid (Ps.oper I nx=.ok 14 (nx+1)):=by
      show Ps.oper I nx=_
      unfold Ps.oper;rw [xB Ps.words 13 1 (fun j hj hj2=>hf.out j hj hj2)];simp [Ps.words,Ps.wordAt,hq]
     go_wp2;go_ret;exact Post.good hm.out A1 (Nat.le_succ _) h1 rfl
    | false=>
     rw [hq] at h1;simp only [Bool.false_eq_true,if_false] at h1;go_wp2;go_roundg (14-14)
     case measure=>omega
     case rel=>
      refine ⟨14,by omega,rfl,rfl,h1,A1,fun q hq1 hq2=>?_⟩;by_cases e:q=13
      ·subst e
       exact hq
      ·exact hf.out q hq1 (by omega)
theorem ExSt.keepA {N0 eb:Nat} {S:List Nat} {w w':World} {e:Ex} (h:ExSt N0 eb w e) (a:Aside S w.heap.size w w') (hS:∀ k ∈ S,k<N0) (he:eb ∉ S):ExSt N0 eb w' e:=by
 obtain ⟨vS,vL,okS,okL,h1,h2,h3,h4,h5,h6⟩:=h;exact ⟨vS,vL,okS,okL,a.keep h1 (zC h1) he,h2.past a (fun i hi hm=>by have:=h4 i hi;have:=hS i hm;omega),h3.past a (fun i hi hm=>by have:=h5 i hi;have:=hS i hm;omega),h4,h5,h6⟩
theorem operC_any {b g cap rb eb N0:Nat} {I:Inp} {op nx:Nat} {E:Nat→Res Ex} {e:Ex} {w:World} (hv:Env b g rb eb N0) (h:Rd w b g cap I.L I.len nx op) (hG:GlobB b w) (hN0:N0≤w.heap.size) (hrb:w.heap[rb]?=some (.cells #[.pointer (some ⟨b,0,none⟩)] 76 (0,0))) (hS:ExSt N0 eb w e) :
  Calls Tryz.prog 131 #[.pointer (some ⟨rb,0,none⟩),.pointer (some ⟨eb,0,none⟩)] w (PostE b g cap eb N0 I op nx w (Ps.part I E .oper e nx)):=by
 obtain ⟨v0,v1,v2,v3,v4,v5,v6,v7⟩:=hv;have cr:=co hrb 0;simp at cr;go_enter Tryz.func131,Tryz.ntmps131;go_wp2_with fail;refine (operator_any _ _ h hG).mono ?_;rintro r w1 ⟨a1,hres⟩;have A1:Aside [b,eb] N0 w w1:=zAT (a1.mono hN0);have hS1:=hS.keepA a1 (by simp;exact v0) (by simp;exact v5)
 cases ht:Ps.oper I nx with
 | err c0 a0=>
  rw [ht] at hres;obtain rfl:r=_:=hres;exact ⟨rfl,PostE.fail (by unfold Ps.part;simp only [];rw [ht];rfl) A1⟩
 | ok k n1=>
  rw [ht] at hres;obtain ⟨le1,h1,_,rfl,rfl⟩:=hres;have hm:Hid (Ps.part I E .oper e nx=.ok (Ps.Ex.setK e k) n1):=by
   show Ps.part I E .oper e nx=_
   unfold Ps.part;simp only [];rw [ht];rfl
  clear ht;obtain ⟨vS,vL,okS,okL,heb,oS,oL,hokS,hokL,hdis⟩:=hS1;have c1:=co heb 1;have f1:=fun o=>fo heb o;simp at c1;have hb9:=zJ heb 1 (.int .i64 k);simp only [sT,sZ,sS] at hb9;go_wp2;go_end0;exact PostE.good hm.out (A1.trans (Aside.setCell (by simp) _) nR) le1 (h1.set (by simp;omega) (by simp;omega) _) ⟨vS,vL,okS,okL,hb9,oS.set (by intro hh;have:=hokS eb hh;omega) _,oL.set (by intro hh;have:=hokL eb hh;omega) _,hokS,hokL,hdis⟩
end Go.Proofs.YthkpanbgkimhoaaGreatDoor
