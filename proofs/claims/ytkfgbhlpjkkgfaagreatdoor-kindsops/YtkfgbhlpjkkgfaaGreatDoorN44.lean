import Derived.Test.YtkfgbhlpjkkgfaaGreatDoorN43
set_option linter.unusedVariables false
set_option linter.unusedSimpArgs false
set_option maxHeartbeats 64000000
set_option maxRecDepth 100000
namespace Go.Proofs.YtkfgbhlpjkkgfaaGreatDoor
open Go.RowKit Go.IntWalk
theorem wpAnyL_firstAny {P:Program} {ops:Array Oper} {Q:Exit→Act→World→Prop} {md:Region.Mode} {S:World→Prop} {late:Nat→Bool} {i:Nat} {oi:Oper} {v:Value} (hi:ops[i]?=some oi) (hsel:∀ (j:Nat) (o:Oper) cs b,ops[j]?=some o→o.op≠.select cs b)
  (hQ:∀ c a w,Q (.panic c) (a.put oi.dst v) w→Q (.panic c) a w) :
  ∀ (fuel:Nat) (listed:Array Bool) (a:Act) (w:World),
   (∀ j oj,ops[j]?=some oj→j≠i→listed.getD j true=false→(∀ e ∈ oj.after,Region.binds md e=true→e.on≠i)→oi.apart ops oj=true) →
   i ∈ Region.ready md ops listed→YieldsIf P ops (fun _=>True) oi v a→(late i=false→S w) →
   wpAnyL P md ops Q S late fuel (listed.setIfInBounds i true) (a.put oi.dst v) w→(late i=false→∀ j,j ∈ Region.ready md ops listed→j≠i→late j=false)→(∀ j oj,ops[j]?=some oj→listed.getD j true=false→j≠i→late j=false∨late i=true)→wpAnyL P md ops Q S late (fuel+1) listed a w:=by
 intro fuel
 induction fuel with
 | zero=>
  intro listed a w _ hr hy hS H _ _;refine ⟨fun h=>(by rw [h] at hr;cases hr),fun j hj=>?_⟩;by_cases hji:j=i
  ·subst hji;exact hy.wpOp hi trivial ⟨hS,H⟩
  ·have:=ready_mono hj hji
   rw [H.1] at this
   cases this
 | succ fuel ih=>
  intro listed a w hfree hr hy hS H hl hl2;refine ⟨fun h=>(by rw [h] at hr;cases hr),fun j hj=>?_⟩;by_cases hji:j=i
  ·subst hji;exact hy.wpOp hi trivial ⟨hS,H⟩
  ·have h1:=H.2 j (ready_mono hj hji)
   obtain ⟨hjun,oj,hoj,hall⟩:=mem_ready.1 hj;have hnot:∀ e ∈ oj.after,Region.binds md e=true→e.on≠i:=fun e he hb heq=>by
    have h1:=hall e he hb;have h0:=(mem_ready.1 hr).1;rw [heq] at h1;rcases Nat.lt_or_ge i listed.size with h' | h'
    ·simp [h'] at h0 h1;rw [h0] at h1;cases h1
    ·simp [Array.getElem?_eq_none h'] at h1
   have h2:=wpOp_putIf hoj (hfree j oj hoj hji hjun hnot) (fun cs b=>hsel i oi cs b hi) (fun cs b=>hsel j oj cs b hoj) hQ hy h1;have hfree':∀ k ok,ops[k]?=some ok→k≠i→(listed.setIfInBounds j true).getD k true=false →
     (∀ e ∈ ok.after,Region.binds md e=true→e.on≠i)→oi.apart ops ok=true:=fun k ok hk hki hun hno=>by
    refine hfree k ok hk hki ?_ hno;by_cases hjk:j=k
    ·subst hjk;exact hjun
    ·rw [getD_set_ne true hjk] at hun;exact hun
   have hl2':∀ k ok,ops[k]?=some ok→(listed.setIfInBounds j true).getD k true=false→k≠i→late k=false∨late i=true:=fun k ok hk hun hki=>by
    refine hl2 k ok hk ?_ hki;by_cases hjk:j=k
    ·subst hjk;exact hjun
    ·rw [getD_set_ne true hjk] at hun;exact hun
   refine wpOp_mono (fun a' w' h3=>⟨h3.2.1,ih (listed.setIfInBounds j true) a' w' hfree' (ready_mono hr (Ne.symm hji)) h3.1 (fun hli=>h3.2.1 (hl hli j hj hji)) ?_ (fun hli k hk hki=>?_) hl2'⟩) h2
   ·rw [Array.setIfInBounds_comm _ _ hji]
    exact h3.2.2
   ·obtain ⟨hkun,ok,hok,_⟩:=mem_ready.1 hk
    rcases hl2' k ok hok hkun hki with q | q
    ·exact q
    ·rw [q] at hli;cases hli
theorem wpAnyL_takeAny {P:Program} {ops:Array Oper} {Q:Exit→Act→World→Prop} {md:Region.Mode} {S:World→Prop} {late:Nat→Bool} {i:Nat} {oi:Oper} {v:Value} {fuel:Nat} {listed:Array Bool} {a:Act} {w:World} (hi:ops[i]?=some oi)
  (hs:Region.noSelect ops=true) (hf:Region.free md ops listed i=true) (hr:(Region.ready md ops listed).contains i=true) (hl:late i=true)
  (hQ:∀ c a w,Q (.panic c) (a.put oi.dst v) w→Q (.panic c) a w) (hw:Region.wanted oi (yielded ops a.tmps)=true) (hy:∀ w,(execOp a.eval oi).run P w=.ok (.value v) w)
  (h:wpAnyL P md ops Q S late fuel (listed.setIfInBounds i true) (a.put oi.dst v) w):wpAnyL P md ops Q S late (fuel+1) listed a w:=
 wpAnyL_firstAny hi (Region.noSelect_spec hs) hQ fuel listed a w (Region.free_spec hi hf) (by simpa using hr) (.inl ⟨hw,fun w _=>hy w⟩) (fun q=>by rw [hl] at q;cases q) h (fun q=>by rw [hl] at q;cases q) (fun _ _ _ _ _=>.inr hl)
theorem OwnX.pos {α:Type} {T:Kind α} {ok:Nat→Prop} {w:World} {v:Value} {l:List α} (h:OwnX T ok w v l) (hl:0<l.length):∃ g c,v=.slice (some ⟨g,0,none⟩) l.length c∧l.length≤c∧c≤maxLen∧g<w.heap.size:=by
 obtain ⟨D,h1,h2,h3⟩:=h;obtain ⟨g,cap,hv,_,hg,hn,hm,_⟩:=owns_pos h1 hl;exact ⟨g,cap,hv,hn,hm,hg⟩
theorem OwnX.lastCells {ok:Nat→Prop} {w:World} {g c:Nat} {l:List Ex} {y:Ex} (h:OwnX kExpr ok w (.slice (some ⟨g,0,none⟩) (l.length+1) c) (l++[y])) :
  ∃ u0 u1 u2 u3 u4 u5,w.cell? ⟨g,l.length*6,none⟩=some u0∧w.cell? ⟨g,l.length*6+1,none⟩=some u1∧w.cell? ⟨g,l.length*6+2,none⟩=some u2∧w.cell? ⟨g,l.length*6+3,none⟩=some u3∧w.cell? ⟨g,l.length*6+4,none⟩=some u4∧w.cell? ⟨g,l.length*6+5,none⟩=some u5∧∀ o,w.frozen? ⟨g,o,none⟩=false:=by
 obtain ⟨D,h1,h2,h3⟩:=h;have hlen:(l++[y]).length=l.length+1:=(by simp);rw [hlen] at h1;rcases h1.2 with ⟨hv,h0⟩ | ⟨g',cap,cur,hv,hb,hcg,hnc,hcm,hcs,htk⟩
 ·omega
 ·injection hv with e1 e2 e3
  injection e1 with e1;injection e1 with e4 e5 e6;subst e4 e3;have hk6:kExpr.k=6:=rfl;rw [hk6] at hcs;have hsz:l.length*6+5<cur.size:=by
   have:(l.length+1)*6≤c*6:=Nat.mul_le_mul_right 6 hnc;omega
  have hc:∀ o,o<cur.size→w.cell? ⟨g,o,none⟩=some cur[o]! := fun o ho=>by
   rw [co hcg];simp [ho]
  exact ⟨_,_,_,_,_,_,hc _ (by omega),hc _ (by omega),hc _ (by omega),hc _ (by omega),hc _ (by omega),hc _ (by omega),fun o=>fo hcg o⟩
theorem putAt_aside {S:List Nat} {B k o:Nat} {w w':World} {y:ExV} (h:Aside S B w w') (hk:B≤k):Aside S B w (putAt w' k o y):=by
 unfold putAt;exact (((((h.set (p:=⟨k,o,none⟩) hk _).set (p:=⟨k,o+1,none⟩) hk _).set (p:=⟨k,o+2,none⟩) hk _).set (p:=⟨k,o+3,none⟩) hk _).set (p:=⟨k,o+4,none⟩) hk _).set (p:=⟨k,o+5,none⟩) hk _
theorem partC_any {b g cap rb eb N0:Nat} {I:Inp} {op nx:Nat} {E:Nat→Res Ex} {e:Ex} {w:World} (HE:Does 245 b g cap I op exV E) (hv:Env b g rb eb N0) (h:Rd w b g cap I.L I.len nx op) (hG:GlobB b w) (hone:7<eb) (hN0:N0≤w.heap.size) (hrb:w.heap[rb]?=some (.cells #[.pointer (some ⟨b,0,none⟩)] 124 (0,0))) (hS:ExSt N0 eb w e) (hlen:e.L.length≤1000) :
  Calls Tryz.prog 279 #[.pointer (some ⟨eb,0,none⟩),.pointer (some ⟨rb,0,none⟩)] w (PostE b g cap eb N0 I op nx w (Ps.part I E .part e nx)):=by
 obtain ⟨vS,vL,okS,okL,heb,ownS,ownL,hokS,hokL,hdis⟩:=hS;obtain ⟨v0,v1,v2,v3,v4,v5,v6,v7⟩:=hv;obtain ⟨aS,cS,rfl,hS1,hS2⟩:=ownS.form;obtain ⟨aL,cL,rfl,hL1,hL2⟩:=ownL.form;unfold maxLen at hL2;have hd5:Rd w.drew b g cap I.L I.len nx op:=h.drew;have hb5:w.drew.heap[eb]?=some (.cells #[.int .i64 e.op,.int .i64 e.k,.int .i64 e.n,.string e.name,.slice aS e.S.length cS,.slice aL e.L.length cL] 54 (0,0)):=heb;have hr5:w.drew.heap[rb]?=some (.cells #[.pointer (some ⟨b,0,none⟩)] 124 (0,0)):=hrb;have A5d:Aside [b,eb] N0 w w.drew:=(Aside.refl w).drew;have z5d:w.drew.heap.size=w.heap.size:=rfl;have om5:=(ownL.under (Below.refl _ w).drew).wide (ok':=fun i=>okL i∧i<w.heap.size) (fun i hi hl=>⟨hi,hl⟩);have oo5:=(ownS.under (Below.refl _ w).drew).wide (ok':=fun i=>okS i∧i<w.heap.size) (fun i hi hl=>⟨hi,hl⟩);go_enter Tryz.func279,Tryz.ntmps279;go_wp2_with fail;refine wp_region_late (fun w'=>w'.cell? ⟨eb,5,none⟩=some (.slice aL e.L.length cL)∧w'.cell? ⟨rb,0,none⟩=some (.pointer (some ⟨b,0,none⟩))) (fun j=>decide (6<j)) (by kernel_rfl) ?_;generalize w.drew=wd at hd5 hb5 hr5 A5d z5d om5 oo5 ⊢;clear h heb hrb ownS ownL;have c4:=co hb5 5;have cr:=co hr5 0;simp only [gT,gZ,gS] at c4 cr;have hH:=And.intro c4 cr;refine' wpAnyL_take (i:=0) (v:=_) rfl (by kernel_rfl) (by kernel_rfl) (by kernel_rfl) (by kernel_rfl) (fun _ _ _ h=>h) hH (by rfl) ?hyv ?o1
 case hyv=>
  intro wz hSw;obtain ⟨k0,k1⟩:=hSw;go_simp
  try rfl
 try simp only [Act.put,sT,sZ,sS]
 refine' wpAnyL_take (i:=1) (v:=_) rfl (by kernel_rfl) (by kernel_rfl) (by kernel_rfl) (by kernel_rfl) (fun _ _ _ h=>h) hH (by rfl) ?hyv ?o2
 case hyv=>
  intro wz hSw;obtain ⟨k0,k1⟩:=hSw;go_simp
  try rfl
 try simp only [Act.put,sT,sZ,sS]
 refine' wpAnyL_take (i:=2) (v:=_) rfl (by kernel_rfl) (by kernel_rfl) (by kernel_rfl) (by kernel_rfl) (fun _ _ _ h=>h) hH (by rfl) ?hyv ?o3
 case hyv=>
  intro wz hSw;obtain ⟨k0,k1⟩:=hSw;go_simp
  try rfl
 try simp only [Act.put,sT,sZ,sS]
 refine' wpAnyL_take (i:=4) (v:=_) rfl (by kernel_rfl) (by kernel_rfl) (by kernel_rfl) (by kernel_rfl) (fun _ _ _ h=>h) hH (by rfl) ?hyv ?o4
 case hyv=>
  intro wz hSw;obtain ⟨k0,k1⟩:=hSw;go_simp
  try rfl
 try simp only [Act.put,sT,sZ,sS]
 refine wpAnyL_two (i:=3) (j:=5) rfl rfl (by kernel_rfl) (by rfl) (by rfl) (fun K hK=>?_) (fun K hK=>?_)
 ·go_simp
  clear hH c4 cr;refine (HE _ _ hd5 (hG.far2 A5d hone v3)).mono ?_;rintro r w6 ⟨a6,hres⟩;have z6:=a6.size;have A6:Aside [b,eb] N0 w w6:=A5d.trans (asideE a6) (by omega);have hb6:=a6.keep hb5 (by omega) (by simp;omega);have hr6:=a6.keep hr5 (by omega) (by simp;omega);have om6:=om5.past a6 (fun i hi=>by have:=hokL i hi.1;simp;omega);have oo6:=oo5.past a6 (fun i hi=>by have:=hokS i hi.1;simp;omega)
  skip
  clear hd5 hb5 hr5 A5d om5 oo5
  cases ht:E nx with
  | err c0 a0=>
   rw [ht] at hres;obtain rfl:r=_:=hres;exact ⟨rfl,PostE.fail (by unfold Ps.part;simp only [];rw [ht];rfl) A6⟩
  | ok y n2=>
   rw [ht] at hres;obtain ⟨le6,h6,_,rfl,x6,rfl,hV⟩:=hres;have m6:Hid (Ps.part I E .part e nx=.ok (Ps.Ex.addL e y) n2):=by
    show Ps.part I E .part e nx=_
    unfold Ps.part;simp only [];rw [ht];rfl
   clear ht;have c4:=co hb6 5;have cr:=co hr6 0;simp only [gT,gZ,gS] at c4 cr;refine hK.out _ _ (fun _=>And.intro c4 cr) ?_;clear hK K
   try simp only [Act.put,sT,sZ,sS]
   have H7a:=co (kA hb6 (.cells #[.int .i64 0,.int .i64 0,.int .i64 0,.string ⟨#[]⟩,.slice none 0 0,.slice none 0 0] 54 (0,0))) 5;have H7b:=co (kA hr6 (.cells #[.int .i64 0,.int .i64 0,.int .i64 0,.string ⟨#[]⟩,.slice none 0 0,.slice none 0 0] 54 (0,0))) 0;simp only [gT,gZ,gS] at H7a H7b;have H7h:=hide (And.intro H7a H7b);clear H7a H7b;refine wpAnyL_one (i:=5) rfl (by kernel_rfl) (by rfl) (fun K hK=>?_);go_simp;refine hK.out _ _ (fun _=>H7h.out) ?_;clear hK K
   try simp only [Act.put,sT,sZ,sS]
   clear H7h c4 cr;have bZ:=(Below.refl w6.heap.size w6).alloc nR (.cells #[.int .i64 0,.int .i64 0,.int .i64 0,.string ⟨#[]⟩,.slice none 0 0,.slice none 0 0] 54 (0,0));have hb6:=kA hb6 (.cells #[.int .i64 0,.int .i64 0,.int .i64 0,.string ⟨#[]⟩,.slice none 0 0,.slice none 0 0] 54 (0,0));have hr6:=kA hr6 (.cells #[.int .i64 0,.int .i64 0,.int .i64 0,.string ⟨#[]⟩,.slice none 0 0,.slice none 0 0] 54 (0,0));have om6:=om6.under bZ;have oo6:=oo6.under bZ;have h6:=h6.alloc (.cells #[.int .i64 0,.int .i64 0,.int .i64 0,.string ⟨#[]⟩,.slice none 0 0,.slice none 0 0] 54 (0,0));have A6:=A6.alloc (by omega) (.cells #[.int .i64 0,.int .i64 0,.int .i64 0,.string ⟨#[]⟩,.slice none 0 0,.slice none 0 0] 54 (0,0));have hz:=heap_new w6 (.cells #[.int .i64 0,.int .i64 0,.int .i64 0,.string ⟨#[]⟩,.slice none 0 0,.slice none 0 0] 54 (0,0));have he6:=(hV.wide (ok':=fun i=>wd.heap.size≤i∧i<w6.heap.size) (fun i hi hl=>⟨hi,hl⟩)).under bZ;have zz:(w6.alloc (.cells #[.int .i64 0,.int .i64 0,.int .i64 0,.string ⟨#[]⟩,.slice none 0 0,.slice none 0 0] 54 (0,0))).heap.size=w6.heap.size+1:=(by simp);clear hV bZ;generalize w6.alloc (.cells #[.int .i64 0,.int .i64 0,.int .i64 0,.string ⟨#[]⟩,.slice none 0 0,.slice none 0 0] 54 (0,0))=WW at hb6 hr6 om6 oo6 h6 A6 hz he6 zz ⊢;have he6:=he6.wide (ok':=fun i=>wd.heap.size≤i∧i<WW.heap.size) (fun i hi hl=>⟨hi.1,hl⟩);have q1:kExpr.E (fun i=>WW.heap.size≤i) WW [.int .i64 0,.int .i64 0,.int .i64 0,.string ⟨#[]⟩,.slice none 0 0,.slice none 0 0] (.mk 0 0 0 ⟨#[]⟩ [] []):=HEx.leaf 0 0 0 ⟨#[]⟩;have q2:(e.L.length+1)*kExpr.bytes≤140737488355328:=(by show (e.L.length+1)*88≤_;omega);have q3:e.L.length+1≤maxLen:=(by unfold maxLen;omega);have hlit:∀ j u,[.int .i64 0,.int .i64 0,.int .i64 0,.string ⟨#[]⟩,.slice none 0 0,.slice none 0 0][j]?=some u→WW.cell? ((⟨w6.heap.size,0,none⟩:Addr).add j)=some u:=fun j u hj=>by
    have adds:(⟨w6.heap.size,0,none⟩:Addr).add j=⟨w6.heap.size,j,none⟩:=by unfold Addr.add;split<;>simp_all
    rw [adds,co hz]
    simpa using hj
   refine wpAnyL_one (i:=6) rfl (by kernel_rfl) (by rfl) (fun K hK=>?_);refine oper_moreG kExpr _ _ 52 rfl Tryz.underlying52 WW.heap.size w6.heap.size _ _ e.L (by rfl) om6 [.int .i64 0,.int .i64 0,.int .i64 0,.string ⟨#[]⟩,.slice none 0 0,.slice none 0 0] (.mk 0 0 0 ⟨#[]⟩ [] []) q1 hlit (by rfl) (fun i hi=>by omega) nR q2 q3 ?_;intro v8 w8 om8 gr8;have hvb:=fun k hk=>(om6.lt k hk).1;have hoth:∀ k,k<WW.heap.size→¬(okL k∧k<w.heap.size)→w8.heap[k]?=WW.heap[k]?:=fun k hk hn=>gr8.block k hk (fun e=>hn (hvb k e.symm));have z8:=gr8.size;have A8:Aside [b,eb] N0 w w8:=A6.trans ⟨gr8.os,gr8.tape,gr8.output,z8,fun k hk _=>hoth k (by omega) (fun hh=>by have:=hokL k hh.1;omega)⟩ nR;have hb8:=(hoth eb (lt_of hb6) (fun hh=>by have:=hokL eb hh.1;omega)).trans hb6;have hr8:=(hoth rb (lt_of hr6) (fun hh=>by have:=hokL rb hh.1;omega)).trans hr6;have oo8:=oo6.keep z8 (fun i hi hl=>hoth i hl (fun hh=>hdis i hi.1 hh.1));have he8:=he6.keep z8 (fun i hi hl=>hoth i hl (fun hh=>by omega));have h8:Rd w8 b g cap I.L I.len n2 op:=⟨(hoth b h6.bb (fun hh=>by have:=hokL b hh.1;omega)).trans h6.here,h6.toks.keep (hoth g h6.gb (fun hh=>by have:=hokL g hh.1;omega)),h6.apart,Nat.lt_of_lt_of_le h6.gb z8,h6.le,h6.lc,h6.cm⟩;clear A6 hb6 hr6 om6 oo6 h6 he6 q1 hlit hz gr8 hoth hvb;have c4:=co hb8 5;have cr:=co hr8 0;simp only [gT,gZ,gS] at c4 cr;refine hK.out _ _ (fun _=>And.intro c4 cr) ?_;clear hK K
   try simp only [Act.put,sT,sZ,sS]
   obtain ⟨g8,c8,hv8,_,hcm8,hg8⟩:=om8.pos (by simp);rw [List.length_append,List.length_singleton] at hv8;subst hv8;have hg8ok:=(om8.lt g8 rfl).1;unfold maxLen at hcm8;have hidx:(e.L.length:Int)<(e.L.length:Int)+1:=(by omega);have hgN:N0≤g8:=(by rcases hg8ok with q | q;exact hokL g8 q.1;omega);have hg2:¬(wd.heap.size≤g8∧g8<WW.heap.size):=(by rcases hg8ok with q | q;have:=q.2;omega;omega);refine' wpAnyL_takeAny (i:=7) (v:=_) rfl (by kernel_rfl) (by kernel_rfl) (by kernel_rfl) rfl (fun _ _ _ h=>h) (by rfl) ?hyv ?o5
   case hyv=>
    intro wz;go_simp
    try rfl
   try simp only [Act.put,sT,sZ,sS]
   refine' wpAnyL_takeAny (i:=9) (v:=_) rfl (by kernel_rfl) (by kernel_rfl) (by kernel_rfl) rfl (fun _ _ _ h=>h) (by rfl) ?hyv ?o6
   case hyv=>
    intro wz;go_simp
    try rfl
   try simp only [Act.put,sT,sZ,sS]
   refine wpAnyL_two (i:=8) (j:=10) rfl rfl (by kernel_rfl) (by rfl) (by rfl) (fun K hK=>?_) (fun K hK=>?_)
   ·skip
    obtain ⟨u0,u1,u2,u3,u4,u5,d0,d1,d2,d3,d4,d5,fr⟩:=om8.lastCells;go_simp;refine hK.out _ _ (fun h=>by cases h) ?_;clear hK K
    try simp only [Act.put,sT,sZ,sS]
    have om9:=om8.last he8 hg2;have oo9:=oo8.keep (w':=putAt w8 g8 (e.L.length*6) x6) (by rw [putAt_size];exact Nat.le_refl _) (fun i hi _=>putAt_block _ _ _ _ _ (fun q=>by subst q;rcases hg8ok with q | q;exact hdis _ hi.1 q.1;have:=hi.2;omega));have hb9:=(putAt_block w8 g8 (e.L.length*6) x6 eb (by omega)).trans hb8;have h9:Rd (putAt w8 g8 (e.L.length*6) x6) b g cap I.L I.len n2 op:=⟨(putAt_block _ _ _ _ _ (by omega)).trans h8.here,h8.toks.keep (putAt_block _ _ _ _ _ (by omega)),h8.apart,by rw [putAt_size];exact h8.gb,h8.le,h8.lc,h8.cm⟩;have A9:Aside [b,eb] N0 w (putAt w8 g8 (e.L.length*6) x6):=putAt_aside A8 hgN;clear d0 d1 d2 d3 d4 d5 fr c4 cr;have c9:=co hb9 5;have f9:=fun o=>fo hb9 o;simp only [gT,gZ,gS] at c9
    change wpAnyL _ _ _ _ _ _ _ _ _ (putAt w8 g8 (e.L.length*6) x6)
    generalize hw9:putAt w8 g8 (e.L.length*6) x6=w9 at om9 oo9 hb9 h9 A9 c9 f9 ⊢;clear hw9;refine wpAnyL_one (i:=10) rfl (by kernel_rfl) (by rfl) (fun K hK=>?_);go_simp;refine hK.out _ _ (fun h=>by cases h) ?_;clear hK K
    try simp only [Act.put,sT,sZ,sS]
    have hbA:=set_in hb9 5 (.slice (some ⟨g8,0,none⟩) (e.L.length+1) c8);have hA:=h9.set (p:=⟨eb,5,none⟩) (by simp;omega) (by simp;omega) (.slice (some ⟨g8,0,none⟩) (e.L.length+1) c8);have AA:Aside [b,eb] N0 w (w9.setCell ⟨eb,5,none⟩ (.slice (some ⟨g8,0,none⟩) (e.L.length+1) c8)):=A9.trans (Aside.setCell (by simp) _) nR;have omA:=om9.set (p:=⟨eb,5,none⟩) (by intro hh;have hh2:((okL eb∧eb<w.heap.size)∨WW.heap.size≤eb)∨(wd.heap.size≤eb∧eb<WW.heap.size):=hh;rcases hh2 with (q | q) | q;exact absurd (hokL eb q.1) (by omega);omega;omega) (.slice (some ⟨g8,0,none⟩) (e.L.length+1) c8);have ooA:=oo9.set (p:=⟨eb,5,none⟩) (by intro hh;have hh2:okS eb∧eb<w.heap.size:=hh;have:=hokS eb hh2.1;omega) (.slice (some ⟨g8,0,none⟩) (e.L.length+1) c8);simp only [sT,sZ,sS] at hbA;refine wpAnyL_done (by kernel_rfl) ?_ _;go_wp2;go_end0;exact PostE.good m6.out AA le6 hA ⟨_,_,fun i=>okS i∧i<w.heap.size,fun i=>((okL i∧i<w.heap.size)∨WW.heap.size≤i)∨(wd.heap.size≤i∧i<WW.heap.size),hbA,ooA,omA,fun i hi=>hokS i hi.1,fun i hi=>by rcases hi with (q | q) | q;exact hokL i q.1;omega;omega,fun i hi hj=>by rcases hj with (q | q) | q;exact hdis i hi.1 q.1;omega;omega⟩
   ·have f8:=fun o=>fo hb8 o
    go_simp;refine hK.out _ _ (fun h=>by cases h) ?_;clear hK K
    try simp only [Act.put,sT,sZ,sS]
    have hb9:=set_in hb8 5 (.slice (some ⟨g8,0,none⟩) (e.L.length+1) c8);have h9:=h8.set (p:=⟨eb,5,none⟩) (by simp;omega) (by simp;omega) (.slice (some ⟨g8,0,none⟩) (e.L.length+1) c8);have A9:Aside [b,eb] N0 w (w8.setCell ⟨eb,5,none⟩ (.slice (some ⟨g8,0,none⟩) (e.L.length+1) c8)):=A8.trans (Aside.setCell (by simp) _) nR;have om9:=om8.set (p:=⟨eb,5,none⟩) (by intro hh;have hh2:(okL eb∧eb<w.heap.size)∨WW.heap.size≤eb:=hh;rcases hh2 with q | q;exact absurd (hokL eb q.1) (by omega);omega) (.slice (some ⟨g8,0,none⟩) (e.L.length+1) c8);have oo9:=oo8.set (p:=⟨eb,5,none⟩) (by intro hh;have hh2:okS eb∧eb<w.heap.size:=hh;have:=hokS eb hh2.1;omega) (.slice (some ⟨g8,0,none⟩) (e.L.length+1) c8);simp only [sT,sZ,sS] at hb9;have he9:=he8.set (p:=⟨eb,5,none⟩) (by intro hh;have hh2:wd.heap.size≤eb∧eb<WW.heap.size:=hh;omega) (.slice (some ⟨g8,0,none⟩) (e.L.length+1) c8);clear c4 cr f8;generalize w8.setCell ⟨eb,5,none⟩ (.slice (some ⟨g8,0,none⟩) (e.L.length+1) c8)=w9 at om9 oo9 hb9 h9 A9 he9 ⊢;obtain ⟨u0,u1,u2,u3,u4,u5,d0,d1,d2,d3,d4,d5,fr⟩:=om9.lastCells;refine wpAnyL_one (i:=8) rfl (by kernel_rfl) (by rfl) (fun K hK=>?_);go_simp;refine hK.out _ _ (fun h=>by cases h) ?_;clear hK K
    try simp only [Act.put,sT,sZ,sS]
    have omA:=om9.last he9 hg2;have ooA:=oo9.keep (w':=putAt w9 g8 (e.L.length*6) x6) (by rw [putAt_size];exact Nat.le_refl _) (fun i hi _=>putAt_block _ _ _ _ _ (fun q=>by subst q;rcases hg8ok with q | q;exact hdis _ hi.1 q.1;have:=hi.2;omega));have hbA:=(putAt_block w9 g8 (e.L.length*6) x6 eb (by omega)).trans hb9;have hA:Rd (putAt w9 g8 (e.L.length*6) x6) b g cap I.L I.len n2 op:=⟨(putAt_block _ _ _ _ _ (by omega)).trans h9.here,h9.toks.keep (putAt_block _ _ _ _ _ (by omega)),h9.apart,by rw [putAt_size];exact h9.gb,h9.le,h9.lc,h9.cm⟩;have AA:Aside [b,eb] N0 w (putAt w9 g8 (e.L.length*6) x6):=putAt_aside A9 hgN;refine wpAnyL_done (by kernel_rfl) ?_ _;go_wp2;go_end0;exact PostE.good m6.out AA le6 hA ⟨_,_,fun i=>okS i∧i<w.heap.size,fun i=>((okL i∧i<w.heap.size)∨WW.heap.size≤i)∨(wd.heap.size≤i∧i<WW.heap.size),hbA,ooA,omA,fun i hi=>hokS i hi.1,fun i hi=>by rcases hi with (q | q) | q;exact hokL i q.1;omega;omega,fun i hi hj=>by rcases hj with (q | q) | q;exact hdis i hi.1 q.1;omega;omega⟩
 ·go_simp
  have H7a:=co (kA hb5 (.cells #[.int .i64 0,.int .i64 0,.int .i64 0,.string ⟨#[]⟩,.slice none 0 0,.slice none 0 0] 54 (0,0))) 5;have H7b:=co (kA hr5 (.cells #[.int .i64 0,.int .i64 0,.int .i64 0,.string ⟨#[]⟩,.slice none 0 0,.slice none 0 0] 54 (0,0))) 0;simp only [gT,gZ,gS] at H7a H7b;refine hK.out _ _ (fun _=>And.intro H7a H7b) ?_;clear hK K hH c4 cr H7a H7b
  try simp only [Act.put,sT,sZ,sS]
  have bZ:=(Below.refl wd.heap.size wd).alloc nR (.cells #[.int .i64 0,.int .i64 0,.int .i64 0,.string ⟨#[]⟩,.slice none 0 0,.slice none 0 0] 54 (0,0));have hd5:=hd5.alloc (.cells #[.int .i64 0,.int .i64 0,.int .i64 0,.string ⟨#[]⟩,.slice none 0 0,.slice none 0 0] 54 (0,0));have hb5:=kA hb5 (.cells #[.int .i64 0,.int .i64 0,.int .i64 0,.string ⟨#[]⟩,.slice none 0 0,.slice none 0 0] 54 (0,0));have hr5:=kA hr5 (.cells #[.int .i64 0,.int .i64 0,.int .i64 0,.string ⟨#[]⟩,.slice none 0 0,.slice none 0 0] 54 (0,0));have om5:=om5.under bZ;have oo5:=oo5.under bZ;have A5d:=A5d.alloc (by omega) (.cells #[.int .i64 0,.int .i64 0,.int .i64 0,.string ⟨#[]⟩,.slice none 0 0,.slice none 0 0] 54 (0,0));have hz5:=heap_new wd (.cells #[.int .i64 0,.int .i64 0,.int .i64 0,.string ⟨#[]⟩,.slice none 0 0,.slice none 0 0] 54 (0,0));rw [z5d] at hz5;have zz:(wd.alloc (.cells #[.int .i64 0,.int .i64 0,.int .i64 0,.string ⟨#[]⟩,.slice none 0 0,.slice none 0 0] 54 (0,0))).heap.size=wd.heap.size+1:=(by simp);clear bZ;generalize wd.alloc (.cells #[.int .i64 0,.int .i64 0,.int .i64 0,.string ⟨#[]⟩,.slice none 0 0,.slice none 0 0] 54 (0,0))=wz at hd5 hb5 hr5 om5 oo5 A5d hz5 zz ⊢;have c4:=co hb5 5;have cr:=co hr5 0;simp only [gT,gZ,gS] at c4 cr;refine wpAnyL_one (i:=3) rfl (by kernel_rfl) (by rfl) (fun K hK=>?_);go_simp;clear c4 cr;refine (HE _ _ hd5 (hG.far2 A5d hone v3)).mono ?_;rintro r w6 ⟨a6,hres⟩;have z6:=a6.size;have A6:Aside [b,eb] N0 w w6:=A5d.trans (asideE a6) (by omega);have hb6:=a6.keep hb5 (by omega) (by simp;omega);have hr6:=a6.keep hr5 (by omega) (by simp;omega);have om6:=om5.past a6 (fun i hi=>by have:=hokL i hi.1;simp;omega);have oo6:=oo5.past a6 (fun i hi=>by have:=hokS i hi.1;simp;omega);have hz:=a6.keep hz5 (by omega) (by simp;omega);clear hd5 hb5 hr5 A5d om5 oo5
  cases ht:E nx with
  | err c0 a0=>
   rw [ht] at hres;obtain rfl:r=_:=hres;exact ⟨rfl,PostE.fail (by unfold Ps.part;simp only [];rw [ht];rfl) A6⟩
  | ok y n2=>
   rw [ht] at hres;obtain ⟨le6,h6,_,rfl,x6,rfl,hV⟩:=hres;have m6:Hid (Ps.part I E .part e nx=.ok (Ps.Ex.addL e y) n2):=by
    show Ps.part I E .part e nx=_
    unfold Ps.part;simp only [];rw [ht];rfl
   clear ht;have c4:=co hb6 5;have cr:=co hr6 0;simp only [gT,gZ,gS] at c4 cr;refine hK.out _ _ (fun _=>And.intro c4 cr) ?_;clear hK K
   try simp only [Act.put,sT,sZ,sS]
   have he6:=hV.wide (ok':=fun i=>wd.heap.size≤i∧i<w6.heap.size) (fun i hi hl=>⟨by omega,hl⟩);clear hV c4 cr hz5;obtain ⟨WW,hWW⟩:=nmQ (w6);subst hWW;have he6:=he6.wide (ok':=fun i=>wd.heap.size≤i∧i<WW.heap.size) (fun i hi hl=>⟨hi.1,hl⟩);have q1:kExpr.E (fun i=>WW.heap.size≤i) WW [.int .i64 0,.int .i64 0,.int .i64 0,.string ⟨#[]⟩,.slice none 0 0,.slice none 0 0] (.mk 0 0 0 ⟨#[]⟩ [] []):=HEx.leaf 0 0 0 ⟨#[]⟩;have q2:(e.L.length+1)*kExpr.bytes≤140737488355328:=(by show (e.L.length+1)*88≤_;omega);have q3:e.L.length+1≤maxLen:=(by unfold maxLen;omega);have hlit:∀ j u,[.int .i64 0,.int .i64 0,.int .i64 0,.string ⟨#[]⟩,.slice none 0 0,.slice none 0 0][j]?=some u→WW.cell? ((⟨w.heap.size,0,none⟩:Addr).add j)=some u:=fun j u hj=>by
    have adds:(⟨w.heap.size,0,none⟩:Addr).add j=⟨w.heap.size,j,none⟩:=by unfold Addr.add;split<;>simp_all
    rw [adds,co hz]
    simpa using hj
   refine wpAnyL_one (i:=6) rfl (by kernel_rfl) (by rfl) (fun K hK=>?_);refine oper_moreG kExpr _ _ 52 rfl Tryz.underlying52 WW.heap.size w.heap.size _ _ e.L (by rfl) om6 [.int .i64 0,.int .i64 0,.int .i64 0,.string ⟨#[]⟩,.slice none 0 0,.slice none 0 0] (.mk 0 0 0 ⟨#[]⟩ [] []) q1 hlit (by rfl) (fun i hi=>by omega) nR q2 q3 ?_;intro v8 w8 om8 gr8;have hvb:=fun k hk=>(om6.lt k hk).1;have hoth:∀ k,k<WW.heap.size→¬(okL k∧k<w.heap.size)→w8.heap[k]?=WW.heap[k]?:=fun k hk hn=>gr8.block k hk (fun e=>hn (hvb k e.symm));have z8:=gr8.size;have A8:Aside [b,eb] N0 w w8:=A6.trans ⟨gr8.os,gr8.tape,gr8.output,z8,fun k hk _=>hoth k (by omega) (fun hh=>by have:=hokL k hh.1;omega)⟩ nR;have hb8:=(hoth eb (lt_of hb6) (fun hh=>by have:=hokL eb hh.1;omega)).trans hb6;have hr8:=(hoth rb (lt_of hr6) (fun hh=>by have:=hokL rb hh.1;omega)).trans hr6;have oo8:=oo6.keep z8 (fun i hi hl=>hoth i hl (fun hh=>hdis i hi.1 hh.1));have he8:=he6.keep z8 (fun i hi hl=>hoth i hl (fun hh=>by omega));have h8:Rd w8 b g cap I.L I.len n2 op:=⟨(hoth b h6.bb (fun hh=>by have:=hokL b hh.1;omega)).trans h6.here,h6.toks.keep (hoth g h6.gb (fun hh=>by have:=hokL g hh.1;omega)),h6.apart,Nat.lt_of_lt_of_le h6.gb z8,h6.le,h6.lc,h6.cm⟩;clear A6 hb6 hr6 om6 oo6 h6 he6 q1 hlit hz gr8 hoth hvb;have c4:=co hb8 5;have cr:=co hr8 0;simp only [gT,gZ,gS] at c4 cr;refine hK.out _ _ (fun _=>And.intro c4 cr) ?_;clear hK K
   try simp only [Act.put,sT,sZ,sS]
   obtain ⟨g8,c8,hv8,_,hcm8,hg8⟩:=om8.pos (by simp);rw [List.length_append,List.length_singleton] at hv8;subst hv8;have hg8ok:=(om8.lt g8 rfl).1;unfold maxLen at hcm8;have hidx:(e.L.length:Int)<(e.L.length:Int)+1:=(by omega);have hgN:N0≤g8:=(by rcases hg8ok with q | q;exact hokL g8 q.1;omega);have hg2:¬(wd.heap.size≤g8∧g8<WW.heap.size):=(by rcases hg8ok with q | q;have:=q.2;omega;omega);refine' wpAnyL_takeAny (i:=7) (v:=_) rfl (by kernel_rfl) (by kernel_rfl) (by kernel_rfl) rfl (fun _ _ _ h=>h) (by rfl) ?hyv ?o7
   case hyv=>
    intro wz;go_simp
    try rfl
   try simp only [Act.put,sT,sZ,sS]
   refine' wpAnyL_takeAny (i:=9) (v:=_) rfl (by kernel_rfl) (by kernel_rfl) (by kernel_rfl) rfl (fun _ _ _ h=>h) (by rfl) ?hyv ?o8
   case hyv=>
    intro wz;go_simp
    try rfl
   try simp only [Act.put,sT,sZ,sS]
   refine wpAnyL_two (i:=8) (j:=10) rfl rfl (by kernel_rfl) (by rfl) (by rfl) (fun K hK=>?_) (fun K hK=>?_)
   ·skip
    obtain ⟨u0,u1,u2,u3,u4,u5,d0,d1,d2,d3,d4,d5,fr⟩:=om8.lastCells;go_simp;refine hK.out _ _ (fun h=>by cases h) ?_;clear hK K
    try simp only [Act.put,sT,sZ,sS]
    have om9:=om8.last he8 hg2;have oo9:=oo8.keep (w':=putAt w8 g8 (e.L.length*6) x6) (by rw [putAt_size];exact Nat.le_refl _) (fun i hi _=>putAt_block _ _ _ _ _ (fun q=>by subst q;rcases hg8ok with q | q;exact hdis _ hi.1 q.1;have:=hi.2;omega));have hb9:=(putAt_block w8 g8 (e.L.length*6) x6 eb (by omega)).trans hb8;have h9:Rd (putAt w8 g8 (e.L.length*6) x6) b g cap I.L I.len n2 op:=⟨(putAt_block _ _ _ _ _ (by omega)).trans h8.here,h8.toks.keep (putAt_block _ _ _ _ _ (by omega)),h8.apart,by rw [putAt_size];exact h8.gb,h8.le,h8.lc,h8.cm⟩;have A9:Aside [b,eb] N0 w (putAt w8 g8 (e.L.length*6) x6):=putAt_aside A8 hgN;clear d0 d1 d2 d3 d4 d5 fr c4 cr;have c9:=co hb9 5;have f9:=fun o=>fo hb9 o;simp only [gT,gZ,gS] at c9
    change wpAnyL _ _ _ _ _ _ _ _ _ (putAt w8 g8 (e.L.length*6) x6)
    generalize hw9:putAt w8 g8 (e.L.length*6) x6=w9 at om9 oo9 hb9 h9 A9 c9 f9 ⊢;clear hw9;refine wpAnyL_one (i:=10) rfl (by kernel_rfl) (by rfl) (fun K hK=>?_);go_simp;refine hK.out _ _ (fun h=>by cases h) ?_;clear hK K
    try simp only [Act.put,sT,sZ,sS]
    have hbA:=set_in hb9 5 (.slice (some ⟨g8,0,none⟩) (e.L.length+1) c8);have hA:=h9.set (p:=⟨eb,5,none⟩) (by simp;omega) (by simp;omega) (.slice (some ⟨g8,0,none⟩) (e.L.length+1) c8);have AA:Aside [b,eb] N0 w (w9.setCell ⟨eb,5,none⟩ (.slice (some ⟨g8,0,none⟩) (e.L.length+1) c8)):=A9.trans (Aside.setCell (by simp) _) nR;have omA:=om9.set (p:=⟨eb,5,none⟩) (by intro hh;have hh2:((okL eb∧eb<w.heap.size)∨WW.heap.size≤eb)∨(wd.heap.size≤eb∧eb<WW.heap.size):=hh;rcases hh2 with (q | q) | q;exact absurd (hokL eb q.1) (by omega);omega;omega) (.slice (some ⟨g8,0,none⟩) (e.L.length+1) c8);have ooA:=oo9.set (p:=⟨eb,5,none⟩) (by intro hh;have hh2:okS eb∧eb<w.heap.size:=hh;have:=hokS eb hh2.1;omega) (.slice (some ⟨g8,0,none⟩) (e.L.length+1) c8);simp only [sT,sZ,sS] at hbA;refine wpAnyL_done (by kernel_rfl) ?_ _;go_wp2;go_end0;exact PostE.good m6.out AA le6 hA ⟨_,_,fun i=>okS i∧i<w.heap.size,fun i=>((okL i∧i<w.heap.size)∨WW.heap.size≤i)∨(wd.heap.size≤i∧i<WW.heap.size),hbA,ooA,omA,fun i hi=>hokS i hi.1,fun i hi=>by rcases hi with (q | q) | q;exact hokL i q.1;omega;omega,fun i hi hj=>by rcases hj with (q | q) | q;exact hdis i hi.1 q.1;omega;omega⟩
   ·have f8:=fun o=>fo hb8 o
    go_simp;refine hK.out _ _ (fun h=>by cases h) ?_;clear hK K
    try simp only [Act.put,sT,sZ,sS]
    have hb9:=set_in hb8 5 (.slice (some ⟨g8,0,none⟩) (e.L.length+1) c8);have h9:=h8.set (p:=⟨eb,5,none⟩) (by simp;omega) (by simp;omega) (.slice (some ⟨g8,0,none⟩) (e.L.length+1) c8);have A9:Aside [b,eb] N0 w (w8.setCell ⟨eb,5,none⟩ (.slice (some ⟨g8,0,none⟩) (e.L.length+1) c8)):=A8.trans (Aside.setCell (by simp) _) nR;have om9:=om8.set (p:=⟨eb,5,none⟩) (by intro hh;have hh2:(okL eb∧eb<w.heap.size)∨WW.heap.size≤eb:=hh;rcases hh2 with q | q;exact absurd (hokL eb q.1) (by omega);omega) (.slice (some ⟨g8,0,none⟩) (e.L.length+1) c8);have oo9:=oo8.set (p:=⟨eb,5,none⟩) (by intro hh;have hh2:okS eb∧eb<w.heap.size:=hh;have:=hokS eb hh2.1;omega) (.slice (some ⟨g8,0,none⟩) (e.L.length+1) c8);simp only [sT,sZ,sS] at hb9;have he9:=he8.set (p:=⟨eb,5,none⟩) (by intro hh;have hh2:wd.heap.size≤eb∧eb<WW.heap.size:=hh;omega) (.slice (some ⟨g8,0,none⟩) (e.L.length+1) c8);clear c4 cr f8;generalize w8.setCell ⟨eb,5,none⟩ (.slice (some ⟨g8,0,none⟩) (e.L.length+1) c8)=w9 at om9 oo9 hb9 h9 A9 he9 ⊢;obtain ⟨u0,u1,u2,u3,u4,u5,d0,d1,d2,d3,d4,d5,fr⟩:=om9.lastCells;refine wpAnyL_one (i:=8) rfl (by kernel_rfl) (by rfl) (fun K hK=>?_);go_simp;refine hK.out _ _ (fun h=>by cases h) ?_;clear hK K
    try simp only [Act.put,sT,sZ,sS]
    have omA:=om9.last he9 hg2;have ooA:=oo9.keep (w':=putAt w9 g8 (e.L.length*6) x6) (by rw [putAt_size];exact Nat.le_refl _) (fun i hi _=>putAt_block _ _ _ _ _ (fun q=>by subst q;rcases hg8ok with q | q;exact hdis _ hi.1 q.1;have:=hi.2;omega));have hbA:=(putAt_block w9 g8 (e.L.length*6) x6 eb (by omega)).trans hb9;have hA:Rd (putAt w9 g8 (e.L.length*6) x6) b g cap I.L I.len n2 op:=⟨(putAt_block _ _ _ _ _ (by omega)).trans h9.here,h9.toks.keep (putAt_block _ _ _ _ _ (by omega)),h9.apart,by rw [putAt_size];exact h9.gb,h9.le,h9.lc,h9.cm⟩;have AA:Aside [b,eb] N0 w (putAt w9 g8 (e.L.length*6) x6):=putAt_aside A9 hgN;refine wpAnyL_done (by kernel_rfl) ?_ _;go_wp2;go_end0;exact PostE.good m6.out AA le6 hA ⟨_,_,fun i=>okS i∧i<w.heap.size,fun i=>((okL i∧i<w.heap.size)∨WW.heap.size≤i)∨(wd.heap.size≤i∧i<WW.heap.size),hbA,ooA,omA,fun i hi=>hokS i hi.1,fun i hi=>by rcases hi with (q | q) | q;exact hokL i q.1;omega;omega,fun i hi hj=>by rcases hj with (q | q) | q;exact hdis i hi.1 q.1;omega;omega⟩
end Go.Proofs.YtkfgbhlpjkkgfaaGreatDoor
