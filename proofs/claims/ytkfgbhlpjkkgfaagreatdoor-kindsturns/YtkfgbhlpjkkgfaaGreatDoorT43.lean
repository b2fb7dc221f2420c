import Derived.Test.YtkfgbhlpjkkgfaaGreatDoorT42
set_option linter.unusedVariables false
set_option linter.unusedSimpArgs false
set_option maxHeartbeats 64000000
set_option maxRecDepth 100000
namespace Go.Proofs.YtkfgbhlpjkkgfaaGreatDoor
open Go.RowKit Go.IntWalk
theorem zEa {P:Program} {ops:Array Oper} {Q:Exit->Act->World->Prop} {md:Region.Mode} {S:World->Prop} {late:Nat->Bool} {i:Nat} {oi:Oper} {v:Value} (hi:ops[i]?=some oi) (pQ:∀ (j:Nat) (o:Oper) cs b,ops[j]?=some o->o.op≠.select cs b)
  (hQ:∀ c a w,Q (.panic c) (a.put oi.dst v) w->Q (.panic c) a w) :
  ∀ (fuel:Nat) (listed:Array Bool) (a:Act) (w:World),
   (∀ j oj,ops[j]?=some oj->j≠i->listed.getD j true=false->(∀ e ∈ oj.after,Region.binds md e=true->e.on≠i)->oi.apart ops oj=true) ->
   i ∈ Region.ready md ops listed->YieldsIf P ops (fun _=>True) oi v a->(late i=false->S w) ->
   wpAnyL P md ops Q S late fuel (listed.setIfInBounds i true) (a.put oi.dst v) w->(late i=false->∀ j,j ∈ Region.ready md ops listed->j≠i->late j=false)->(∀ j oj,ops[j]?=some oj->listed.getD j true=false->j≠i->late j=false\/late i=true)->wpAnyL P md ops Q S late (fuel+1) listed a w:=by
 intro fuel
 induction fuel with
 | zero=>
  intro listed a w _ hr hy hS H _ _;refine ⟨fun h=>(by rw [h] at hr;cases hr),fun j hj=>?_⟩;by_cases bJ:j=i
  ·subst bJ;exact hy.wpOp hi trivial ⟨hS,H⟩
  ·have:=ready_mono hj bJ
   rw [H.1] at this
   cases this
 | succ fuel ih=>
  intro listed a w ku hr hy hS H hl ek;refine ⟨fun h=>(by rw [h] at hr;cases hr),fun j hj=>?_⟩;by_cases bJ:j=i
  ·subst bJ;exact hy.wpOp hi trivial ⟨hS,H⟩
  ·have h1:=H.2 j (ready_mono hj bJ)
   obtain ⟨kH,oj,qh,bX⟩:=mem_ready.1 hj;have pC:∀ e ∈ oj.after,Region.binds md e=true->e.on≠i:=fun e he hb heq=>by
    have h1:=bX e he hb;have h0:=(mem_ready.1 hr).1;rw [heq] at h1;rcases Nat.lt_or_ge i listed.size with h' | h'
    ·simp [h'] at h0 h1;rw [h0] at h1;cases h1
    ·simp [Array.getElem?_eq_none h'] at h1
   have h2:=wpOp_putIf qh (ku j oj qh bJ kH pC) (fun cs b=>pQ i oi cs b hi) (fun cs b=>pQ j oj cs b qh) hQ hy h1;have l7:∀ k ok,ops[k]?=some ok->k≠i->(listed.setIfInBounds j true).getD k true=false ->
     (∀ e ∈ ok.after,Region.binds md e=true->e.on≠i)->oi.apart ops ok=true:=fun k ok hk st nC lL=>by
    refine ku k ok hk st ?_ lL;by_cases kV:j=k
    ·subst kV;exact kH
    ·rw [getD_set_ne true kV] at nC;exact nC
   have xW:∀ k ok,ops[k]?=some ok->(listed.setIfInBounds j true).getD k true=false->k≠i->late k=false\/late i=true:=fun k ok hk nC st=>by
    refine ek k ok hk ?_ st;by_cases kV:j=k
    ·subst kV;exact kH
    ·rw [getD_set_ne true kV] at nC;exact nC
   refine wpOp_mono (fun a' w' h3=>⟨h3.2.1,ih (listed.setIfInBounds j true) a' w' l7 (ready_mono hr (Ne.symm bJ)) h3.1 (fun il=>h3.2.1 (hl il j hj bJ)) ?_ (fun il k hk st=>?_) xW⟩) h2
   ·rw [Array.setIfInBounds_comm _ _ bJ]
    exact h3.2.2
   ·obtain ⟨EX,ok,bm,_⟩:=mem_ready.1 hk
    rcases xW k ok bm EX st with q | q
    ·exact q
    ·rw [q] at il;cases il
theorem zAz {P:Program} {ops:Array Oper} {Q:Exit->Act->World->Prop} {md:Region.Mode} {S:World->Prop} {late:Nat->Bool} {i:Nat} {oi:Oper} {v:Value} {fuel:Nat} {listed:Array Bool} {a:Act} {w:World} (hi:ops[i]?=some oi)
  (hs:Region.noSelect ops=true) (hf:Region.free md ops listed i=true) (hr:(Region.ready md ops listed).contains i=true) (hl:late i=true)
  (hQ:∀ c a w,Q (.panic c) (a.put oi.dst v) w->Q (.panic c) a w) (hw:Region.wanted oi (yielded ops a.tmps)=true) (hy:∀ w,(execOp a.eval oi).run P w=.ok (.value v) w)
  (h:wpAnyL P md ops Q S late fuel (listed.setIfInBounds i true) (a.put oi.dst v) w):wpAnyL P md ops Q S late (fuel+1) listed a w:=
 zEa hi (Region.noSelect_spec hs) hQ fuel listed a w (Region.free_spec hi hf) (by simpa using hr) (.inl ⟨hw,fun w _=>hy w⟩) (fun q=>by rw [hl] at q;cases q) h (fun q=>by rw [hl] at q;cases q) (fun _ _ _ _ _=>.inr hl)
theorem OwnX.pos {α:Type} {T:Kind α} {ok:Nat->Prop} {w:World} {v:Value} {l:List α} (h:OwnX T ok w v l) (hl:0<l.length):∃ g c,v=.slice (some ⟨g,0,none⟩) l.length c/\l.length<=c/\c<=maxLen/\g<w.heap.size:=by
 obtain ⟨D,h1,h2,h3⟩:=h;obtain ⟨g,cap,hv,_,hg,hn,hm,_⟩:=zEo h1 hl;exact ⟨g,cap,hv,hn,hm,hg⟩
theorem OwnX.lastCells {ok:Nat->Prop} {w:World} {g c:Nat} {l:List Ex} {y:Ex} (h:OwnX kExpr ok w (.slice (some ⟨g,0,none⟩) (l.length+1) c) (l++[y])) :
  ∃ u0 u1 u2 u3 u4 u5,w.cell? ⟨g,l.length*6,none⟩=some u0/\w.cell? ⟨g,l.length*6+1,none⟩=some u1/\w.cell? ⟨g,l.length*6+2,none⟩=some u2/\w.cell? ⟨g,l.length*6+3,none⟩=some u3/\w.cell? ⟨g,l.length*6+4,none⟩=some u4/\w.cell? ⟨g,l.length*6+5,none⟩=some u5/\∀ o,w.frozen? ⟨g,o,none⟩=false:=by
 obtain ⟨D,h1,h2,h3⟩:=h;have aP:(l++[y]).length=l.length+1:=(by simp);rw [aP] at h1;rcases h1.2 with ⟨hv,h0⟩ | ⟨g',cap,aR,hv,hb,CX,eR,eV,gq,g7⟩
 ·omega
 ·injection hv with e1 e2 e3
  injection e1 with e1;injection e1 with e4 e5 e6;subst e4 e3;have FH:kExpr.k=6:=rfl;rw [FH] at gq;have bo:l.length*6+5<aR.size:=by
   have:(l.length+1)*6<=c*6:=Nat.mul_le_mul_right 6 eR;omega
  have hc:∀ o,o<aR.size->w.cell? ⟨g,o,none⟩=some aR[o]! := fun o ho=>by
   rw [co CX];simp [ho]
  exact ⟨_,_,_,_,_,_,hc _ (by omega),hc _ (by omega),hc _ (by omega),hc _ (by omega),hc _ (by omega),hc _ (by omega),fun o=>fo CX o⟩
theorem zBc {S:List Nat} {B k o:Nat} {w w':World} {y:ExV} (h:Aside S B w w') (hk:B<=k):Aside S B w (putAt w' k o y):=by
 unfold putAt;exact (((((h.set (p:=⟨k,o,none⟩) hk _).set (p:=⟨k,o+1,none⟩) hk _).set (p:=⟨k,o+2,none⟩) hk _).set (p:=⟨k,o+3,none⟩) hk _).set (p:=⟨k,o+4,none⟩) hk _).set (p:=⟨k,o+5,none⟩) hk _
theorem zDu {b g cap rb eb N0:Nat} {I:Inp} {op nx:Nat} {E:Nat->Res Ex} {e:Ex} {w:World} (HE:Does 245 b g cap I op exV E) (hv:Env b g rb eb N0) (h:Rd w b g cap I.L I.len nx op) (hG:GlobB b w) (cP:7<eb) (dO:N0<=w.heap.size) (hrb:w.heap[rb]?=some (.cells #[.pointer (some ⟨b,0,none⟩)] 124 (0,0))) (hS:ExSt N0 eb w e) (aP:e.L.length<=1000) :
  Calls Tryz.prog 279 #[.pointer (some ⟨eb,0,none⟩),.pointer (some ⟨rb,0,none⟩)] w (PostE b g cap eb N0 I op nx w (Ps.part I E .part e nx)):=by
 obtain ⟨vS,vL,okS,okL,jL,lK,lu,dd,aM,cY⟩:=hS;obtain ⟨v0,v1,v2,v3,v4,v5,v6,v7⟩:=hv;obtain ⟨aS,cS,rfl,fp,fc⟩:=lK.form;obtain ⟨aL,cL,rfl,ry,mx⟩:=lu.form;unfold maxLen at mx;have iB:Rd w.drew b g cap I.L I.len nx op:=h.drew;have eP:w.drew.heap[eb]?=some (.cells #[.int .i64 e.op,.int .i64 e.k,.int .i64 e.n,.string e.name,.slice aS e.S.length cS,.slice aL e.L.length cL] 54 (0,0)):=jL;have li:w.drew.heap[rb]?=some (.cells #[.pointer (some ⟨b,0,none⟩)] 124 (0,0)):=hrb;have gJ:Aside [b,eb] N0 w w.drew:=(Aside.refl w).drew;have qx:w.drew.heap.size=w.heap.size:=rfl;have iR:=(lu.under (Below.refl _ w).drew).wide (ok':=fun i=>okL i/\i<w.heap.size) (fun i hi hl=>⟨hi,hl⟩);have iL:=(lK.under (Below.refl _ w).drew).wide (ok':=fun i=>okS i/\i<w.heap.size) (fun i hi hl=>⟨hi,hl⟩);go_enter Tryz.func279,Tryz.ntmps279;go_wp2_with fail;refine zAE (fun w'=>w'.cell? ⟨eb,5,none⟩=some (.slice aL e.L.length cL)/\w'.cell? ⟨rb,0,none⟩=some (.pointer (some ⟨b,0,none⟩))) (fun j=>decide (6<j)) (by kernel_rfl) ?_;generalize w.drew=wd at iB eP li gJ qx iR iL ⊢;clear h jL hrb lK lu;have c4:=co eP 5;have cr:=co li 0;simp only [gT,gZ,gS] at c4 cr;have hH:=And.intro c4 cr;refine' tjQ 0 hH ?hyv ?o1
 case hyv=>
  intro wz ae;obtain ⟨k0,k1⟩:=ae;go_simp
  try rfl
 try simp only [Act.put,sT,sZ,sS]
 refine' tjQ 1 hH ?hyv ?o2
 case hyv=>
  intro wz ae;obtain ⟨k0,k1⟩:=ae;go_simp
  try rfl
 try simp only [Act.put,sT,sZ,sS]
 refine' tjQ 2 hH ?hyv ?o3
 case hyv=>
  intro wz ae;obtain ⟨k0,k1⟩:=ae;go_simp
  try rfl
 try simp only [Act.put,sT,sZ,sS]
 refine' tjQ 4 hH ?hyv ?o4
 case hyv=>
  intro wz ae;obtain ⟨k0,k1⟩:=ae;go_simp
  try rfl
 try simp only [Act.put,sT,sZ,sS]
 refine zDD (i:=3) (j:=5) rfl rfl (by kernel_rfl) (by rfl) (by rfl) (fun K hK=>?_) (fun K hK=>?_)
 ·go_simp
  clear hH c4 cr;refine (HE _ _ iB (hG.far2 gJ cP v3)).mono ?_;rintro r w6 ⟨a6,hres⟩;have z6:=a6.size;have A6:Aside [b,eb] N0 w w6:=gJ.trans (zBg a6) (by omega);have dN:=a6.keep eP (by omega) (by simp;omega);have j8:=a6.keep li (by omega) (by simp;omega);have iy:=iR.past a6 (fun i hi=>by have:=aM i hi.1;simp;omega);have jJ:=iL.past a6 (fun i hi=>by have:=dd i hi.1;simp;omega)
  skip
  clear iB eP li gJ iR iL
  cases ht:E nx with
  | err c0 a0=>
   rw [ht] at hres;obtain rfl:r=_:=hres;exact ⟨rfl,PostE.fail (by unfold Ps.part;simp only [];rw [ht];rfl) A6⟩
  | ok y n2=>
   rw [ht] at hres;obtain ⟨od,h6,_,rfl,x6,rfl,hV⟩:=hres;have m6:Hid (Ps.part I E .part e nx=.ok (Ps.Ex.addL e y) n2):=by
    show Ps.part I E .part e nx=_
    unfold Ps.part;simp only [];rw [ht];rfl
   clear ht;have c4:=co dN 5;have cr:=co j8 0;simp only [gT,gZ,gS] at c4 cr;refine hK.out _ _ (fun _=>And.intro c4 cr) ?_;clear hK K
   try simp only [Act.put,sT,sZ,sS]
   have pn:=co (kA dN (.cells #[.int .i64 0,.int .i64 0,.int .i64 0,.string ⟨#[]⟩,.slice none 0 0,.slice none 0 0] 54 (0,0))) 5;have pe:=co (kA j8 (.cells #[.int .i64 0,.int .i64 0,.int .i64 0,.string ⟨#[]⟩,.slice none 0 0,.slice none 0 0] 54 (0,0))) 0;simp only [gT,gZ,gS] at pn pe;have mB:=zAA (And.intro pn pe);clear pn pe;refine tnQ 5 (fun K hK=>?_);go_simp;refine hK.out _ _ (fun _=>mB.out) ?_;clear hK K
   try simp only [Act.put,sT,sZ,sS]
   clear mB c4 cr;have bZ:=(Below.refl w6.heap.size w6).alloc nR (.cells #[.int .i64 0,.int .i64 0,.int .i64 0,.string ⟨#[]⟩,.slice none 0 0,.slice none 0 0] 54 (0,0));have dN:=kA dN (.cells #[.int .i64 0,.int .i64 0,.int .i64 0,.string ⟨#[]⟩,.slice none 0 0,.slice none 0 0] 54 (0,0));have j8:=kA j8 (.cells #[.int .i64 0,.int .i64 0,.int .i64 0,.string ⟨#[]⟩,.slice none 0 0,.slice none 0 0] 54 (0,0));have iy:=iy.under bZ;have jJ:=jJ.under bZ;have h6:=h6.alloc (.cells #[.int .i64 0,.int .i64 0,.int .i64 0,.string ⟨#[]⟩,.slice none 0 0,.slice none 0 0] 54 (0,0));have A6:=A6.alloc (by omega) (.cells #[.int .i64 0,.int .i64 0,.int .i64 0,.string ⟨#[]⟩,.slice none 0 0,.slice none 0 0] 54 (0,0));have hz:=zAC w6 (.cells #[.int .i64 0,.int .i64 0,.int .i64 0,.string ⟨#[]⟩,.slice none 0 0,.slice none 0 0] 54 (0,0));have ix:=(hV.wide (ok':=fun i=>wd.heap.size<=i/\i<w6.heap.size) (fun i hi hl=>⟨hi,hl⟩)).under bZ;have zz:(w6.alloc (.cells #[.int .i64 0,.int .i64 0,.int .i64 0,.string ⟨#[]⟩,.slice none 0 0,.slice none 0 0] 54 (0,0))).heap.size=w6.heap.size+1:=(by simp);clear hV bZ;generalize w6.alloc (.cells #[.int .i64 0,.int .i64 0,.int .i64 0,.string ⟨#[]⟩,.slice none 0 0,.slice none 0 0] 54 (0,0))=WW at dN j8 iy jJ h6 A6 hz ix zz ⊢;have ix:=ix.wide (ok':=fun i=>wd.heap.size<=i/\i<WW.heap.size) (fun i hi hl=>⟨hi.1,hl⟩);have q1:kExpr.E (fun i=>WW.heap.size<=i) WW [.int .i64 0,.int .i64 0,.int .i64 0,.string ⟨#[]⟩,.slice none 0 0,.slice none 0 0] (.mk 0 0 0 ⟨#[]⟩ [] []):=HEx.leaf 0 0 0 ⟨#[]⟩;have q2:(e.L.length+1)*kExpr.bytes<=140737488355328:=(by show (e.L.length+1)*88<=_;omega);have q3:e.L.length+1<=maxLen:=(by unfold maxLen;omega);have dI:∀ j u,[.int .i64 0,.int .i64 0,.int .i64 0,.string ⟨#[]⟩,.slice none 0 0,.slice none 0 0][j]?=some u->WW.cell? ((⟨w6.heap.size,0,none⟩:Addr).add j)=some u:=fun j u hj=>by
    have dn:(⟨w6.heap.size,0,none⟩:Addr).add j=⟨w6.heap.size,j,none⟩:=by unfold Addr.add;split<;>simp_all
    rw [dn,co hz]
    simpa using hj
   refine tnQ 6 (fun K hK=>?_);refine zEs kExpr _ _ 52 rfl Tryz.underlying52 WW.heap.size w6.heap.size _ _ e.L (by rfl) iy [.int .i64 0,.int .i64 0,.int .i64 0,.string ⟨#[]⟩,.slice none 0 0,.slice none 0 0] (.mk 0 0 0 ⟨#[]⟩ [] []) q1 dI (by rfl) (fun i hi=>by omega) nR q2 q3 ?_;intro v8 w8 i7 mQ;have eL:=fun k hk=>(iy.lt k hk).1;have bf:∀ k,k<WW.heap.size->¬(okL k/\k<w.heap.size)->w8.heap[k]?=WW.heap[k]?:=fun k hk hn=>mQ.block k hk (fun e=>hn (eL k e.symm));have z8:=mQ.size;have A8:Aside [b,eb] N0 w w8:=A6.trans ⟨mQ.os,mQ.tape,mQ.output,z8,fun k hk _=>bf k (by omega) (fun hh=>by have:=aM k hh.1;omega)⟩ nR;have ik:=(bf eb (zAB dN) (fun hh=>by have:=aM eb hh.1;omega)).trans dN;have yO:=(bf rb (zAB j8) (fun hh=>by have:=aM rb hh.1;omega)).trans j8;have mX:=jJ.keep z8 (fun i hi hl=>bf i hl (fun hh=>cY i hi.1 hh.1));have yE:=ix.keep z8 (fun i hi hl=>bf i hl (fun hh=>by omega));have h8:Rd w8 b g cap I.L I.len n2 op:=⟨(bf b h6.bb (fun hh=>by have:=aM b hh.1;omega)).trans h6.here,h6.toks.keep (bf g h6.gb (fun hh=>by have:=aM g hh.1;omega)),h6.apart,Nat.lt_of_lt_of_le h6.gb z8,h6.le,h6.lc,h6.cm⟩;clear A6 dN j8 iy jJ h6 ix q1 dI hz mQ bf eL;have c4:=co ik 5;have cr:=co yO 0;simp only [gT,gZ,gS] at c4 cr;refine hK.out _ _ (fun _=>And.intro c4 cr) ?_;clear hK K
   try simp only [Act.put,sT,sZ,sS]
   obtain ⟨g8,c8,km,_,tv,Px⟩:=i7.pos (by simp);rw [List.length_append,List.length_singleton] at km;subst km;have gB:=(i7.lt g8 rfl).1;unfold maxLen at tv;have iq:(e.L.length:Int)<(e.L.length:Int)+1:=(by omega);have tV:N0<=g8:=(by rcases gB with q | q;exact aM g8 q.1;omega);have ow:¬(wd.heap.size<=g8/\g8<WW.heap.size):=(by rcases gB with q | q;have:=q.2;omega;omega);refine' zAz (i:=7) (v:=_) rfl (by kernel_rfl) (by kernel_rfl) (by kernel_rfl) rfl (fun _ _ _ h=>h) (by rfl) ?hyv ?o5
   case hyv=>
    intro wz;go_simp
    try rfl
   try simp only [Act.put,sT,sZ,sS]
   refine' zAz (i:=9) (v:=_) rfl (by kernel_rfl) (by kernel_rfl) (by kernel_rfl) rfl (fun _ _ _ h=>h) (by rfl) ?hyv ?o6
   case hyv=>
    intro wz;go_simp
    try rfl
   try simp only [Act.put,sT,sZ,sS]
   refine zDD (i:=8) (j:=10) rfl rfl (by kernel_rfl) (by rfl) (by rfl) (fun K hK=>?_) (fun K hK=>?_)
   ·skip
    obtain ⟨u0,u1,u2,u3,u4,u5,d0,d1,d2,d3,d4,d5,fr⟩:=i7.lastCells;go_simp;refine hK.out _ _ (fun h=>by cases h) ?_;clear hK K
    try simp only [Act.put,sT,sZ,sS]
    have iM:=i7.last yE ow;have jq:=mX.keep (w':=putAt w8 g8 (e.L.length*6) x6) (by rw [zAd];exact Nat.le_refl _) (fun i hi _=>zAK _ _ _ _ _ (fun q=>by subst q;rcases gB with q | q;exact cY _ hi.1 q.1;have:=hi.2;omega));have eo:=(zAK w8 g8 (e.L.length*6) x6 eb (by omega)).trans ik;have h9:Rd (putAt w8 g8 (e.L.length*6) x6) b g cap I.L I.len n2 op:=⟨(zAK _ _ _ _ _ (by omega)).trans h8.here,h8.toks.keep (zAK _ _ _ _ _ (by omega)),h8.apart,by rw [zAd];exact h8.gb,h8.le,h8.lc,h8.cm⟩;have A9:Aside [b,eb] N0 w (putAt w8 g8 (e.L.length*6) x6):=zBc A8 tV;clear d0 d1 d2 d3 d4 d5 fr c4 cr;have c9:=co eo 5;have f9:=fun o=>fo eo o;simp only [gT,gZ,gS] at c9
    change wpAnyL _ _ _ _ _ _ _ _ _ (putAt w8 g8 (e.L.length*6) x6)
    generalize GX:putAt w8 g8 (e.L.length*6) x6=w9 at iM jq eo h9 A9 c9 f9 ⊢;clear GX;refine tnQ 10 (fun K hK=>?_);go_simp;refine hK.out _ _ (fun h=>by cases h) ?_;clear hK K
    try simp only [Act.put,sT,sZ,sS]
    have fm:=zAD eo 5 (.slice (some ⟨g8,0,none⟩) (e.L.length+1) c8);have hA:=h9.set (p:=⟨eb,5,none⟩) (by simp;omega) (by simp;omega) (.slice (some ⟨g8,0,none⟩) (e.L.length+1) c8);have AA:Aside [b,eb] N0 w (w9.setCell ⟨eb,5,none⟩ (.slice (some ⟨g8,0,none⟩) (e.L.length+1) c8)):=A9.trans (Aside.setCell (by simp) _) nR;have tm:=iM.set (p:=⟨eb,5,none⟩) (by intro hh;have eY:((okL eb/\eb<w.heap.size)\/WW.heap.size<=eb)\/(wd.heap.size<=eb/\eb<WW.heap.size):=hh;rcases eY with (q | q) | q;exact absurd (aM eb q.1) (by omega);omega;omega) (.slice (some ⟨g8,0,none⟩) (e.L.length+1) c8);have tA:=jq.set (p:=⟨eb,5,none⟩) (by intro hh;have eY:okS eb/\eb<w.heap.size:=hh;have:=dd eb eY.1;omega) (.slice (some ⟨g8,0,none⟩) (e.L.length+1) c8);simp only [sT,sZ,sS] at fm;refine zAF (by kernel_rfl) ?_ _;go_wp2;go_end0;exact PostE.good m6.out AA od hA ⟨_,_,fun i=>okS i/\i<w.heap.size,fun i=>((okL i/\i<w.heap.size)\/WW.heap.size<=i)\/(wd.heap.size<=i/\i<WW.heap.size),fm,tA,tm,fun i hi=>dd i hi.1,fun i hi=>by rcases hi with (q | q) | q;exact aM i q.1;omega;omega,fun i hi hj=>by rcases hj with (q | q) | q;exact cY i hi.1 q.1;omega;omega⟩
   ·have f8:=fun o=>fo ik o
    go_simp;refine hK.out _ _ (fun h=>by cases h) ?_;clear hK K
    try simp only [Act.put,sT,sZ,sS]
    have eo:=zAD ik 5 (.slice (some ⟨g8,0,none⟩) (e.L.length+1) c8);have h9:=h8.set (p:=⟨eb,5,none⟩) (by simp;omega) (by simp;omega) (.slice (some ⟨g8,0,none⟩) (e.L.length+1) c8);have A9:Aside [b,eb] N0 w (w8.setCell ⟨eb,5,none⟩ (.slice (some ⟨g8,0,none⟩) (e.L.length+1) c8)):=A8.trans (Aside.setCell (by simp) _) nR;have iM:=i7.set (p:=⟨eb,5,none⟩) (by intro hh;have eY:(okL eb/\eb<w.heap.size)\/WW.heap.size<=eb:=hh;rcases eY with q | q;exact absurd (aM eb q.1) (by omega);omega) (.slice (some ⟨g8,0,none⟩) (e.L.length+1) c8);have jq:=mX.set (p:=⟨eb,5,none⟩) (by intro hh;have eY:okS eb/\eb<w.heap.size:=hh;have:=dd eb eY.1;omega) (.slice (some ⟨g8,0,none⟩) (e.L.length+1) c8);simp only [sT,sZ,sS] at eo;have ly:=yE.set (p:=⟨eb,5,none⟩) (by intro hh;have eY:wd.heap.size<=eb/\eb<WW.heap.size:=hh;omega) (.slice (some ⟨g8,0,none⟩) (e.L.length+1) c8);clear c4 cr f8;generalize w8.setCell ⟨eb,5,none⟩ (.slice (some ⟨g8,0,none⟩) (e.L.length+1) c8)=w9 at iM jq eo h9 A9 ly ⊢;obtain ⟨u0,u1,u2,u3,u4,u5,d0,d1,d2,d3,d4,d5,fr⟩:=iM.lastCells;refine tnQ 8 (fun K hK=>?_);go_simp;refine hK.out _ _ (fun h=>by cases h) ?_;clear hK K
    try simp only [Act.put,sT,sZ,sS]
    have tm:=iM.last ly ow;have tA:=jq.keep (w':=putAt w9 g8 (e.L.length*6) x6) (by rw [zAd];exact Nat.le_refl _) (fun i hi _=>zAK _ _ _ _ _ (fun q=>by subst q;rcases gB with q | q;exact cY _ hi.1 q.1;have:=hi.2;omega));have fm:=(zAK w9 g8 (e.L.length*6) x6 eb (by omega)).trans eo;have hA:Rd (putAt w9 g8 (e.L.length*6) x6) b g cap I.L I.len n2 op:=⟨(zAK _ _ _ _ _ (by omega)).trans h9.here,h9.toks.keep (zAK _ _ _ _ _ (by omega)),h9.apart,by rw [zAd];exact h9.gb,h9.le,h9.lc,h9.cm⟩;have AA:Aside [b,eb] N0 w (putAt w9 g8 (e.L.length*6) x6):=zBc A9 tV;refine zAF (by kernel_rfl) ?_ _;go_wp2;go_end0;exact PostE.good m6.out AA od hA ⟨_,_,fun i=>okS i/\i<w.heap.size,fun i=>((okL i/\i<w.heap.size)\/WW.heap.size<=i)\/(wd.heap.size<=i/\i<WW.heap.size),fm,tA,tm,fun i hi=>dd i hi.1,fun i hi=>by rcases hi with (q | q) | q;exact aM i q.1;omega;omega,fun i hi hj=>by rcases hj with (q | q) | q;exact cY i hi.1 q.1;omega;omega⟩
 ·go_simp
  have pn:=co (kA eP (.cells #[.int .i64 0,.int .i64 0,.int .i64 0,.string ⟨#[]⟩,.slice none 0 0,.slice none 0 0] 54 (0,0))) 5;have pe:=co (kA li (.cells #[.int .i64 0,.int .i64 0,.int .i64 0,.string ⟨#[]⟩,.slice none 0 0,.slice none 0 0] 54 (0,0))) 0;simp only [gT,gZ,gS] at pn pe;refine hK.out _ _ (fun _=>And.intro pn pe) ?_;clear hK K hH c4 cr pn pe
  try simp only [Act.put,sT,sZ,sS]
  have bZ:=(Below.refl wd.heap.size wd).alloc nR (.cells #[.int .i64 0,.int .i64 0,.int .i64 0,.string ⟨#[]⟩,.slice none 0 0,.slice none 0 0] 54 (0,0));have iB:=iB.alloc (.cells #[.int .i64 0,.int .i64 0,.int .i64 0,.string ⟨#[]⟩,.slice none 0 0,.slice none 0 0] 54 (0,0));have eP:=kA eP (.cells #[.int .i64 0,.int .i64 0,.int .i64 0,.string ⟨#[]⟩,.slice none 0 0,.slice none 0 0] 54 (0,0));have li:=kA li (.cells #[.int .i64 0,.int .i64 0,.int .i64 0,.string ⟨#[]⟩,.slice none 0 0,.slice none 0 0] 54 (0,0));have iR:=iR.under bZ;have iL:=iL.under bZ;have gJ:=gJ.alloc (by omega) (.cells #[.int .i64 0,.int .i64 0,.int .i64 0,.string ⟨#[]⟩,.slice none 0 0,.slice none 0 0] 54 (0,0));have Ct:=zAC wd (.cells #[.int .i64 0,.int .i64 0,.int .i64 0,.string ⟨#[]⟩,.slice none 0 0,.slice none 0 0] 54 (0,0));rw [qx] at Ct;have zz:(wd.alloc (.cells #[.int .i64 0,.int .i64 0,.int .i64 0,.string ⟨#[]⟩,.slice none 0 0,.slice none 0 0] 54 (0,0))).heap.size=wd.heap.size+1:=(by simp);clear bZ;generalize wd.alloc (.cells #[.int .i64 0,.int .i64 0,.int .i64 0,.string ⟨#[]⟩,.slice none 0 0,.slice none 0 0] 54 (0,0))=wz at iB eP li iR iL gJ Ct zz ⊢;have c4:=co eP 5;have cr:=co li 0;simp only [gT,gZ,gS] at c4 cr;refine tnQ 3 (fun K hK=>?_);go_simp;clear c4 cr;refine (HE _ _ iB (hG.far2 gJ cP v3)).mono ?_;rintro r w6 ⟨a6,hres⟩;have z6:=a6.size;have A6:Aside [b,eb] N0 w w6:=gJ.trans (zBg a6) (by omega);have dN:=a6.keep eP (by omega) (by simp;omega);have j8:=a6.keep li (by omega) (by simp;omega);have iy:=iR.past a6 (fun i hi=>by have:=aM i hi.1;simp;omega);have jJ:=iL.past a6 (fun i hi=>by have:=dd i hi.1;simp;omega);have hz:=a6.keep Ct (by omega) (by simp;omega);clear iB eP li gJ iR iL
  cases ht:E nx with
  | err c0 a0=>
   rw [ht] at hres;obtain rfl:r=_:=hres;exact ⟨rfl,PostE.fail (by unfold Ps.part;simp only [];rw [ht];rfl) A6⟩
  | ok y n2=>
   rw [ht] at hres;obtain ⟨od,h6,_,rfl,x6,rfl,hV⟩:=hres;have m6:Hid (Ps.part I E .part e nx=.ok (Ps.Ex.addL e y) n2):=by
    show Ps.part I E .part e nx=_
    unfold Ps.part;simp only [];rw [ht];rfl
   clear ht;have c4:=co dN 5;have cr:=co j8 0;simp only [gT,gZ,gS] at c4 cr;refine hK.out _ _ (fun _=>And.intro c4 cr) ?_;clear hK K
   try simp only [Act.put,sT,sZ,sS]
   have ix:=hV.wide (ok':=fun i=>wd.heap.size<=i/\i<w6.heap.size) (fun i hi hl=>⟨by omega,hl⟩);clear hV c4 cr Ct;obtain ⟨WW,NR⟩:=nmQ (w6);subst NR;have ix:=ix.wide (ok':=fun i=>wd.heap.size<=i/\i<WW.heap.size) (fun i hi hl=>⟨hi.1,hl⟩);have q1:kExpr.E (fun i=>WW.heap.size<=i) WW [.int .i64 0,.int .i64 0,.int .i64 0,.string ⟨#[]⟩,.slice none 0 0,.slice none 0 0] (.mk 0 0 0 ⟨#[]⟩ [] []):=HEx.leaf 0 0 0 ⟨#[]⟩;have q2:(e.L.length+1)*kExpr.bytes<=140737488355328:=(by show (e.L.length+1)*88<=_;omega);have q3:e.L.length+1<=maxLen:=(by unfold maxLen;omega);have dI:∀ j u,[.int .i64 0,.int .i64 0,.int .i64 0,.string ⟨#[]⟩,.slice none 0 0,.slice none 0 0][j]?=some u->WW.cell? ((⟨w.heap.size,0,none⟩:Addr).add j)=some u:=fun j u hj=>by
    have dn:(⟨w.heap.size,0,none⟩:Addr).add j=⟨w.heap.size,j,none⟩:=by unfold Addr.add;split<;>simp_all
    rw [dn,co hz]
    simpa using hj
   refine tnQ 6 (fun K hK=>?_);refine zEs kExpr _ _ 52 rfl Tryz.underlying52 WW.heap.size w.heap.size _ _ e.L (by rfl) iy [.int .i64 0,.int .i64 0,.int .i64 0,.string ⟨#[]⟩,.slice none 0 0,.slice none 0 0] (.mk 0 0 0 ⟨#[]⟩ [] []) q1 dI (by rfl) (fun i hi=>by omega) nR q2 q3 ?_;intro v8 w8 i7 mQ;have eL:=fun k hk=>(iy.lt k hk).1;have bf:∀ k,k<WW.heap.size->¬(okL k/\k<w.heap.size)->w8.heap[k]?=WW.heap[k]?:=fun k hk hn=>mQ.block k hk (fun e=>hn (eL k e.symm));have z8:=mQ.size;have A8:Aside [b,eb] N0 w w8:=A6.trans ⟨mQ.os,mQ.tape,mQ.output,z8,fun k hk _=>bf k (by omega) (fun hh=>by have:=aM k hh.1;omega)⟩ nR;have ik:=(bf eb (zAB dN) (fun hh=>by have:=aM eb hh.1;omega)).trans dN;have yO:=(bf rb (zAB j8) (fun hh=>by have:=aM rb hh.1;omega)).trans j8;have mX:=jJ.keep z8 (fun i hi hl=>bf i hl (fun hh=>cY i hi.1 hh.1));have yE:=ix.keep z8 (fun i hi hl=>bf i hl (fun hh=>by omega));have h8:Rd w8 b g cap I.L I.len n2 op:=⟨(bf b h6.bb (fun hh=>by have:=aM b hh.1;omega)).trans h6.here,h6.toks.keep (bf g h6.gb (fun hh=>by have:=aM g hh.1;omega)),h6.apart,Nat.lt_of_lt_of_le h6.gb z8,h6.le,h6.lc,h6.cm⟩;clear A6 dN j8 iy jJ h6 ix q1 dI hz mQ bf eL;have c4:=co ik 5;have cr:=co yO 0;simp only [gT,gZ,gS] at c4 cr;refine hK.out _ _ (fun _=>And.intro c4 cr) ?_;clear hK K
   try simp only [Act.put,sT,sZ,sS]
   obtain ⟨g8,c8,km,_,tv,Px⟩:=i7.pos (by simp);rw [List.length_append,List.length_singleton] at km;subst km;have gB:=(i7.lt g8 rfl).1;unfold maxLen at tv;have iq:(e.L.length:Int)<(e.L.length:Int)+1:=(by omega);have tV:N0<=g8:=(by rcases gB with q | q;exact aM g8 q.1;omega);have ow:¬(wd.heap.size<=g8/\g8<WW.heap.size):=(by rcases gB with q | q;have:=q.2;omega;omega);refine' zAz (i:=7) (v:=_) rfl (by kernel_rfl) (by kernel_rfl) (by kernel_rfl) rfl (fun _ _ _ h=>h) (by rfl) ?hyv ?o7
   case hyv=>
    intro wz;go_simp
    try rfl
   try simp only [Act.put,sT,sZ,sS]
   refine' zAz (i:=9) (v:=_) rfl (by kernel_rfl) (by kernel_rfl) (by kernel_rfl) rfl (fun _ _ _ h=>h) (by rfl) ?hyv ?o8
   case hyv=>
    intro wz;go_simp
    try rfl
   try simp only [Act.put,sT,sZ,sS]
   refine zDD (i:=8) (j:=10) rfl rfl (by kernel_rfl) (by rfl) (by rfl) (fun K hK=>?_) (fun K hK=>?_)
   ·skip
    obtain ⟨u0,u1,u2,u3,u4,u5,d0,d1,d2,d3,d4,d5,fr⟩:=i7.lastCells;go_simp;refine hK.out _ _ (fun h=>by cases h) ?_;clear hK K
    try simp only [Act.put,sT,sZ,sS]
    have iM:=i7.last yE ow;have jq:=mX.keep (w':=putAt w8 g8 (e.L.length*6) x6) (by rw [zAd];exact Nat.le_refl _) (fun i hi _=>zAK _ _ _ _ _ (fun q=>by subst q;rcases gB with q | q;exact cY _ hi.1 q.1;have:=hi.2;omega));have eo:=(zAK w8 g8 (e.L.length*6) x6 eb (by omega)).trans ik;have h9:Rd (putAt w8 g8 (e.L.length*6) x6) b g cap I.L I.len n2 op:=⟨(zAK _ _ _ _ _ (by omega)).trans h8.here,h8.toks.keep (zAK _ _ _ _ _ (by omega)),h8.apart,by rw [zAd];exact h8.gb,h8.le,h8.lc,h8.cm⟩;have A9:Aside [b,eb] N0 w (putAt w8 g8 (e.L.length*6) x6):=zBc A8 tV;clear d0 d1 d2 d3 d4 d5 fr c4 cr;have c9:=co eo 5;have f9:=fun o=>fo eo o;simp only [gT,gZ,gS] at c9
    change wpAnyL _ _ _ _ _ _ _ _ _ (putAt w8 g8 (e.L.length*6) x6)
    generalize GX:putAt w8 g8 (e.L.length*6) x6=w9 at iM jq eo h9 A9 c9 f9 ⊢;clear GX;refine tnQ 10 (fun K hK=>?_);go_simp;refine hK.out _ _ (fun h=>by cases h) ?_;clear hK K
    try simp only [Act.put,sT,sZ,sS]
    have fm:=zAD eo 5 (.slice (some ⟨g8,0,none⟩) (e.L.length+1) c8);have hA:=h9.set (p:=⟨eb,5,none⟩) (by simp;omega) (by simp;omega) (.slice (some ⟨g8,0,none⟩) (e.L.length+1) c8);have AA:Aside [b,eb] N0 w (w9.setCell ⟨eb,5,none⟩ (.slice (some ⟨g8,0,none⟩) (e.L.length+1) c8)):=A9.trans (Aside.setCell (by simp) _) nR;have tm:=iM.set (p:=⟨eb,5,none⟩) (by intro hh;have eY:((okL eb/\eb<w.heap.size)\/WW.heap.size<=eb)\/(wd.heap.size<=eb/\eb<WW.heap.size):=hh;rcases eY with (q | q) | q;exact absurd (aM eb q.1) (by omega);omega;omega) (.slice (some ⟨g8,0,none⟩) (e.L.length+1) c8);have tA:=jq.set (p:=⟨eb,5,none⟩) (by intro hh;have eY:okS eb/\eb<w.heap.size:=hh;have:=dd eb eY.1;omega) (.slice (some ⟨g8,0,none⟩) (e.L.length+1) c8);simp only [sT,sZ,sS] at fm;refine zAF (by kernel_rfl) ?_ _;go_wp2;go_end0;exact PostE.good m6.out AA od hA ⟨_,_,fun i=>okS i/\i<w.heap.size,fun i=>((okL i/\i<w.heap.size)\/WW.heap.size<=i)\/(wd.heap.size<=i/\i<WW.heap.size),fm,tA,tm,fun i hi=>dd i hi.1,fun i hi=>by rcases hi with (q | q) | q;exact aM i q.1;omega;omega,fun i hi hj=>by rcases hj with (q | q) | q;exact cY i hi.1 q.1;omega;omega⟩
   ·have f8:=fun o=>fo ik o
    go_simp;refine hK.out _ _ (fun h=>by cases h) ?_;clear hK K
    try simp only [Act.put,sT,sZ,sS]
    have eo:=zAD ik 5 (.slice (some ⟨g8,0,none⟩) (e.L.length+1) c8);have h9:=h8.set (p:=⟨eb,5,none⟩) (by simp;omega) (by simp;omega) (.slice (some ⟨g8,0,none⟩) (e.L.length+1) c8);have A9:Aside [b,eb] N0 w (w8.setCell ⟨eb,5,none⟩ (.slice (some ⟨g8,0,none⟩) (e.L.length+1) c8)):=A8.trans (Aside.setCell (by simp) _) nR;have iM:=i7.set (p:=⟨eb,5,none⟩) (by intro hh;have eY:(okL eb/\eb<w.heap.size)\/WW.heap.size<=eb:=hh;rcases eY with q | q;exact absurd (aM eb q.1) (by omega);omega) (.slice (some ⟨g8,0,none⟩) (e.L.length+1) c8);have jq:=mX.set (p:=⟨eb,5,none⟩) (by intro hh;have eY:okS eb/\eb<w.heap.size:=hh;have:=dd eb eY.1;omega) (.slice (some ⟨g8,0,none⟩) (e.L.length+1) c8);simp only [sT,sZ,sS] at eo;have ly:=yE.set (p:=⟨eb,5,none⟩) (by intro hh;have eY:wd.heap.size<=eb/\eb<WW.heap.size:=hh;omega) (.slice (some ⟨g8,0,none⟩) (e.L.length+1) c8);clear c4 cr f8;generalize w8.setCell ⟨eb,5,none⟩ (.slice (some ⟨g8,0,none⟩) (e.L.length+1) c8)=w9 at iM jq eo h9 A9 ly ⊢;obtain ⟨u0,u1,u2,u3,u4,u5,d0,d1,d2,d3,d4,d5,fr⟩:=iM.lastCells;refine tnQ 8 (fun K hK=>?_);go_simp;refine hK.out _ _ (fun h=>by cases h) ?_;clear hK K
    try simp only [Act.put,sT,sZ,sS]
    have tm:=iM.last ly ow;have tA:=jq.keep (w':=putAt w9 g8 (e.L.length*6) x6) (by rw [zAd];exact Nat.le_refl _) (fun i hi _=>zAK _ _ _ _ _ (fun q=>by subst q;rcases gB with q | q;exact cY _ hi.1 q.1;have:=hi.2;omega));have fm:=(zAK w9 g8 (e.L.length*6) x6 eb (by omega)).trans eo;have hA:Rd (putAt w9 g8 (e.L.length*6) x6) b g cap I.L I.len n2 op:=⟨(zAK _ _ _ _ _ (by omega)).trans h9.here,h9.toks.keep (zAK _ _ _ _ _ (by omega)),h9.apart,by rw [zAd];exact h9.gb,h9.le,h9.lc,h9.cm⟩;have AA:Aside [b,eb] N0 w (putAt w9 g8 (e.L.length*6) x6):=zBc A9 tV;refine zAF (by kernel_rfl) ?_ _;go_wp2;go_end0;exact PostE.good m6.out AA od hA ⟨_,_,fun i=>okS i/\i<w.heap.size,fun i=>((okL i/\i<w.heap.size)\/WW.heap.size<=i)\/(wd.heap.size<=i/\i<WW.heap.size),fm,tA,tm,fun i hi=>dd i hi.1,fun i hi=>by rcases hi with (q | q) | q;exact aM i q.1;omega;omega,fun i hi hj=>by rcases hj with (q | q) | q;exact cY i hi.1 q.1;omega;omega⟩
end Go.Proofs.YtkfgbhlpjkkgfaaGreatDoor
