import Derived.Test.YtfhghlpfeeiaeaaGreatDoorX42
import Derived.Maps.OwnSet
import Derived.WalkArith
import Derived.Lib.RowBridge
set_option linter.unusedVariables false
set_option linter.unusedSimpArgs false
set_option maxHeartbeats 64000000
set_option maxRecDepth 100000
namespace Go.Proofs.YtfhghlpfeeiaeaaGreatDoor
open Go.RowKit Go.IntWalk
theorem usedBy59_any {ok:Nat->Prop} {w:World} {A:List Int} {E:List Pu} (op k out n:Int) {aA aE:Option Addr} {nA cA nE cE:Nat} (hA:HInts ok w (.slice aA nA cA) A) (hE:HPu ok w (.slice aE nE cE) E) (dm:A.length<=1000000) (fo:E.length<=1000000) :
  Calls Tryz.prog 59 #[.agg #[.int .i64 op,.int .i64 k,.int .i64 out,.int .i64 n,.slice aA nA cA,.slice aE nE cE]] w fun e w'=>∃ v,e=.returned v/\OwnL kInt w.heap.size w' v (usesT A (Sk.ownE op E))/\Below w.heap.size w w':=by
 have b0:Below w.heap.size w (w.alloc (.cells #[.int .i64 op,.int .i64 k,.int .i64 out,.int .i64 n,.slice aA nA cA,.slice aE nE cE] 42 (0,0))):=(Below.refl _ _).alloc zBR _;have k0:=zBO w (.cells #[.int .i64 op,.int .i64 k,.int .i64 out,.int .i64 n,.slice aA nA cA,.slice aE nE cE] 42 (0,0));by_cases h:op<14
 case pos=>
  have e:Sk.ownE op E=[]:=(by unfold Sk.ownE;rw [if_pos h]);rw [e];have ld:∀ V,HInts ok V (.slice aA nA cA) A->Calls Tryz.prog 71 #[.agg #[.int .i64 op,.int .i64 k,.int .i64 out,.int .i64 n,.slice aA nA cA,.slice none 0 0]] V _:=fun V h1=>zCm op k out n h1 (HPu.hnil (ok:=ok)) dm (by simp);have Gc:=zBK hA;clear e hA hE;go_enter Tryz.func59,Tryz.ntmps59;go_upto_region 1 with fail;generalize w.alloc (.cells #[.int .i64 op,.int .i64 k,.int .i64 out,.int .i64 n,.slice aA nA cA,.slice aE nE cE] 42 (0,0))=w0 at b0 k0 ⊢;have c0:=coQ k0 0;have c5:=coQ k0 5;have f5:=foQ k0 5;have KR:=zBQ k0 5 (.slice none 0 0);have BR:=b0.setCell (p:=⟨w.heap.size,5,none⟩) zBR (.slice none 0 0);have r0:=coQ KR 0;have r1:=coQ KR 1;have r2:=coQ KR 2;have r3:=coQ KR 3;have r4:=coQ KR 4;have r5:=coQ KR 5;simp at c0 c5 r0 r1 r2 r3 r4 r5;have bS:Below w.heap.size w (w0.setCell ⟨w.heap.size,5,none⟩ (.slice none 0 0)):=BR;go_wp2_with fail;refine (ld _ (Gc.out.under bS)).mono ?_;rintro e w2 ⟨u,rfl,jP,b2⟩;go_wp2;exact bodyPost_ret (v:=u) (by simp [results,Tryz.results59,go_sem]) rfl ⟨u,rfl,zCG jP bS.size,bS.trans (b2.mono bS.size)⟩
 case neg=>
  have e:Sk.ownE op E=E:=(by unfold Sk.ownE;rw [if_neg h]);rw [e];have hc:=zCm op k out n (hA.under b0) (hE.under b0) dm fo;clear e hA hE;go_enter Tryz.func59,Tryz.ntmps59;go_upto_region 1 with fail;generalize w.alloc (.cells #[.int .i64 op,.int .i64 k,.int .i64 out,.int .i64 n,.slice aA nA cA,.slice aE nE cE] 42 (0,0))=w0 at b0 k0 hc ⊢;have c0:=coQ k0 0;have c1:=coQ k0 1;have c2:=coQ k0 2;have c3:=coQ k0 3;have c4:=coQ k0 4;have c5:=coQ k0 5;simp at c0 c1 c2 c3 c4 c5;go_wp2_with fail;refine hc.mono ?_;rintro e w2 ⟨u,rfl,jP,b2⟩;go_wp2;exact bodyPost_ret (v:=u) (by simp [results,Tryz.results59,go_sem]) rfl ⟨u,rfl,zCG jP b0.size,b0.trans (b2.mono b0.size)⟩
end Go.Proofs.YtfhghlpfeeiaeaaGreatDoor
namespace Go.Proofs.YtfhghlpfeeiaeaaGreatDoor
open Go.RowKit Go.IntWalk Go.Maps Go.WideMaps
theorem law3k:Keyed Tryz.prog 3:=int_keyed Tryz.underlying3
theorem zero3k (w:World):(zeroValue 3).run Tryz.prog w=.ok (.int .i64 0) w:=by kernel_rfl
theorem key3 {x:Int} (hx:I64 x):keyOf Tryz.prog 3 (.int .i64 x)=some (.int .i64 x):=keyOf_int_mk Tryz.underlying3 (WalkArith.wf_i64 hx)
def selfR (v:Value):Option (DataW Value × List MemPlace):=some (.held v,[])
structure MapN (w:World) (b n:Nat) (f:Int->Option Value):Prop where
 out:∃ D:DataW Value,w.ownsMap Tryz.prog 3 selfR b n D/\∀ s:Int,Maps.has D (.int .i64 s)=(f s).isSome/\∀ z:Value,D.atKey (.int .i64 s) (.held z)=.held ((f s).getD z)
def putN (f:Int->Option Value) (s:Int) (v:Value):Int->Option Value:=fun x=>if x=s then some v else f x
theorem MapN.made (w:World):MapN (w.alloc (.map #[] 0)) w.heap.size 0 (fun _=>none) :=
 ⟨⟨.map [],World.ownsMap_made w _ _ _,fun s=>⟨rfl,fun z=>rfl⟩⟩⟩
theorem MapN.lt {w:World} {b n:Nat} {f:Int->Option Value} (h:MapN w b n f):b<w.heap.size:=by
 obtain ⟨D,h1,_⟩:=h.out;exact h1.lt
theorem MapN.keep {w w':World} {b n:Nat} {f:Int->Option Value} (h:MapN w b n f) (hk:w'.heap[b]?=w.heap[b]?):MapN w' b n f:=by
 obtain ⟨D,⟨es,clock,hb,r⟩,h2⟩:=h.out;exact ⟨⟨D,⟨es,clock,hk.trans hb,r⟩,h2⟩⟩
theorem MapN.lookOk {w:World} {b n:Nat} {f:Int->Option Value} (h:MapN w b n f) {t e:TypeId} (ht:Tryz.prog.underlying t=some (.map 3 e)) {z:Value} (hz:(zeroValue e).run Tryz.prog w=.ok z w) {s:Int} (hs:I64 s) :
  (Instr.lookup t (.map (some b)) (.int .i64 s) true).run Tryz.prog w=.ok (.tuple #[(f s).getD z,.bool (f s).isSome]) w:=by
 obtain ⟨D,h1,h2⟩:=h.out;obtain ⟨v,ps,cH,hv⟩:=h1.look_ok law3k ht hz (zd:=.held z) (zp:=[]) rfl (key3 hs);rw [(h2 _).1] at cH;rw [(h2 _).2 z] at hv;unfold selfR at hv;injection hv with hv;injection hv with hv _;injection hv with hv;rw [<-hv];exact cH
theorem MapN.put {w:World} {b n:Nat} {f:Int->Option Value} (h:MapN w b n f) {t e:TypeId} (ht:Tryz.prog.underlying t=some (.map 3 e)) (hn:n<maxLen) {s:Int} (hs:I64 s) (v:Value) :
  ∃ w',(Instr.mapUpdate t (.map (some b)) (.int .i64 s) v).run Tryz.prog w=.ok () w'/\MapN w' b (n+1) (putN f s v)/\w.grownBy w' (some b):=by
 obtain ⟨D,h1,h2⟩:=h.out;obtain ⟨w',cH,h3,h4⟩:=h1.update law3k ht hn (key3 hs) (val:=v) (d:=.held v) (ps:=[]) rfl;refine ⟨w',cH,⟨⟨_,h3,fun x=>?_⟩⟩,h4⟩;have BN:WideAt.IsKeyLit (.int .i64 s):=(by trivial);unfold putN;by_cases e:x=s
 ·subst e
  rw [if_pos rfl];exact ⟨has_put_same h1.isMap BN _,fun z=>atKey_put_same h1.isMap BN _ _⟩
 ·have sL:(Lit.int .i64 x)≠.int .i64 s:=fun q=>by injection q with _ q;exact e q
  rw [if_neg e,has_put_other sL];exact ⟨(h2 x).1,fun z=>by rw [atKey_put_other sL];exact (h2 x).2 z⟩
theorem wpList_putN {w:World} {ops:Array Oper} {rest:List Oper} {o:Oper} {a:Act} {Q:Exit->Act->World->Prop} (hg:o.guard=none) (m x v:Operand) (t:TypeId) (eb:o.op=Op.mapUpdate t m x v)
  (e:TypeId) (ht:Tryz.prog.underlying t=some (.map 3 e)) {b n:Nat} {f:Int->Option Value} (h:MapN w b n f) (hn:n<maxLen) {s:Int} (hs:I64 s) (hm:a.eval m=.map (some b)) (hx:a.eval x=.int .i64 s)
  (hK:∀ w',MapN w' b (n+1) (putN f s (a.eval v))->w.grownBy w' (some b)->wpList Tryz.prog ops Q rest (a.put o.dst undef) w') :
  wpList Tryz.prog ops Q (o :: rest) a w:=by
 refine wpList_plain hg fun K' hK'=>?_;obtain ⟨w',cH,r1,r2⟩:=h.put ht hn hs (a.eval v);unfold Oper.wp;simp [execOp,eb,hm,hx,cH,Result.andThen];exact hK' _ _ (hK w' r1 r2)
theorem zCS {w:World} {ops:Array Oper} {rest:List Oper} {o:Oper} {a:Act} {Q:Exit->Act->World->Prop} (hg:o.guard=none) (m x:Operand) (t:TypeId) (eb:o.op=Op.lookup t m x true)
  (e:TypeId) (ht:Tryz.prog.underlying t=some (.map 3 e)) {z:Value} (hz:(zeroValue e).run Tryz.prog w=.ok z w) {b n:Nat} {f:Int->Option Value} (h:MapN w b n f) {s:Int} (hs:I64 s) (hm:a.eval m=.map (some b)) (hx:a.eval x=.int .i64 s)
  {u:Value} (hu:(.tuple #[(f s).getD z,.bool (f s).isSome])=u)
  (hK:wpList Tryz.prog ops Q rest (a.put o.dst u) w) :
  wpList Tryz.prog ops Q (o :: rest) a w:=by
 refine wpList_plain hg fun K' hK'=>?_;unfold Oper.wp;have cH:=h.lookOk ht hz hs;rw [hu] at cH;simp [execOp,eb,hm,hx,cH,Result.andThen];exact hK' _ _ hK
end Go.Proofs.YtfhghlpfeeiaeaaGreatDoor
namespace Go.Proofs.YtfhghlpfeeiaeaaGreatDoor
open Go.RowKit Go.IntWalk
namespace Sk
def mkN:Nat->List Ru->(Int->Option Value)->Int->Option Value
 | _,[],f=>f
 | i,r :: l,f=>mkN (i+1) l (putN f r.out (.int .i64 (i:Int)))
end Sk
theorem run_hint (n:Int) (w:World):(Instr.makeMap 87 (some (.int .i64 n))).run Tryz.prog w=.ok (.map (some w.heap.size)) (w.alloc (.map #[] 0)):=by
 simp [Instr.makeMap,run_underlying Tryz.underlying87,asInt,asIntOf,Result.andThen]
theorem zAr {ok:Nat->Prop} {w:World} {v:Value} {l:List Sk.Ru} (hl:HRus ok w v l) (aB:∀ r ∈ l,I64 r.out) :
  Calls Tryz.prog 58 #[v] w fun e w'=>e=.returned (.map (some w.heap.size))/\MapN w' w.heap.size l.length (Sk.mkN 0 l (fun _=>none))/\Below w.heap.size w w':=by
 obtain ⟨ao,cap,rfl,bH,cG,_⟩:=hl.at;have jX:=run_hint;obtain ⟨F,hF⟩:=nmQ (Sk.mkN 0 l (fun _=>none));rw [<-hF];have HR:=zBK (show F=Sk.mkN 0 (l.drop 0) (fun _=>none) by rw [List.drop_zero];exact hF);clear hF;have b0:Below w.heap.size w (w.alloc (.map #[] 0)):=(Below.refl _ _).alloc zBR _;have k0:=zBK (MapN.made w);have HL:=zBK hl;have HF:=zBK aB;clear hl aB;have HC:=zBK cG;unfold maxLen at cG;obtain ⟨n,hn⟩:=nmQ (l.length);rw [<-hn] at bH ⊢;have HN:=zBK hn;clear hn;go_enter Tryz.func58,Tryz.ntmps58;go_upto_region 2 with fail;generalize w.alloc (.map #[] 0)=w0 at b0 k0 ⊢;go_wp2_with fail;go_loopg [11] n (fun k v wr=>∃ (i:Nat) (f:Int->Option Value),i<=n/\k=n-i/\v=.int .i64 (i:Int)/\Hid (F=Sk.mkN i (l.drop i) f)/\Below w.heap.size w wr/\Hid (MapN wr w.heap.size i f))
 case atStart=>exact ⟨0,_,Nat.zero_le _,rfl,rfl,HR,b0,k0⟩
 case round=>
  clear b0 k0 HR;obtain ⟨i,f,hi,rfl,rfl,H,aH,kr⟩:=hrel;by_cases bd:i<n
  case neg=>
   have bp:i=n:=(by omega);subst bp;have e1:l.drop i=[]:=List.drop_of_length_le (by have:=HN.out;omega);have HZ:=zBK (show F=f by rw [H.out,e1];rfl);clear e1;go_wp2;exact bodyPost_ret (v:=.map (some w.heap.size)) (by simp [results,Tryz.results58,go_sem]) rfl ⟨rfl,by rw [HZ.out];exact kr.out,aH⟩
  case pos=>
   have dj:i<l.length:=(by have:=HN.out;omega);have hdr:l.drop i=l[i] :: l.drop (i+1):=List.drop_eq_getElem_cons dj;have bY:=H.out;rw [hdr] at bY;obtain ⟨gw,dk,eqs,_,_,bg⟩:=(HL.out.under aH).at;injection eqs with q1 q2 q3;subst q1;obtain ⟨bb,o,z,rfl,hb,bo,dA⟩:=bg i dj;obtain ⟨y,hy⟩:=nmQ (l[i]);have lF:=HF.out y (by rw [hy];exact List.getElem_mem dj);rw [<-hy] at bo dA bY;obtain ⟨e0,e1,e2,e3,e4,e5⟩:=bo;unfold Sk.mkN at bY;have bA:Below wr.heap.size wr (wr.alloc (.cells #[.int .i64 y.op,.int .i64 y.k,.int .i64 y.out,.int .i64 y.n,.slice z.aA z.nA z.cA,.slice z.aE z.nE z.cE] 42 (0,0))):=(Below.refl _ _).alloc zBR _;have BA:=aH.trans (bA.mono aH.size);have kA:=zBK (kr.out.keep (bA.block _ kr.out.lt));have kV:=zBO wr (.cells #[.int .i64 y.op,.int .i64 y.k,.int .i64 y.out,.int .i64 y.n,.slice z.aA z.nA z.cA,.slice z.aE z.nE z.cE] 42 (0,0));have cq:=zBK bY;have MJ:=zBK lF;clear bg q2 q3 hy hdr bY H dA lF;have BI:i<maxLen:=(by have:=HC.out;omega);have HI:=zBK BI;have zb:Hid (w.heap.size<=wr.heap.size):=zBK aH.size;clear BI;go_upto_region 5 with fail;generalize wr.alloc (.cells #[.int .i64 y.op,.int .i64 y.k,.int .i64 y.out,.int .i64 y.n,.slice z.aA z.nA z.cA,.slice z.aE z.nE z.cE] 42 (0,0))=wa at bA BA kA kV ⊢;have v0:=coQ kV 0;have v2:=coQ kV 2;simp at v0 v2
   go_wp2_with (at_mapUpdate;refine wpList_putN rfl _ _ _ 87 rfl 3 Tryz.underlying87 kA.out HI.out MJ.out rfl rfl ?_;intro w3 qj OJ)
   have B3:=BA.grown OJ BA.size (by rintro k hk;injection hk with hk;omega);go_roundg (n-(i+1))
   case measure=>omega
   case rel=>exact ⟨i+1,_,by omega,rfl,by go_num,cq,B3,zBK qj⟩
end Go.Proofs.YtfhghlpfeeiaeaaGreatDoor
namespace Go.Proofs.YtfhghlpfeeiaeaaGreatDoor
open Go.RowKit Go.IntWalk
namespace Sk
structure Way2 (S:Sys) (nd:List Bool) (L:List Int):Prop where
 len:nd.length=S.R.length
 sound:∀ i (h:i<S.R.length) (h2:i<nd.length),nd[i]=true->Reach S S.R[i]
 opened:∀ v ∈ L,v ∈ S.O\/∃ q,Reach S q/\v ∈ uses q
 outs:∀ i (h:i<S.R.length) (h2:i<nd.length),(S.R[i]).out ∈ S.O->nd[i]=true\/(S.R[i]).out ∈ L
 closed:∀ i (h:i<S.R.length) (h2:i<nd.length) j (h3:j<S.R.length) (h4:j<nd.length),nd[j]=true->(S.R[i]).out ∈ uses S.R[j]->nd[i]=true\/(S.R[i]).out ∈ L
theorem Way2.start (S:Sys):Way2 S (List.replicate S.R.length false) S.O where
 len:=by simp
 sound:=fun i h h2 e=>by simp at e
 opened:=fun v h=>.inl h
 outs:=fun i h h2 e=>.inr e
 closed:=fun i h h2 j h3 h4 e=>by simp at e
theorem Way2.done {S:Sys} {nd:List Bool} (h:Way2 S nd []):Signs S nd :=
 Signs.of h.len h.sound (fun i h1 h2 e=>(h.outs i h1 h2 e).resolve_right (by simp)) (fun i h1 h2 j h3 h4 e e2=>(h.closed i h1 h2 j h3 h4 e e2).resolve_right (by simp))
theorem Way2.pass {S:Sys} {nd:List Bool} {L:List Int} {v:Int} (h:Way2 S nd (L++[v])) (hp:∀ i (h:i<S.R.length) (h2:i<nd.length),(S.R[i]).out=v->nd[i]=true):Way2 S nd L where
 len:=h.len
 sound:=h.sound
 opened:=fun u hu=>h.opened u (by simp [hu])
 outs:=fun i h1 h2 e=>by
  rcases h.outs i h1 h2 e with q | q
  ·exact .inl q
  ·rcases List.mem_append.1 q with q | q
   ·exact .inr q
   ·exact .inl (hp i h1 h2 (by simpa using q))
 closed:=fun i h1 h2 j h3 h4 e e2=>by
  rcases h.closed i h1 h2 j h3 h4 e e2 with q | q
  ·exact .inl q
  ·rcases List.mem_append.1 q with q | q
   ·exact .inr q
   ·exact .inl (hp i h1 h2 (by simpa using q))
theorem Way2.take {S:Sys} {nd:List Bool} {L:List Int} {v:Int} {k:Nat} (h:Way2 S nd (L++[v])) (hk:k<S.R.length) (e:(S.R[k]).out=v) (one:∀ j (hj:j<S.R.length),(S.R[j]).out=v->j=k):Way2 S (nd.set k true) (L++uses S.R[k]):=by
 have hr:Reach S S.R[k]:=by
  rcases h.opened v (by simp) with q | ⟨q,hq,hu⟩
  ·exact .out (List.getElem_mem hk) (by rw [e];exact q)
  ·exact .use (List.getElem_mem hk) hq (by rw [e];exact hu)
 have gC:∀ i (h2:i<(nd.set k true).length),(nd.set k true)[i]=true↔i=k\/nd[i]'(by simpa using h2)=true:=by
  intro i h2;rw [List.getElem_set];by_cases q:k=i
  ·rw [if_pos q];exact ⟨fun _=>.inl q.symm,fun _=>rfl⟩
  ·rw [if_neg q];exact ⟨.inr,fun z=>z.resolve_left (fun y=>q y.symm)⟩
 refine ⟨by simp [h.len],fun i h1 h2 q=>?_,fun u hu=>?_,fun i h1 h2 q=>?_,fun i h1 h2 j h3 h4 q1 q2=>?_⟩
 ·rcases (gC i h2).1 q with rfl | q
  ·exact hr
  ·exact h.sound i h1 (by simpa using h2) q
 ·rcases List.mem_append.1 hu with hu | hu
  ·exact h.opened u (by simp [hu])
  ·exact .inr ⟨_,hr,hu⟩
 ·rcases h.outs i h1 (by simpa using h2) q with z | z
  ·exact .inl ((gC i h2).2 (.inr z))
  ·rcases List.mem_append.1 z with z | z
   ·exact .inr (by simp [z])
   ·exact .inl ((gC i h2).2 (.inl (one i h1 (by simpa using z))))
 ·rcases (gC j h4).1 q1 with rfl | q1
  ·exact .inr (by simp [q2])
  ·rcases h.closed i h1 (by simpa using h2) j h3 (by simpa using h4) q1 q2 with z | z
   ·exact .inl ((gC i h2).2 (.inr z))
   ·rcases List.mem_append.1 z with z | z
    ·exact .inr (by simp [z])
    ·exact .inl ((gC i h2).2 (.inl (one i h1 (by simpa using z))))
def unset:List Bool->Nat
 | []=>0
 | b :: l=>(if b=true then 0 else 1)+unset l
theorem unset_rep (n:Nat):unset (List.replicate n false)=n:=by
 induction n with
 | zero=>rfl
 | succ n ih=>rw [List.replicate_succ,unset,ih];simp;omega
theorem unset_set:∀ {nd:List Bool} {k:Nat} (h:k<nd.length),nd[k]=false->unset (nd.set k true)+1=unset nd
 | b :: l,0,h,e=>by
  have e:b=false:=(by simpa using e);subst e;simp [unset];omega
 | b :: l,k+1,h,e=>by
  have ih:=unset_set (nd:=l) (k:=k) (by simpa using h) (by simpa using e);simp [unset];omega
theorem mkN_out:∀ (l:List Ru) (i:Nat) (f:Int->Option Value) (v:Int),v ∉ l.map (·.out)->mkN i l f v=f v
 | [],_,_,_,_=>rfl
 | r :: l,i,f,v,h=>by
  have h1:v≠r.out:=fun e=>h (by simp [e]);have h2:v ∉ l.map (·.out):=fun e=>h (by simp at e ⊢;exact .inr e);unfold mkN;rw [mkN_out l _ _ v h2];unfold putN;rw [if_neg h1]
theorem mkN_in:∀ (l:List Ru) (i:Nat) (f:Int->Option Value) (hd:(l.map (·.out)).Nodup) (j:Nat) (h:j<l.length),mkN i l f (l[j]).out=some (.int .i64 ((i+j:Nat):Int))
 | r :: l,i,f,hd,0,h=>by
  unfold mkN;rw [List.map_cons,List.nodup_cons] at hd;rw [mkN_out l _ _ _ (by simpa using hd.1)];simp [putN]
 | r :: l,i,f,hd,j+1,h=>by
  unfold mkN;rw [List.map_cons,List.nodup_cons] at hd;have:=mkN_in l (i+1) (putN f r.out (.int .i64 (i:Int))) hd.2 j (by simpa using h);rw [show (i+(j+1))=i+1+j by omega]
  simpa using this
theorem mkN_cases {S:Sys} (ok:Okay S) (v:Int):(mkN 0 S.R (fun _=>none) v=none/\∀ i (h:i<S.R.length),(S.R[i]).out≠v)\/∃ k,∃ h:k<S.R.length,(S.R[k]).out=v/\mkN 0 S.R (fun _=>none) v=some (.int .i64 (k:Int))/\∀ j (hj:j<S.R.length),(S.R[j]).out=v->j=k:=by
 have nd:=ok.rulesN;by_cases h:v ∈ S.R.map (·.out)
 ·right
  obtain ⟨r,hr,e⟩:=List.mem_map.1 h;obtain ⟨k,hk,e2⟩:=List.getElem_of_mem hr;have e3:(S.R[k]).out=v:=(by rw [e2];exact e);refine ⟨k,hk,e3,?_,fun j hj ej=>?_⟩
  ·have:=mkN_in S.R 0 (fun _=>none) nd k hk
   rw [e3] at this
   simpa using this
  ·have h1:(S.R.map (·.out))[j]'(by simpa using hj)=(S.R.map (·.out))[k]'(by simpa using hk):=by simp [ej,e3]
   exact (List.getElem_inj nd).1 h1
 ·left
  exact ⟨mkN_out _ _ _ _ h,fun i hi e=>h (List.mem_map.2 ⟨_,List.getElem_mem hi,e⟩)⟩
end Sk
end Go.Proofs.YtfhghlpfeeiaeaaGreatDoor
namespace Go.Proofs.YtfhghlpfeeiaeaaGreatDoor
open Go.RowKit Go.IntWalk
theorem own_x {α:Type} {T:Kind α} {B:Nat} {w:World} {v:Value} {l:List α} (h:OwnL T B w v l):OwnX T (fun i=>B<=i) w v l:=by
 obtain ⟨D,h1,h3⟩:=h;exact ⟨D,⟨h1.1,by
  rcases h1.2 with q | ⟨g,cap,cur,e1,e2,e3⟩
  ·exact .inl q
  ·exact .inr ⟨g,cap,cur,e1,Nat.zero_le _,e3⟩⟩,fun k hk=>(World.ownsRow.lt h1 k hk).1,h3⟩
theorem join_ints {B N:Nat} {w:World} {v u:Value} {l r:List Int} (hv:OwnL kInt B w v l) (hu:OwnL kInt N w u r) (yX:∀ k,v.ownBlock=some k->k<N) (Ge:B<=N) (pP:B<=w.heap.size) (hn:l.length+r.length<=2000000000) :
  ∃ v' w',(Builtin.append_ #[23,23] 23 #[v,u]).run Tryz.prog w=.ok v' w'/\OwnL kInt B w' v' (l++r)/\w.grownBy w' v.ownBlock:=by
 obtain ⟨v',w',cH,hX,hg,gF⟩:=zCA kInt 23 23 Tryz.underlying23 (own_x hv) hu.row (fun k hk h=>by have:=yX k hk;omega) (by show (l.length+r.length)*8<=140737488355328;omega) (by unfold maxLen;omega);exact ⟨v',w',cH,zBt hX (fun k hk=>by
  rcases (hX.lt k hk).1 with q | q | q
  ·exact q
  ·exact Nat.le_trans Ge q
  ·exact Nat.le_trans pP q) (fun _ _ _ _ _ h=>h),hg⟩
end Go.Proofs.YtfhghlpfeeiaeaaGreatDoor
namespace Go.Proofs.YtfhghlpfeeiaeaaGreatDoor
open Go.RowKit Go.IntWalk
theorem usesT_len (A:List Int) (E:List Pu):(usesT A E).length<=A.length+E.length:=by
 unfold usesT;have h1:=Lib.compact_length_le ((usesL A E).mergeSort leB);have h2:((usesL A E).mergeSort leB).length=(usesL A E).length:=List.length_mergeSort _;have h3:=zCZ A E;omega
theorem own_len (op:Int) (E:List Pu):(Sk.ownE op E).length<=E.length:=by
 unfold Sk.ownE
 split
 ·exact Nat.zero_le _
 ·exact Nat.le_refl _
theorem way_bound {u v t l m K N:Nat} (h1:v+1=u) (h2:l<=K) (h3:m=t) (h4:u*K+(m+1)<=N):v*K+(t+l)<=N:=by
 rw [<-h1,Nat.succ_mul] at h4;generalize v*K=p at h4 ⊢;omega
namespace Sk
theorem Way2.wide {S:Sys} (ok:Okay S) {nd:List Bool} {L:List Int} (h:Way2 S nd L) {v:Int} (hv:v ∈ L):I64 v:=by
 have hV:=ok.nV;have key:0<=v/\v<S.V.length:=by
  rcases h.opened v hv with q | ⟨q,hq,hu⟩
  ·exact ok.outs v q
  ·rcases ok.used q hq.mem v hu with z | z
   ·exact ok.ins v z
   ·obtain ⟨r,hr,e⟩:=List.mem_map.1 z
    rw [<-e];exact (ok.rules r hr).1.1
 unfold I64;omega
end Sk
theorem needed28_any {ok:Nat->Prop} {w:World} {aV aI aO aR:Option Addr} {cV cI cO cR:Nat} {S:Sk.Sys} (hS:HSys ok w aV aI aO aR cV cI cO cR S) (okay:Sk.Okay S) (aB:∀ r ∈ S.R,r.A.length<=1000000/\r.E.length<=1000000) :
  Calls Tryz.prog 28 #[.agg #[.slice aV S.V.length cV,.slice aI S.I.length cI,.slice aO S.O.length cO,.slice aR S.R.length cR]] w fun e w'=>∃ g nd,e=.returned (.slice (some ⟨g,0,none⟩) S.R.length S.R.length)/\w.heap.size<=g/\Md w' g nd/\Sk.Signs S nd/\Below w.heap.size w w':=by
 have b0:Below w.heap.size w (w.alloc (.cells #[.slice aV S.V.length cV,.slice aI S.I.length cI,.slice aO S.O.length cO,.slice aR S.R.length cR] 26 (0,0))):=(Below.refl _ _).alloc zBR _;have k0:=zBO w (.cells #[.slice aV S.V.length cV,.slice aI S.I.length cI,.slice aO S.O.length cO,.slice aR S.R.length cR] 26 (0,0));have hm:=zAr (hS.R.under b0) (fun r hr=>by have h:=(okay.rules r hr).1.1;have hV:=okay.nV;unfold I64;omega);have oG:=zAH S.R.length (by have:=okay.nR;omega);obtain ⟨M,hM⟩:=nmQ (((List.replicate S.R.length false).map Value.bool).toArray);rw [<-hM] at oG;have Aj:=zBK hM;clear hM;have eV:=zBK okay;have HS:=zBK hS;have HF:=zBK aB;have Oy:=(HS.out.R.at);obtain ⟨yF,yH,lu,bY,ik,_⟩:=Oy;injection lu with q1 q2 q3;subst q1 q3;unfold maxLen at ik;have rq:S.R.length<=400:=okay.nR;clear hS aB okay q2;obtain ⟨F,hF⟩:=nmQ (Sk.mkN 0 S.R (fun _=>none));rw [<-hF] at hm;have I2:=zBK hF;clear hF;go_enter Tryz.func28,Tryz.ntmps28;go_upto_region 1 with fail;generalize w.alloc (.cells #[.slice aV S.V.length cV,.slice aI S.I.length cI,.slice aO S.O.length cO,.slice aR S.R.length cR] 26 (0,0))=w0 at b0 k0 hm ⊢;have s2:=coQ k0 2;have s3:=coQ k0 3;simp at s2 s3;go_wp2_with fail;refine hm.mono ?_;rintro e w1 ⟨rfl,xj,b1⟩;have B1:=b0.trans (b1.mono b0.size);have k1:=(b1.block _ (zBM k0)).trans k0;have GX:=zBM k0;have xm:=xj.lt;have jk:=zBK xj;obtain ⟨mb,BP⟩:=nmQ (w0.heap.size);rw [<-BP] at jk xm ⊢;have O1:w.heap.size<=mb:=(by rw [BP];exact b0.size);have O2:w.heap.size<mb:=(by rw [BP];exact GX);clear s2 s3 hm xj;have s2:=coQ k1 2;have s3:=coQ k1 3;simp at s2 s3;clear BP b1;go_upto_region 3 with fail;have Dp:Hid (Md (w1.alloc (.cells M 4 (0,0))) w1.heap.size (List.replicate S.R.length false)):=zBK (by have h:=zBO w1 (.cells M 4 (0,0));rw [Aj.out] at h ⊢;exact h);have b2:Below w1.heap.size w1 (w1.alloc (.cells M 4 (0,0))):=(Below.refl _ _).alloc zBR _;have z2:w1.heap.size<(w1.alloc (.cells M 4 (0,0))).heap.size:=(by simp);generalize w1.alloc (.cells M 4 (0,0))=w2 at Dp b2 z2 ⊢;obtain ⟨nb,Ce⟩:=nmQ (w1.heap.size);have B2:=B1.trans (b2.mono B1.size);have k2:=(b2.block _ (zBM k1)).trans k1;have mS:=zBK (jk.out.keep (b2.block _ xm));have Cf:w.heap.size<=nb:=(by rw [Ce];exact B1.size);have Cg:mb≠nb:=(by rw [Ce];omega);have Ch:w.heap.size≠nb:=(by rw [Ce];have:=zBM k1;omega);rw [<-Ce] at Dp z2 ⊢;clear s2 s3 jk xm oG Ce b2;have s2:=coQ k2 2;simp at s2;have gE:=zBk (HS.out.O.under B2) (by have:=eV.out.nO;omega);go_wp2_with fail;refine gE.mono ?_;rintro e w3 ⟨vo,rfl,cf,b3⟩;have B3:=B2.trans (b3.mono B2.size);have k3:=(b3.block _ (zBM k2)).trans k2;have tE:=zBK (mS.out.keep (b3.block _ mS.out.lt));have Am:=zBK (Dp.out.under b3);have fR:=zBK cf;obtain ⟨B,hB⟩:=nmQ (w2.heap.size);rw [<-hB] at fR;have Ob:mb<B:=(by rw [hB];exact mS.out.lt);have Kg:nb<B:=(by rw [hB];exact z2);have Oc:w.heap.size<B:=(by rw [hB];exact zBM k2);have Kh:B<=w3.heap.size:=(by rw [hB];exact b3.size);have HW:=zBK (Sk.Way2.start S);have HU:=zBK (show Sk.unset (List.replicate S.R.length false)*2000000+S.O.length<=800000400 by rw [Sk.unset_rep];have:=eV.out.nO;omega);clear hB cf gE mS Dp s2 z2 b3;go_wp2_with fail;go_loopg [5] (Sk.unset (List.replicate S.R.length false)*2000001+S.O.length) (fun k v wr=>∃ (nd:List Bool) (L:List Int),k=Sk.unset nd*2000001+L.length/\Hid (OwnL kInt B wr v L)/\Hid (Md wr nb nd)/\Hid (MapN wr mb S.R.length F)/\Hid (Sk.Way2 S nd L)/\Hid (Sk.unset nd*2000000+L.length<=800000400)/\Below w.heap.size w wr/\wr.heap[w.heap.size]?=some (.cells #[.slice aV S.V.length cV,.slice aI S.I.length cI,.slice aO S.O.length cO,.slice aR S.R.length cR] 26 (0,0))/\B<=wr.heap.size)
 case atStart=>exact ⟨_,_,rfl,fR,Am,tE,HW,HU,B3,k3,Kh⟩
 case round=>
  clear fR Am tE HW HU B3 k3 Kh;obtain ⟨nd,L,rfl,fR,od,jk,HW,HU,aH,kr,Ki⟩:=hrel;obtain ⟨a,c,rfl,bH,cG⟩:=fR.out.form;rcases List.eq_nil_or_concat L with rfl | ⟨T,x,rfl⟩
  ·go_wp2
   exact bodyPost_ret (v:=.slice (some ⟨nb,0,none⟩) S.R.length S.R.length) (by simp [results,Tryz.results28,go_sem]) rfl ⟨nb,nd,rfl,Cf,od.out,HW.out.done,aH⟩
  ·rw [List.concat_eq_append] at *
   have HJ:I64 x:=HW.out.wide eV.out (by simp);obtain ⟨a1,c1,eqs,_,_,bo⟩:=HInts.at fR.out.row;injection eqs with q1 q2 q3;subst q1 q3;obtain ⟨g,o,rfl,hg,hx⟩:=bo T.length (by simp);have lM:wr.cell? ⟨g,o+T.length,none⟩=some (.int .i64 x):=(by rw [hx];simp);have hl:(T++[x]).length=T.length+1:=(by simp);have jE:=zBK (show OwnL kInt B wr (.slice (some ⟨g,o,none⟩) T.length c) T by
    have h:=fR.out.cut (m:=T.length) (by simp)
    simpa using h)
   have AN:=zBK (show Sk.unset nd*2000000+(T.length+1)<=800000400 by have:=HU.out;rw [hl] at this;exact this);rw [hl] at bH ⊢;have HL:=zBK hl;obtain ⟨m,hm⟩:=nmQ (T.length);rw [<-hm] at bH lM jE AN ⊢;have HM:=zBK hm;unfold maxLen at cG;have Rp:m<=800000400:=(by have:=AN.out;omega);have Bw:B<=g:=(jE.out.lt g rfl).1;clear hl hx bo fR HU q2 hm;rcases Sk.mkN_cases eV.out x with ⟨sN,uk⟩ | ⟨k,hk,GQ,nf,aj⟩
   ·have hu:Value.tuple #[(F x).getD (.int .i64 0),.bool (F x).isSome]=.tuple #[.int .i64 0,.bool false]:=by rw [I2.out,sN];rfl
    have pD:=zBK (HW.out.pass (fun i h1 h2 e=>absurd e (uk i h1)));clear sN uk HW
    go_wp2_with (at_lookup;refine zCS rfl _ _ 87 rfl 3 Tryz.underlying87 (zero3k _) jk.out HJ rfl rfl hu ?_)
    go_roundg (Sk.unset nd*2000001+m)
    case measure=>have h1:=HL.out;have h2:=HM.out;omega
    case rel=>exact ⟨nd,T,by rw [HM.out],jE,od,jk,pD,zBK (by have:=AN.out;rw [<-HM.out];omega),aH,kr,Ki⟩
   ·have hu:Value.tuple #[(F x).getD (.int .i64 0),.bool (F x).isSome]=.tuple #[.int .i64 (k:Int),.bool true]:=by rw [I2.out,nf];rfl
    have nK:k<nd.length:=(by rw [HW.out.len];exact hk);have ct:=od.out.cell nK;clear nf;obtain ⟨q,hq⟩:=nmQ (nd[k]);rw [<-hq] at ct
    cases q
    case true=>
     have pD:=zBK (HW.out.pass (fun i h1 h2 e=>by
      obtain rfl:=aj i h1 e;exact hq.symm))
     clear aj GQ HW hq
     go_wp2_with (at_lookup;refine zCS rfl _ _ 87 rfl 3 Tryz.underlying87 (zero3k _) jk.out HJ rfl rfl hu ?_)
     go_roundg (Sk.unset nd*2000001+m)
     case measure=>have h1:=HL.out;have h2:=HM.out;omega
     case rel=>exact ⟨nd,T,by rw [HM.out],jE,od,jk,pD,zBK (by have:=AN.out;rw [<-HM.out];omega),aH,kr,Ki⟩
    case false=>
     have pD:=zBK (HW.out.take hk GQ aj);have mm:=zBK (Sk.unset_set nK hq.symm);have fr:=foQ od.out k;have hne:nb≠w.heap.size:=fun e=>Ch e.symm;have KS:(wr.setCell ⟨nb,k,none⟩ (.bool true)).heap[w.heap.size]?=some (.cells #[.slice aV S.V.length cV,.slice aI S.I.length cI,.slice aO S.O.length cO,.slice aR S.R.length cR] 26 (0,0)):=(Below.heap_setCell _ _ _ _ (by first | exact Ch | exact hne)).trans kr;have MS:=zBK (od.out.put nK true);have PS:=zBK (jk.out.keep (Below.heap_setCell wr ⟨nb,k,none⟩ (.bool true) mb (by first | exact Cg | exact fun e=>Cg e.symm)));have CS:=zBK (jE.out.set (p:=⟨nb,k,none⟩) Kg (.bool true));have BS:=aH.setCell (p:=⟨nb,k,none⟩) Cf (.bool true);have zS:(wr.setCell ⟨nb,k,none⟩ (.bool true)).heap.size=wr.heap.size:=(by simp [World.setCell]);clear aj GQ HW hq od kr;go_upto_region 10 with (at_lookup;refine zCS rfl _ _ 87 rfl 3 Tryz.underlying87 (zero3k _) jk.out HJ rfl rfl hu ?_);clear jk jE aH ct fr lM;generalize wr.setCell ⟨nb,k,none⟩ (.bool true)=ws at KS MS PS CS BS zS ⊢;have s3:=coQ KS 3;simp at s3;obtain ⟨k8,nB,eqs,_,_,bg⟩:=(HS.out.R.under BS).at;injection eqs with q1 q2 q3;subst q1 q3;obtain ⟨bb,oo,z,rfl,hb,sm,dA⟩:=bg k hk;obtain ⟨y,hy⟩:=nmQ (S.R[k]);have lF:=HF.out y (by rw [hy];exact List.getElem_mem hk);rw [<-hy] at sm dA pD;obtain ⟨e0,e1,e2,e3,e4,e5⟩:=sm;have ld:=usedBy59_any y.op y.k y.out y.n dA.A dA.E lF.1 lF.2;have FH:=zBK (show (usesT y.A (Sk.ownE y.op y.E)).length<=2000000 from by
      have h1:=usesT_len y.A (Sk.ownE y.op y.E);have h2:=own_len y.op y.E;have h3:=lF.1;have h4:=lF.2;omega)
     have mV:=zBK (show Sk.unset (nd.set k true)*2000000+(T++usesT y.A (Sk.ownE y.op y.E)).length<=800000400 by
      rw [List.length_append];exact way_bound mm.out FH.out HM.out AN.out)
     clear bg q2 hy lF dA;go_wp2_with fail;refine ld.mono ?_;rintro e w5 ⟨u,rfl,mJ,b5⟩;have B5:=BS.trans (b5.mono BS.size);have K5:=(b5.block _ (zBM KS)).trans KS;have M5:=zBK (MS.out.under b5);have P5:=zBK (PS.out.keep (b5.block _ PS.out.lt));obtain ⟨v6,w6,cH,ob,DU⟩:=join_ints (CS.out.below b5) mJ (fun k hk=>(CS.out.lt k hk).2) (by omega) (by have:=b5.size;omega) (by have:=FH.out;rw [<-HM.out];omega);have B6:=B5.grown DU B5.size (fun k hk=>by have e:some g=some k:=hk;injection e with e;omega);have DS:∀ i,i<B->w6.heap[i]?=w5.heap[i]?:=fun i hi=>DU.block i (by have:=b5.size;omega) (fun e=>by have e2:some i=some g:=e;injection e2 with e2;omega);have K6:=(DS _ Oc).trans K5;have M6:=zBK (show Md w6 nb _ from (DS _ Kg).trans M5.out);have P6:=zBK (P5.out.keep (DS _ Ob));have H6:=zBK ob;have z6:B<=w6.heap.size:=(by have:=DU.size;have:=b5.size;omega);have Fz:=zBK cH;clear ld mJ b5 ob DU DS M5 P5 MS PS CS cH KS;have jv:=Fz.out
     go_wp2_with (at_builtin;refine zBc rfl _ _ 23 rfl _ _ _ (by rfl) (by rfl) jv ?_)
     go_roundg (Sk.unset (nd.set k true)*2000001+(T++usesT y.A (Sk.ownE y.op y.E)).length)
     case measure=>
      have h1:=mm.out;have h2:=FH.out;have h3:=HM.out;have h4:=HL.out;rw [List.length_append];omega
     case rel=>
      exact ⟨_,_,rfl,H6,M6,P6,pD,mV,B6,K6,z6⟩
end Go.Proofs.YtfhghlpfeeiaeaaGreatDoor
namespace Go.Proofs.YtfhghlpfeeiaeaaGreatDoor
open Go.RowKit Go.IntWalk
def NeedPost (w:World) (S:Sk.Sys) (e:Ending) (w':World):Prop :=
 ((Sk.check S).1≠0/\e=.returned (.tuple #[.slice none 0 0,.agg #[.int .i64 (Sk.check S).1,.int .i64 (Sk.check S).2]])/\Below w.heap.size w w') \/
 (Sk.Okay S/\∃ g nd,e=.returned (.tuple #[.slice (some ⟨g,0,none⟩) S.R.length S.R.length,.agg #[.int .i64 0,.int .i64 0]])/\w.heap.size<=g/\Md w' g nd/\Sk.Signs S nd/\Below w.heap.size w w')
theorem needed12_any {ok:Nat->Prop} {w:World} {aV aI aO aR:Option Addr} {cV cI cO cR:Nat} {S:Sk.Sys} (hG:GlobK w) (hP:GlobP w) (hS:HSys ok w aV aI aO aR cV cI cO cR S) (aB:∀ r ∈ S.R,r.A.length<=1000000/\r.E.length<=1000000) :
  Calls Tryz.prog 12 #[.agg #[.slice aV S.V.length cV,.slice aI S.I.length cI,.slice aO S.O.length cO,.slice aR S.R.length cR]] w (NeedPost w S):=by
 have b1:Below w.heap.size w ((w.alloc (.cells #[.slice aV S.V.length cV,.slice aI S.I.length cI,.slice aO S.O.length cO,.slice aR S.R.length cR] 26 (0,0))).alloc (.cells #[.int .i64 0,.int .i64 0] 32 (0,0))):=((Below.refl _ _).alloc zBR _).alloc (by simp) _;have kS:((w.alloc (.cells #[.slice aV S.V.length cV,.slice aI S.I.length cI,.slice aO S.O.length cO,.slice aR S.R.length cR] 26 (0,0))).alloc (.cells #[.int .i64 0,.int .i64 0] 32 (0,0))).heap[w.heap.size]?=some (.cells #[.slice aV S.V.length cV,.slice aI S.I.length cI,.slice aO S.O.length cO,.slice aR S.R.length cR] 26 (0,0)):=(Below.heap_alloc _ _ _ (by simp)).trans (zBO w _);have kF:((w.alloc (.cells #[.slice aV S.V.length cV,.slice aI S.I.length cI,.slice aO S.O.length cO,.slice aR S.R.length cR] 26 (0,0))).alloc (.cells #[.int .i64 0,.int .i64 0] 32 (0,0))).heap[w.heap.size+1]?=some (.cells #[.int .i64 0,.int .i64 0] 32 (0,0)):=by
  have:=zBO (w.alloc (.cells #[.slice aV S.V.length cV,.slice aI S.I.length cI,.slice aO S.O.length cO,.slice aR S.R.length cR] 26 (0,0))) (.cells #[.int .i64 0,.int .i64 0] 32 (0,0))
  simpa using this
 have mZ:=check_any (hG.under b1) (hP.under b1) (hS.under b1) aB;have EG:=zBK (Sk.check_code S);have IX:=zBK ((Sk.check_zero S).1);have HS:=zBK hS;have HF:=zBK aB;clear hS aB hG hP;unfold NeedPost;generalize Sk.check S=F at mZ EG IX ⊢;obtain ⟨f1,f2⟩:=F
 dsimp only at mZ EG ⊢
 go_enter Tryz.func12,Tryz.ntmps12;go_upto_region 1 with fail;generalize (w.alloc (.cells #[.slice aV S.V.length cV,.slice aI S.I.length cI,.slice aO S.O.length cO,.slice aR S.R.length cR] 26 (0,0))).alloc (.cells #[.int .i64 0,.int .i64 0] 32 (0,0))=w1 at b1 kS kF mZ ⊢;have s0:=coQ kS 0;have s1:=coQ kS 1;have s2:=coQ kS 2;have s3:=coQ kS 3;simp at s0 s1 s2 s3;go_wp2_with fail;refine mZ.mono ?_;rintro e w2 ⟨rfl,b2⟩;have B2:=b1.trans (b2.mono b1.size);have gu:=(b2.block _ (zBM kS)).trans kS;have fP:=(b2.block _ (zBM kF)).trans kF;have z12:w.heap.size+1<w2.heap.size:=zBM fP;have b3:Below w2.heap.size w2 (w2.alloc (.cells #[.int .i64 f1,.int .i64 f2] 32 (0,0))):=(Below.refl _ _).alloc zBR _;have kE:=zBO w2 (.cells #[.int .i64 f1,.int .i64 f2] 32 (0,0));have fG:=(b3.block _ (zBM gu)).trans gu;have fC:=(b3.block _ (zBM fP)).trans fP;have B3:=B2.trans (b3.mono B2.size);clear mZ s0 s1 s2 s3 kS kF gu fP b1 b2 b3;go_upto_region 2 with fail;generalize w2.alloc (.cells #[.int .i64 f1,.int .i64 f2] 32 (0,0))=w3 at kE fG fC B3 ⊢;have e0:=coQ kE 0;have e1:=coQ kE 1;simp at e0 e1;by_cases hne:f1=0
 case neg=>
  have sL:(f1 != 0)=true:=(by simp [hne]);have Ao:=zBK hne;clear hne fG;go_upto_region 3 with fail;have yE:=zBM kE;have zF:=zBM fC;have um:w2.heap.size ∉ [w.heap.size+1]:=(by simp;have:=z12;omega);refine zBP (fun w'=>Aside [w.heap.size+1] w3.heap.size w3 w') (fun i=>i==2) (by kernel_rfl) ?_;have ab:Aside [w.heap.size+1] w3.heap.size w3 w3.drew:=(Aside.refl _).drew;have bz:Below w3.heap.size w3 w3.drew:=(Below.refl _ _).drew;generalize w3.drew=ag at ab bz ⊢;refine' tkQ 0 10 ab ?hyv ?o1
  case hyv=>
   intro wz hSw;have aq:=(zBL hSw (p:=⟨w2.heap.size,0,none⟩) yE um).trans e0;have av:=(zBL hSw (p:=⟨w2.heap.size,1,none⟩) yE um).trans e1;go_simp
   try rfl
  try simp only [Act.put,sT,sZ,sS]
  refine' tkR 1 2 ab ?o2
  refine tnQ 2 (fun K hK=>?_);have gH:=(bz.block _ zF).trans fC;have B4:=B3.trans (bz.mono B3.size);have z0:=coQ gH 0;have z1:=coQ gH 1;have Mr:=foQ gH 0;have Ms:=foQ gH 1;simp at z0 z1;have jq:=zBQ (zBQ gH 0 (.int .i64 f1)) 1 (.int .i64 f2);have BZ:=(B4.setCell (p:=⟨w.heap.size+1,0,none⟩) (by simp) (.int .i64 f1)).setCell (p:=⟨w.heap.size+1,1,none⟩) (by simp) (.int .i64 f2);have r0:=coQ jq 0;have r1:=coQ jq 1;simp at r0 r1;clear jq;go_simp;refine hK.out _ _ (fun h=>absurd h (by decide)) ?_;clear hK K
  try simp only [Act.put,sT,sZ,sS]
  refine zBN (by kernel_rfl) ?_ _;go_wp2;exact bodyPost_ret (v:=.tuple #[.slice none 0 0,.agg #[.int .i64 f1,.int .i64 f2]]) (by simp [results,Tryz.results12,go_sem,r0,r1]) rfl (.inl ⟨Ao.out,rfl,BZ⟩)
 case pos=>
  subst hne;have fN:Sk.Okay S:=IX.out (EG.out rfl);have jZ:=needed28_any (HS.out.under B3) fN HF.out;have s0:=coQ fG 0;have s1:=coQ fG 1;have s2:=coQ fG 2;have s3:=coQ fG 3;simp at s0 s1 s2 s3;have eV:=zBK fN;clear fN;go_wp2_with fail;refine jZ.mono ?_;rintro e w4 ⟨g,nd,rfl,hg,sK,oM,b4⟩;have B4:=B3.trans (b4.mono B3.size);have gH:=(b4.block _ (zBM fC)).trans fC;have zF:=zBM fC;have z0:=coQ gH 0;have z1:=coQ gH 1;have Mr:=foQ gH 0;have Ms:=foQ gH 1;simp at z0 z1;have jq:=zBQ (zBQ gH 0 (.int .i64 0)) 1 (.int .i64 0);have BZ:=(B4.setCell (p:=⟨w.heap.size+1,0,none⟩) (by simp) (.int .i64 0)).setCell (p:=⟨w.heap.size+1,1,none⟩) (by simp) (.int .i64 0);have MZ:=zBT (p:=⟨w.heap.size+1,1,none⟩) (zBT (p:=⟨w.heap.size+1,0,none⟩) sK (by show w.heap.size+1≠g;have:=zBM kE;have:=z12;omega) (.int .i64 0)) (by show w.heap.size+1≠g;have:=zBM kE;have:=z12;omega) (.int .i64 0);have r0:=coQ jq 0;have r1:=coQ jq 1;simp at r0 r1;have HG:=zBK (show w.heap.size<=g by have:=B3.size;omega);have vJ:=zBK oM;have MT:=zBK MZ;clear jq jZ s0 s1 s2 s3 sK oM MZ hg;go_wp2;exact bodyPost_ret (v:=.tuple #[.slice (some ⟨g,0,none⟩) S.R.length S.R.length,.agg #[.int .i64 0,.int .i64 0]]) (by simp [results,Tryz.results12,go_sem,r0,r1]) rfl (.inr ⟨eV.out,g,nd,rfl,HG.out,MT.out,vJ.out,BZ⟩)
end Go.Proofs.YtfhghlpfeeiaeaaGreatDoor
