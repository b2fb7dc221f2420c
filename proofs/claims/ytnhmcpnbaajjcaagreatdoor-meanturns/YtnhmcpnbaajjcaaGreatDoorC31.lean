import Derived.Test.YtnhmcpnbaajjcaaGreatDoorC27
import Derived.Deep.Cut
import Derived.Deep.LoopGhost
import Derived.IntWalk
import Derived.Laws.Cover1
import Derived.Lib.Hide
import Derived.WalkKit
import Derived.WalkSpells
import Derived.Ground.NamesProg
import Derived.Laws.EntriesVeiled
import Derived.Laws.Externs
import Derived.Lib.MakeNoZero
import Derived.Lib.SlBuf
import Derived.Shelf.Bytes.SlSmallAll
import Derived.Shelf.Lay
set_option linter.unusedVariables false
set_option linter.unusedSimpArgs false
set_option maxHeartbeats 64000000
set_option maxRecDepth 100000
namespace Go.Proofs.YtnhmcpnbaajjcaaGreatDoor
open Go.RowKit Go.IntWalk
namespace Sk
structure Fine (V:List Vr) (L:List Int) (C:List (List Int)):Prop where
 len:C.length=V.length
 made:∀ x ∈ L,(cAt C x).length=cnt (vAt V x)
theorem cAt_set {C:List (List Int)} {x y:Int} {l:List Int} (hx:0<=x/\x<C.length) (hy:0<=y):cAt (C.set x.toNat l) y=if y=x then l else cAt C y:=by
 unfold cAt;by_cases e:y=x
 ·subst e
  have:y.toNat<C.length:=(by omega);simp [List.getD_eq_getElem?_getD,this]
 ·have:¬x.toNat=y.toNat:=by omega
  rw [if_neg e];simp [List.getD_eq_getElem?_getD,this]
theorem Fine.set {V:List Vr} {L:List Int} {C:List (List Int)} (h:Fine V L C) {x:Int} {l:List Int} (hx:0<=x/\x<V.length) (hl:l.length=cnt (vAt V x)) (hL:∀ y ∈ L,0<=y):Fine V (L++[x]) (C.set x.toNat l):=by
 refine ⟨by rw [List.length_set];exact h.len,fun y hy=>?_⟩;have hx2:0<=x/\x<C.length:=(by rw [h.len];exact hx);have hy0:0<=y:=by
  rcases List.mem_append.1 hy with q | q
  ·exact hL y q
  ·simp at q;omega
 rw [cAt_set hx2 hy0];by_cases e:y=x
 ·rw [if_pos e,e];exact hl
 ·rw [if_neg e]
  rcases List.mem_append.1 hy with q | q
  ·exact h.made y q
  ·simp at q;exact absurd q e
def AhFine (V:List Vr) (ah:Int->Option (List Int)):Prop:=∀ x l,ah x=some l->l.length=cnt (vAt V x)
theorem evalR_len (V:List Vr) (C:List (List Int)) (ah:Int->Option (List Int)) (r:Ru):(evalR V C ah r).length=cnt (vAt V r.out):=by simp [evalR]
theorem fine_rfit {S:Sys} (ok:Okay S) (hh:Ahead S) {ah:Int->Option (List Int)} (hah:AhFine S.V ah) {i:Nat} (hi:i<S.R.length) {C:List (List Int)} (h:Fine S.V (S.I++(S.R.take i).map (·.out)) C):RFit S.V C ah S.R[i]:=by
 have hr:=ok.rules S.R[i] (List.getElem_mem _);exact rfit_of ok.vars h.len hr.1.1 hr.2 (fun z hz=>h.made z (by have:=hh i hi z hz;simpa using this)) (fun _ l hl=>hah _ l hl)
theorem fine_pos {S:Sys} (ok:Okay S) (i:Nat):∀ y ∈ S.I++(S.R.take i).map (·.out),0<=y:=by
 intro y hy;rcases List.mem_append.1 hy with q | q
 ·exact (ok.ins y q).1
 ·obtain ⟨r,hr,e⟩:=List.mem_map.1 q
  rw [<-e];exact (ok.rules r (List.mem_of_mem_take hr)).1.1.1
theorem fine_step {S:Sys} (ok:Okay S) {ah:Int->Option (List Int)} {i:Nat} (hi:i<S.R.length) {C:List (List Int)} (h:Fine S.V (S.I++(S.R.take i).map (·.out)) C):Fine S.V (S.I++(S.R.take (i+1)).map (·.out)) (C.set (S.R[i]).out.toNat (evalR S.V C ah S.R[i])):=by
 have:=h.set (ok.rules S.R[i] (List.getElem_mem _)).1.1 (evalR_len S.V C ah S.R[i]) (fine_pos ok i);rw [List.take_succ_eq_append_getElem hi,List.map_append,<-List.append_assoc];exact this
theorem runR_fine {S:Sys} (ok:Okay S) {ah:Int->Option (List Int)}:∀ (n i:Nat) {C:List (List Int)},n+i=S.R.length->Fine S.V (S.I++(S.R.take i).map (·.out)) C->Fine S.V (S.I++S.R.map (·.out)) (runR S.V ah C (S.R.drop i))
 | 0,i,C,e,h=>by
  have e2:i=S.R.length:=(by omega);subst e2;rw [List.drop_length];rw [List.take_length] at h;exact h
 | n+1,i,C,e,h=>by
  have hi:i<S.R.length:=(by omega);rw [List.drop_eq_getElem_cons hi];unfold runR;exact runR_fine ok n (i+1) (by omega) (fine_step ok hi h)
def wid (V:List Vr):List Int->Nat
 | []=>0
 | x :: r=>cnt (vAt V x)+wid V r
theorem wid_append (V:List Vr):∀ (a b:List Int),wid V (a++b)=wid V a+wid V b
 | [],b=>by simp [wid]
 | x :: r,b=>by
  rw [List.cons_append,wid,wid,wid_append V r b];omega
theorem width_wid {V:List Vr}:∀ (I:List Int),(∀ x ∈ I,0<=x/\x<V.length)->width V I=wid V I
 | [],_=>rfl
 | x :: r,h=>by
  unfold width;rw [if_pos (h x (by simp)),width_wid r fun y hy=>h y (by simp [hy])];simp [wid]
theorem wid_take_le (V:List Vr) (I:List Int) (j:Nat) (hj:j<I.length):wid V (I.take j)+cnt (vAt V I[j])<=wid V I:=by
 have e:I=I.take j++I[j] :: I.drop (j+1):=(by rw [<-List.drop_eq_getElem_cons hj,List.take_append_drop]);have:wid V I=wid V (I.take j++I[j] :: I.drop (j+1)):=(by rw [<-e]);rw [this,wid_append,wid];omega
theorem wid_succ (V:List Vr) (I:List Int) (j:Nat) (hj:j<I.length):wid V (I.take (j+1))=wid V (I.take j)+cnt (vAt V I[j]):=by
 rw [List.take_succ_eq_append_getElem hj,wid_append,wid,wid];omega
theorem takeV_fine {S:Sys} (ok:Okay S) {inp:List Int} (hw:inp.length=width S.V S.I):∀ (n j:Nat) {C:List (List Int)},n+j=S.I.length->Fine S.V (S.I.take j) C->(takeV S.V inp (wid S.V (S.I.take j)) (S.I.drop j) C).1.1=0->Fine S.V S.I (takeV S.V inp (wid S.V (S.I.take j)) (S.I.drop j) C).2
 | 0,j,C,e,h,_=>by
  have e2:j=S.I.length:=(by omega);subst e2;rw [List.drop_length];rw [List.take_length] at h;exact h
 | n+1,j,C,e,h,hz=>by
  have hj:j<S.I.length:=(by omega);rw [List.drop_eq_getElem_cons hj] at hz ⊢;unfold takeV at hz ⊢
  split at hz
  ·simp at hz
  ·rename_i hn
   rw [if_neg hn];rw [<-wid_succ S.V S.I j hj] at hz ⊢;refine takeV_fine ok hw n (j+1) (by omega) ?_ hz;have hl:((inp.drop (wid S.V (S.I.take j))).take (cnt (vAt S.V S.I[j]))).length=cnt (vAt S.V S.I[j]):=by
    have:=wid_take_le S.V S.I j hj;rw [List.length_take,List.length_drop,hw,width_wid S.I ok.ins];omega
   have:=h.set (ok.ins S.I[j] (List.getElem_mem _)) hl fun y hy=>(ok.ins y (List.mem_of_mem_take hy)).1;rw [List.take_succ_eq_append_getElem hj];exact this
theorem fine_start (V:List Vr):Fine V [] (List.replicate V.length []):=⟨by simp,fun x hx=>by cases hx⟩
theorem keepF_fine {V:List Vr} {C:List (List Int)}:∀ (R:List Ru) {f:Int->Option (List Int)},AhFine V f->(∀ r ∈ R,r.op=13->(cAt C (aN r 1)).length=cnt (vAt V (aN r 1)))->AhFine V (keepF C f R)
 | [],f,h,_=>h
 | r :: l,f,h,hr=>by
  unfold keepF;refine keepF_fine l ?_ fun q hq=>hr q (by simp [hq])
  split
  ·rename_i e
   intro x t ht;unfold putA at ht
   split at ht
   ·rename_i ex
    injection ht with ht;rw [<-ht,ex];exact hr r (by simp) e
   ·exact h x t ht
  ·exact h
theorem pre_used {V:List Vr} {r:Ru} (h:RuOk V r) (e:r.op=13):r.A.length=2/\aN r 1 ∈ uses r:=by
 have hform:=h.form;unfold hasForm at hform;rw [Bool.and_eq_true,Bool.and_eq_true,decide_eq_true_iff,decide_eq_true_iff,beq_iff_eq] at hform;have hA:=hform.2;rw [e] at hA;have:partsT.getD (13:Int).toNat 0=2:=rfl;rw [this] at hA;have hl:r.A.length=2:=(by omega);exact ⟨hl,uses_A (aN_mem (by omega))⟩
theorem keep_fine {S:Sys} (ok:Okay S) {C:List (List Int)} (h:Fine S.V (S.I++S.R.map (·.out)) C):AhFine S.V (keepF C (fun _=>none) S.R):=by
 refine keepF_fine S.R (fun x l hl=>by cases hl) fun r hr e=>?_;have:=(pre_used (ok.rules r hr).2 e).2;exact h.made _ (by have:=ok.used r hr _ this;simpa using this)
theorem rowT_fine {S:Sys} (ok:Okay S) {ah:Int->Option (List Int)} (hah:AhFine S.V ah) (inp:List Int):AhFine S.V (rowT S ah inp).2:=by
 unfold rowT
 split
 ·exact hah
 ·rename_i hw
  split
  ·exact hah
  ·rename_i hz
   have h1:=takeV_fine ok (by simpa using hw) S.I.length 0 (by omega) (fine_start S.V) (by simpa [wid] using hz);have h2:=runR_fine ok (ah:=ah) S.R.length 0 (by omega) (by simpa using h1);refine keep_fine ok ?_
   simpa [wid] using h2
end Sk
end Go.Proofs.YtnhmcpnbaajjcaaGreatDoor
namespace Go.Proofs.YtnhmcpnbaajjcaaGreatDoor
open Go.RowKit Go.IntWalk
theorem Tryz.infoLL:(Tryz.prog.info? 52).map (fun i=>(i.zero,i.size,i.bytes))=some (some (.slice none 0 0),1,24):=by kernel_rfl
def kLL:Kind (List Int) where
 ty:=52
 k:=1
 bytes:=24
 zero:=.slice none 0 0
 E:=fun ok w cs l=>∃ u,cs=[u]/\HInts ok w u l
 pos:=by decide
 zs:=rfl
 info:=Tryz.infoLL
 len:=by rintro _ _ _ _ ⟨u,rfl,_⟩;rfl
 one:=by
  rintro _ _ _ _ ⟨u,rfl,h⟩ v hv;simp at hv;subst hv;obtain ⟨ao,cap,rfl,_⟩:=h.at;rfl
 keep:=by rintro _ _ _ _ _ ⟨u,rfl,h⟩ hs hk;exact ⟨u,rfl,h.keep hs hk⟩
 wide:=by rintro _ _ _ _ _ ⟨u,rfl,h⟩ hk;exact ⟨u,rfl,h.wide hk⟩
theorem HRow.llAt {ok:Nat->Prop} {w:World} {v:Value} {l:List (List Int)} (h:HRow kLL ok w v l) :
  ∃ ao cap,v=.slice ao l.length cap/\l.length<=cap/\cap<=maxLen/\∀ i (h:i<l.length),∃ b o u,ao=some ⟨b,o,none⟩/\b<w.heap.size/\w.cell? ⟨b,o+i,none⟩=some u/\HInts ok w u l[i]:=by
 obtain ⟨C,⟨ao,cap,hv,h1,h2,h3⟩,hC⟩:=h;refine ⟨ao,cap,hv,h1,h2,fun i hi=>?_⟩;obtain ⟨b,o,ha,hob,hb,hc⟩:=h3 (by omega);obtain ⟨u,e,hu⟩:=hC i hi;have:=(hc i hi).2 0 (by decide);rw [e] at this;exact ⟨b,o,u,ha,hb,by simpa [kLL] using this,hu⟩
def RowAt (w:World) (rb:Nat) (x:WkV) (vC vA:Value):Prop:=w.heap[rb]?=some (.cells #[.slice x.aV x.nV x.cV,.slice x.aI x.nI x.cI,.slice x.aO x.nO x.cO,.slice x.aR x.nR x.cR,vC,vA] 85 (0,0))
theorem RowAt.under {w w':World} {rb:Nat} {x:WkV} {vC vA:Value} (h:RowAt w rb x vC vA) (a:Below w.heap.size w w'):RowAt w' rb x vC vA:=(a.block _ (zG h)).trans h
theorem zAt (n:Int) (w:World):Calls Tryz.prog 68 #[.int .i64 n] w fun e w'=>e=.returned (.bool (Sk.noTruth n))/\Below w.heap.size w w':=by
 unfold Sk.noTruth
 cases h0:(n != 0)
 ·go_enter Tryz.func68,Tryz.ntmps68
  go_wp2;go_ret;exact ⟨rfl,Below.refl _ _⟩
 ·go_enter Tryz.func68,Tryz.ntmps68
  go_wp2;go_ret;exact ⟨by rw [Bool.true_and];rfl,Below.refl _ _⟩
theorem eg68:∀ args w,(callFunc 68 args).run Tryz.prog w=.ok (.enter 68 args) w:=enters_of Tryz.func68 (by kernel_rfl) rfl
theorem qM (v:Sk.Vr) (w:World):Calls Tryz.prog 65 #[vv v] w fun e w'=>e=.returned (.int .i64 (Sk.cnt v:Nat))/\Below w.heap.size w w':=by
 have e:((Sk.cnt v:Nat):Int)=max 1 v.n:=(by unfold Sk.cnt;omega);rw [e];go_enter Tryz.func65,Tryz.ntmps65;go_wp2;go_ret;exact ⟨rfl,(Below.refl _ _).alloc zL _⟩
theorem always1_any {w:World} {nb:Nat} {n:Int} (hn:w.heap[nb]?=some (.cells #[.int .i64 n] 2 (0,0))) (k:Int):Calls Tryz.prog 126 #[.int .i64 k,.pointer (some ⟨nb,0,none⟩)] w fun e w'=>e=.returned (.int .i64 n)/\Below w.heap.size w w':=by
 have c0:=coQ hn 0;simp at c0;clear hn;go_enter Tryz.func126,Tryz.ntmps126;go_wp2;go_ret;exact ⟨rfl,Below.refl _ _⟩
theorem qI (n:Int) (w:World):Calls Tryz.prog 98 #[.int .i64 n] w fun e w'=>e=.returned (.func (.func 126) #[] #[.pointer (some ⟨w.heap.size,0,none⟩)])/\w'=w.alloc (.cells #[.int .i64 n] 2 (0,0)):=by
 go_enter Tryz.func98,Tryz.ntmps98;go_wp2;go_ret;exact ⟨rfl,rfl⟩
theorem vD {ok:Nat->Prop} {w:World} {nb:Nat} {u:Value} {l:List Int} (hn:w.heap[nb]?=some (.cells #[u] 52 (0,0))) (hu:HInts ok w u l) (k:Nat) (hk:k<l.length):Calls Tryz.prog 127 #[.int .i64 (k:Int),.pointer (some ⟨nb,0,none⟩)] w fun e w'=>e=.returned (.int .i64 (l.getD k 0))/\Below w.heap.size w w':=by
 obtain ⟨ao,cap,rfl,h1,h2,hat⟩:=hu.at;obtain ⟨b,o,rfl,hb,hc⟩:=hat k hk;have c0:=coQ hn 0;simp at c0;have e:l.getD k 0=l[k]:=(by simp [List.getD_eq_getElem?_getD,hk]);rw [e];generalize l[k]=x at hc ⊢;unfold maxLen at h2;obtain ⟨L,hL⟩:=nmQ (l.length);rw [<-hL] at c0 h1 hk;clear hn hu hat e hL;go_enter Tryz.func127,Tryz.ntmps127;go_wp2;go_ret;exact ⟨rfl,Below.refl _ _⟩
theorem xX (a:Option Addr) (n c:Nat) (w:World):Calls Tryz.prog 99 #[.slice a n c] w fun e w'=>e=.returned (.func (.func 127) #[] #[.pointer (some ⟨w.heap.size,0,none⟩)])/\w'=w.alloc (.cells #[.slice a n c] 52 (0,0)):=by
 go_enter Tryz.func99,Tryz.ntmps99;go_wp2;go_ret;exact ⟨rfl,rfl⟩
theorem zAe {ok:Nat->Prop} {w:World} {u:Value} {l:List Int} (hu:HInts ok w u l) (p o:Int):Calls Tryz.prog 105 #[u,.int .i64 p,.int .i64 o] w fun e w'=>e=.returned (.int .i64 (Sk.cellAt l p o))/\Below w.heap.size w w':=by
 obtain ⟨ao,cap,rfl,h1,h2,hat⟩:=hu.at;unfold maxLen at h2;unfold Sk.cellAt;by_cases h0:p<0
 ·rw [if_pos (.inl h0)]
  clear hu hat;go_enter Tryz.func105,Tryz.ntmps105;go_wp2;go_ret;exact ⟨rfl,Below.refl _ _⟩
 ·by_cases h3:(l.length:Int)<=p
  ·rw [if_pos (.inr h3)]
   clear hu hat;generalize l.length=L at *;go_enter Tryz.func105,Tryz.ntmps105;go_wp2;go_ret;exact ⟨rfl,Below.refl _ _⟩
  ·rw [if_neg (by omega)]
   obtain ⟨q,rfl⟩:∃ q:Nat,p=(q:Int):=⟨p.toNat,by omega⟩;have hq:q<l.length:=(by omega);obtain ⟨b,o',rfl,hb,hc⟩:=hat q hq;have e:l.getD ((q:Int)).toNat 0=l[q]:=(by simp [List.getD_eq_getElem?_getD,hq]);rw [e];generalize l[q]=x at hc ⊢;obtain ⟨L,hL⟩:=nmQ (l.length);rw [<-hL] at h1 hq h3 ⊢;clear hu hat e hL;go_enter Tryz.func105,Tryz.ntmps105;go_wp2;go_ret;exact ⟨rfl,Below.refl _ _⟩
theorem takenBy_any (op:Int) (w:World):Calls Tryz.prog 147 #[.int .i64 op] w fun e w'=>e=.returned (.int .i64 (Sk.takesN op:Nat))/\Below w.heap.size w w':=by
 unfold Sk.takesN;by_cases h5:op=5
 ·subst h5
  go_enter Tryz.func147,Tryz.ntmps147;go_wp2;go_ret;exact ⟨rfl,Below.refl _ _⟩
 by_cases h6:op=6
 ·subst h6
  go_enter Tryz.func147,Tryz.ntmps147;go_wp2;go_ret;exact ⟨rfl,Below.refl _ _⟩
 by_cases h8:op=8
 ·subst h8
  go_enter Tryz.func147,Tryz.ntmps147;go_wp2;go_ret;exact ⟨rfl,Below.refl _ _⟩
 by_cases h7:op=7
 ·subst h7
  go_enter Tryz.func147,Tryz.ntmps147;go_wp2;go_ret;exact ⟨rfl,Below.refl _ _⟩
 rw [if_neg h5,if_neg (by omega),if_neg h7];have e5:(op==5)=false:=(by simpa using h5);have e6:(op==6)=false:=(by simpa using h6);have e7:(op==7)=false:=(by simpa using h7);have e8:(op==8)=false:=(by simpa using h8);clear h5 h6 h7 h8;go_enter Tryz.func147,Tryz.ntmps147;go_wp2;go_ret;exact ⟨rfl,Below.refl _ _⟩
theorem xB {ok okA:Nat->Prop} {w:World} {rb:Nat} {x:WkV} {vC vA:Value} {C:List (List Int)} {op k out n:Int} {aA aE:Option Addr} {nA cA nE cE:Nat} {A:List Int} (hr:RowAt w rb x vC vA) (hC:HRow kLL ok w vC C) (hA:HInts okA w (.slice aA nA cA) A) (i:Nat) (hi:i<A.length) (hz:0<=A[i]/\A[i]<C.length) :
  Calls Tryz.prog 100 #[.agg #[.pointer (some ⟨rb,0,none⟩),.int .i64 op,.int .i64 k,.int .i64 out,.int .i64 n,.slice aA nA cA,.slice aE nE cE],.int .i64 (i:Int)] w fun e w'=>∃ a m c,e=.returned (.slice a m c)/\HInts ok w (.slice a m c) (Sk.cAt C A[i])/\Below w.heap.size w w':=by
 obtain ⟨aC,cC,rfl,hc1,hc2,hat⟩:=hC.llAt;obtain ⟨aoA,capA,evA,hd1,hd2,hatA⟩:=hA.at;injection evA with e1 e2 e3;subst e1 e2 e3;obtain ⟨bA,oA,rfl,yA0,cAi⟩:=hatA i hi;obtain ⟨q,hq⟩:∃ q:Nat,A[i]=(q:Int):=⟨(A[i]).toNat,by omega⟩;have hqC:q<C.length:=(by omega);obtain ⟨bC,oC,u,rfl,yC0,cCq,hu⟩:=hat q hqC;obtain ⟨au,cu,rfl,-⟩:=hu.at;have HU:=zD (show HInts ok w (.slice au (C[q]).length cu) (Sk.cAt C A[i]) by
  rw [hq];have:Sk.cAt C (q:Int)=C[q]:=(by unfold Sk.cAt;simp [List.getD_eq_getElem?_getD,hqC]);rw [this];exact hu)
 rw [hq] at cAi;unfold maxLen at hc2 hd2;unfold RowAt at hr;have b1:Below w.heap.size w (w.alloc (.cells #[.pointer (some ⟨rb,0,none⟩),.int .i64 op,.int .i64 k,.int .i64 out,.int .i64 n,.slice (some ⟨bA,oA,none⟩) A.length cA,.slice aE nE cE] 110 (0,0))):=(Below.refl _ _).alloc zL _;have kM:=zH w (.cells #[.pointer (some ⟨rb,0,none⟩),.int .i64 op,.int .i64 k,.int .i64 out,.int .i64 n,.slice (some ⟨bA,oA,none⟩) A.length cA,.slice aE nE cE] 110 (0,0));have kr:=(b1.block _ (zG hr)).trans hr;have CA:=(b1.cell (p:=⟨bA,oA+i,none⟩) yA0).trans cAi;have CC:=(b1.cell (p:=⟨bC,oC+q,none⟩) yC0).trans cCq;have yA1:=Nat.lt_of_lt_of_le yA0 b1.size;have yC1:=Nat.lt_of_lt_of_le yC0 b1.size;obtain ⟨LA,hLA⟩:=nmQ (A.length);obtain ⟨LC,hLC⟩:=nmQ (C.length);rw [<-hLA] at b1 kM kr CA CC yA1 yC1 hd1 hi ⊢;rw [<-hLC] at kr hc1 hqC;clear hr hC hA hat hatA hu hq hz cAi cCq hLA hLC yA0 yC0;go_enter Tryz.func100,Tryz.ntmps100;go_upto_region 1 with fail;generalize w.alloc (.cells #[.pointer (some ⟨rb,0,none⟩),.int .i64 op,.int .i64 k,.int .i64 out,.int .i64 n,.slice (some ⟨bA,oA,none⟩) LA cA,.slice aE nE cE] 110 (0,0))=w1 at b1 kM kr CA CC yA1 yC1 ⊢;have m0:=coQ kM 0;have m5:=coQ kM 5;have r4:=coQ kr 4;simp at m0 m5 r4;have yM:=zG kM;have yr:=zG kr;refine zK (fun w'=>Below w1.heap.size w1 w') (fun _=>false) (by kernel_rfl) ?_;have hH0:Below w1.heap.size w1 w1.drew:=(Below.refl _ _).drew;generalize w1.drew=wd0 at hH0 ⊢;refine' tkR 0 5 hH0 ?o1
 refine' tkQ 1 6 hH0 ?hyv ?o2
 case hyv=>
  intro wz hSw;have zc0:=(hSw.cell (p:=⟨w.heap.size,0,none⟩) yM).trans m0;have zc1:=(hSw.cell (p:=⟨w.heap.size,5,none⟩) yM).trans m5;have zc2:=(hSw.cell (p:=⟨rb,4,none⟩) yr).trans r4;have zc3:=(hSw.cell (p:=⟨bA,oA+i,none⟩) yA1).trans CA;have zc4:=(hSw.cell (p:=⟨bC,oC+q,none⟩) yC1).trans CC;go_simp
  try rfl
 try simp only [Act.put,sT,sZ,sS]
 refine' tkR 2 7 hH0 ?o3
 refine' tkR 3 8 hH0 ?o4
 refine' tkQ 4 9 hH0 ?hyv ?o5
 case hyv=>
  intro wz hSw;have zc0:=(hSw.cell (p:=⟨w.heap.size,0,none⟩) yM).trans m0;have zc1:=(hSw.cell (p:=⟨w.heap.size,5,none⟩) yM).trans m5;have zc2:=(hSw.cell (p:=⟨rb,4,none⟩) yr).trans r4;have zc3:=(hSw.cell (p:=⟨bA,oA+i,none⟩) yA1).trans CA;have zc4:=(hSw.cell (p:=⟨bC,oC+q,none⟩) yC1).trans CC;go_simp
  try rfl
 try simp only [Act.put,sT,sZ,sS]
 refine' tkR 5 10 hH0 ?o6
 refine' tkR 6 11 hH0 ?o7
 refine' tkQ 7 12 hH0 ?hyv ?o8
 case hyv=>
  intro wz hSw;have zc0:=(hSw.cell (p:=⟨w.heap.size,0,none⟩) yM).trans m0;have zc1:=(hSw.cell (p:=⟨w.heap.size,5,none⟩) yM).trans m5;have zc2:=(hSw.cell (p:=⟨rb,4,none⟩) yr).trans r4;have zc3:=(hSw.cell (p:=⟨bA,oA+i,none⟩) yA1).trans CA;have zc4:=(hSw.cell (p:=⟨bC,oC+q,none⟩) yC1).trans CC;go_simp
  try rfl
 try simp only [Act.put,sT,sZ,sS]
 refine' tkR 8 13 hH0 ?o9
 refine' tkR 9 14 hH0 ?o10
 refine' tkQ 10 15 hH0 ?hyv ?o11
 case hyv=>
  intro wz hSw;have zc0:=(hSw.cell (p:=⟨w.heap.size,0,none⟩) yM).trans m0;have zc1:=(hSw.cell (p:=⟨w.heap.size,5,none⟩) yM).trans m5;have zc2:=(hSw.cell (p:=⟨rb,4,none⟩) yr).trans r4;have zc3:=(hSw.cell (p:=⟨bA,oA+i,none⟩) yA1).trans CA;have zc4:=(hSw.cell (p:=⟨bC,oC+q,none⟩) yC1).trans CC;go_simp
  try rfl
 try simp only [Act.put,sT,sZ,sS]
 refine' tkR 11 16 hH0 ?o12
 refine' tkQ 12 17 hH0 ?hyv ?o13
 case hyv=>
  intro wz hSw;have zc0:=(hSw.cell (p:=⟨w.heap.size,0,none⟩) yM).trans m0;have zc1:=(hSw.cell (p:=⟨w.heap.size,5,none⟩) yM).trans m5;have zc2:=(hSw.cell (p:=⟨rb,4,none⟩) yr).trans r4;have zc3:=(hSw.cell (p:=⟨bA,oA+i,none⟩) yA1).trans CA;have zc4:=(hSw.cell (p:=⟨bC,oC+q,none⟩) yC1).trans CC;go_simp
  try rfl
 try simp only [Act.put,sT,sZ,sS]
 refine' tkR 13 4 hH0 ?o14
 refine zJ (by kernel_rfl) ?_ _;go_wp2;go_ret;exact ⟨_,_,_,rfl,HU.out,b1.trans (hH0.mono b1.size)⟩
theorem xM {ok okA:Nat->Prop} {w:World} {rb:Nat} {x:WkV} {vC vA:Value} {C:List (List Int)} {op k out n:Int} {aA aE:Option Addr} {nA cA nE cE:Nat} {A:List Int} (hr:RowAt w rb x vC vA) (hC:HRow kLL ok w vC C) (hA:HInts okA w (.slice aA nA cA) A) (i:Nat) (hi:i<A.length) (hz:0<=A[i]/\A[i]<C.length) (hl:0<(Sk.cAt C A[i]).length) :
  Calls Tryz.prog 104 #[.agg #[.pointer (some ⟨rb,0,none⟩),.int .i64 op,.int .i64 k,.int .i64 out,.int .i64 n,.slice aA nA cA,.slice aE nE cE],.int .i64 (i:Int)] w fun e w'=>e=.returned (.int .i64 ((Sk.cAt C A[i]).getD 0 0))/\Below w.heap.size w w':=by
 have b1:Below w.heap.size w (w.alloc (.cells #[.pointer (some ⟨rb,0,none⟩),.int .i64 op,.int .i64 k,.int .i64 out,.int .i64 n,.slice aA nA cA,.slice aE nE cE] 110 (0,0))):=(Below.refl _ _).alloc zL _;have kM:=zH w (.cells #[.pointer (some ⟨rb,0,none⟩),.int .i64 op,.int .i64 k,.int .i64 out,.int .i64 n,.slice aA nA cA,.slice aE nE cE] 110 (0,0));have hp:=xB (op:=op) (k:=k) (out:=out) (n:=n) (aE:=aE) (nE:=nE) (cE:=cE) (hr.under b1) (hC.keep b1.size (fun i _ h=>b1.block i h)) (hA.under b1) i hi hz;generalize Sk.cAt C A[i]=l at hp hl ⊢;have HP:=zD hp;clear hr hC hA hz hp hi;go_enter Tryz.func104,Tryz.ntmps104;go_upto_region 1 with fail;generalize w.alloc (.cells #[.pointer (some ⟨rb,0,none⟩),.int .i64 op,.int .i64 k,.int .i64 out,.int .i64 n,.slice aA nA cA,.slice aE nE cE] 110 (0,0))=w1 at b1 kM HP ⊢;have m0:=coQ kM 0;have m1:=coQ kM 1;have m2:=coQ kM 2;have m3:=coQ kM 3;have m4:=coQ kM 4;have m5:=coQ kM 5;have m6:=coQ kM 6;simp at m0 m1 m2 m3 m4 m5 m6;clear kM;go_wp2_with fail;refine HP.out.mono ?_;rintro e w2 ⟨a,m,c,rfl,hu,b2⟩;obtain ⟨ao,cap,ev,h1,h2,hat⟩:=(hu.under b2).at;injection ev with e1 e2 e3;subst e1 e2 e3;obtain ⟨b,o,rfl,hb,c0⟩:=hat 0 hl;have e:l.getD 0 0=l[0]:=(by simp [List.getD_eq_getElem?_getD,hl]);rw [Nat.add_zero] at c0;have HE:=zD e;generalize l[0]=y at c0 HE;unfold maxLen at h2;clear hu hat e m0 m1 m2 m3 m4 m5 m6 HP;generalize l.length=L at hl h1 ⊢;go_wp2;go_ret;exact ⟨by rw [HE.out];rfl,b1.trans (b2.mono b1.size)⟩
end Go.Proofs.YtnhmcpnbaajjcaaGreatDoor
