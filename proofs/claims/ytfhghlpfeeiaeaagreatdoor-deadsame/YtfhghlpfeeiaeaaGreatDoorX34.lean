import Derived.Test.YtfhghlpfeeiaeaaGreatDoorX33
set_option linter.unusedVariables false
set_option linter.unusedSimpArgs false
set_option maxHeartbeats 64000000
set_option maxRecDepth 100000
namespace Go.Proofs.YtfhghlpfeeiaeaaGreatDoor
open Go.RowKit Go.IntWalk
structure Sol (S:Sk.Sys) (ah:Int->Option (List Int)) (C:List (List Int)):Prop where
 made:∀ r ∈ S.R,Sk.cAt C r.out=Sk.evalR S.V C ah r
 fit:∀ r ∈ S.R,Sk.RFit S.V C ah r
 fix:∀ r ∈ S.R,Sk.RFx S.V C ah r
 num:∀ r ∈ S.R,I64 r.n
 wide:Sk.WdC C
 small:∀ z,(Sk.cAt C z).length<=300
theorem memo_cell {L:List Nat} {w:World} {vb:Nat} {S:Sk.Sys} {C:List (List Int)} (h:Memo L w vb S C) {x:Nat} (hx:x<S.V.length):∃ u,w.cell? ⟨vb,x,none⟩=some u/\(((u=.slice none 0 0)/\(x:Int) ∉ S.I)\/RowS L w u (Sk.cAt C (x:Int))):=by
 obtain ⟨cs,k,hs,hm,hI⟩:=h;have hc:=coQ k x;by_cases Eb:(x:Int) ∈ S.I
 ·obtain ⟨u,e,hr⟩:=hI _ Eb
  rw [Int.toNat_natCast] at e;rw [e] at hc;exact ⟨u,hc,.inr hr⟩
 ·rcases hm x hx with e | ⟨u,e,hr⟩
  ·rw [e] at hc
   exact ⟨_,hc,.inl ⟨rfl,Eb⟩⟩
  ·rw [e] at hc
   exact ⟨u,hc,.inr hr⟩
theorem MgSt.put {L:List Nat} {mb vb:Nat} {g:MgV} {S:Sk.Sys} {ah:Int->Option (List Int)} {C:List (List Int)} {w:World} (h:MgSt L mb vb g S ah C w) (hb:∀ x ∈ S.I,0<=x/\x<S.V.length) {x:Nat} {u:Value} (hx:x<S.V.length) (hu:RowS L w u (Sk.cAt C (x:Int))):MgSt L mb vb g S ah C (w.setCell ⟨vb,x,none⟩ u)/\Aside [vb] w.heap.size w (w.setCell ⟨vb,x,none⟩ u)/\(w.setCell ⟨vb,x,none⟩ u).cell? ⟨vb,x,none⟩=some u/\RowS L (w.setCell ⟨vb,x,none⟩ u) u (Sk.cAt C (x:Int)):=by
 have dt:w.heap.size<=(w.setCell ⟨vb,x,none⟩ u).heap.size:=(by simp [World.setCell]);have jN:∀ j,j ∉ L->j<w.heap.size->(w.setCell ⟨vb,x,none⟩ u).heap[j]?=w.heap[j]?:=fun j hj _=>zBU _ _ _ (fun e=>hj (by rw [<-e];exact h.vL));obtain ⟨cs,k,hs,hm,hI⟩:=h.memo;refine ⟨h.set hb hx hu,Aside.setCell (by simp) u,?_,hu.keep dt jN⟩;have hc:=coQ (zBQ k x u) x;rw [hc,Array.getElem?_setIfInBounds_self_of_lt (by omega)]
theorem zAs:∀ {l:List Int},l.Nodup->∀ i (h:i<l.length),l.idxOf l[i]=i:=Sk.idx_nodup
theorem ofD_step {L:List Nat} {mb vb:Nat} {g:MgV} {S:Sk.Sys} {ah:Int->Option (List Int)} {C:List (List Int)} (ok:Sk.Okay S) (hs:Sol S ah C) {x:Nat} (hx:x<S.V.length) (nP:(x:Int) ∈ S.I\/∃ i,∃ (h:i<S.R.length),(S.R[i]).out=(x:Int)/\∀ W,MgSt L mb vb g S ah C W->Calls Tryz.prog 66 #[.pointer (some ⟨mb,0,none⟩),.int .i64 (i:Int)] W (RuleD L mb vb g S ah C S.R[i] W)):OfAt L mb vb g S ah C (x:Int):=by
 intro w h;have rv:vb<w.heap.size:=h.lt _ h.vL;have uj:mb<w.heap.size:=h.lt _ h.mL;have gF:mb ∉ [vb]:=(by simp;exact h.ne);have c5:=coQ h.m 5;have c3:=coQ h.m 3;simp at c3 c5;obtain ⟨u,cu,hu⟩:=memo_cell h.memo hx;have hb:∀ x ∈ S.I,0<=x/\x<S.V.length:=ok.ins;have rq:=ok.nR;have zf:=ok.nV;rcases hu with ⟨rfl,Eb⟩ | dC
 case inr=>
  obtain ⟨au,ku,eu,-⟩:=id dC;subst eu;have dW:=zBK dC;have eF:=zBK h;generalize (Sk.cAt C (x:Int)).length=nu at *;clear h dC nP c3;have heq:∀ W,(binOp BinOp.neq 44 (.slice (some au) nu ku) (.slice none 0 0)).run Tryz.prog W=.ok (.bool true) W:=fun W=>by kernel_rfl
  unfold OfPost;go_enter Tryz.func38,Tryz.ntmps38;go_wp2;exact bodyPost_ret (v:=.slice (some au) nu ku) (by simp [results,Tryz.results38,go_sem]) rfl ⟨_,rfl,dW.out,eF.out,Aside.refl _⟩
 case inl=>
  rcases nP with hq | ⟨i0,y7,fX,uy⟩
  ·exact absurd hq Eb
  have qZ:=zBK uy;have eF:=zBK h;have gU:=zBK cu;have Ng:=zBK (show ∀ j (hj:j<S.R.length),(S.R[j]).out=(x:Int)->j=i0 from fun j hj e=>by
   have hn:=ok.rulesN;have h1:=zAs hn j (by simpa using hj);have h2:=zAs hn i0 (by simpa using y7);simp only [List.getElem_map] at h1 h2;rw [e] at h1;rw [fX] at h2;exact h1.symm.trans h2)
  have od:=zBK (show Sk.evalR S.V C ah S.R[i0]=Sk.cAt C (x:Int) by rw [<-hs.made _ (List.getElem_mem y7),fX]);obtain ⟨a3,k3,lu,jf,fb,-⟩:=h.sys.R.at;injection lu with p1 p2 p3;rw [<-p3] at jf fb;unfold maxLen at fb;clear h uy p1 p2 p3 hs;have heq:∀ W,(binOp BinOp.neq 44 (.slice none 0 0) (.slice none 0 0)).run Tryz.prog W=.ok (.bool false) W:=fun W=>by kernel_rfl
  unfold OfPost;go_enter Tryz.func38,Tryz.ntmps38;go_wp2_with fail;clear c3 c5 cu;go_loopg [5] S.R.length (fun gh v5 wr=>∃ (j:Nat),j<=S.R.length/\gh=S.R.length-j/\v5=.int .i64 (j:Nat)/\Hid (MgSt L mb vb g S ah C wr)/\Aside [vb] w.heap.size w wr/\Hid (i0<j->∃ u,wr.cell? ⟨vb,x,none⟩=some u/\RowS L wr u (Sk.cAt C (x:Int))))
  case atStart=>exact ⟨0,Nat.zero_le _,rfl,rfl,eF,Aside.refl _,zBK (fun hq=>absurd hq (Nat.not_lt_zero _))⟩
  case round=>
   clear eF gU;obtain ⟨j,hj,rfl,rfl,HS,aR,HQ⟩:=hrel;obtain ⟨wq,nX⟩:=nmQ (wr);subst nX;have c3:=coQ HS.out.m 3;have c5:=coQ HS.out.m 5;simp at c3 c5;by_cases bd:j<S.R.length
   case neg=>
    obtain ⟨u,cu,dC⟩:=HQ.out (by omega);obtain ⟨au,ku,eu,-⟩:=id dC;subst eu;have dW:=zBK dC;generalize (Sk.cAt C (x:Int)).length=nu at *;clear dC;go_wp2;exact bodyPost_ret (v:=.slice (some au) nu ku) (by simp [results,Tryz.results38,go_sem]) rfl ⟨_,rfl,dW.out,HS.out,aR⟩
   case pos=>
    obtain ⟨a4,k4,lu,-,-,dr⟩:=HS.out.sys.R.at;injection lu with p1 p2 p3;obtain ⟨bR,oR,y,fU,yR,bo,-⟩:=dr j bd;rw [p1,fU] at c3;obtain ⟨-,-,d2,-,-,-⟩:=bo;clear dr p1 p2 p3 fU;by_cases y9:j=i0
    case neg=>
     have hne:((S.R[j]).out==(x:Int))=false:=by
      simp;exact fun e=>y9 (Ng.out j bd e)
     generalize (S.R[j]).out=oo at d2 hne;generalize g.cR=cR at c3 jf fb;go_wp2_with fail;go_roundg (S.R.length-(j+1))
     case measure=>omega
     case rel=>exact ⟨j+1,by omega,rfl,by go_num,HS,aR,zBK (fun hq=>HQ.out (by omega))⟩
    case pos=>
     subst y9;rw [fX] at d2;have Rx:vb<wq.heap.size:=HS.out.lt _ HS.out.vL;have zh:mb<wq.heap.size:=HS.out.lt _ HS.out.mL;generalize g.cR=cR at c3 jf fb;go_upto_region 7 with fail;refine zBP (fun w'=>Aside [vb] wq.heap.size wq w') (fun _=>false) (by kernel_rfl) ?_;have ab:Aside [vb] wq.heap.size wq wq.drew:=(Aside.refl _).drew;have wG:MgSt L mb vb g S ah C wq.drew:=HS.out.under (Below.refl _ _).drew;generalize wq.drew=ag at ab wG ⊢;have vH:=zBK wG;clear wG;refine' tkR 0 42 ab ?o1
     refine' tkR 1 43 ab ?o2
     refine' tkR 2 44 ab ?o3
     refine' tkQ 3 45 ab ?hyv ?o4
     case hyv=>
      intro wz hSw;have aq:=(zBL hSw (p:=⟨mb,5,none⟩) zh gF).trans c5;go_simp
      try rfl
     try simp only [Act.put,sT,sZ,sS]
     refine' tkR 4 46 ab ?o5
     refine' tkR 5 47 ab ?o6
     refine' tkR 6 48 ab ?o7
     refine tnQ 7 (fun K hK=>?_);go_simp;refine (qZ.out _ vH.out).mono ?_;rintro eq aw ⟨u,rfl,dC,cQ,wJ⟩;have af:Aside [vb] wq.heap.size wq aw:=ab.trans wJ ab.size;rw [od.out] at dC;have dW:=zBK dC;have vM:=zBK cQ;obtain ⟨au,ku,eu,-⟩:=id dC;subst eu;obtain ⟨cs,xY,nH,-⟩:=id cQ.memo;have qM:=zBK (coQ xY x);have ME:=zBK (foQ xY x);clear dC cQ xY;generalize (Sk.cAt C (x:Int)).length=nu at *;refine hK.out _ _ (fun _=>af) ?_;clear hK K
     try simp only [Act.put,sT,sZ,sS]
     refine' tkR 8 50 af ?o8
     refine tnQ 9 (fun K hK=>?_);obtain ⟨eY,iR,Kw,Ky⟩:=MgSt.put vM.out hb hx dW.out;have qU:=zBK eY;have rZ:=zBK Kw;have Jm:=zBK Ky;clear eY Kw Ky;have NH:=qM.out;have fr:=ME.out;go_simp;have ay:Aside [vb] wq.heap.size wq (aw.setCell ⟨vb,x,none⟩ (.slice (some au) nu ku)):=af.trans iR af.size;refine hK.out _ _ (fun _=>ay) ?_;clear hK K NH fr
     try simp only [Act.put,sT,sZ,sS]
     generalize (aw.setCell ⟨vb,x,none⟩ (.slice (some au) nu ku))=aJ at ay qU rZ Jm ⊢;refine zBN (by kernel_rfl) ?_ _;go_wp2_with fail;go_roundg (S.R.length-(j+1))
     case measure=>omega
     case rel=>exact ⟨j+1,by omega,rfl,by go_num,qU,aR.trans ay aR.size,zBK (fun _=>⟨_,rZ.out,Jm.out⟩)⟩
end Go.Proofs.YtfhghlpfeeiaeaaGreatDoor
namespace Go.Proofs.YtfhghlpfeeiaeaaGreatDoor
open Go.RowKit Go.IntWalk
namespace Sk
theorem evalG_wide2 {C:List (List Int)} (hC:WdC C) {ah:Int->Option (List Int)} (ha:∀ y l,ah y=some l->I64s l) {r:Ru} (eb:1<=r.op/\r.op<=16) (hn:I64 r.n) (hN:r.op=15->r.n.toNat<=1000000) (hE:14<=r.op->PW r.E) {k:Nat} (hk:k<1000000):I64 (evalG C ah r k):=by
 have hp:∀ i j,I64 ((pt C r i).getD j 0):=fun i j=>(hC _).get j;have hs:∀ i,I64 (sca C r i):=fun i=>hp i 0;have ht:14<=r.op->∀ j,j<=1000000->I64 (treeV C j [] r.E):=fun ho j hj=>treeV_wide hC (hE ho) hj;have hg:I64 (((ah (aN r 1)).getD (pt C r 0)).getD k 0):=by
  cases e:ah (aN r 1) with
  | none=>exact hp 0 k
  | some l=>exact (ha _ _ e).get k
 unfold evalG;by_cases e1:r.op=1
 ·rw [if_pos e1]
  exact hn
 rw [if_neg e1];by_cases e2:r.op=2
 ·rw [if_pos e2]
  exact hp _ _
 rw [if_neg e2];by_cases e3:r.op=3
 ·rw [if_pos e3]
  exact zCy (hp _ _) zero64
 rw [if_neg e3];by_cases e4:r.op=4
 ·rw [if_pos e4]
  exact zCy (hp _ _) (hp _ _)
 rw [if_neg e4];by_cases e5:r.op=5
 ·rw [if_pos e5]
  exact zCx (hp _ _) (hp _ _)
 rw [if_neg e5];by_cases e6:r.op=6
 ·rw [if_pos e6]
  exact foldV_wide (hs _) _ (fun i _=>hp 1 i)
 rw [if_neg e6];by_cases e7:r.op=7
 ·rw [if_pos e7]
  exact foldV_wide (hs _) _ (fun i _=>hp 1 i)
 rw [if_neg e7];by_cases e8:r.op=8
 ·rw [if_pos e8]
  exact hs _
 rw [if_neg e8];by_cases e9:r.op=9
 ·rw [if_pos e9]
  exact cellAt_wide (hC _) _ (hs _)
 rw [if_neg e9];by_cases e10:r.op=10
 ·rw [if_pos e10]
  exact zCx (hs _) (hp _ _)
 rw [if_neg e10];by_cases e11:r.op=11
 ·rw [if_pos e11]
  exact hp _ _
 rw [if_neg e11];by_cases e12:r.op=12
 ·rw [if_pos e12]
  exact zCx (hp _ _) (hp _ _)
 rw [if_neg e12];by_cases e13:r.op=13
 ·rw [if_pos e13]
  exact hg
 rw [if_neg e13];by_cases e15:r.op=15
 ·rw [if_pos e15]
  have:=hN e15;exact foldV_wide (hs _) _ (fun i hi=>ht (by omega) i (by omega))
 rw [if_neg e15];by_cases e16:r.op=16
 ·rw [if_pos e16]
  exact foldV_wide (hs _) _ (fun i hi=>ht (by omega) i (by omega))
 rw [if_neg e16];exact ht (by omega) _ (by omega)
theorem evalR_wide2 {V:List Vr} {C:List (List Int)} (hC:WdC C) {ah:Int->Option (List Int)} (ha:∀ y l,ah y=some l->I64s l) {r:Ru} (eb:1<=r.op/\r.op<=16) (hn:I64 r.n) (hN:r.op=15->r.n.toNat<=1000000) (hE:14<=r.op->PW r.E) (hc:cnt (vAt V r.out)<=300):I64s (evalR V C ah r):=by
 intro x hx;unfold evalR at hx;obtain ⟨k,hk,rfl⟩:=List.mem_map.1 hx;exact evalG_wide2 hC ha eb hn hN hE (by have:=List.mem_range.1 hk;omega)
theorem cAt_set_any (C:List (List Int)) (x:Int) (l:List Int) (y:Int):cAt (C.set x.toNat l) y=cAt C y\/cAt (C.set x.toNat l) y=l:=by
 unfold cAt;simp only [List.getD_eq_getElem?_getD,List.getElem?_set]
 split
 ·split
  ·exact .inr rfl
  ·rename_i h1 h2
   left
   rw [<-h1,List.getElem?_eq_none (by omega)]
 ·exact .inl rfl
theorem WdC.set {C:List (List Int)} (h:WdC C) {x:Int} {l:List Int} (hl:I64s l):WdC (C.set x.toNat l):=fun y=>by
 rcases cAt_set_any C x l y with e | e<;>rw [e]
 ·exact h y
 ·exact hl
structure RuW (V:List Vr) (r:Ru):Prop where
 op:1<=r.op/\r.op<=16
 n:I64 r.n
 N:r.op=15->r.n.toNat<=1000000
 E:14<=r.op->PW r.E
 c:cnt (vAt V r.out)<=300
theorem runR_wide {V:List Vr} {ah:Int->Option (List Int)} (ha:∀ y l,ah y=some l->I64s l):∀ (R:List Ru) {C:List (List Int)},(∀ r ∈ R,RuW V r)->WdC C->WdC (runR V ah C R)
 | [],C,_,h=>h
 | r :: R,C,hR,h=>by
  unfold runR;have hr:=hR r (by simp);exact runR_wide ha R (fun q hq=>hR q (by simp [hq])) (h.set (evalR_wide2 h ha hr.op hr.n hr.N hr.E hr.c))
theorem takeV_wide {V:List Vr} {inp:List Int} (hi:I64s inp):∀ (I:List Int) (at_:Nat) {C:List (List Int)},WdC C->WdC (takeV V inp at_ I C).2
 | [],at_,C,h=>by simpa [takeV] using h
 | x :: r,at_,C,h=>by
  unfold takeV
  split
  ·exact h
  ·exact takeV_wide hi r _ (h.set fun y hy=>hi y (List.mem_of_mem_drop (List.mem_of_mem_take hy)))
theorem wide_start (n:Nat):WdC (List.replicate n ([]:List Int)):=fun x=>by
 have e:cAt (List.replicate n ([]:List Int)) x=[]:=by
  unfold cAt;rw [List.getD_eq_getElem?_getD,List.getElem?_replicate]
  split<;>rfl
 rw [e];intro y hy
 cases hy
theorem small_set {C:List (List Int)} (h:∀ z,(cAt C z).length<=300) {x:Int} {l:List Int} (hl:l.length<=300):∀ z,(cAt (C.set x.toNat l) z).length<=300:=fun y=>by
 rcases cAt_set_any C x l y with e | e<;>rw [e]
 ·exact h y
 ·exact hl
theorem runR_small2 {V:List Vr} {ah:Int->Option (List Int)}:∀ (R:List Ru) {C:List (List Int)},(∀ r ∈ R,cnt (vAt V r.out)<=300)->(∀ z,(cAt C z).length<=300)->∀ z,(cAt (runR V ah C R) z).length<=300
 | [],C,_,h=>h
 | r :: R,C,hR,h=>by
  unfold runR;exact runR_small2 R (fun q hq=>hR q (by simp [hq])) (small_set h (by rw [evalR_len];exact hR r (by simp)))
theorem takeV_small2 {V:List Vr} {inp:List Int} (hV:∀ v ∈ V,VrOk v):∀ (I:List Int) (at_:Nat) {C:List (List Int)},(∀ x ∈ I,0<=x/\x<V.length)->(∀ z,(cAt C z).length<=300)->∀ z,(cAt (takeV V inp at_ I C).2 z).length<=300
 | [],at_,C,_,h=>by simpa [takeV] using h
 | x :: r,at_,C,hI,h=>by
  unfold takeV
  split
  ·exact h
  ·refine takeV_small2 hV r _ (fun y hy=>hI y (by simp [hy])) (small_set h ?_)
   rw [List.length_take];have:=cnt_le (vAt_ok hV (hI x (by simp)));omega
theorem small_start (n:Nat):∀ z,(cAt (List.replicate n ([]:List Int)) z).length<=300:=fun x=>by
 unfold cAt;rw [List.getD_eq_getElem?_getD,List.getElem?_replicate]
 split<;>simp
theorem takeV_fst {V:List Vr} {inp:List Int}:∀ (I:List Int) (at_:Nat) (C C':List (List Int)),(takeV V inp at_ I C).1=(takeV V inp at_ I C').1
 | [],at_,C,C'=>rfl
 | x :: r,at_,C,C'=>by
  unfold takeV
  split
  ·rfl
  ·exact takeV_fst r _ _ _
theorem takeV_other {V:List Vr} {inp:List Int}:∀ (I:List Int) (at_:Nat) (C:List (List Int)) (y:Int),(∀ x ∈ I,0<=x)->0<=y->y ∉ I->cAt (takeV V inp at_ I C).2 y=cAt C y
 | [],at_,C,y,_,_,_=>rfl
 | x :: r,at_,C,y,hI,hy,hn=>by
  unfold takeV
  split
  ·rfl
  ·rw [takeV_other r _ _ y (fun z hz=>hI z (by simp [hz])) hy (fun h=>hn (by simp [h]))]
   unfold cAt;have hx:=hI x (by simp);have:¬x.toNat=y.toNat:=fun e=>hn (by have:x=y:=(by omega);simp [this])
   simp [List.getD_eq_getElem?_getD,this]
theorem takeV_at {V:List Vr} {inp:List Int}:∀ (I:List Int) (at_:Nat) (C:List (List Int)),C.length=V.length->(∀ x ∈ I,0<=x/\x<V.length)->I.Nodup->(takeV V inp at_ I C).1.1=0->∀ j (h:j<I.length),cAt (takeV V inp at_ I C).2 I[j]=(inp.drop (at_+wid V (I.take j))).take (cnt (vAt V I[j]))
 | [],at_,C,_,_,_,_,j,h=>by simp at h
 | x :: r,at_,C,hC,hI,hn,hz,j,h=>by
  have hx:=hI x (by simp);have qk:=List.nodup_cons.1 hn;unfold takeV at hz ⊢
  split at hz
  ·simp at hz
  ·rename_i hc
   rw [if_neg hc]
   cases j with
   | zero=>
    show cAt (takeV V inp (at_+cnt (vAt V x)) r (C.set x.toNat ((inp.drop at_).take (cnt (vAt V x))))).2 x=(inp.drop (at_+wid V [])).take (cnt (vAt V x))
    rw [takeV_other r _ _ _ (fun z hz=>(hI z (by simp [hz])).1) hx.1 qk.1];have hl:x.toNat<C.length:=(by omega);simp [cAt,List.getD_eq_getElem?_getD,hl,wid]
   | succ j=>
    have hj:j<r.length:=(by simpa using h);have:=takeV_at r (at_+cnt (vAt V x)) (C.set x.toNat ((inp.drop at_).take (cnt (vAt V x)))) (by rw [List.length_set];exact hC) (fun z hz=>hI z (by simp [hz])) qk.2 hz j hj;simp only [List.getElem_cons_succ,List.take_succ_cons,wid];rw [this,Nat.add_assoc]
structure AhOk (V:List Vr) (ah:Int->Option (List Int)):Prop where
 fine:AhFine V ah
 wide:∀ y l,ah y=some l->I64s l
theorem AhOk.none (V:List Vr):AhOk V (fun _=>Option.none):=⟨fun x l h=>(by cases h),fun x l h=>(by cases h)⟩
structure SysW (S:Sys):Prop where
 n:∀ r ∈ S.R,I64 r.n
 E:∀ r ∈ S.R,∀ p ∈ r.E,I64 p.n
theorem RuW.of {S:Sys} (ok:Okay S) (hW:SysW S) {r:Ru} (hr:r ∈ S.R) {C:List (List Int)} {ah:Int->Option (List Int)} (hf:RFit S.V C ah r) (hx:RFx S.V C ah r):RuW S.V r:=by
 refine ⟨hf.op,hW.n r hr,fun e=>by have:=(hx.f15 e).2.2.2.sz;omega,fun e=>?_,hf.sz⟩;have h:=hf.op;have h3:r.op=14\/r.op=15\/r.op=16:=(by omega);rcases h3 with e | e | e
 ·exact (hx.f14 (.inl e)).wide
 ·exact (hx.f15 e).2.2.2.wide
 ·exact (hx.f14 (.inr e)).wide
end Sk
theorem sol_any {S:Sk.Sys} (ok:Sk.Okay S) (hW:Sk.SysW S) (hl:(Sk.turns S).2.2=[]) {ah:Int->Option (List Int)} (jK:Sk.AhOk S.V ah) {inp:List Int} (hi:Sk.I64s inp) (hw:inp.length=Sk.width S.V S.I) (hz:(Sk.takeV S.V inp 0 S.I (List.replicate S.V.length [])).1.1=0):Sol S ah (Sk.solC S ah inp):=by
 have hp:=Sk.sort_perm ok (Sk.needs_in ok) hl;have hlen:=Sk.sol_len ok hl (ah:=ah) hw hz;have hC:(Sk.takeV S.V inp 0 S.I (List.replicate S.V.length [])).2.length=S.V.length:=by
  have h:=Sk.takeV_fine ok hw S.I.length 0 (by omega) (Sk.fine_start S.V) (by simpa [Sk.wid] using hz);have h2:=h.len
  simpa [Sk.wid] using h2
 have DN:(Sk.solC S ah inp).length=S.V.length:=(by unfold Sk.solC;rw [Sk.runR_length];exact hC);have hn:∀ r ∈ S.R,∀ z ∈ Sk.needs r,(Sk.cAt (Sk.solC S ah inp) z).length=Sk.cnt (Sk.vAt S.V z):=fun r hr z hz=>hlen z (ok.used r hr z (Sk.needs_sub ok hr hz));have aB:∀ r ∈ S.R,Sk.RFit S.V (Sk.solC S ah inp) ah r:=fun r hr=>Sk.rfit_of ok.vars DN (ok.rules r hr).1.1 (ok.rules r hr).2 (hn r hr) (fun _ l hl=>jK.fine _ l hl);have Bs:∀ r ∈ S.R,Sk.RFx S.V (Sk.solC S ah inp) ah r:=fun r hr=>Sk.rfx_of ok.vars DN (ok.rules r hr).1.1 (ok.rules r hr).2 (hn r hr) (fun _ l hl=>jK.fine _ l hl) (hW.E r hr);have dA:∀ r ∈ S.R,Sk.RuW S.V r:=fun r hr=>Sk.RuW.of ok hW hr (aB r hr) (Bs r hr);refine ⟨fun r hr=>Sk.sol_rule ok hl hC hr,aB,Bs,hW.n,?_,?_⟩
 ·exact Sk.runR_wide jK.wide _ (fun r hr=>dA r (hp.mem_iff.2 hr)) (Sk.takeV_wide hi _ _ (Sk.wide_start _))
 ·exact Sk.runR_small2 _ (fun r hr=>(dA r (hp.mem_iff.2 hr)).c) (Sk.takeV_small2 ok.vars _ _ ok.ins (Sk.small_start _))
theorem ah_next {S:Sk.Sys} (ok:Sk.Okay S) (hl:(Sk.turns S).2.2=[]) {ah:Int->Option (List Int)} {inp:List Int} (hs:Sol S ah (Sk.solC S ah inp)) (hw:inp.length=Sk.width S.V S.I) (hz:(Sk.takeV S.V inp 0 S.I (List.replicate S.V.length [])).1.1=0):Sk.AhOk S.V (Sk.keepF (Sk.solC S ah inp) (fun _=>none) (Sk.sortS S).R):=by
 have kh:=Sk.sort_okay ok (Sk.needs_in ok) hl;refine ⟨Sk.keep_fine kh (Sk.sol_fine ok hl hw hz),fun y l h=>?_⟩;rw [Sk.keepF_at] at h
 split at h
 ·injection h with h
  rw [<-h];exact hs.wide y
 ·cases h
theorem ofD_any {mb vb:Nat} {g:MgV} {S:Sk.Sys} {ah:Int->Option (List Int)} {C:List (List Int)} (ok:Sk.Okay S) (hs:Sol S ah C) {rk:Int->Nat} (Ct:∀ r ∈ S.R,∀ z ∈ Sk.needs r,rk z<rk r.out):∀ (n:Nat) (x:Int),rk x<n->(x ∈ S.I\/x ∈ S.R.map (·.out))->∀ L,OfAt L mb vb g S ah C x
 | 0,x,h,_,L=>absurd h (Nat.not_lt_zero _)
 | n+1,x,h,hx,L=>by
  have Hh:0<=x/\x<S.V.length:=by
   rcases hx with q | q
   ·exact ok.ins x q
   ·obtain ⟨r,hr,e⟩:=List.mem_map.1 q
    rw [<-e];exact (ok.rules r hr).1.1
  obtain ⟨m,rfl⟩:∃ m:Nat,x=(m:Int):=⟨x.toNat,by omega⟩;refine ofD_step ok hs (by omega) ?_;rcases hx with q | q
  ·exact .inl q
  ·obtain ⟨r,hr,e⟩:=List.mem_map.1 q
   obtain ⟨i,hi,ei⟩:=List.getElem_of_mem hr;refine .inr ⟨i,hi,by rw [ei];exact e,fun W hW=>?_⟩;have fb:S.R[i] ∈ S.R:=List.getElem_mem hi;refine ruleD_any hW hi ok.vars (hs.fit _ fb) (hs.fix _ fb) hs.wide hs.small (hs.num _ fb) ok.nR (fun z hz L' _=>?_);have h1:=Ct _ fb z hz;rw [ei,e] at h1;exact ofD_any ok hs Ct n z (by omega) (ok.used _ fb z (Sk.needs_sub ok fb hz)) L'
end Go.Proofs.YtfhghlpfeeiaeaaGreatDoor
namespace Go.Proofs.YtfhghlpfeeiaeaaGreatDoor
open Go.RowKit Go.IntWalk
namespace Sk
theorem wid_le {V:List Vr} (hV:∀ v ∈ V,VrOk v):∀ (I:List Int),(∀ x ∈ I,0<=x/\x<V.length)->wid V I<=300*I.length
 | [],_=>by simp [wid]
 | x :: r,h=>by
  have h1:=cnt_le (vAt_ok hV (h x (by simp)));have h2:=wid_le hV r fun y hy=>h y (by simp [hy]);rw [wid,List.length_cons];omega
def rowF (S:Sys) (inp:List Int):Int × Int:=if inp.length≠width S.V S.I then (17,-1) else (takeV S.V inp 0 S.I []).1
theorem takeV_bad {V:List Vr} {inp:List Int} {at_:Nat} {x:Int} {r:List Int} {k:Nat} (he:(vAt V x).elem=98) (hk:k<cnt (vAt V x)) (hl:at_+k<inp.length) (hb:noTruth inp[at_+k]=true) (ha:∀ j (hj:j<k),noTruth (inp[at_+j]'(by omega))=false):(takeV V inp at_ (x :: r) []).1=(17,((at_+k:Nat):Int)):=by
 have hlen:k<((inp.drop at_).take (cnt (vAt V x))).length:=(by rw [List.length_take,List.length_drop];omega);have p8:∀ j (hj:j<((inp.drop at_).take (cnt (vAt V x))).length) (h2:at_+j<inp.length),((inp.drop at_).take (cnt (vAt V x)))[j]=inp[at_+j]:=fun j hj h2=>by rw [List.getElem_take,List.getElem_drop]
 have wM:((inp.drop at_).take (cnt (vAt V x))).any noTruth=true:=List.any_eq_true.2 ⟨_,List.getElem_mem hlen,by rw [p8 k hlen hl];exact hb⟩;have BH:((inp.drop at_).take (cnt (vAt V x))).findIdx noTruth=k:=(List.findIdx_eq hlen).2 ⟨by rw [p8 k hlen hl];exact hb,fun j hj=>by rw [p8 j (by omega) (by omega)];exact ha j hj⟩;unfold takeV;rw [if_pos ⟨he,wM⟩,BH]
theorem takeV_go {V:List Vr} {inp:List Int} {at_:Nat} {x:Int} {r:List Int} (hl:at_+cnt (vAt V x)<=inp.length) (ha:(vAt V x).elem=98->∀ j (hj:j<cnt (vAt V x)),noTruth (inp[at_+j]'(by omega))=false):(takeV V inp at_ (x :: r) []).1=(takeV V inp (at_+cnt (vAt V x)) r []).1:=by
 conv=>lhs;unfold takeV
 rw [if_neg]
 ·exact takeV_fst _ _ _ _
 ·rintro ⟨he,wM⟩
  obtain ⟨y,hy,PM⟩:=List.any_eq_true.1 wM;obtain ⟨j,hj,ej⟩:=List.getElem_of_mem hy;rw [List.getElem_take,List.getElem_drop] at ej;have gP:j<cnt (vAt V x):=(by rw [List.length_take] at hj;omega);have:=ha he j gP;rw [ej,PM] at this
  cases this
end Sk
theorem width65_any {ok:Nat->Prop} {w:World} {aV aI aO aR:Option Addr} {cV cI cO cR:Nat} {S:Sk.Sys} (hS:HSys ok w aV aI aO aR cV cI cO cR S) (gj:∀ v ∈ S.V,Sk.VrOk v) {Il:Nat->Prop} {al:Option Addr} {nl cl:Nat} {l:List Int} (hl:HInts Il w (.slice al nl cl) l) (bp:∀ x ∈ l,0<=x/\x<S.V.length) (za:l.length<=1000) :
  Calls Tryz.prog 65 #[.agg #[.slice aV S.V.length cV,.slice aI S.I.length cI,.slice aO S.O.length cO,.slice aR S.R.length cR],.slice al nl cl] w fun e w'=>e=.returned (.int .i64 (Sk.wid S.V l:Nat))/\Below w.heap.size w w':=by
 obtain ⟨ao,cap,ev,bH,cG,-⟩:=hl.at;injection ev with q1 q2 q3;subst q1 q2 q3;unfold maxLen at cG;have b1:Below w.heap.size w (w.alloc (.cells #[.slice aV S.V.length cV,.slice aI S.I.length cI,.slice aO S.O.length cO,.slice aR S.R.length cR] 26 (0,0))):=(Below.refl _ _).alloc zBR _;have kS:=zBO w (.cells #[.slice aV S.V.length cV,.slice aI S.I.length cI,.slice aO S.O.length cO,.slice aR S.R.length cR] 26 (0,0));have HV:=zBK (hS.V.under b1);have HL:=zBK (hl.under b1);have jF:=zBK bp;have r6:=zBK (fun i=>Sk.wid_le gj (l.take i) (fun x hx=>bp x (List.mem_of_mem_take hx)));have kv:=zBK gj;obtain ⟨n,hn⟩:=nmQ (l.length);rw [<-hn] at bH za ⊢;have HN:=zBK hn;clear hS hl bp gj hn;go_enter Tryz.func65,Tryz.ntmps65;go_upto_region 1 with fail;generalize w.alloc (.cells #[.slice aV S.V.length cV,.slice aI S.I.length cI,.slice aO S.O.length cO,.slice aR S.R.length cR] 26 (0,0))=w1 at b1 kS HV HL ⊢;go_wp2_with fail;go_loopg [5,6] n (fun gh v5 v6 wr=>∃ (i:Nat),i<=n/\gh=n-i/\v6=.int .i64 (i:Nat)/\v5=.int .i64 (Sk.wid S.V (l.take i):Nat)/\Below w1.heap.size w1 wr)
 case atStart=>exact ⟨0,Nat.zero_le _,rfl,rfl,rfl,Below.refl _ _⟩
 case round=>
  obtain ⟨i,hi,rfl,rfl,rfl,aH⟩:=hrel;by_cases bd:i<n
  case neg=>
   have bp:i=n:=(by omega);subst bp;have HZ:=zBK (show l.take i=l from List.take_of_length_le (by rw [HN.out];exact Nat.le_refl _));rw [HZ.out];go_wp2;go_ret;exact ⟨rfl,b1.trans (aH.mono b1.size)⟩
  case pos=>
   have dj:i<l.length:=(by rw [<-HN.out];exact bd);have ep:=(aH.block _ (zBM kS)).trans kS;have s0:=coQ ep 0;simp at s0;have yS:=zBM ep;obtain ⟨a',c',eqs,_,_,bo⟩:=(HL.out.under aH).at;injection eqs with q1 q2 q3;obtain ⟨bL,oL,sq,yL,hx⟩:=bo i dj;rw [sq] at q1;subst q1;have sX:=jF.out l[i] (List.getElem_mem dj);have nr:=zBK (Sk.wid_succ S.V l i dj);generalize l[i]=x at hx sX nr;obtain ⟨j,rfl⟩:∃ j:Nat,x=(j:Int):=⟨x.toNat,by omega⟩;have hj:j<S.V.length:=(by omega);obtain ⟨a2,c2,eqv,iy,jg,gN⟩:=(HV.out.under aH).at;injection eqv with q4 q5 q6;obtain ⟨bV,oV,gV,yV,-,v1⟩:=gN j hj;rw [gV] at q4;subst q4;rw [<-q6] at iy jg;unfold maxLen at jg;have jL:=zBo hj;obtain ⟨vv,iz⟩:=nmQ (S.V[j]);rw [<-iz] at v1 jL;rw [jL] at nr;have gE:=zCH vv;have iA:=r6.out i;have l7:=r6.out (i+1);rw [nr.out] at l7;have GS:(l.take i).length<=1000:=(by rw [List.length_take];omega);have GU:(l.take (i+1)).length<=1000:=(by rw [List.length_take];omega);obtain ⟨cn,lC⟩:=nmQ (Sk.cnt vv);rw [<-lC] at gE l7 nr;obtain ⟨wi,zk⟩:=nmQ (Sk.wid S.V (l.take i));rw [<-zk] at iA l7 nr ⊢;have nh:wi+cn<=300000:=(by omega);have uY:Hid (IntKind.i64.wrap ((wi:Int)+(cn:Int))=((wi+cn:Nat):Int)):=zBK (by rw [i64_in _ ⟨by omega,by omega⟩];omega);have mR:=zBK gE;clear bo gN q2 q3 q5 q6 sq gV jL iz lC iA l7 GS GU gE zk;go_upto_region 5 with fail;have aM:=zBK (fun (wz:World) (hSw:Below wr.heap.size wr wz)=>And.intro ((hSw.cell (p:=⟨w.heap.size,0,none⟩) yS).trans s0) (And.intro ((hSw.cell (p:=⟨bL,oL+i,none⟩) yL).trans hx) ((hSw.cell (p:=⟨bV,oV+j*2+1,none⟩) yV).trans v1)));refine zBP (fun w'=>Below wr.heap.size wr w') (fun _=>false) (by kernel_rfl) ?_;have ab:Below wr.heap.size wr wr.drew:=(Below.refl _ _).drew;generalize wr.drew=ag at ab ⊢;refine' tkR 0 13 ab ?o1
   refine' tkR 1 14 ab ?o2
   refine' tkQ 2 15 ab ?hyv ?o3
   case hyv=>
    intro wz hSw;have bk:=aM.out wz hSw;go_simp
    try rfl
   try simp only [Act.put,sT,sZ,sS]
   refine' tkR 3 16 ab ?o4
   refine' tkR 4 17 ab ?o5
   refine' tkR 5 18 ab ?o6
   refine' tkQ 6 19 ab ?hyv ?o7
   case hyv=>
    intro wz hSw;have bk:=aM.out wz hSw;go_simp
    try rfl
   try simp only [Act.put,sT,sZ,sS]
   refine' tkR 7 20 ab ?o8
   refine' tkR 8 21 ab ?o9
   refine' tkQ 9 22 ab ?hyv ?o10
   case hyv=>
    intro wz hSw;have bk:=aM.out wz hSw;go_simp
    try rfl
   try simp only [Act.put,sT,sZ,sS]
   refine tnQ 10 (fun K hK=>?_);go_simp;refine (mR.out ag).mono ?_;rintro eq aw ⟨rfl,tM⟩;have af:Below wr.heap.size wr aw:=tM ▸ ab;refine hK.out _ _ (fun _=>af) ?_;clear hK K
   try simp only [Act.put,sT,sZ,sS]
   refine' zBS (i:=11) (oi:=⟨some 24,_,_,_,_,_⟩) (v:=.int .i64 ((wi+cn:Nat):Int)) rfl (by kernel_rfl) (by kernel_rfl) (by kernel_rfl) (by kernel_rfl) (fun _ _ _ h=>h) af (by rfl) ?hyv ?o11
   case hyv=>
    intro wz hSw;go_simp
    try rw [uY.out]
    try omega
   try simp only [Act.put,sT,sZ,sS]
   refine' tkR 12 5 af ?o12
   refine zBN (by kernel_rfl) ?_ _;have BX:=aH.trans (af.mono aH.size);go_wp2_with fail;go_roundg (n-(i+1))
   case measure=>omega
   case rel=>exact ⟨i+1,by omega,rfl,by go_num,by rw [nr.out];simp,BX⟩
end Go.Proofs.YtfhghlpfeeiaeaaGreatDoor
namespace Go.Proofs.YtfhghlpfeeiaeaaGreatDoor
open Go.RowKit Go.IntWalk
theorem zBZ (c a:Int) (w:World):Calls Tryz.prog 21 #[.int .i64 c,.int .i64 a] w fun e w'=>e=.returned (.agg #[.int .i64 c,.int .i64 a])/\Below w.heap.size w w':=by
 have b1:Below w.heap.size w (w.alloc (.cells #[.int .i64 0,.int .i64 0] 32 (0,0))):=(Below.refl _ _).alloc zBR _;have kF:=zBO w (.cells #[.int .i64 0,.int .i64 0] 32 (0,0));go_enter Tryz.func21,Tryz.ntmps21;go_upto_region 1 with fail;generalize w.alloc (.cells #[.int .i64 0,.int .i64 0] 32 (0,0))=w1 at b1 kF ⊢;have s0:=coQ kF 0;have s1:=coQ kF 1;have f0:=foQ kF 0;have f1:=foQ kF 1;simp at s0 s1;have KE:=zBQ (zBQ kF 0 (.int .i64 c)) 1 (.int .i64 a);have BE:=(b1.setCell (p:=⟨w.heap.size,0,none⟩) zBR (.int .i64 c)).setCell (p:=⟨w.heap.size,1,none⟩) zBR (.int .i64 a);have t0:=coQ KE 0;have t1:=coQ KE 1;simp at t0 t1;clear KE;go_wp2;exact bodyPost_ret (v:=.agg #[.int .i64 c,.int .i64 a]) (by simp [results,Tryz.results21,go_sem,t0,t1]) rfl ⟨rfl,BE⟩
theorem zAt {ok:Nat->Prop} {w:World} {aV aI aO aR:Option Addr} {cV cI cO cR:Nat} {S:Sk.Sys} (hS:HSys ok w aV aI aO aR cV cI cO cR S) (n:Nat) (hn:n<=S.R.length) (Og:S.R.length<=1000) :
  Calls Tryz.prog 32 #[.agg #[.slice aV S.V.length cV,.slice aI S.I.length cI,.slice aO S.O.length cO,.slice aR S.R.length cR],.int .i64 (n:Int)] w fun e w'=>∃ v,e=.returned v/\OwnL kInt w.heap.size w' v ((S.R.take n).map (·.out))/\Below w.heap.size w w':=by
 obtain ⟨om,jI,iQ,bY,ik,-⟩:=hS.R.at;injection iQ with g4 g5 g6;rw [<-g6] at bY ik;unfold maxLen at ik;have b0:Below w.heap.size w (w.alloc (.cells #[.slice aV S.V.length cV,.slice aI S.I.length cI,.slice aO S.O.length cO,.slice aR S.R.length cR] 26 (0,0))):=(Below.refl _ _).alloc zBR _;have kS:=zBO w (.cells #[.slice aV S.V.length cV,.slice aI S.I.length cI,.slice aO S.O.length cO,.slice aR S.R.length cR] 26 (0,0));have HS:=zBK ((hS.wide (ok':=fun i=>i<w.heap.size) fun i _ h=>h).under b0);clear hS g4 g5 g6;go_enter Tryz.func32,Tryz.ntmps32;go_upto_region 1 with fail;generalize w.alloc (.cells #[.slice aV S.V.length cV,.slice aI S.I.length cI,.slice aO S.O.length cO,.slice aR S.R.length cR] 26 (0,0))=w1 at b0 kS HS ⊢;have z1:w.heap.size<w1.heap.size:=zBM kS;go_wp2_with fail;go_loopg [5,6] n (fun k v5 v6 wr=>∃ (i:Nat),i<=n/\k=n-i/\v6=.int .i64 (i:Nat)/\Hid (OwnL kInt w1.heap.size wr v5 ((S.R.take i).map (·.out)))/\Below w1.heap.size w1 wr)
 case atStart=>exact ⟨0,Nat.zero_le _,rfl,rfl,zBK OwnL.nil,Below.refl _ _⟩
 case round=>
  obtain ⟨i,hi,rfl,rfl,HO,aH⟩:=hrel;obtain ⟨aX,cX,eX,GC,GD⟩:=HO.out.form;have hlen:((S.R.take i).map (·.out)).length=i:=(by simp;omega);rw [hlen] at eX;subst eX;by_cases bd:i<n
  case neg=>
   have bp:i=n:=(by omega);subst bp;go_wp2;go_ret;obtain ⟨D,⟨o1,o2⟩,o3⟩:=HO.out;refine ⟨_,rfl,⟨D,⟨o1,?_⟩,fun j hj=>kInt.wide (o3 j hj) fun q hq _=>⟨Nat.le_trans (Nat.le_of_lt z1) hq.1,hq.2⟩⟩,b0.trans (aH.mono b0.size)⟩;rcases o2 with q | ⟨g,cap,cur,e1,e2,e3⟩
   ·exact .inl q
   ·exact .inr ⟨g,cap,cur,e1,Nat.le_trans (Nat.le_of_lt z1) e2,e3⟩
  case pos=>
   have Ls:i<S.R.length:=(by omega);have ep:=(aH.block _ z1).trans kS;have s3:=coQ ep 3;simp at s3;obtain ⟨ao,cp,e1,-,-,bo⟩:=(HS.out.under aH).R.at;injection e1 with q1 q2 q3;obtain ⟨bR,oR,y,fU,yR,iT,-⟩:=bo i Ls;rw [fU] at q1;subst q1;obtain ⟨-,-,d2,-,-,-⟩:=iT;have HL:=zBK (show ((S.R.take i).map (·.out))++[(S.R[i]).out]=(S.R.take (i+1)).map (·.out) by rw [List.take_succ_eq_append_getElem Ls,List.map_append];rfl);generalize (S.R[i]).out=x at d2 HL;have dn:=zBK (fun k (e:(Value.slice aX i cX).ownBlock=some k)=>(HO.out.lt k e).2);have zB:=aH.size;have qA:(((S.R.take i).map (·.out)).length+1)*8<=140737488355328:=(by rw [hlen];omega);have qB:((S.R.take i).map (·.out)).length+1<=maxLen:=(by rw [hlen];unfold maxLen;omega);have BF:=zBK aH;clear bo q2 q3 fU ep hlen GC GD
   go_wp2_with (at_builtin;refine zBW kInt rfl _ _ 23 3 rfl Tryz.underlying23 w1.heap.size wr.heap.size _ ((S.R.take i).map (·.out)) (by rfl) HO.out [.int .i64 x] x rfl (by rfl) dn.out zB zB qA qB ?_;intro v8 w8 aG b8 _ _;have di:=zBK aG;have Mw:=zBK (BF.out.trans b8);clear aG HO dn b8)
   go_roundg (n-(i+1))
   case measure=>omega
   case rel=>exact ⟨i+1,by omega,rfl,by go_num,zBK (by rw [<-HL.out];exact di.out),Mw.out⟩
namespace Sk
def pT:List Int:=[-1,0,1,1,2,3,2,2,1,3,3,1,2,2,0,1,1]
def partsD (op:Int):Int:=if 0<=op/\op<17 then pT.getD op.toNat 0 else -1
end Sk
theorem parts29_any (op:Int) (w:World):Calls Tryz.prog 33 #[.int .i64 op] w fun e w'=>e=.returned (.int .i64 (Sk.partsD op))/\Below w.heap.size w w':=by
 have b1:Below w.heap.size w (w.alloc (.cells (Sk.pT.map (Value.int .i64)).toArray 3 (0,0))):=(Below.refl _ _).alloc zBR _;have kT:=zBO w (.cells (Sk.pT.map (Value.int .i64)).toArray 3 (0,0));by_cases hr:0<=op/\op<17
 case neg=>
  have e:Sk.partsD op = -1:=(by unfold Sk.partsD;rw [if_neg hr]);rw [e];clear e;by_cases h0:op<0
  case pos=>
   go_enter Tryz.func33,Tryz.ntmps33;go_wp2;go_ret;exact ⟨rfl,b1⟩
  case neg=>
   have Ke:17<=op:=(by omega);clear hr;go_enter Tryz.func33,Tryz.ntmps33;go_wp2;go_ret;exact ⟨rfl,b1⟩
 case pos=>
  obtain ⟨j,rfl⟩:∃ j:Nat,op=(j:Int):=⟨op.toNat,by omega⟩;have hj:j<17:=(by omega);have cT:=coQ kT j;have e:Sk.partsD (j:Int)=Sk.pT.getD j 0:=(by unfold Sk.partsD;rw [if_pos hr,Int.toNat_natCast]);have jd:j<Sk.pT.length:=hj;have e2:(Sk.pT.map (Value.int .i64)).toArray[j]?=some (.int .i64 (Sk.pT.getD j 0)):=(by simp [List.getD_eq_getElem?_getD,jd]);rw [e2] at cT;rw [e];generalize Sk.pT.getD j 0=z at cT ⊢;clear e e2 hr jd;go_enter Tryz.func33,Tryz.ntmps33;go_upto_region 2 with fail;obtain ⟨w1,iA⟩:=nmQ (w.alloc (.cells (Sk.pT.map (Value.int .i64)).toArray 3 (0,0)));rw [<-iA] at b1 kT cT;have l7:=iA;unfold Sk.pT at l7;simp only [List.map_cons,List.map_nil] at l7;rw [<-l7];clear iA l7 kT;go_wp2;go_ret;exact ⟨rfl,b1⟩
end Go.Proofs.YtfhghlpfeeiaeaaGreatDoor
