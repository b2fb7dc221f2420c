import Derived.Test.YtfhghlpfeeiaeaaGreatDoorX29
set_option linter.unusedVariables false
set_option linter.unusedSimpArgs false
set_option maxHeartbeats 64000000
set_option maxRecDepth 100000
namespace Go.Proofs.YtfhghlpfeeiaeaaGreatDoor
open Go.RowKit Go.IntWalk
namespace Sk
def rest (S:Sys) (tk:List Nat):List Nat:=(List.range S.R.length).filter (fun j => !tk.contains j)
theorem canC_canT {S:Sys} (ok:Okay S) {m:List Bool} {left tk:List Nat} (h:Taken S m left tk) {j:Nat} (hj:j<S.R.length):canC (S.R.map needs) m j=canT S tk S.R[j]:=by
 have e1:(S.R.map needs).getD j []=needs S.R[j]:=(by simp [List.getD_eq_getElem?_getD,hj]);have hr:=List.getElem_mem hj;unfold canC canT;rw [e1,List.all_eq_not_any_not]
 congr 1
 rw [Bool.eq_iff_iff,List.any_eq_true,List.any_eq_true];have key:∀ z ∈ needs S.R[j],(!(m.getD z.toNat false)) = !(there S tk z):=by
  intro z hz;have h1:=h.made.at (needs_in ok _ hr z hz);have h2:there S tk z=true↔z ∈ S.I++tk.map fun j=>(S.R.getD j noRu).out:=by
   unfold there;simp only [Bool.or_eq_true,List.any_eq_true,List.mem_append,List.mem_map,beq_iff_eq]
   constructor
   ·rintro (⟨x,hx,rfl⟩ | ⟨x,hx,e⟩)
    ·exact .inl hx
    ·exact .inr ⟨x,hx,e⟩
   ·rintro (hx | ⟨x,hx,e⟩)
    ·exact .inl ⟨z,hx,rfl⟩
    ·exact .inr ⟨x,hx,e⟩
  rw [Bool.eq_iff_iff.2 (h1.trans h2.symm)]
 constructor
 ·rintro ⟨z,hz,e⟩;exact ⟨z,hz,by rw [<-key z hz];exact e⟩
 ·rintro ⟨z,hz,e⟩;exact ⟨z,hz,by rw [key z hz];exact e⟩
structure MidT (S:Sys) (tk:List Nat):Prop where
 out:∃ f m,takeF (S.R.map needs) (S.R.map Ru.out) f m (rest S tk) tk=turns S/\Taken S m (rest S tk) tk/\(rest S tk).length<=f
theorem rest_nil (S:Sys):rest S []=List.range S.R.length:=by
 unfold rest;rw [List.filter_eq_self];intro a ha;simp
theorem rest_mem {S:Sys} {tk:List Nat} {j:Nat}:j ∈ rest S tk↔j<S.R.length/\tk.contains j=false:=by
 unfold rest;simp [List.mem_filter]
theorem MidT.start {S:Sys} (ok:Okay S):MidT S []:=⟨⟨S.R.length,inM S,by rw [rest_nil];rfl,by rw [rest_nil];exact taken_start ok,by rw [rest_nil];simp⟩⟩
theorem MidT.lt {S:Sys} {tk:List Nat} (h:MidT S tk):(∀ j ∈ tk,j<S.R.length)/\tk.length+(rest S tk).length=S.R.length:=by
 obtain ⟨f,m,e,ht,hl⟩:=h.out;refine ⟨fun j hj=>?_,?_⟩
 ·have:=(ht.perm.mem_iff (a:=j)).1 (by simp [hj])
  simpa using this
 ·have:=ht.perm.length_eq
  simpa using this
theorem find_rest {p q:Nat->Bool}:∀ (l:List Nat),(l.filter p).find? q=l.find? (fun j=>p j&&q j)
 | []=>rfl
 | a :: l=>by
  have ih:=find_rest (p:=p) (q:=q) l;by_cases hp:p a=true
  ·rw [List.filter_cons_of_pos hp,List.find?_cons,List.find?_cons,ih,hp]
   rfl
  ·have Cq:p a=false:=by simpa using hp
   rw [List.filter_cons_of_neg hp,List.find?_cons,ih,Cq];rfl
theorem find_range {p:Nat->Bool} {n i:Nat} (hi:i<n) (h:p i=true) (hb:∀ j,j<i->p j=false):(List.range n).find? p=some i:=by
 rw [List.find?_range_eq_some];exact ⟨h,by simpa using hi,fun j hj=>by simp [hb j hj]⟩
theorem MidT.step {S:Sys} (ok:Okay S) {tk:List Nat} (h:MidT S tk) {i:Nat} (hi:i<S.R.length) (hn:tk.contains i=false) (hc:canT S tk S.R[i]=true) (hb:∀ j (hj:j<S.R.length),j<i->tk.contains j=false->canT S tk S.R[j]=false):MidT S (tk++[i]):=by
 obtain ⟨f,m,e,ht,hl⟩:=h.out;have hf:(rest S tk).find? (canC (S.R.map needs) m)=some i:=by
  unfold rest;rw [find_rest];refine find_range hi ?_ (fun j hj=>?_)
  ·rw [hn,canC_canT ok ht hi,hc];rfl
  ·have oC:j<S.R.length:=by omega
   rw [canC_canT ok ht oC]
   cases hx:tk.contains j with
   | true=>rfl
   | false=>rw [hb j oC hj hx];rfl
 have cQ:=ht.step ok (needs_in ok) hf;have LI:(rest S tk).filter (· != i)=rest S (tk++[i]):=by
  unfold rest;rw [List.filter_filter]
  apply List.filter_congr
  intro a ha;by_cases hq:a=i
  ·subst hq;simp
  ·simp [hq]
 have hlen:=length_filter_ne cQ.2.1 cQ.1;rw [LI] at cQ hlen
 cases f with
 | zero=>
  have:i ∈ rest S tk:=rest_mem.2 ⟨hi,hn⟩;rw [List.eq_nil_of_length_eq_zero (by omega:(rest S tk).length=0)] at this;simp at this
 | succ f=>
  unfold takeF at e;rw [hf] at e
  dsimp only at e
  rw [LI] at e;exact ⟨⟨f,_,e,cQ.2.2.2,by omega⟩⟩
theorem MidT.stop {S:Sys} (ok:Okay S) {tk:List Nat} (h:MidT S tk) (hb:∀ j (hj:j<S.R.length),tk.contains j=false->canT S tk S.R[j]=false):(turns S).1=tk:=by
 obtain ⟨f,m,e,ht,hl⟩:=h.out;have hf:(rest S tk).find? (canC (S.R.map needs) m)=none:=by
  rw [List.find?_eq_none];intro j hj;have gP:=rest_mem.1 hj;rw [canC_canT ok ht gP.1,hb j gP.1 gP.2];simp
 cases f with
 | zero=>rw [<-e];rfl
 | succ f=>
  unfold takeF at e;rw [hf] at e;rw [<-e]
theorem any_nI {tk:List Nat} {i:Nat}:(nI tk).any (fun z=>z==(i:Int))=tk.contains i:=by
 induction tk with
 | nil=>rfl
 | cons a l ih=>
  have e:nI (a :: l)=(a:Int) :: nI l:=rfl;rw [e,List.any_cons,ih,List.contains_cons]
  congr 1
  rw [Bool.eq_iff_iff];simp;omega
end Sk
end Go.Proofs.YtfhghlpfeeiaeaaGreatDoor
namespace Go.Proofs.YtfhghlpfeeiaeaaGreatDoor
open Go.RowKit Go.IntWalk
theorem turns19_any {ok:Nat->Prop} {w:World} {aV aI aO aR:Option Addr} {cV cI cO cR:Nat} {S:Sk.Sys} (hS:HSys ok w aV aI aO aR cV cI cO cR S) (okay:Sk.Okay S) (aB:∀ r ∈ S.R,r.A.length<=1000000/\r.E.length<=1000000) :
  Calls Tryz.prog 19 #[.agg #[.slice aV S.V.length cV,.slice aI S.I.length cI,.slice aO S.O.length cO,.slice aR S.R.length cR]] w fun e w'=>∃ v,e=.returned v/\OwnL kInt w.heap.size w' v (nI (Sk.turns S).1)/\Below w.heap.size w w':=by
 have b1:Below w.heap.size w (w.alloc (.cells #[.slice aV S.V.length cV,.slice aI S.I.length cI,.slice aO S.O.length cO,.slice aR S.R.length cR] 26 (0,0))):=(Below.refl _ _).alloc zBR _;have kS:=zBO w (.cells #[.slice aV S.V.length cV,.slice aI S.I.length cI,.slice aO S.O.length cO,.slice aR S.R.length cR] 26 (0,0));have HS:=zBK hS;have HF:=zBK aB;have eV:=zBK okay;have rq:S.R.length<=400:=okay.nR;have Ag:=zBK (Sk.MidT.start okay);have Gj:=hS.R.at;obtain ⟨yF,yH,lu,bY,ik,_⟩:=Gj;injection lu with q1 q2 q3;subst q1 q3;unfold maxLen at ik;clear hS aB okay q2;go_enter Tryz.func19,Tryz.ntmps19;go_upto_region 1 with fail;generalize w.alloc (.cells #[.slice aV S.V.length cV,.slice aI S.I.length cI,.slice aO S.O.length cO,.slice aR S.R.length cR] 26 (0,0))=w1 at b1 kS ⊢;go_wp2_with fail;go_loopg [3,4] (2*S.R.length+1) (fun gh v3 v4 wr=>∃ (tk:List Nat) (mo:Bool),gh=2*(S.R.length-tk.length)+(if mo=true then 1 else 0)/\Hid (OwnL kInt (w.heap.size+1) wr v3 (nI tk))/\v4=.bool mo/\Hid (Sk.MidT S tk)/\Hid (mo=false->(Sk.turns S).1=tk)/\Below w.heap.size w wr/\wr.heap[w.heap.size]?=some (.cells #[.slice aV S.V.length cV,.slice aI S.I.length cI,.slice aO S.O.length cO,.slice aR S.R.length cR] 26 (0,0)))
 case atStart=>exact ⟨[],true,by simp,zBK OwnL.nil,rfl,Ag,zBK (fun h=>by cases h),b1,kS⟩
 case round=>
  clear Ag b1 kS;obtain ⟨tk,mo,rfl,fR,rfl,rW,tK,BQ,kQ⟩:=hrel;obtain ⟨wq,nX⟩:=nmQ (wr);subst nX;obtain ⟨aT,cT,rfl,wQ,wR⟩:=fR.out.form;have Jx:Hid (HInts (fun i=>w.heap.size+1<=i) wq (.slice aT (nI tk).length cT) (nI tk)):=zBK (zBj fR.out.row);rw [zBn] at wQ ⊢;unfold maxLen at wR;have bd:=rW.out.lt;have oP:tk.length<=S.R.length:=(by omega);have qP:=zBK bd;clear bd
  cases mo
  case false=>
   have HZ:=zBK (tK.out rfl);go_wp2;exact bodyPost_ret (v:=.slice aT tk.length cT) (by simp [results,Tryz.results19,go_sem]) rfl ⟨_,rfl,by rw [HZ.out];have h:=zCG fR.out (Nat.le_succ _);rw [zBn] at h;exact h,BQ⟩
  case true=>
   clear tK;have bQ:=zBK (show ∀ j (hj:j<S.R.length),j<0->tk.contains j=false->Sk.canT S tk S.R[j]=false from fun j _ h=>absurd h (Nat.not_lt_zero _));go_wp2_with fail;go_loopg [3,4,5] S.R.length (fun gh v3 v4 v wr=>∃ i,i<=S.R.length/\gh=S.R.length-i/\v3=.slice aT tk.length cT/\v4=.bool false/\v=.int .i64 (i:Nat)/\Hid (∀ j (hj:j<S.R.length),j<i->tk.contains j=false->Sk.canT S tk S.R[j]=false)/\Below wq.heap.size wq wr)
   case atStart=>exact ⟨0,Nat.zero_le _,rfl,rfl,rfl,rfl,bQ,Below.refl _ _⟩
   case round=>
    clear bQ;obtain ⟨i,hi,rfl,rfl,rfl,rfl,bQ,aH⟩:=hrel;have BR:=BQ.trans (aH.mono BQ.size);have kr:=(aH.block _ (zBM kQ)).trans kQ;have yS:=zBM kr;have s0:=coQ kr 0;have s1:=coQ kr 1;have s2:=coQ kr 2;have s3:=coQ kr 3;simp at s0 s1 s2 s3;by_cases bd:i<S.R.length
    case neg=>
     have bp:i=S.R.length:=(by omega);subst bp;have HZ:=zBK (rW.out.stop eV.out (fun j hj=>bQ.out j hj hj));have tG:=zBK (fR.out.below aH);go_wp2_with fail;go_roundg (2*(S.R.length-tk.length))
     case measure=>simp
     case rel=>exact ⟨tk,false,by simp,by have h:=tG;rw [zBn] at h;exact h,rfl,rW,zBK (fun _=>HZ.out),BR,kr⟩
    case pos=>
     have sj:=(HS.out.under BR).R;obtain ⟨a3,c3,lu,_,_,dr⟩:=sj.at;injection lu with p1 p2 p3;obtain ⟨bR,oR,y,fU,yR,bo,dA⟩:=dr i bd;rw [fU] at p1;subst p1;obtain ⟨r,hr⟩:=nmQ (S.R[i]);have jV:=HF.out r (by rw [hr];exact List.getElem_mem bd);have fE:=zBK hr;rw [<-hr] at bo dA;obtain ⟨d0,d1,d2,d3,d4,d5⟩:=bo;obtain ⟨qc,Hd⟩:=nmQ (tk.contains i);obtain ⟨qd,He⟩:=nmQ (Sk.canT S tk r);have jF:=zBK (show ∀ V,Below wr.heap.size wr V->Calls Tryz.prog 20 #[.slice aT tk.length cT,.int .i64 (i:Int)] V (fun e w'=>e=.returned (.bool qc)/\Below V.heap.size V w') from fun V hV=>by
      have h:=zBr (i:Int) ((Jx.out.under aH).under hV);rw [zBn,Sk.any_nI,<-Hd] at h;exact h)
     have EF:=zBK (show ∀ V,Below wr.heap.size wr V->Calls Tryz.prog 36 #[.agg #[.slice aV S.V.length cV,.slice aI S.I.length cI,.slice aO S.O.length cO,.slice (some ⟨bR,oR,none⟩) S.R.length cR],.agg #[.int .i64 r.op,.int .i64 r.k,.int .i64 r.out,.int .i64 r.n,.slice y.aA y.nA y.cA,.slice y.aE y.nE y.cE],.slice aT tk.length cT] V (fun e w'=>e=.returned (.bool qd)/\Below V.heap.size V w') from fun V hV=>by
      have h:=can36_any (HS.out.under (BR.trans (hV.mono BR.size))) (dA.under hV) ((Jx.out.under aH).under hV) qP.out.1 jV.1 jV.2;rw [zBn,<-He] at h;exact h)
     have Fw:=zBK Hd;have Jo:=zBK He;have tG:=zBK (fR.out.below aH);clear dr p2 p3 fU hr dA jV Hd He sj;go_upto_region 8 with fail;have aM:=zBK (fun (wz:World) (hSw:Below wr.heap.size wr wz)=>And.intro ((hSw.cell (p:=⟨w.heap.size,0,none⟩) yS).trans s0) (And.intro ((hSw.cell (p:=⟨w.heap.size,1,none⟩) yS).trans s1) (And.intro ((hSw.cell (p:=⟨w.heap.size,2,none⟩) yS).trans s2) (And.intro ((hSw.cell (p:=⟨w.heap.size,3,none⟩) yS).trans s3) (And.intro ((hSw.cell (p:=⟨bR,oR+i*6,none⟩) yR).trans d0) (And.intro ((hSw.cell (p:=⟨bR,oR+i*6+1,none⟩) yR).trans d1) (And.intro ((hSw.cell (p:=⟨bR,oR+i*6+2,none⟩) yR).trans d2) (And.intro ((hSw.cell (p:=⟨bR,oR+i*6+3,none⟩) yR).trans d3) (And.intro ((hSw.cell (p:=⟨bR,oR+i*6+4,none⟩) yR).trans d4) ((hSw.cell (p:=⟨bR,oR+i*6+5,none⟩) yR).trans d5))))))))));refine zBP (fun w'=>Below wr.heap.size wr w') (fun _=>false) (by kernel_rfl) ?_;have ab:Below wr.heap.size wr wr.drew:=(Below.refl _ _).drew;generalize wr.drew=ag at ab ⊢;refine' tkR 0 14 ab ?o1
     refine' tkR 1 15 ab ?o2
     refine tnQ 2 (fun K hK=>?_);go_simp;refine (jF.out _ ab).mono ?_;rintro eq aw ⟨rfl,cY⟩;have af:Below wr.heap.size wr aw:=ab.trans (cY.mono ab.size);refine hK.out _ _ (fun _=>af) ?_;clear hK K
     try simp only [Act.put,sT,sZ,sS]
     refine' tkR 3 17 af ?o3
     refine' tkR 4 18 af ?o4
     cases qc
     case false=>
      refine' tkQ 5 19 af ?hyv ?o5
      case hyv=>
       intro wz hSw;have bk:=aM.out wz hSw;go_simp
       try rfl
      try simp only [Act.put,sT,sZ,sS]
      refine' tkR 6 20 af ?o6
      refine' tkQ 7 21 af ?hyv ?o7
      case hyv=>
       intro wz hSw;have bk:=aM.out wz hSw;go_simp
       try rfl
      try simp only [Act.put,sT,sZ,sS]
      refine' tkR 8 22 af ?o8
      refine' tkR 9 23 af ?o9
      refine' tkQ 10 24 af ?hyv ?o10
      case hyv=>
       intro wz hSw;have bk:=aM.out wz hSw;go_simp
       try rfl
      try simp only [Act.put,sT,sZ,sS]
      refine' tkR 11 25 af ?o11
      refine tnQ 12 (fun K hK=>?_);go_simp;refine (EF.out _ af).mono ?_;rintro eq aJ ⟨rfl,dz⟩;have ay:Below wr.heap.size wr aJ:=af.trans (dz.mono af.size);refine hK.out _ _ (fun _=>ay) ?_;clear hK K
      try simp only [Act.put,sT,sZ,sS]
      refine' tkR 13 27 ay ?o12
      refine zBN (by kernel_rfl) ?_ _
      cases qd
      case false=>
       go_wp2_with fail;go_roundg (S.R.length-(i+1))
       case measure=>omega
       case rel=>exact ⟨i+1,by omega,rfl,rfl,rfl,by go_num,zBK (fun j hj lG hc=>by
        rcases Nat.lt_or_ge j i with q | q
        ·exact bQ.out j hj q hc
        ·have e:j=i:=by omega
         subst e;rw [<-fE.out];exact Jo.out.symm),aH.trans (ay.mono aH.size)⟩
      case true=>
       have tD:=zBK (rW.out.step eV.out bd Fw.out.symm (by rw [<-fE.out];exact Jo.out.symm) bQ.out);have Pp:tk.length<S.R.length:=by
        have h1:=qP.out.2;have h2:i ∈ Sk.rest S tk:=Sk.rest_mem.2 ⟨bd,Fw.out.symm⟩;have h3:=List.length_pos_of_mem h2;omega
       have ia:=zBK (tG.out.below ay);have B3:=BR.trans (ay.mono BR.size);have k3:=(ay.block _ yS).trans kr;have dn:=zBK (show ∀ k,(Value.slice aT (nI tk).length cT).ownBlock=some k->k<aJ.heap.size from fun k hk=>(ia.out.lt k hk).2);have z3:w.heap.size+1<=aJ.heap.size:=zBM k3;have q5:((nI tk).length+1)*8<=140737488355328:=(by rw [zBn];omega);have q6:(nI tk).length+1<=maxLen:=(by rw [zBn];unfold maxLen;omega);have qT:Hid (OwnL kInt (w.heap.size+1) aJ (.slice aT tk.length cT) (nI tk)):=zBK (by have h:=ia.out;rw [zBn] at h;exact h);have Fo:Hid (∀ k,(Value.slice aT tk.length cT).ownBlock=some k->k<aJ.heap.size):=zBK (by have h:=dn.out;rw [zBn] at h;exact h);clear ia dn s0 s1 s2 s3 d0 d1 d2 d3 d4 d5
       go_wp2_with (at_builtin;refine zBW kInt rfl _ _ 23 3 rfl Tryz.underlying23 (w.heap.size+1) aJ.heap.size _ (nI tk) (by rfl) qT.out [.int .i64 (i:Int)] (i:Int) rfl (by rfl) Fo.out z3 z3 q5 q6 ?_;intro v8 w8 aG b8 _ _;have di:=zBK aG;clear aG)
       go_roundg (2*(S.R.length-(tk++[i]).length)+1)
       case measure=>rw [List.length_append,List.length_singleton];simp;omega
       case rel=>exact ⟨tk++[i],true,by simp,zBK (by have h:=di.out;rw [show nI (tk++[i])=nI tk++[(i:Int)] by simp [nI]];exact h),rfl,tD,zBK (fun h=>by cases h),B3.trans (b8.mono (Nat.le_succ _)),(b8.block _ (Nat.lt_succ_self _)).trans k3⟩
     case true=>
      refine' tsQ 5 19 af ?_
      refine' tsQ 6 20 af ?_
      refine' tsQ 7 21 af ?_
      refine' tsQ 8 22 af ?_
      refine' tsQ 9 23 af ?_
      refine' tsQ 10 24 af ?_
      refine' tsQ 11 25 af ?_
      refine' tsQ 12 26 af ?_
      refine' tkR 13 27 af ?o13
      refine zBN (by kernel_rfl) ?_ _;go_wp2_with fail;go_roundg (S.R.length-(i+1))
      case measure=>omega
      case rel=>exact ⟨i+1,by omega,rfl,rfl,rfl,by go_num,zBK (fun j hj lG hc=>by
       rcases Nat.lt_or_ge j i with q | q
       ·exact bQ.out j hj q hc
       ·have e:j=i:=by omega
        subst e;rw [<-Fw.out] at hc;cases hc),aH.trans (af.mono aH.size)⟩
end Go.Proofs.YtfhghlpfeeiaeaaGreatDoor
