import Derived.Test.YtophfbefnaelfaaGreatDoorF43
set_option linter.unusedVariables false
set_option linter.unusedSimpArgs false
set_option maxHeartbeats 64000000
set_option maxRecDepth 100000
namespace Go.Proofs.YtophfbefnaelfaaGreatDoor
open Go.RowKit
namespace Bk
open Tk
def lvO (k:Int):Nat:=if k=1∨k=2 then 4 else if 3≤k∧k≤5 then 5 else if k=8∨k=9 then 3 else if k=10 then 2 else if k=11∨k=12 then 1 else 0
def lv (t:List UInt8):Nat:=lvO (signOp t)
def Sp (r:Nat) (K:List Bt):Prop:=∃ b K',K=b :: K'∧b.text≠[91]∧lv b.text<r
theorem Sp.mono {r s:Nat} {K:List Bt} (h:Sp r K) (hs:r≤s):Sp s K:=by
 obtain ⟨b,K',e,h1,h2⟩:=h;exact ⟨b,K',e,h1,by omega⟩
theorem closers_lv:∀ t ∈ closers,t≠[91]∧lv t=0:=by decide
theorem Cl.sp {K:List Bt} (h:Cl K):Sp 1 K:=by
 obtain ⟨b,K',e,hb⟩:=h;have:=closers_lv _ hb;exact ⟨b,K',e,this.1,by omega⟩
def lo (r:Nat):Int:=if r=1 then 11 else if r=2 then 10 else if r=3 then 8 else if r=4 then 1 else 3
def hi (r:Nat):Int:=if r=1 then 12 else if r=2 then 10 else if r=3 then 9 else if r=4 then 2 else 5
theorem signOp_cases (t:List UInt8):signOp t=0∨signOp t=1∨signOp t=2∨signOp t=3∨signOp t=4∨signOp t=5∨signOp t=8∨signOp t=9∨signOp t=10∨signOp t=11∨signOp t=12:=by
 unfold signOp
 repeat' split
 all_goals simp
theorem btw_off {r:Nat} {t:List UInt8} (h1:1≤r) (h5:r≤5) (h:lv t≠r):btw (lo r) (hi r) t=0:=by
 unfold btw;unfold lv lvO at h;rcases signOp_cases t with e | e | e | e | e | e | e | e | e | e | e<;>rw [e] at h ⊢<;>simp at h ⊢ <;>
  (rcases (by omega:r=1∨r=2∨r=3∨r=4∨r=5) with rfl | rfl | rfl | rfl | rfl<;>simp [lo,hi] at h ⊢)
theorem Sp.off {r:Nat} {K:List Bt} (h:Sp r K) (h1:1≤r) (h5:r≤5) {I:Inp} {n:Nat} (ha:At I n K):btw (lo r) (hi r) (I.pk n).text=0:=by
 obtain ⟨b,K',rfl,_,hl⟩:=h;rw [ha.pk.2.1];exact btw_off h1 h5 (by omega)
theorem Sp.bracket {r:Nat} {K:List Bt} (h:Sp r K) {I:Inp} {n:Nat} (ha:At I n K):Ps.sees I [91] n=false:=by
 obtain ⟨b,K',rfl,hb,_⟩:=h;rw [ha.sees]
 simpa using hb
theorem opS_lv:∀ k:Nat,(1≤k∧k≤5)∨(8≤k∧k≤12)→(opS k).text≠[91]∧signOp (opS k).text=(k:Int)∧((lv (opS k).text:Int)=(Tx.opT k).2.2)∧1≤lv (opS k).text∧lv (opS k).text≤5:=by
 intro k hk;have hk2:k=1∨k=2∨k=3∨k=4∨k=5∨k=8∨k=9∨k=10∨k=11∨k=12:=(by omega);rcases hk2 with rfl | rfl | rfl | rfl | rfl | rfl | rfl | rfl | rfl | rfl<;>decide
theorem btw_on {r:Nat} {t:List UInt8} (h1:1≤r) (h5:r≤5) (h:lv t=r):btw (lo r) (hi r) t=signOp t∧signOp t≠0:=by
 unfold btw;unfold lv lvO at h;rcases signOp_cases t with e | e | e | e | e | e | e | e | e | e | e<;>rw [e] at h ⊢<;>simp at h <;>
  (first | omega | (subst h;simp [lo,hi]))
def lev (I:Inp) (d:Nat):Nat→Nat→Res Ex
 | 1=>Ps.exprOf I (Ps.ahead I d)
 | 2=>Ps.fromLeft I (Ps.cmp I (Ps.sum I (Ps.ahead I d))) 10 10
 | 3=>Ps.cmp I (Ps.sum I (Ps.ahead I d))
 | 4=>Ps.sum I (Ps.ahead I d)
 | 5=>Ps.fromLeft I (Ps.ahead I d) 3 5
 | _=>Ps.ahead I d
theorem lev_left {I:Inp} {d r:Nat} (h:r=1∨r=2∨r=4∨r=5) (n:Nat):lev I d r n=Ps.fromLeft I (lev I d (r+1)) (lo r) (hi r) n:=by
 rcases h with rfl | rfl | rfl | rfl<;>rfl
theorem lev_cmp {I:Inp} {d:Nat} (n:Nat):lev I d 3 n=Ps.cmp I (lev I d 4) n:=rfl
theorem more_stop {I:Inp} {R:Nat→Res Ex} {a c:Int} {f:Nat} {e:Ex} {n:Nat} (h:btw a c (I.pk n).text=0):Ps.more I R a c f e n=.ok e n:=by
 cases f with
 | zero=>rfl
 | succ f=>unfold Ps.more;rw [if_pos h]
theorem lev_down {I:Inp} {d r:Nat} (h1:1≤r) (h5:r≤5) {n m:Nat} {e:Ex} {K:List Bt} (h:lev I d (r+1) n=.ok e m) (ha:At I m K) (hs:Sp r K):lev I d r n=.ok e m:=by
 have hb:=hs.off h1 h5 ha;by_cases h3:r=3
 ·subst h3
  rw [lev_cmp];unfold Ps.cmp;rw [h];simp only [Res.bind];rw [if_pos (show btw 8 9 (I.pk m).text=0 from hb)]
 ·rw [lev_left (by omega)]
  unfold Ps.fromLeft;rw [h];simp only [Res.bind];exact more_stop hb
theorem lev_downs {I:Inp} {d:Nat} {n m:Nat} {e:Ex} {K:List Bt} (ha:At I m K):∀ (j r:Nat),1≤r→r+j≤6→lev I d (r+j) n=.ok e m→Sp r K→lev I d r n=.ok e m
 | 0,r,_,_,h,_=>h
 | j+1,r,h1,h6,h,hs=>by
  have:=lev_downs ha j (r+1) (by omega) (by omega) (by rw [show r+1+j=r+(j+1) by omega];exact h) (hs.mono (Nat.le_succ _));exact lev_down h1 (by omega) this ha hs
def Jd (I:Inp):Nat→Option (Nat→Res Ex)
 | 0=>none
 | d+1=>some (Ps.ahead I d)
theorem ahead_eq (I:Inp) (d:Nat):Ps.ahead I d=Ps.aheadS I (Jd I d):=by cases d<;>rfl
theorem opn_ok {I:Inp} {d n:Nat} {k:(Nat→Res Ex)→Nat→Res Ex} (h:1≤d):Ps.opn I (Jd I d) n k=k (Ps.ahead I (d-1)) (n+1):=by
 obtain ⟨d,rfl⟩:∃ c,d=c+1:=⟨d-1,by omega⟩;rfl
def Good (I:Inp) (e:Ex):Prop :=
 (∀ (d r n:Nat) (K:List Bt),1≤r→r≤6→((r:Int)≤Tx.rank e∧Sp r K∨Tx.rank e=0∧Sp 1 K)→2*parts e≤d+1→At I n (bareK e++K)→lev I d r n=.ok e (n+(bareK e).length)) ∧
 (∀ (d r n:Nat) (K:List Bt),(r=1∨r=2∨r=4∨r=5)→(r:Int)≤Tx.rank e→Sp (r+1) K→2*parts e≤d+1→At I n (bareK e++K)→∃ f,I.L.length≤f+(n+(bareK e).length)∧lev I d r n=Ps.more I (lev I d (r+1)) (lo r) (hi r) f e (n+(bareK e).length)) ∧
 (∀ (d n:Nat) (K:List Bt),Tx.rank e=7→2*parts e≤d+1→At I n (bareK e++K)→∃ f,I.L.length≤f+(n+(bareK e).length)∧Ps.ahead I d n=Ps.indices I (Jd I d) f e (n+(bareK e).length))
theorem indices_stop {I:Inp} {J:Option (Nat→Res Ex)} {f:Nat} {e:Ex} {n:Nat} (h:Ps.sees I [91] n=false):Ps.indices I J f e n=.ok e n:=by
 cases f with
 | zero=>rfl
 | succ f=>unfold Ps.indices;rw [if_neg (by simp [h])]
theorem bracket_unit {I:Inp} {e:Ex} (hg:Good I e) {d n:Nat} {K:List Bt} (hd:2*parts e≤d) (ha:At I n (sg 40 :: (bareK e++(sg 41 :: K)))) (hr:0≤Tx.rank e) :
  ∃ f,I.L.length≤f+(n+(bareK e).length+2)∧Ps.ahead I d n=Ps.indices I (Jd I d) f e (n+(bareK e).length+2):=by
 have hp:1≤parts e:=(by cases e;simp [parts]);have hin:lev I (d-1) 1 (n+1)=.ok e (n+1+(bareK e).length):=by
  refine hg.1 (d-1) 1 (n+1) (sg 41 :: K) (by omega) (by omega) ?_ (by omega) ha.tail;have hc:Sp 1 (sg 41 :: K):=(Cl.mk (by decide)).sp;by_cases h0:Tx.rank e=0
  ·exact .inr ⟨h0,hc⟩
  ·exact .inl ⟨by omega,hc⟩
 refine ⟨I.L.length-(n+(bareK e).length+2),by omega,?_⟩;rw [ahead_eq];unfold Ps.aheadS;have s1:Ps.sees I [45] n=false:=(by rw [ha.sees];decide);have s2:Ps.sees I [110,111,116] n=false:=(by rw [ha.sees];decide);rw [s1,s2];simp only [Bool.false_eq_true,if_false];have hu:Ps.unit I (Jd I d) n=.ok e (n+(bareK e).length+2):=by
  unfold Ps.unit;have k3:¬(I.pk n).kind=3:=(by rw [ha.pk.1];simp [sg]);have k2:¬(I.pk n).kind=2:=(by rw [ha.pk.1];simp [sg]);have s3:Ps.sees I [116,114,117,101] n=false:=(by rw [ha.sees];decide);have s4:Ps.sees I [102,97,108,115,101] n=false:=(by rw [ha.sees];decide);have s5:Ps.sees I [40] n=true:=(by rw [ha.sees];decide);rw [if_neg k3,if_neg k2,s3,s4,s5];simp only [Bool.false_eq_true,if_false,if_true];rw [opn_ok (by omega)];unfold Ps.bracketed;have hin':Ps.exprOf I (Ps.ahead I (d-1)) (n+1)=.ok e (n+1+(bareK e).length):=hin;rw [hin'];simp only [Res.bind];rw [ha.tail.app.need (by rfl)];simp only []
  congr 1
  omega
 rw [hu];rfl
theorem rank_pos (e:Ex) (h:Rn.partC e=0):0≤Tx.rank e∧Tx.rank e≤7:=by
 obtain ⟨op,k,n,name,S,L⟩:=e;have hf:=form_of (part_of h).form;simp only [Tx.rank,Tx.rankE]
 split
 ·rename_i ho
  have hk:0≤k∧k≤14:=by
   rcases ho with rfl | rfl
   ·have h5:=hf.2.2.2.2.1;have h6:=hf.2.2.2.2.2.1
    simp [Rn.shp,Rn.shpT] at h5 h6;omega
   ·have h5:=hf.2.2.2.2.1;have h6:=hf.2.2.2.2.2.1
    simp [Rn.shp,Rn.shpT] at h5 h6;omega
  have:∀ j:Fin 15,0≤(Tx.opT j.val).2.2∧(Tx.opT j.val).2.2≤7:=(by decide);exact this ⟨k.toNat,by omega⟩
 ·split<;>omega
theorem part_ok {I:Inp} {e:Ex} (hg:Good I e) (hC:Rn.partC e=0) {d r n:Nat} {K:List Bt} (h1:1≤r) (h6:r≤6) (hd:2*parts e≤d) (ha:At I n (partK e (r:Int)++K)) (hs:Sp r K):lev I d r n=.ok e (n+(partK e (r:Int)).length):=by
 have hr:=rank_pos e hC;unfold partK partQK at ha ⊢;by_cases hq:(r:Int)≤Tx.rank e
 ·rw [if_pos hq] at ha ⊢
  exact hg.1 d r n K h1 h6 (.inl ⟨hq,hs⟩) (by omega) ha
 ·rw [if_neg hq] at ha ⊢
  simp only [List.cons_append,List.append_assoc,List.nil_append] at ha;obtain ⟨f,hf,he⟩:=bracket_unit hg hd ha hr.1;have hend:At I (n+(bareK e).length+2) K:=by
   have:=ha.tail.app.tail;rw [show n+1+(bareK e).length+1=n+(bareK e).length+2 by omega] at this;exact this
  have h6':lev I d 6 n=.ok e (n+(bareK e).length+2):=by
   show Ps.ahead I d n=_
   rw [he];exact indices_stop (hs.bracket hend)
  have:=lev_downs hend (6-r) r h1 (by omega) (by rw [show r+(6-r)=6 by omega];exact h6') hs;rw [this];simp;omega
theorem part0_ok {I:Inp} {e:Ex} (hg:Good I e) (hC:Rn.partC e=0) {d n:Nat} {K:List Bt} (hd:2*parts e≤d+1) (ha:At I n (partK e 0++K)) (hs:Sp 1 K):Ps.exprOf I (Ps.ahead I d) n=.ok e (n+(partK e 0).length):=by
 have hr:=rank_pos e hC;unfold partK partQK at ha ⊢;rw [if_pos hr.1] at ha ⊢;refine hg.1 d 1 n K (by omega) (by omega) ?_ hd ha;by_cases h0:Tx.rank e=0
 ·exact .inr ⟨h0,hs⟩
 ·exact .inl ⟨by omega,hs⟩
theorem part7_ok {I:Inp} {e:Ex} (hg:Good I e) (hC:Rn.partC e=0) {d n:Nat} {K:List Bt} (hd:2*parts e≤d) (ha:At I n (partK e 7++K)):∃ f,I.L.length≤f+(n+(partK e 7).length)∧Ps.ahead I d n=Ps.indices I (Jd I d) f e (n+(partK e 7).length):=by
 have hr:=rank_pos e hC;unfold partK partQK at ha ⊢;by_cases hq:(7:Int)≤Tx.rank e
 ·rw [if_pos hq] at ha ⊢
  exact hg.2.2 d n K (by omega) (by omega) ha
 ·rw [if_neg hq] at ha ⊢
  simp only [List.cons_append,List.append_assoc,List.nil_append] at ha;obtain ⟨f,hf,he⟩:=bracket_unit hg hd ha hr.1;refine ⟨f,?_,?_⟩
  ·simp;omega
  ·rw [he]
   congr 1
   simp;omega
theorem partL_ok {I:Inp} {e:Ex} (hg:Good I e) (hC:Rn.partC e=0) {d r n:Nat} {K:List Bt} (hl:r=1∨r=2∨r=4∨r=5) (hd:2*parts e≤d) (ha:At I n (partK e (r:Int)++K)) (hs:Sp (r+1) K):∃ f,I.L.length≤f+(n+(partK e (r:Int)).length)∧lev I d r n=Ps.more I (lev I d (r+1)) (lo r) (hi r) f e (n+(partK e (r:Int)).length):=by
 have hr:=rank_pos e hC;by_cases hq:(r:Int)≤Tx.rank e
 ·unfold partK partQK at ha ⊢
  rw [if_pos hq] at ha ⊢;exact hg.2.1 d r n K hl hq hs (by omega) ha
 ·have hq2:¬((r+1:Nat):Int)≤Tx.rank e:=by omega
  have e1:partK e (r:Int)=partK e ((r+1:Nat):Int):=(by unfold partK partQK;rw [if_neg hq,if_neg hq2]);rw [e1] at ha ⊢;have:=part_ok hg hC (by omega) (by omega) hd ha hs;refine ⟨I.L.length-(n+(partK e ((r+1:Nat):Int)).length),by omega,?_⟩;rw [lev_left hl];unfold Ps.fromLeft;rw [this];rfl
end Bk
end Go.Proofs.YtophfbefnaelfaaGreatDoor
namespace Go.Proofs.YtophfbefnaelfaaGreatDoor
open Go.RowKit
namespace Bk
open Tk
theorem good_mk {I:Inp} {e:Ex} (ρ:Nat) (h1:1≤ρ) (h6:ρ≤6) (hρ:(ρ:Int)=Tx.rank e∨ρ=6∧Tx.rank e=7)
  (hT:∀ (d n:Nat) (K:List Bt),Sp ρ K→2*parts e≤d+1→At I n (bareK e++K)→lev I d ρ n=.ok e (n+(bareK e).length))
  (hM:∀ (d n:Nat) (K:List Bt),(ρ=1∨ρ=2∨ρ=4∨ρ=5)→Sp (ρ+1) K→2*parts e≤d+1→At I n (bareK e++K)→∃ f,I.L.length≤f+(n+(bareK e).length)∧lev I d ρ n=Ps.more I (lev I d (ρ+1)) (lo ρ) (hi ρ) f e (n+(bareK e).length))
  (hU:Tx.rank e=7→∀ (d n:Nat) (K:List Bt),2*parts e≤d+1→At I n (bareK e++K)→∃ f,I.L.length≤f+(n+(bareK e).length)∧Ps.ahead I d n=Ps.indices I (Jd I d) f e (n+(bareK e).length)):Good I e:=by
 have hlow:∀ (d r n:Nat) (K:List Bt),1≤r→r≤ρ→Sp r K→2*parts e≤d+1→At I n (bareK e++K)→lev I d r n=.ok e (n+(bareK e).length):=fun d r n K a b c x y=>
  lev_downs y.app (ρ-r) r a (by omega) (by rw [show r+(ρ-r)=ρ by omega];exact hT d n K (c.mono b) x y) c
 refine ⟨fun d r n K a b c x y=>?_,fun d r n K a b c x y=>?_,fun d n K a x y=>hU a d n K x y⟩
 ·rcases c with ⟨c1,c2⟩ | ⟨c1,_⟩
  ·exact hlow d r n K a (by omega) c2 x y
  ·omega
 ·by_cases hr:r=ρ
  ·subst hr
   exact hM d n K a c x y
  ·have:=hlow d (r+1) n K (by omega) (by omega) c x y
   refine ⟨I.L.length-(n+(bareK e).length),by omega,?_⟩;rw [lev_left a];unfold Ps.fromLeft;rw [this];rfl
theorem good_unit {I:Inp} {e:Ex} (h7:Tx.rank e=7) (hU:∀ (d n:Nat) (K:List Bt),2*parts e≤d+1→At I n (bareK e++K)→∃ f,I.L.length≤f+(n+(bareK e).length)∧Ps.ahead I d n=Ps.indices I (Jd I d) f e (n+(bareK e).length)):Good I e:=by
 refine good_mk 6 (by omega) (by omega) (.inr ⟨rfl,h7⟩) (fun d n K hs hd ha=>?_) (fun d n K h=>by omega) (fun _=>hU);obtain ⟨f,_,he⟩:=hU d n K hd ha
 show Ps.ahead I d n=_
 rw [he];exact indices_stop (hs.bracket ha.app)
theorem unit_ahead {I:Inp} {e:Ex} {d n m:Nat} (s1:Ps.sees I [45] n=false) (s2:Ps.sees I [110,111,116] n=false) (hu:Ps.unit I (Jd I d) n=.ok e m):∃ f,I.L.length≤f+m∧Ps.ahead I d n=Ps.indices I (Jd I d) f e m:=by
 refine ⟨I.L.length-m,by omega,?_⟩;rw [ahead_eq];unfold Ps.aheadS;rw [s1,s2];simp only [Bool.false_eq_true,if_false];rw [hu];rfl
theorem zero_num {op n:Int} (h:Rn.numOk op n=true) (h1:op≠1) (h2:op≠2):n=0:=by
 unfold Rn.numOk at h;rw [if_neg h1,if_neg h2] at h
 simpa using h
theorem zero_name {op:Int} {name:ByteArray} (h:op=3∨name.size=0) (h3:op≠3):name=⟨#[]⟩:=byte_empty (h.resolve_left h3)
/-! ### brackets -/
theorem brk {I:Inp} {E:Nat→Res Ex} {p:Ps.Pt} {ps:List Ps.Pt} {e0 e1 e2:Ex} {n n1 n2:Nat} {R K:List Bt} (h:At I n (sg 40 :: R)) (hp:Ps.part I E p e0 (n+1)=.ok e1 n1) (hps:Ps.parts I E ps e1 n1=.ok e2 n2) (hc:At I n2 (sg 41 :: K)):Ps.brackets I E p ps e0 n=.ok e2 (n2+1):=by
 unfold Ps.brackets;rw [h.need (by rfl)];simp only [Res.bind];rw [hp];simp only [];rw [hps];simp only [];rw [hc.need (by rfl)]
theorem parts_cons {I:Inp} {E:Nat→Res Ex} {p:Ps.Pt} {ps:List Ps.Pt} {e e1:Ex} {n n1:Nat} {R:List Bt} {X:Res Ex} (h:At I n (sg 44 :: R)) (hp:Ps.part I E p e (n+1)=.ok e1 n1) (hx:Ps.parts I E ps e1 n1=X):Ps.parts I E (p :: ps) e n=X:=by
 unfold Ps.parts;rw [h.need (by rfl)];simp only [Res.bind];rw [hp];exact hx
theorem part_part {I:Inp} {E:Nat→Res Ex} {e x:Ex} {n m:Nat} (h:E n=.ok x m):Ps.part I E .part e n=.ok (Ps.Ex.addL e x) m:=by
 unfold Ps.part;simp only [];rw [h];rfl
theorem part_size {I:Inp} {E:Nat→Res Ex} {e:Ex} {s:List Tm} {n m:Nat} (h:Ps.size I n=.ok s m):Ps.part I E .size e n=.ok (Ps.Ex.addS e s) m:=by
 unfold Ps.part;simp only [];rw [h];rfl
theorem part_oper {I:Inp} {E:Nat→Res Ex} {e:Ex} {k:Int} {n m:Nat} (h:Ps.oper I n=.ok k m):Ps.part I E .oper e n=.ok (Ps.Ex.setK e k) m:=by
 unfold Ps.part;simp only [];rw [h];rfl
theorem oper_ok {I:Inp} {n:Nat} {k:Int} {K:List Bt} (hk:1≤k∧k≤14) (h:At I n (opW k.toNat :: K)):Ps.oper I n=.ok k (n+1):=by
 have hk2:k=1∨k=2∨k=3∨k=4∨k=5∨k=6∨k=7∨k=8∨k=9∨k=10∨k=11∨k=12∨k=13∨k=14:=(by omega);unfold Ps.oper;have hw:Ps.wordAt I n Ps.words 1=some k:=by
  unfold Ps.words;simp only [Ps.wordAt,h.sees];rcases hk2 with rfl | rfl | rfl | rfl | rfl | rfl | rfl | rfl | rfl | rfl | rfl | rfl | rfl | rfl<;>rfl
 rw [hw]
theorem form_of_word {I:Inp} {J:Option (Nat→Res Ex)} {n:Nat} {w:List UInt8} {R:List Bt} (h:At I n (wd w :: R)) (op k:Int) (p:Ps.Pt) (ps:List Ps.Pt)
  (hw:(w=[109,105,110]∧op=5∧k=6∧p=.part∧ps=[.part])∨(w=[109,97,120]∧op=5∧k=7∧p=.part∧ps=[.part])∨(w=[109,97,112]∧op=7∧k=0∧p=.oper∧ps=[.oneOrTwo])∨(w=[102,111,108,100]∧op=8∧k=0∧p=.oper∧ps=[.part,.part])∨(w=[115,99,97,110]∧op=9∧k=0∧p=.oper∧ps=[.part,.part])∨(w=[102,105,108,108]∧op=10∧k=0∧p=.part∧ps=[.size])∨(w=[119,105,116,104]∧op=12∧k=0∧p=.part∧ps=[.part,.part])∨(w=[115,108,105,99,101]∧op=13∧k=0∧p=.part∧ps=[.size,.size])∨(w=[99,97,116]∧op=14∧k=0∧p=.part∧ps=[.part])∨(w=[112,114,101]∧op=15∧k=0∧p=.part∧ps=[.part])) :
  Ps.sees I [45] n=false∧Ps.sees I [110,111,116] n=false∧Ps.unit I J n=Ps.opn I J n fun A n1=>Ps.brackets I (Ps.exprOf I A) p ps (Ps.bare op k) n1:=by
 have k3:¬(I.pk n).kind=3:=(by rw [h.pk.1];simp [wd]);have k2:¬(I.pk n).kind=2:=(by rw [h.pk.1];simp [wd]);unfold Ps.unit;rw [if_neg k3,if_neg k2];unfold Ps.form;simp only [h.sees];rcases hw with ⟨rfl,rfl,rfl,rfl,rfl⟩ | ⟨rfl,rfl,rfl,rfl,rfl⟩ | ⟨rfl,rfl,rfl,rfl,rfl⟩ | ⟨rfl,rfl,rfl,rfl,rfl⟩ | ⟨rfl,rfl,rfl,rfl,rfl⟩ | ⟨rfl,rfl,rfl,rfl,rfl⟩ | ⟨rfl,rfl,rfl,rfl,rfl⟩ | ⟨rfl,rfl,rfl,rfl,rfl⟩ | ⟨rfl,rfl,rfl,rfl,rfl⟩ | ⟨rfl,rfl,rfl,rfl,rfl⟩<;>exact ⟨rfl,rfl,rfl⟩
end Bk
end Go.Proofs.YtophfbefnaelfaaGreatDoor
