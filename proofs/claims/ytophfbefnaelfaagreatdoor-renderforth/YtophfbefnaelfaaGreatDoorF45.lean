import Derived.Test.YtophfbefnaelfaaGreatDoorF44
set_option linter.unusedVariables false
set_option linter.unusedSimpArgs false
set_option maxHeartbeats 64000000
set_option maxRecDepth 100000
namespace Go.Proofs.YtophfbefnaelfaaGreatDoor
open Go.RowKit
namespace Bk
open Tk
theorem good_leaf1 {I:Inp} {n:Int} (h0:0≤n) (h1:n<1000000000000000000):Good I (.mk 1 0 n ⟨#[]⟩ [] []):=by
 have hb:bareK (.mk 1 0 n ⟨#[]⟩ [] [])=[nu n]:=(by rw [bareK];rfl);refine good_unit rfl (fun d m K hd ha=>?_);rw [hb] at ha ⊢;simp only [List.cons_append,List.nil_append] at ha;obtain ⟨c,t,he,hdg,_,_⟩:=num_ok h0 h1;have hc0:=hdg c (by simp);have hne:∀ s:List UInt8,(∀ x,s.head?=some x→isD (x.toNat:Int)=false)→s≠[]→Ps.sees I s m=false:=by
  intro s hs hn;rw [ha.sees,beq_eq_false_iff_ne];intro e;have:s.head?=some c:=(by rw [←e];simp [nu,he]);rw [hs c this] at hc0
  cases hc0
 refine unit_ahead (hne _ (by intro x hx;simp at hx;subst hx;decide) (by simp)) (hne _ (by intro x hx;simp at hx;subst hx;decide) (by simp)) ?_;unfold Ps.unit;rw [if_pos (show (I.pk m).kind=3 from ha.pk.1),ha.pk.2.2];rfl
theorem good_leaf2 {I:Inp} {n:Int} (h:n=0∨n=1):Good I (.mk 2 0 n ⟨#[]⟩ [] []):=by
 refine good_unit rfl (fun d m K hd ha=>?_);rcases h with rfl | rfl
 ·have hb:bareK (.mk 2 0 0 ⟨#[]⟩ [] [])=[wd [102,97,108,115,101]]:=by rw [bareK];rfl
  rw [hb] at ha ⊢;simp only [List.cons_append,List.nil_append] at ha;refine unit_ahead (by rw [ha.sees];decide) (by rw [ha.sees];decide) ?_;unfold Ps.unit;rw [if_neg (by rw [ha.pk.1];simp [wd]),if_neg (by rw [ha.pk.1];simp [wd]),show Ps.sees I [116,114,117,101] m=false by rw [ha.sees];decide,show Ps.sees I [102,97,108,115,101] m=true by rw [ha.sees];decide];simp
 ·have hb:bareK (.mk 2 0 1 ⟨#[]⟩ [] [])=[wd [116,114,117,101]]:=by rw [bareK];rfl
  rw [hb] at ha ⊢;simp only [List.cons_append,List.nil_append] at ha;refine unit_ahead (by rw [ha.sees];decide) (by rw [ha.sees];decide) ?_;unfold Ps.unit;rw [if_neg (by rw [ha.pk.1];simp [wd]),if_neg (by rw [ha.pk.1];simp [wd]),show Ps.sees I [116,114,117,101] m=true by rw [ha.sees];decide];simp
theorem good_leaf3 {I:Inp} {s:ByteArray} (h:isName s.data.toList=true):Good I (.mk 3 0 0 s [] []):=by
 have hb:bareK (.mk 3 0 0 s [] [])=[nm s]:=(by rw [bareK];rfl);refine good_unit rfl (fun d m K hd ha=>?_);rw [hb] at ha ⊢;simp only [List.cons_append,List.nil_append] at ha;obtain ⟨c,t,he,hr,hc,_,hw⟩:=isName_iff h;have hne:∀ x:List UInt8,isWord x=true∨(∃ y,x=[y]∧isR (y.toNat:Int)=false)→Ps.sees I x m=false:=by
  intro x hx;rw [ha.sees,beq_eq_false_iff_ne];intro e;have e2:c :: t=x:=(by rw [←e];simp [nm,he]);rcases hx with hx | ⟨y,rfl,hy⟩
  ·rw [←e2,hw] at hx;cases hx
  ·have:=hr c (by simp)
   rw [(List.cons.inj e2).1,hy] at this
   cases this
 refine unit_ahead (hne _ (.inr ⟨45,rfl,by decide⟩)) (hne _ (.inl (by decide))) ?_;unfold Ps.unit;rw [if_neg (by rw [ha.pk.1];simp [nm]),if_pos (show (I.pk m).kind=2 from ha.pk.1),ha.pk.2.1];rfl
theorem good_un {I:Inp} {k:Int} {x:Ex} (hk:k=13∨k=14) (hC:Rn.partC x=0) (hx:Good I x):Good I (.mk 4 k 0 ⟨#[]⟩ [] [x]):=by
 have hb:bareK (.mk 4 k 0 ⟨#[]⟩ [] [x])=opS k.toNat :: partK x 6:=(by rw [bareK];rfl);have hr:Tx.rank (.mk 4 k 0 ⟨#[]⟩ [] [x])=6:=by rcases hk with rfl | rfl<;>rfl
 have hp:parts (.mk 4 k 0 ⟨#[]⟩ [] [x])=1+parts x:=(by simp [parts,partsL]);refine good_mk 6 (by omega) (by omega) (.inl (by rw [hr];rfl)) (fun d n K hs hd ha=>?_) (fun d n K h=>by omega) (fun h=>by omega);rw [hb] at ha ⊢;rw [hp] at hd;simp only [List.cons_append] at ha
 show Ps.ahead I d n=_
 have hin:Ps.ahead I (d-1) (n+1)=.ok x (n+1+(partK x 6).length):=part_ok (r:=6) hx hC (by omega) (by omega) (by omega) ha.tail hs;rw [ahead_eq];unfold Ps.aheadS;rcases hk with rfl | rfl
 ·rw [show Ps.sees I [45] n=true by rw [ha.sees];decide]
  simp only [if_true];rw [opn_ok (by omega)];unfold Ps.signed;rw [hin];simp only [Res.bind,List.length_cons]
  congr 1
  omega
 ·rw [show Ps.sees I [45] n=false by rw [ha.sees];decide,show Ps.sees I [110,111,116] n=true by rw [ha.sees];decide]
  simp only [Bool.false_eq_true,if_false,if_true];rw [opn_ok (by omega)];unfold Ps.signed;rw [hin];simp only [Res.bind,List.length_cons]
  congr 1
  omega
theorem good_bin {I:Inp} {k:Int} {x y:Ex} (hk:1≤k∧k≤12) (hm:¬(k=6∨k=7)) (hCx:Rn.partC x=0) (hCy:Rn.partC y=0) (hx:Good I x) (hy:Good I y):Good I (.mk 5 k 0 ⟨#[]⟩ [] [x,y]):=by
 obtain ⟨o1,o2,o3,o4,o5⟩:=opS_lv k.toNat (by omega);have hsz:(Tx.opT k.toNat).2.1.size≠0:=(opS_o k.toNat (by omega)).2.2;obtain ⟨ρ,hρ⟩:=nmQ (lv (opS k.toNat).text);rw [←hρ] at o3 o4 o5;have hkk:((k.toNat:Nat):Int)=k:=(by omega);rw [hkk] at o2;have hr:Tx.rank (.mk 5 k 0 ⟨#[]⟩ [] [x,y])=(ρ:Int):=(by rw [o3];rfl);have hp:parts (.mk 5 k 0 ⟨#[]⟩ [] [x,y])=1+(parts x+parts y):=(by simp [parts,partsL]);have hb:bareK (.mk 5 k 0 ⟨#[]⟩ [] [x,y])=partK x (if ρ=3 then 4 else (ρ:Int))++(opS k.toNat :: partK y ((ρ+1:Nat):Int)):=by
  rw [bareK]
  show pairK k (baresK [x,y])=_
  unfold pairK;rw [if_neg hsz,←o3];have e:(if (ρ:Int)=3 then (4:Int) else ρ)=(if ρ=3 then 4 else (ρ:Int)):=by
   by_cases h:ρ=3
   ·rw [if_pos h,if_pos (by omega)]
   ·rw [if_neg h,if_neg (by omega)]
  rw [e];rfl
 have hon:=btw_on o4 o5 hρ.symm;rw [o2] at hon;have hopSp:∀ (s:Nat) (K:List Bt),ρ<s→Sp s (opS k.toNat :: K):=fun s K h=>⟨_,K,rfl,o1,by omega⟩;by_cases h3:ρ=3
 ·refine good_mk ρ o4 (by omega) (.inl hr.symm) (fun d n K hs hd ha=>?_) (fun d n K h=>by omega) (fun h=>by omega)
  subst h3;rw [hb] at ha ⊢;rw [hp] at hd;rw [if_pos rfl] at ha ⊢;rw [List.append_assoc] at ha;have hl:=part_ok (d:=d) (r:=4) hx hCx (by omega) (by omega) (by omega) ha (hopSp 4 _ (by omega));have h2:=ha.app;rw [List.cons_append] at h2;have hrr:=part_ok (d:=d) (r:=4) hy hCy (by omega) (by omega) (by omega) h2.tail (hs.mono (by omega));rw [lev_cmp];unfold Ps.cmp;rw [show lev I d 4 n=.ok x (n+(partK x 4).length) from hl];simp only [Res.bind];rw [h2.pk.2.1,show btw 8 9 (opS k.toNat).text=k from hon.1,if_neg hon.2];rw [show lev I d 4 (n+(partK x 4).length+1)=.ok y (n+(partK x 4).length+1+(partK y ((4:Nat):Int)).length) from hrr];simp only [List.length_append,List.length_cons]
  congr 1
  show _=n+((partK x 4).length+((partK y ((3+1:Nat):Int)).length+1))
  have:(partK y ((3+1:Nat):Int)).length=(partK y ((4:Nat):Int)).length:=rfl;omega
 ·have hl:ρ=1∨ρ=2∨ρ=4∨ρ=5:=by omega
  rw [if_neg h3] at hb;have hM:∀ (d n:Nat) (K:List Bt),Sp (ρ+1) K→2*parts (.mk 5 k 0 ⟨#[]⟩ [] [x,y])≤d+1→At I n (bareK (.mk 5 k 0 ⟨#[]⟩ [] [x,y])++K)→∃ f,I.L.length≤f+(n+(bareK (.mk 5 k 0 ⟨#[]⟩ [] [x,y])).length)∧lev I d ρ n=Ps.more I (lev I d (ρ+1)) (lo ρ) (hi ρ) f (.mk 5 k 0 ⟨#[]⟩ [] [x,y]) (n+(bareK (.mk 5 k 0 ⟨#[]⟩ [] [x,y])).length):=by
   intro d n K hs hd ha;rw [hb] at ha ⊢;rw [hp] at hd;rw [List.append_assoc] at ha;obtain ⟨f,hf,he⟩:=partL_ok hx hCx hl (by omega:2*parts x≤d) ha (hopSp (ρ+1) _ (by omega));have h2:=ha.app;rw [List.cons_append] at h2;have hlt:=h2.lt;obtain ⟨f,rfl⟩:∃ g,f=g+1:=⟨f-1,by omega⟩;have hrr:=part_ok (r:=ρ+1) hy hCy (by omega) (by omega) (by omega:2*parts y≤d) h2.tail hs;refine ⟨f,?_,?_⟩
   ·simp only [List.length_append,List.length_cons];omega
   ·rw [he]
    conv=>lhs;unfold Ps.more
    rw [h2.pk.2.1,hon.1,if_neg hon.2,hrr];simp only [Res.bind,List.length_append,List.length_cons];rw [show n+(partK x ↑ρ).length+1+(partK y ((ρ+1:Nat):Int)).length=n+((partK x ↑ρ).length+((partK y ((ρ+1:Nat):Int)).length+1)) by omega]
  refine good_mk ρ o4 (by omega) (.inl hr.symm) (fun d n K hs hd ha=>?_) (fun d n K _ hs hd ha=>hM d n K hs hd ha) (fun h=>by omega);obtain ⟨f,hf,he⟩:=hM d n K (hs.mono (Nat.le_succ _)) hd ha;rw [he];exact more_stop (hs.off o4 o5 ha.app)
theorem good_if {I:Inp} {x y z:Ex} (hCx:Rn.partC x=0) (hCy:Rn.partC y=0) (hCz:Rn.partC z=0) (hx:Good I x) (hy:Good I y) (hz:Good I z):Good I (.mk 6 0 0 ⟨#[]⟩ [] [x,y,z]):=by
 have hb:bareK (.mk 6 0 0 ⟨#[]⟩ [] [x,y,z])=wd [105,102] :: (partK x 0++(wd [116,104,101,110] :: (partK y 0++(wd [101,108,115,101] :: partK z 0)))):=(by rw [bareK];rfl);have hr:Tx.rank (.mk 6 0 0 ⟨#[]⟩ [] [x,y,z])=0:=rfl;have hp:parts (.mk 6 0 0 ⟨#[]⟩ [] [x,y,z])=1+(parts x+(parts y+parts z)):=(by simp [parts,partsL]);have hT:∀ (d n:Nat) (K:List Bt),Sp 1 K→2*parts (.mk 6 0 0 ⟨#[]⟩ [] [x,y,z])≤d+1→At I n (bareK (.mk 6 0 0 ⟨#[]⟩ [] [x,y,z])++K)→lev I d 6 n=.ok (.mk 6 0 0 ⟨#[]⟩ [] [x,y,z]) (n+(bareK (.mk 6 0 0 ⟨#[]⟩ [] [x,y,z])).length):=by
  intro d n K hs hd ha;have hend:=ha.app;rw [hb] at ha hend ⊢;rw [hp] at hd;simp only [List.cons_append,List.append_assoc] at ha;have e1:=part0_ok hx hCx (d:=d-1) (by omega) ha.tail ((Cl.mk (by decide)).sp);have a2:=ha.tail.app;have e2:=part0_ok hy hCy (d:=d-1) (by omega) a2.tail ((Cl.mk (by decide)).sp);have a3:=a2.tail.app;have e3:=part0_ok hz hCz (d:=d-1) (by omega) a3.tail hs;have hu:Ps.unit I (Jd I d) n=.ok (.mk 6 0 0 ⟨#[]⟩ [] [x,y,z]) (n+(wd [105,102] :: (partK x 0++(wd [116,104,101,110] :: (partK y 0++(wd [101,108,115,101] :: partK z 0))))).length):=by
   unfold Ps.unit;rw [if_neg (by rw [ha.pk.1];simp [wd]),if_neg (by rw [ha.pk.1];simp [wd]),show Ps.sees I [116,114,117,101] n=false by rw [ha.sees];decide,show Ps.sees I [102,97,108,115,101] n=false by rw [ha.sees];decide,show Ps.sees I [40] n=false by rw [ha.sees];decide,show Ps.sees I [105,102] n=true by rw [ha.sees];decide];simp only [Bool.false_eq_true,if_false,if_true];rw [opn_ok (by omega)];unfold Ps.choice;rw [e1];simp only [Res.bind];rw [a2.need (by rfl)];simp only [];rw [e2];simp only [];rw [a3.need (by rfl)];simp only [];rw [e3];simp only [List.length_append,List.length_cons]
   congr 1
   omega
  obtain ⟨f,_,he⟩:=unit_ahead (by rw [ha.sees];decide) (by rw [ha.sees];decide) hu
  show Ps.ahead I d n=_
  rw [he];exact indices_stop (hs.bracket hend)
 refine ⟨fun d r n K a b c hd ha=>?_,fun d r n K a b=>by omega,fun d n K a=>by omega⟩;have hs:Sp 1 K:=by
  rcases c with ⟨c1,_⟩ | ⟨_,c2⟩
  ·omega
  ·exact c2
 exact lev_downs ha.app (6-r) r a (by omega) (by rw [show r+(6-r)=6 by omega];exact hT d n K hs hd ha) (hs.mono a)
theorem good_index {I:Inp} {x y z:Ex} (hCx:Rn.partC x=0) (hCy:Rn.partC y=0) (hCz:Rn.partC z=0) (hx:Good I x) (hy:Good I y) (hz:Good I z):Good I (.mk 11 0 0 ⟨#[]⟩ [] [x,y,z]):=by
 have hb:bareK (.mk 11 0 0 ⟨#[]⟩ [] [x,y,z])=partK x 7++(sg 91 :: (partK y 0++(sg 58 :: (partK z 0++[sg 93])))):=(by rw [bareK];rfl);have hp:parts (.mk 11 0 0 ⟨#[]⟩ [] [x,y,z])=1+(parts x+(parts y+parts z)):=(by simp [parts,partsL]);refine good_unit rfl (fun d n K hd ha=>?_);rw [hb] at ha ⊢;rw [hp] at hd;simp only [List.cons_append,List.append_assoc,List.nil_append] at ha;obtain ⟨f,hf,he⟩:=part7_ok hx hCx (d:=d) (by omega) ha;have a1:=ha.app;have hlt:=a1.lt;obtain ⟨f,rfl⟩:∃ g,f=g+1:=⟨f-1,by omega⟩;have e2:=part0_ok hy hCy (d:=d-1) (by omega) a1.tail ((Cl.mk (by decide)).sp);have a2:=a1.tail.app;have e3:=part0_ok hz hCz (d:=d-1) (by omega) a2.tail ((Cl.mk (by decide)).sp);have a3:=a2.tail.app;refine ⟨f,?_,?_⟩
 ·simp only [List.length_append,List.length_cons,List.length_nil];omega
 ·rw [he]
  conv=>lhs;unfold Ps.indices
  rw [show Ps.sees I [91] (n+(partK x 7).length)=true by rw [a1.sees];decide];simp only [if_true];rw [opn_ok (by omega)];unfold Ps.index;rw [e2];simp only [Res.bind];rw [a2.need (by rfl)];simp only [];rw [e3];simp only [];rw [a3.need (by rfl)];simp only [List.length_append,List.length_cons,List.length_nil];rw [show n+(partK x 7).length+1+(partK y 0).length+1+(partK z 0).length+1=n+((partK x 7).length+((partK y 0).length+((partK z 0).length+(0+1)+1)+1)) by omega]
/-! ### forms -/
theorem unit_form {I:Inp} {e:Ex} {w:List UInt8} {B:List Bt} (hb:bareK e=wd w :: (sg 40 :: B)) (h7:Tx.rank e=7) (hp:2≤parts e) (op k:Int) (p:Ps.Pt) (ps:List Ps.Pt)
  (hw:(w=[109,105,110]∧op=5∧k=6∧p=.part∧ps=[.part])∨(w=[109,97,120]∧op=5∧k=7∧p=.part∧ps=[.part])∨(w=[109,97,112]∧op=7∧k=0∧p=.oper∧ps=[.oneOrTwo])∨(w=[102,111,108,100]∧op=8∧k=0∧p=.oper∧ps=[.part,.part])∨(w=[115,99,97,110]∧op=9∧k=0∧p=.oper∧ps=[.part,.part])∨(w=[102,105,108,108]∧op=10∧k=0∧p=.part∧ps=[.size])∨(w=[119,105,116,104]∧op=12∧k=0∧p=.part∧ps=[.part,.part])∨(w=[115,108,105,99,101]∧op=13∧k=0∧p=.part∧ps=[.size,.size])∨(w=[99,97,116]∧op=14∧k=0∧p=.part∧ps=[.part])∨(w=[112,114,101]∧op=15∧k=0∧p=.part∧ps=[.part]))
  (hin:∀ (d n:Nat) (K:List Bt),2*parts e≤d+2→At I n (sg 40 :: (B++K))→Ps.brackets I (Ps.exprOf I (Ps.ahead I d)) p ps (Ps.bare op k) n=.ok e (n+1+B.length)):Good I e:=by
 refine good_unit h7 (fun d n K hd ha=>?_);rw [hb] at ha ⊢;simp only [List.cons_append] at ha;obtain ⟨s1,s2,hu⟩:=form_of_word (J:=Jd I d) ha op k p ps hw;refine unit_ahead s1 s2 ?_;rw [hu,opn_ok (by omega),hin (d-1) (n+1) K (by omega) ha.tail];simp only [List.length_cons]
 congr 1
 omega
theorem addL_mk (op k n:Int) (name:ByteArray) (S:List (List Tm)) (L:List Ex) (x:Ex):Ps.Ex.addL (.mk op k n name S L) x=.mk op k n name S (L++[x]):=rfl
theorem addS_mk (op k n:Int) (name:ByteArray) (S:List (List Tm)) (L:List Ex) (x:List Tm):Ps.Ex.addS (.mk op k n name S L) x=.mk op k n name (S++[x]) L:=rfl
theorem setK_mk (op k j n:Int) (name:ByteArray) (S:List (List Tm)) (L:List Ex):Ps.Ex.setK (.mk op k n name S L) j=.mk op j n name S L:=rfl
theorem c41 (K:List Bt):Cl (sg 41 :: K):=Cl.mk (by decide)
theorem c44 (K:List Bt):Cl (sg 44 :: K):=Cl.mk (by decide)
theorem two_parts {I:Inp} {x y:Ex} (hCx:Rn.partC x=0) (hCy:Rn.partC y=0) (hx:Good I x) (hy:Good I y) (op k:Int) (d n:Nat) (K:List Bt) (hd:2*(1+(parts x+parts y))≤d+2) (ha:At I n (sg 40 :: ((partK x 0++(sg 44 :: partK y 0))++[sg 41]++K))) :
  Ps.brackets I (Ps.exprOf I (Ps.ahead I d)) .part [.part] (Ps.bare op k) n=.ok (.mk op k 0 ⟨#[]⟩ [] [x,y]) (n+1+((partK x 0++(sg 44 :: partK y 0))++[sg 41]).length):=by
 simp only [List.append_assoc,List.cons_append,List.nil_append] at ha;have e1:=part0_ok hx hCx (d:=d) (by omega) ha.tail (c44 _).sp;have a1:=ha.tail.app;have e2:=part0_ok hy hCy (d:=d) (by omega) a1.tail (c41 _).sp;have a2:=a1.tail.app;rw [brk ha (part_part e1) (parts_cons a1 (part_part e2) (by unfold Ps.parts;rfl)) a2];simp only [Ps.bare,addL_mk,List.nil_append,List.cons_append,List.length_append,List.length_cons,List.length_nil]
 congr 1
 omega
theorem good_mm {I:Inp} {k:Int} {x y:Ex} (hk:k=6∨k=7) (hCx:Rn.partC x=0) (hCy:Rn.partC y=0) (hx:Good I x) (hy:Good I y):Good I (.mk 5 k 0 ⟨#[]⟩ [] [x,y]):=by
 have hp:parts (.mk 5 k 0 ⟨#[]⟩ [] [x,y])=1+(parts x+parts y):=(by simp [parts,partsL]);have hp1:1≤parts x:=(by cases x;simp [parts]);rcases hk with rfl | rfl
 ·have hb:bareK (.mk 5 6 0 ⟨#[]⟩ [] [x,y])=wd [109,105,110] :: (sg 40 :: ((partK x 0++(sg 44 :: partK y 0))++[sg 41])):=by
   rw [bareK]
   show pairK 6 (baresK [x,y])=_
   unfold pairK;rw [if_pos (by rfl),commas_baresK];simp [commasK,exprK,opW,Tx.opT,Tx.opsT]
  refine unit_form hb rfl (by omega) 5 6 .part [.part] (.inl ⟨rfl,rfl,rfl,rfl,rfl⟩) (fun d n K hd ha=>?_);exact two_parts hCx hCy hx hy 5 6 d n K (by rw [hp] at hd;exact hd) ha
 ·have hb:bareK (.mk 5 7 0 ⟨#[]⟩ [] [x,y])=wd [109,97,120] :: (sg 40 :: ((partK x 0++(sg 44 :: partK y 0))++[sg 41])):=by
   rw [bareK]
   show pairK 7 (baresK [x,y])=_
   unfold pairK;rw [if_pos (by rfl),commas_baresK];simp [commasK,exprK,opW,Tx.opT,Tx.opsT]
  refine unit_form hb rfl (by omega) 5 7 .part [.part] (.inr (.inl ⟨rfl,rfl,rfl,rfl,rfl⟩)) (fun d n K hd ha=>?_);exact two_parts hCx hCy hx hy 5 7 d n K (by rw [hp] at hd;exact hd) ha
theorem bare_form (op k:Int) (S:List (List Tm)) (L:List Ex) (ho:op=7∨op=8∨op=9∨op=10∨op=12∨op=13∨op=14∨op=15):bareK (.mk op k 0 ⟨#[]⟩ S L)=wd (Rn.shp op.toNat).1.data.toList :: (sg 40 :: ((if k=0 then [] else [opW k.toNat,sg 44])++(commasK exprK L++(sizesK S++[sg 41])))):=by
 rw [bareK];have:bareOfK op k 0 ⟨#[]⟩ S (baresK L)=formK op k S (baresK L):=by
  unfold bareOfK;rw [if_neg (by omega),if_neg (by omega),if_neg (by omega),if_neg (by omega),if_neg (by omega),if_neg (by omega),if_neg (by omega)]
 rw [this];unfold formK;rw [commas_baresK];rfl
theorem good_cat {I:Inp} {op:Int} {x y:Ex} (ho:op=14∨op=15) (hCx:Rn.partC x=0) (hCy:Rn.partC y=0) (hx:Good I x) (hy:Good I y):Good I (.mk op 0 0 ⟨#[]⟩ [] [x,y]):=by
 have hp:parts (.mk op 0 0 ⟨#[]⟩ [] [x,y])=1+(parts x+parts y):=(by simp [parts,partsL]);have hp1:1≤parts x:=(by cases x;simp [parts]);have hb:=bare_form op 0 [] [x,y] (by omega);rcases ho with rfl | rfl
 ·refine unit_form (B:=(partK x 0++(sg 44 :: partK y 0))++[sg 41]) (w:=[99,97,116]) (by rw [hb];simp [commasK,sizesK,exprK];rfl) rfl (by omega) 14 0 .part [.part] (by simp) (fun d n K hd ha=>?_)
  exact two_parts hCx hCy hx hy 14 0 d n K (by rw [hp] at hd;exact hd) ha
 ·refine unit_form (B:=(partK x 0++(sg 44 :: partK y 0))++[sg 41]) (w:=[112,114,101]) (by rw [hb];simp [commasK,sizesK,exprK];rfl) rfl (by omega) 15 0 .part [.part] (by simp) (fun d n K hd ha=>?_)
  exact two_parts hCx hCy hx hy 15 0 d n K (by rw [hp] at hd;exact hd) ha
theorem good_with {I:Inp} {x y z:Ex} (hCx:Rn.partC x=0) (hCy:Rn.partC y=0) (hCz:Rn.partC z=0) (hx:Good I x) (hy:Good I y) (hz:Good I z):Good I (.mk 12 0 0 ⟨#[]⟩ [] [x,y,z]):=by
 have hp:parts (.mk 12 0 0 ⟨#[]⟩ [] [x,y,z])=1+(parts x+(parts y+parts z)):=(by simp [parts,partsL]);have hp1:1≤parts x:=(by cases x;simp [parts]);have hb:=bare_form 12 0 [] [x,y,z] (by omega);refine unit_form (B:=partK x 0++(sg 44 :: (partK y 0++(sg 44 :: (partK z 0++[sg 41]))))) (w:=[119,105,116,104]) (by rw [hb];simp [commasK,sizesK,exprK];rfl) rfl (by omega) 12 0 .part [.part,.part] (by simp) (fun d n K hd ha=>?_);rw [hp] at hd;simp only [List.append_assoc,List.cons_append,List.nil_append] at ha;have e1:=part0_ok hx hCx (d:=d) (by omega) ha.tail (c44 _).sp;have a1:=ha.tail.app;have e2:=part0_ok hy hCy (d:=d) (by omega) a1.tail (c44 _).sp;have a2:=a1.tail.app;have e3:=part0_ok hz hCz (d:=d) (by omega) a2.tail (c41 _).sp;have a3:=a2.tail.app;rw [brk ha (part_part e1) (parts_cons a1 (part_part e2) (parts_cons a2 (part_part e3) (by unfold Ps.parts;rfl))) a3];simp only [Ps.bare,addL_mk,List.nil_append,List.cons_append,List.length_append,List.length_cons,List.length_nil]
 congr 1
 omega
theorem good_fill {I:Inp} {x:Ex} {s:List Tm} (hCx:Rn.partC x=0) (hs:Rn.sizeC s=0) (hx:Good I x):Good I (.mk 10 0 0 ⟨#[]⟩ [s] [x]):=by
 have hp:parts (.mk 10 0 0 ⟨#[]⟩ [s] [x])=1+parts x:=(by simp [parts,partsL]);have hp1:1≤parts x:=(by cases x;simp [parts]);have hb:=bare_form 10 0 [s] [x] (by omega);refine unit_form (B:=partK x 0++(sg 44 :: (sizeK s++[sg 41]))) (w:=[102,105,108,108]) (by rw [hb];simp [commasK,sizesK,exprK];rfl) rfl (by omega) 10 0 .part [.size] (by simp) (fun d n K hd ha=>?_);rw [hp] at hd;simp only [List.append_assoc,List.cons_append,List.nil_append] at ha;have e1:=part0_ok hx hCx (d:=d) (by omega) ha.tail (c44 _).sp;have a1:=ha.tail.app;have e2:=size_ok hs a1.tail (c41 _);have a2:=a1.tail.app;rw [brk ha (part_part e1) (parts_cons a1 (part_size e2) (by unfold Ps.parts;rfl)) a2];simp only [Ps.bare,addL_mk,addS_mk,List.nil_append,List.cons_append,List.length_append,List.length_cons,List.length_nil]
 congr 1
 omega
theorem good_slice {I:Inp} {x:Ex} {s t:List Tm} (hCx:Rn.partC x=0) (hs:Rn.sizeC s=0) (ht:Rn.sizeC t=0) (hx:Good I x):Good I (.mk 13 0 0 ⟨#[]⟩ [s,t] [x]):=by
 have hp:parts (.mk 13 0 0 ⟨#[]⟩ [s,t] [x])=1+parts x:=(by simp [parts,partsL]);have hp1:1≤parts x:=(by cases x;simp [parts]);have hb:=bare_form 13 0 [s,t] [x] (by omega);refine unit_form (B:=partK x 0++(sg 44 :: (sizeK s++(sg 44 :: (sizeK t++[sg 41]))))) (w:=[115,108,105,99,101]) (by rw [hb];simp [commasK,sizesK,exprK];rfl) rfl (by omega) 13 0 .part [.size,.size] (by simp) (fun d n K hd ha=>?_);rw [hp] at hd;simp only [List.append_assoc,List.cons_append,List.nil_append] at ha;have e1:=part0_ok hx hCx (d:=d) (by omega) ha.tail (c44 _).sp;have a1:=ha.tail.app;have e2:=size_ok hs a1.tail (c44 _);have a2:=a1.tail.app;have e3:=size_ok ht a2.tail (c41 _);have a3:=a2.tail.app;rw [brk ha (part_part e1) (parts_cons a1 (part_size e2) (parts_cons a2 (part_size e3) (by unfold Ps.parts;rfl))) a3];simp only [Ps.bare,addL_mk,addS_mk,List.nil_append,List.cons_append,List.length_append,List.length_cons,List.length_nil]
 congr 1
 omega
theorem good_fold {I:Inp} {op k:Int} {x y:Ex} (ho:op=8∨op=9) (hk:1≤k∧k≤14) (hCx:Rn.partC x=0) (hCy:Rn.partC y=0) (hx:Good I x) (hy:Good I y):Good I (.mk op k 0 ⟨#[]⟩ [] [x,y]):=by
 have hp:parts (.mk op k 0 ⟨#[]⟩ [] [x,y])=1+(parts x+parts y):=(by simp [parts,partsL]);have hp1:1≤parts x:=(by cases x;simp [parts]);have hb:=bare_form op k [] [x,y] (by omega);rw [if_neg (by omega)] at hb;have hin:∀ (d n:Nat) (K:List Bt),2*(1+(parts x+parts y))≤d+2→At I n (sg 40 :: ((opW k.toNat :: (sg 44 :: (partK x 0++(sg 44 :: (partK y 0++[sg 41])))))++K))→Ps.brackets I (Ps.exprOf I (Ps.ahead I d)) .oper [.part,.part] (Ps.bare op 0) n=.ok (.mk op k 0 ⟨#[]⟩ [] [x,y]) (n+1+(opW k.toNat :: (sg 44 :: (partK x 0++(sg 44 :: (partK y 0++[sg 41]))))).length):=by
  intro d n K hd ha;simp only [List.append_assoc,List.cons_append,List.nil_append] at ha;have e0:=oper_ok hk ha.tail;have a0:=ha.tail.tail;have e1:=part0_ok hx hCx (d:=d) (by omega) a0.tail (c44 _).sp;have a1:=a0.tail.app;have e2:=part0_ok hy hCy (d:=d) (by omega) a1.tail (c41 _).sp;have a2:=a1.tail.app;rw [brk ha (part_oper e0) (parts_cons a0 (part_part e1) (parts_cons a1 (part_part e2) (by unfold Ps.parts;rfl))) a2];simp only [Ps.bare,setK_mk,addL_mk,List.nil_append,List.cons_append,List.length_append,List.length_cons,List.length_nil]
  congr 1
  omega
 rcases ho with rfl | rfl
 ·exact unit_form (B:=opW k.toNat :: (sg 44 :: (partK x 0++(sg 44 :: (partK y 0++[sg 41]))))) (w:=[102,111,108,100]) (by rw [hb];simp [commasK,sizesK,exprK];rfl) rfl (by omega) 8 0 .oper [.part,.part] (by simp) (fun d n K hd ha=>hin d n K (by rw [hp] at hd;exact hd) ha)
 ·exact unit_form (B:=opW k.toNat :: (sg 44 :: (partK x 0++(sg 44 :: (partK y 0++[sg 41]))))) (w:=[115,99,97,110]) (by rw [hb];simp [commasK,sizesK,exprK];rfl) rfl (by omega) 9 0 .oper [.part,.part] (by simp) (fun d n K hd ha=>hin d n K (by rw [hp] at hd;exact hd) ha)
theorem good_map1 {I:Inp} {k:Int} {x:Ex} (hk:1≤k∧k≤14) (hCx:Rn.partC x=0) (hx:Good I x):Good I (.mk 7 k 0 ⟨#[]⟩ [] [x]):=by
 have hp:parts (.mk 7 k 0 ⟨#[]⟩ [] [x])=1+parts x:=(by simp [parts,partsL]);have hp1:1≤parts x:=(by cases x;simp [parts]);have hb:=bare_form 7 k [] [x] (by omega);rw [if_neg (by omega)] at hb;refine unit_form (B:=opW k.toNat :: (sg 44 :: (partK x 0++[sg 41]))) (w:=[109,97,112]) (by rw [hb];simp [commasK,sizesK,exprK];rfl) rfl (by omega) 7 0 .oper [.oneOrTwo] (by simp) (fun d n K hd ha=>?_);rw [hp] at hd;simp only [List.append_assoc,List.cons_append,List.nil_append] at ha;have e0:=oper_ok hk ha.tail;have a0:=ha.tail.tail;have e1:=part0_ok hx hCx (d:=d) (by omega) a0.tail (c41 _).sp;have a1:=a0.tail.app;have hpt:Ps.part I (Ps.exprOf I (Ps.ahead I d)) .oneOrTwo (Ps.Ex.setK (Ps.bare 7 0) k) (n+1+1+1)=.ok (.mk 7 k 0 ⟨#[]⟩ [] [x]) (n+1+1+1+(partK x 0).length):=by
  unfold Ps.part;simp only [];rw [e1];simp only [Res.bind];rw [show Ps.sees I [44] (n+1+1+1+(partK x 0).length)=false by rw [a1.sees];decide];simp [Ps.bare,setK_mk,addL_mk]
 rw [brk ha (part_oper e0) (parts_cons a0 hpt (by unfold Ps.parts;rfl)) a1];simp only [List.length_append,List.length_cons,List.length_nil]
 congr 1
 omega
theorem good_map2 {I:Inp} {k:Int} {x y:Ex} (hk:1≤k∧k≤14) (hCx:Rn.partC x=0) (hCy:Rn.partC y=0) (hx:Good I x) (hy:Good I y):Good I (.mk 7 k 0 ⟨#[]⟩ [] [x,y]):=by
 have hp:parts (.mk 7 k 0 ⟨#[]⟩ [] [x,y])=1+(parts x+parts y):=(by simp [parts,partsL]);have hp1:1≤parts x:=(by cases x;simp [parts]);have hb:=bare_form 7 k [] [x,y] (by omega);rw [if_neg (by omega)] at hb;refine unit_form (B:=opW k.toNat :: (sg 44 :: (partK x 0++(sg 44 :: (partK y 0++[sg 41]))))) (w:=[109,97,112]) (by rw [hb];simp [commasK,sizesK,exprK];rfl) rfl (by omega) 7 0 .oper [.oneOrTwo] (by simp) (fun d n K hd ha=>?_);rw [hp] at hd;simp only [List.append_assoc,List.cons_append,List.nil_append] at ha;have e0:=oper_ok hk ha.tail;have a0:=ha.tail.tail;have e1:=part0_ok hx hCx (d:=d) (by omega) a0.tail (c44 _).sp;have a1:=a0.tail.app;have e2:=part0_ok hy hCy (d:=d) (by omega) a1.tail (c41 _).sp;have a2:=a1.tail.app;have hpt:Ps.part I (Ps.exprOf I (Ps.ahead I d)) .oneOrTwo (Ps.Ex.setK (Ps.bare 7 0) k) (n+1+1+1)=.ok (.mk 7 k 0 ⟨#[]⟩ [] [x,y]) (n+1+1+1+(partK x 0).length+1+(partK y 0).length):=by
  unfold Ps.part;simp only [];rw [e1];simp only [Res.bind];rw [show Ps.sees I [44] (n+1+1+1+(partK x 0).length)=true by rw [a1.sees];decide];simp only [if_true];rw [e2];simp [Ps.bare,setK_mk,addL_mk]
 rw [brk ha (part_oper e0) (parts_cons a0 hpt (by unfold Ps.parts;rfl)) a2];simp only [List.length_append,List.length_cons,List.length_nil]
 congr 1
 omega
theorem good_all {I:Inp}:∀ (q:Nat) (e:Ex),parts e≤q→Rn.partC e=0→Good I e
 | 0,.mk op k n name S L,h,_=>by simp [parts] at h
 | q+1,.mk op k n name S L,h,hC=>by
  have hp:=part_of hC;obtain ⟨f1,f2,f3,f4,f5,f6,f7,f8⟩:=form_of hp.form;have ih:∀ x ∈ L,Good I x:=fun x hx=>good_all q x (by
   have:=parts_mem hx;simp only [parts] at h;omega) (hp.parts x hx)
  have hops:op=1∨op=2∨op=3∨op=4∨op=5∨op=6∨op=7∨op=8∨op=9∨op=10∨op=11∨op=12∨op=13∨op=14∨op=15:=(by omega);have hname:op≠3→name=⟨#[]⟩:=fun h=>zero_name f8 h;have hnum:op≠1→op≠2→n=0:=fun h h'=>zero_num f7 h h';have hC':=hp.parts;have hS':=hp.sizes;rcases hops with rfl | rfl | rfl | rfl | rfl | rfl | rfl | rfl | rfl | rfl | rfl | rfl | rfl | rfl | rfl
  all_goals simp [Rn.shp,Rn.shpT] at f2 f3 f4 f5 f6
  ·obtain rfl:=hname (by decide)
   obtain rfl:k=0:=by omega
   subst f3;subst f4;exact good_leaf1 hp.num.1 hp.num.2
  ·obtain rfl:=hname (by decide)
   obtain rfl:k=0:=by omega
   subst f3;subst f4;refine good_leaf2 ?_;unfold Rn.numOk at f7;rw [if_neg (by decide),if_pos rfl] at f7;exact of_decide_eq_true f7
  ·obtain rfl:=hnum (by decide) (by decide)
   obtain rfl:k=0:=by omega
   subst f3;subst f4;exact good_leaf3 (hp.name rfl)
  ·obtain rfl:=hname (by decide)
   obtain rfl:=hnum (by decide) (by decide);subst f4;obtain ⟨x,rfl⟩:=len1 (by omega:L.length=1);exact good_un (by omega) (hC' x (by simp)) (ih x (by simp))
  ·obtain rfl:=hname (by decide)
   obtain rfl:=hnum (by decide) (by decide);subst f4;obtain ⟨x,y,rfl⟩:=len2 (by omega:L.length=2);by_cases hm:k=6∨k=7
   ·exact good_mm hm (hC' x (by simp)) (hC' y (by simp)) (ih x (by simp)) (ih y (by simp))
   ·exact good_bin (by omega) hm (hC' x (by simp)) (hC' y (by simp)) (ih x (by simp)) (ih y (by simp))
  ·obtain rfl:=hname (by decide)
   obtain rfl:=hnum (by decide) (by decide);obtain rfl:k=0:=by omega
   subst f4;obtain ⟨x,y,z,rfl⟩:=len3 (by omega:L.length=3);exact good_if (hC' x (by simp)) (hC' y (by simp)) (hC' z (by simp)) (ih x (by simp)) (ih y (by simp)) (ih z (by simp))
  ·obtain rfl:=hname (by decide)
   obtain rfl:=hnum (by decide) (by decide);subst f4;by_cases h1:L.length=1
   ·obtain ⟨x,rfl⟩:=len1 h1
    exact good_map1 (by omega) (hC' x (by simp)) (ih x (by simp))
   ·obtain ⟨x,y,rfl⟩:=len2 (by omega:L.length=2)
    exact good_map2 (by omega) (hC' x (by simp)) (hC' y (by simp)) (ih x (by simp)) (ih y (by simp))
  ·obtain rfl:=hname (by decide)
   obtain rfl:=hnum (by decide) (by decide);subst f4;obtain ⟨x,y,rfl⟩:=len2 (by omega:L.length=2);exact good_fold (.inl rfl) (by omega) (hC' x (by simp)) (hC' y (by simp)) (ih x (by simp)) (ih y (by simp))
  ·obtain rfl:=hname (by decide)
   obtain rfl:=hnum (by decide) (by decide);subst f4;obtain ⟨x,y,rfl⟩:=len2 (by omega:L.length=2);exact good_fold (.inr rfl) (by omega) (hC' x (by simp)) (hC' y (by simp)) (ih x (by simp)) (ih y (by simp))
  ·obtain rfl:=hname (by decide)
   obtain rfl:=hnum (by decide) (by decide);obtain rfl:k=0:=by omega
   obtain ⟨x,rfl⟩:=len1 (by omega:L.length=1);obtain ⟨s,rfl⟩:=len1 (by omega:S.length=1);exact good_fill (hC' x (by simp)) (hS' s (by simp)) (ih x (by simp))
  ·obtain rfl:=hname (by decide)
   obtain rfl:=hnum (by decide) (by decide);obtain rfl:k=0:=by omega
   subst f4;obtain ⟨x,y,z,rfl⟩:=len3 (by omega:L.length=3);exact good_index (hC' x (by simp)) (hC' y (by simp)) (hC' z (by simp)) (ih x (by simp)) (ih y (by simp)) (ih z (by simp))
  ·obtain rfl:=hname (by decide)
   obtain rfl:=hnum (by decide) (by decide);obtain rfl:k=0:=by omega
   subst f4;obtain ⟨x,y,z,rfl⟩:=len3 (by omega:L.length=3);exact good_with (hC' x (by simp)) (hC' y (by simp)) (hC' z (by simp)) (ih x (by simp)) (ih y (by simp)) (ih z (by simp))
  ·obtain rfl:=hname (by decide)
   obtain rfl:=hnum (by decide) (by decide);obtain rfl:k=0:=by omega
   obtain ⟨x,rfl⟩:=len1 (by omega:L.length=1);obtain ⟨s,t,rfl⟩:=len2 (by omega:S.length=2);exact good_slice (hC' x (by simp)) (hS' s (by simp)) (hS' t (by simp)) (ih x (by simp))
  ·obtain rfl:=hname (by decide)
   obtain rfl:=hnum (by decide) (by decide);obtain rfl:k=0:=by omega
   subst f4;obtain ⟨x,y,rfl⟩:=len2 (by omega:L.length=2);exact good_cat (.inl rfl) (hC' x (by simp)) (hC' y (by simp)) (ih x (by simp)) (ih y (by simp))
  ·obtain rfl:=hname (by decide)
   obtain rfl:=hnum (by decide) (by decide);obtain rfl:k=0:=by omega
   subst f4;obtain ⟨x,y,rfl⟩:=len2 (by omega:L.length=2);exact good_cat (.inr rfl) (hC' x (by simp)) (hC' y (by simp)) (ih x (by simp)) (ih y (by simp))
end Bk
end Go.Proofs.YtophfbefnaelfaaGreatDoor
