import Derived.Test.YtegakbobaecdlaaGreatDoorL31
import Derived.WalkKit
import Derived.WalkSpells
import Derived.IntWalk
import Derived.Deep.Cut
import Derived.Deep.LoopGhost
import Derived.Ground.NamesProg
import Derived.Laws.Cover1
import Derived.Laws.EntriesVeiled
import Derived.Laws.Externs
import Derived.Lib.Hide
import Derived.Lib.MakeNoZero
import Derived.Lib.SlBuf
import Derived.Shelf.Bytes.SlSmallAll
import Derived.Shelf.Lay
set_option linter.unusedVariables false
set_option linter.unusedSimpArgs false
set_option maxHeartbeats 64000000
set_option maxRecDepth 100000
namespace Go.Proofs.YtegakbobaecdlaaGreatDoor
open Go.RowKit Go.IntWalk
def nI (l:List Nat):List Int:=l.map Int.ofNat
theorem nI_filter (l:List Nat) (j:Nat):(nI l).filter (· != (j:Int))=nI (l.filter (· != j)):=by
 unfold nI;rw [List.filter_map]
 congr 1
 apply List.filter_congr
 intro x _;rw [Bool.eq_iff_iff];simp;omega
theorem HRus.out {ok:Nat->Prop} {w:World} {ao:Option Addr} {n c:Nat} {l:List Sk.Ru} (h:HRus ok w (.slice ao n c) l) {j:Nat} (hj:j<l.length):∃ b o,ao=some ⟨b,o,none⟩/\b<w.heap.size/\ok b/\n=l.length/\l.length<=c/\c<=maxLen/\w.cell? ⟨b,o+j*6+2,none⟩=some (.int .i64 (l[j]).out):=by
 obtain ⟨C,⟨ao',cap,hv,h1,h2,h3⟩,hC⟩:=h;injection hv with e1 e2 e3;subst e1 e2 e3;obtain ⟨b,o,ha,hob,hb,hc⟩:=h3 (by omega);obtain ⟨y,e,hy⟩:=hC j hj;have:=(hc j hj).2 2 (by decide);rw [e] at this;exact ⟨b,o,ha,hb,hob,rfl,h1,h2,by simpa [rcs] using this⟩
theorem vE {α:Type} {T:Kind α} {B:Nat} {w:World} {v:Value} {l:List α} (h:OwnL T B w v l) {p:Addr} (hp:v.ownBlock≠some p.block) (hE:∀ ok w w' cs a,T.E ok w cs a->T.E ok w' cs a) (u:Value):OwnL T B (w.setCell p u) v l:=by
 obtain ⟨D,⟨h1,h2⟩,h3⟩:=h;refine ⟨D,⟨h1,?_⟩,fun j hj=>hE _ _ _ _ _ (h3 j hj)⟩;rcases h2 with h | ⟨g,cap,cur,e1,e2,e3,e4⟩
 ·exact .inl h
 ·refine .inr ⟨g,cap,cur,e1,e2,?_,e4⟩
  refine zP e3 ?_ u;intro e
  apply hp
  rw [e1,e];rfl
theorem take_any {okR:Nat->Prop} {w:World} {b B:Nat} {x:WkV} {vN vL:Value} {m:List Bool} {R:List Sk.Ru} {L:List Nat} (hk:WkAt w b x vN vL) (hm:Md w x.g m) (hn:x.nV=m.length) (hbg:b≠x.g) (hR:HRus okR w (.slice x.aR x.nR x.cR) R) (hL:OwnL kInt B w vL (nI L)) (hLl:L.length<=1000) (hBw:B<=w.heap.size)
  (hvb:vL.ownBlock≠some b) (hvg:vL.ownBlock≠some x.g) (j:Nat) (hj:j<R.length) (ho:0<=(R[j]).out/\(R[j]).out<m.length) :
  Calls Tryz.prog 38 #[.pointer (some ⟨b,0,none⟩),.int .i64 (j:Int)] w fun e w'=>e=.returned (.tuple #[])/\∃ vL',WkAt w' b x vN vL'/\Md w' x.g (m.set (R[j]).out.toNat true)/\OwnL kInt B w' vL' (nI (L.filter (· != j)))/\vL'.ownBlock=vL.ownBlock/\∀ S,b ∈ S->x.g ∈ S->(∀ k,vL.ownBlock=some k->k ∈ S)->Aside S w.heap.size w w':=by
 obtain ⟨bR,oR,haR,yR,-,hnR,hcR1,hcR2,cR⟩:=hR.out hj;obtain ⟨oi,hoi⟩:∃ oi:Nat,(R[j]).out=(oi:Int):=⟨(R[j]).out.toNat,by omega⟩;have hoi2:oi<m.length:=(by omega);rw [hoi] at cR ⊢;rw [Int.toNat_natCast];unfold maxLen at hcR2;have hk2:=hk;unfold WkAt at hk2;rw [haR,hnR] at hk2;obtain ⟨RL,hRL⟩:=nmQ (R.length);rw [<-hRL] at hk2 hj hcR1;have b1:Below w.heap.size w (w.alloc (.cells #[.int .i64 (j:Int)] 3 (0,0))):=(Below.refl _ _).alloc zM _;have kJ:=zI w (.cells #[.int .i64 (j:Int)] 3 (0,0));have kW:=(b1.block _ (zG hk2)).trans hk2;have CR:=(b1.cell (p:=⟨bR,oR+j*6+2,none⟩) yR).trans cR;have hm1:=hm.under b1;have hbw:b<w.heap.size:=zG hk;have hgw:x.g<w.heap.size:=zG hm;have HL:=zE (hL.below b1);have HKW:=zE (show WkAt _ b x vN vL from hk.under b1);have HLT:=zE hL.lt;obtain ⟨aL,cL,rfl,-,-⟩:=hL.form;have hoN:oi<x.nV:=(by omega);clear hk hk2 hm hR hL hRL hn cR haR hnR ho hoi;go_enter Tryz.func38,Tryz.ntmps38;go_upto_region 1 with fail;generalize w.alloc (.cells #[.int .i64 (j:Int)] 3 (0,0))=w1 at b1 kJ kW CR hm1 HL HKW ⊢;have j0:=coQ kJ 0;have k3:=coQ kW 3;have k5:=coQ kW 5;have k6:=coQ kW 6;simp at j0 k3 k5 k6;have yJ:=zG kJ;have yW:=zG kW;have yR1:bR<w1.heap.size:=Nat.lt_of_lt_of_le yR b1.size;have cM:=hm1.cell hoi2;have yM:=zG hm1;have fM:=foQ hm1 oi;refine zK (fun w'=>Below w1.heap.size w1 w') (fun i=>i==14) (by kernel_rfl) ?_;have hH0:Below w1.heap.size w1 w1.drew:=(Below.refl _ _).drew;generalize w1.drew=wd0 at hH0 ⊢;refine' tkR 0 4 hH0 ?o1
 refine' tkR 1 5 hH0 ?o2
 refine' tkR 2 6 hH0 ?o3
 refine' tkQ 3 7 hH0 ?hyv ?o4
 case hyv=>
  intro wz hSw;have zc0:=(hSw.cell (p:=⟨w.heap.size,0,none⟩) yJ).trans j0;have zc1:=(hSw.cell (p:=⟨b,3,none⟩) yW).trans k3;have zc2:=(hSw.cell (p:=⟨b,5,none⟩) yW).trans k5;have zc3:=(hSw.cell (p:=⟨b,6,none⟩) yW).trans k6;have zc4:=(hSw.cell (p:=⟨bR,oR+j*6+2,none⟩) yR1).trans CR;have zc5:=(hSw.cell (p:=⟨x.g,oi,none⟩) yM).trans cM;go_simp
  try rfl
 try simp only [Act.put,sT,sZ,sS]
 refine' tkR 4 8 hH0 ?o5
 refine' tkR 5 9 hH0 ?o6
 refine' tkR 6 10 hH0 ?o7
 refine' tkR 7 11 hH0 ?o8
 refine' tkQ 8 12 hH0 ?hyv ?o9
 case hyv=>
  intro wz hSw;have zc0:=(hSw.cell (p:=⟨w.heap.size,0,none⟩) yJ).trans j0;have zc1:=(hSw.cell (p:=⟨b,3,none⟩) yW).trans k3;have zc2:=(hSw.cell (p:=⟨b,5,none⟩) yW).trans k5;have zc3:=(hSw.cell (p:=⟨b,6,none⟩) yW).trans k6;have zc4:=(hSw.cell (p:=⟨bR,oR+j*6+2,none⟩) yR1).trans CR;have zc5:=(hSw.cell (p:=⟨x.g,oi,none⟩) yM).trans cM;go_simp
  try rfl
 try simp only [Act.put,sT,sZ,sS]
 refine' tkQ 9 13 hH0 ?hyv ?o10
 case hyv=>
  intro wz hSw;have zc0:=(hSw.cell (p:=⟨w.heap.size,0,none⟩) yJ).trans j0;have zc1:=(hSw.cell (p:=⟨b,3,none⟩) yW).trans k3;have zc2:=(hSw.cell (p:=⟨b,5,none⟩) yW).trans k5;have zc3:=(hSw.cell (p:=⟨b,6,none⟩) yW).trans k6;have zc4:=(hSw.cell (p:=⟨bR,oR+j*6+2,none⟩) yR1).trans CR;have zc5:=(hSw.cell (p:=⟨x.g,oi,none⟩) yM).trans cM;go_simp
  try rfl
 try simp only [Act.put,sT,sZ,sS]
 refine' tkR 10 14 hH0 ?o11
 refine' tkR 11 15 hH0 ?o12
 refine' tkQ 12 16 hH0 ?hyv ?o13
 case hyv=>
  intro wz hSw;have zc0:=(hSw.cell (p:=⟨w.heap.size,0,none⟩) yJ).trans j0;have zc1:=(hSw.cell (p:=⟨b,3,none⟩) yW).trans k3;have zc2:=(hSw.cell (p:=⟨b,5,none⟩) yW).trans k5;have zc3:=(hSw.cell (p:=⟨b,6,none⟩) yW).trans k6;have zc4:=(hSw.cell (p:=⟨bR,oR+j*6+2,none⟩) yR1).trans CR;have zc5:=(hSw.cell (p:=⟨x.g,oi,none⟩) yM).trans cM;go_simp
  try rfl
 try simp only [Act.put,sT,sZ,sS]
 refine' tkR 13 17 hH0 ?o14
 refine tnQ 14 (fun K hK=>?_);have MD:=hm1.under hH0;have cm2:=MD.cell hoi2;have fr2:=foQ MD oi;have kJ2:=(hH0.block _ yJ).trans kJ;have kW2:=(hH0.block _ yW).trans HKW.out;have HA1:=zE (show ∀ S,x.g ∈ S->Aside S w.heap.size w (wd0.setCell ⟨x.g,oi,none⟩ (.bool true)) from fun S hS=>((aside (S:=S) b1).trans ((aside (S:=S) hH0).mono b1.size) zM).trans (Aside.setCell (B:=w.heap.size) (p:=⟨x.g,oi,none⟩) hS (.bool true)) zM);have HEND:=zE (And.intro (Md.put MD hoi2 true) (And.intro (zP (p:=⟨x.g,oi,none⟩) kJ2 (by show x.g≠w.heap.size;omega) (.bool true)) (And.intro (zP (p:=⟨x.g,oi,none⟩) kW2 (by show x.g≠b;exact fun e=>hbg e.symm) (.bool true)) (show OwnL kInt B (wd0.setCell ⟨x.g,oi,none⟩ (.bool true)) (.slice aL (nI L).length cL) (nI L) from vE (HL.out.below hH0) (by simpa using hvg) (fun _ _ _ _ _ h=>h) _))));clear MD kJ2 kW2;go_simp;refine hK.out _ _ (fun h=>absurd h (by decide)) ?_;clear hK K
 try simp only [Act.put,sT,sZ,sS]
 generalize wd0.setCell ⟨x.g,oi,none⟩ (.bool true)=wd1 at HA1 HEND ⊢;refine zH (by kernel_rfl) ?_ _;obtain ⟨md3,kJ3,kW3,own3⟩:=HEND.out;have hdl:=delete_any (nb:=w.heap.size) own3 (by unfold nI;rw [List.length_map];exact hLl) kJ3 (fun e=>by have:=(HLT.out w.heap.size e).2;omega) (Nat.le_trans hBw (HA1.out [x.g] (by simp)).size);have w6:=coQ kW3 6;simp at w6;have zW:=(HA1.out [x.g] (by simp)).size;generalize wd1=w3 at HA1 HEND hdl md3 kJ3 kW3 own3 w6 zW ⊢;have HMD:=zE md3;have HKW3:=zE (show WkAt w3 b x vN (.slice aL (nI L).length cL) from kW3);clear HEND md3 kJ3 kW3 own3 k3 k5 k6 j0 CR cM fM HL HKW hm1 kJ kW hH0;go_upto_region 2 with fail;go_wp2_with fail;refine hdl.mono ?_;rintro e w5 ⟨v',rfl,own5,hob,hA5⟩;obtain ⟨a5,c5,rfl,-,-⟩:=own5.form;have hA6:=hA5 (b :: x.g :: (Value.slice aL (nI L).length cL).ownBlock.toList) (fun k hk=>by rw [hk];simp);have hbb:b<w3.heap.size:=Nat.lt_of_lt_of_le hbw zW;have hgg:x.g<w3.heap.size:=Nat.lt_of_lt_of_le hgw zW;have hA7:=hA5 ((Value.slice aL (nI L).length cL).ownBlock.toList) (fun k hk=>by rw [hk];simp);have kW5:=hA7.keep HKW3.out hbb (fun hm=>hvb (by simpa using hm));have md5:Md w5 x.g (m.set oi true):=hA7.keep HMD.out hgg (fun hm=>hvg (by simpa using hm));have s6:=coQ kW5 6;have f6:=foQ kW5 6;simp at s6;have KR:=zJ kW5 6 (.slice a5 ((nI L).filter (· != (j:Int))).length c5);have HF:=zE (And.intro KR (And.intro (show Md (w5.setCell ⟨b,6,none⟩ (.slice a5 ((nI L).filter (· != (j:Int))).length c5)) x.g (m.set oi true) from zP md5 (by show b≠x.g;exact hbg) _) (vE (p:=⟨b,6,none⟩) own5 (by rw [hob];exact hvb) (fun _ _ _ _ _ h=>h) (.slice a5 ((nI L).filter (· != (j:Int))).length c5))));have HAS:=zE (show ∀ S,b ∈ S->x.g ∈ S->(∀ k,(Value.slice aL (nI L).length cL).ownBlock=some k->k ∈ S)->Aside S w.heap.size w (w5.setCell ⟨b,6,none⟩ (.slice a5 ((nI L).filter (· != (j:Int))).length c5)) from fun S h1 h2 h3=>((HA1.out S h2).trans (hA5 S h3) zW).trans (Aside.setCell (B:=w.heap.size) (p:=⟨b,6,none⟩) h1 _) zM);have HOB:=zE hob;clear KR md5 own5 kW5 hA6 hA7 hA5 hdl w6 hob;go_wp2;refine bodyPost_end (v:=.tuple #[]) (by simp [results,Tryz.results38,go_sem]) rfl ?_;refine ⟨rfl,.slice a5 ((nI L).filter (· != (j:Int))).length c5,?_,HF.out.2.1,?_,HOB.out,HAS.out⟩
 ·have:=HF.out.1
  simp at this;exact this
 ·rw [<-nI_filter]
  exact HF.out.2.2
end Go.Proofs.YtegakbobaecdlaaGreatDoor
namespace Go.Proofs.YtegakbobaecdlaaGreatDoor
open Go.RowKit Go.IntWalk
theorem xK (l:List Nat):(nI l).length=l.length:=by simp [nI]
theorem jM (l:List Nat) (k:Nat) (h:k<(nI l).length):(nI l)[k]=((l[k]'(by rw [xK] at h;exact h):Nat):Int):=by simp [nI]
namespace Sk
theorem find_none {N:List (List Int)} {m:List Bool} {L:List Nat} (h:∀ z ∈ nI L,canC N m z.toNat=false):L.find? (canC N m)=none:=by
 rw [List.find?_eq_none];intro j hj;have:=h (j:Int) (List.mem_map.2 ⟨j,hj,rfl⟩)
 simpa using this
theorem find_some {N:List (List Int)} {m:List Bool}:∀ {L:List Nat} {k:Nat} (hk:k<L.length),canC N m L[k]=true->(∀ j (hj:j<k),canC N m (L[j]'(by omega))=false)->L.find? (canC N m)=some L[k]
 | x :: r,0,hk,h1,h2=>by simp at h1;simp [List.find?_cons,h1]
 | x :: r,k+1,hk,h1,h2=>by
  have h0:=h2 0 (by omega);simp only [List.getElem_cons_zero] at h0;rw [List.find?_cons,h0];simp only [List.getElem_cons_succ];exact find_some (by simpa using hk) (by simpa using h1) fun j hj=>by have:=h2 (j+1) (by omega);simpa using this
theorem takeF_none {N:List (List Int)} {outs:List Int} {m:List Bool} {L tk:List Nat} (h:L.find? (canC N m)=none) (f:Nat):takeF N outs f m L tk=(tk,m,L):=by
 cases f with
 | zero=>rfl
 | succ f=>unfold takeF;rw [h]
theorem takeF_some {N:List (List Int)} {outs:List Int} {m:List Bool} {L tk:List Nat} {j:Nat} (h:L.find? (canC N m)=some j) (f:Nat):takeF N outs (f+1) m L tk=takeF N outs f (m.set (outs.getD j 0).toNat true) (L.filter (· != j)) (tk++[j]):=by
 rw [takeF,h]
end Sk
theorem ownI_keep {B:Nat} {w w':World} {v:Value} {l:List Int} (h:OwnL kInt B w v l) (hk:∀ k,v.ownBlock=some k->w'.heap[k]?=w.heap[k]?):OwnL kInt B w' v l:=by
 obtain ⟨D,⟨h1,h2⟩,h3⟩:=h;refine ⟨D,⟨h1,?_⟩,h3⟩;rcases h2 with h | ⟨g,cap,cur,e1,e2,e3,e4⟩
 ·exact .inl h
 ·exact .inr ⟨g,cap,cur,e1,e2,(hk g (by rw [e1];rfl)).trans e3,e4⟩
structure TkAt (okN okR:Nat->Prop) (w wr:World) (b B:Nat) (x:WkV) (vN:Value) (ob:Option Nat) (N:List (List Int)) (R:List Sk.Ru) (v3:Value) (m:List Bool) (L tk:List Nat):Prop where
 left:∃ vL,WkAt wr b x vN vL/\OwnL kInt B wr vL (nI L)/\vL.ownBlock=ob
 made:Md wr x.g m
 len:x.nV=m.length
 needs:HRow kIL okN wr vN N
 rules:HRus okR wr (.slice x.aR x.nR x.cR) R
 taken:OwnL kInt w.heap.size wr v3 (nI tk)
 size:w.heap.size<=wr.heap.size
 few:tk.length+L.length<=R.length
 nodup:L.Nodup
 inR:∀ j ∈ L,j<R.length
 frame:∀ S,b ∈ S->x.g ∈ S->(∀ k,ob=some k->k ∈ S)->Aside S w.heap.size w wr
theorem jW {okN okR:Nat->Prop} {w:World} {b B:Nat} {x:WkV} {vN:Value} {ob:Option Nat} {N:List (List Int)} {R:List Sk.Ru} {m0:List Bool} {L0:List Nat} (h0:TkAt okN okR w w b B x vN ob N R (.slice none 0 0) m0 L0 []) (hbg:b≠x.g) (hob:∀ k,ob=some k->k<w.heap.size/\k≠b/\k≠x.g/\¬okN k/\¬okR k) (hNb:¬okN b/\¬okN x.g) (hRb:¬okR b/\¬okR x.g) (hBw:B<=w.heap.size) (hokN:∀ i,okN i->i<w.heap.size) (hokR:∀ i,okR i->i<w.heap.size)
  (hRl:R.length<=400) (hNl:N.length=R.length) (hr:∀ j (h:j<N.length),∀ z ∈ N[j],0<=z/\z<m0.length) (ho:∀ r ∈ R,0<=r.out/\r.out<m0.length) :
  Calls Tryz.prog 33 #[.pointer (some ⟨b,0,none⟩)] w fun e w'=>∃ v,e=.returned v/\TkAt okN okR w w' b B x vN ob N R v (Sk.takeF N (R.map Sk.Ru.out) L0.length m0 L0 []).2.1 (Sk.takeF N (R.map Sk.Ru.out) L0.length m0 L0 []).2.2 (Sk.takeF N (R.map Sk.Ru.out) L0.length m0 L0 []).1:=by
 obtain ⟨RT,hRT⟩:=nmQ (Sk.takeF N (R.map Sk.Ru.out) L0.length m0 L0 []);rw [<-hRT];have HRT:=zE hRT;have H0:=zE h0;have HBG:=zE hbg;have HOB:=zE hob;have HNB:=zE hNb;have HRB:=zE hRb;have HNL:=zE hNl;have HRNG:=zE hr;have HOUT:=zE ho;have hbw:b<w.heap.size:=(by obtain ⟨vL,h1,_⟩:=h0.left;exact zG h1);have hgw:x.g<w.heap.size:=zG h0.made;clear hRT h0 hbg hob hNb hRb hNl hr ho;go_enter Tryz.func33,Tryz.ntmps33;go_wp2_with fail;go_loopg [3] L0.length (fun k v3 wr=>∃ (m:List Bool) (L tk:List Nat),k=L.length/\Hid (RT=Sk.takeF N (R.map Sk.Ru.out) L.length m L tk)/\Hid (m.length=m0.length)/\Hid (TkAt okN okR w wr b B x vN ob N R v3 m L tk))
 case atStart=>exact ⟨m0,L0,[],rfl,HRT,zE rfl,H0⟩
 case round=>
  clear HRT H0;obtain ⟨m,L,tk,rfl,H,HML,HT⟩:=hrel;have T:=HT.out;obtain ⟨vL,hk,hL,hvo⟩:=T.left;have hLl:L.length<=400:=(by have:=T.few;omega);have hct:=qE (p:=fun z=>Sk.canC N m z.toNat) (a:=.pointer (some ⟨b,0,none⟩)) eg37 (zR hL.row) (fun z hz W hW=>by
   obtain ⟨j,hj,rfl⟩:=List.mem_map.1 hz;have hjR:=T.inR j hj;have:=zAz (hk.under hW) (T.made.under hW) T.len (T.needs.keep hW.size fun i _ hl=>hW.block i hl) j (by rw [HNL.out];exact hjR) (fun z hz=>by rw [HML.out];exact HRNG.out j (by rw [HNL.out];exact hjR) z hz);exact this)
  have hk2:=hk;unfold WkAt at hk2;obtain ⟨aL,cL,rfl,hcL1,hcL2⟩:=hL.form;rw [xK] at hk2 hcL1 hct;unfold maxLen at hcL2;have k6:=coQ hk2 6;simp at k6;rcases Sk.idx_cases (fun z=>Sk.canC N m z.toNat) (nI L) 0 with ⟨h1,h2⟩ | ⟨i,hi,h1,h2,h3⟩
  case inl=>
   rw [h2] at hct;have HZ:=zE (show RT=(tk,m,L) by rw [H.out];exact Sk.takeF_none (Sk.find_none h1) _);clear h1 h2 hk hk2 hL T H;obtain ⟨a3,c3,rfl,-,-⟩:=HT.out.taken.form;go_wp2_with fail;refine hct.mono ?_;rintro e w2 ⟨rfl,b2⟩;go_wp2;go_ret;refine ⟨_,rfl,?_⟩;rw [HZ.out];have T:=HT.out;obtain ⟨vL',hk',hL',hvo'⟩:=T.left;exact ⟨⟨vL',hk'.under b2,hL'.below b2,hvo'⟩,T.made.under b2,T.len,T.needs.keep b2.size (fun i _ hl=>b2.block i hl),T.rules.under b2,T.taken.below b2,Nat.le_trans T.size b2.size,T.few,T.nodup,T.inR,fun S s1 s2 s3=>(T.frame S s1 s2 s3).trans (aside b2) T.size⟩
  case inr=>
   rw [h3,Nat.zero_add] at hct;have hiL:i<L.length:=(by rw [xK] at hi;exact hi);have hfs:L.find? (Sk.canC N m)=some L[i]:=Sk.find_some hiL (by have:=h1;rw [jM] at this;simpa using this) (fun j hj=>by have:=h2 j hj;rw [jM] at this;simpa using this);obtain ⟨j,hj⟩:=nmQ (L[i]);have hjm:j ∈ L:=(by rw [hj];exact List.getElem_mem hiL);have hjR:=T.inR j hjm;rw [<-hj] at hfs;obtain ⟨f,hf⟩:∃ f,L.length=f+1:=⟨L.length-1,by omega⟩;have hlf:=Sk.length_filter_ne T.nodup hjm;have HZ:=zE (show RT=Sk.takeF N (R.map Sk.Ru.out) (L.filter (· != j)).length (m.set ((R.map Sk.Ru.out).getD j 0).toNat true) (L.filter (· != j)) (tk++[j]) by
    rw [H.out,hf,Sk.takeF_some hfs,show (L.filter (· != j)).length=f by omega])
   obtain ⟨aoL,capL,evL,-,-,hatL⟩:=(zR hL.row).at;injection evL with p1 p2 p3;obtain ⟨bL,oL,hbL,yL,cLj⟩:=hatL i hi;rw [hbL] at p1;subst p1;have hji:(nI L)[i]=(j:Int):=(by rw [jM,hj]);rw [hji] at cLj;have ho2:(R.map Sk.Ru.out).getD j 0=(R[j]).out:=(by simp [List.getD_eq_getElem?_getD,hjR]);rw [ho2] at HZ;have hout:=HOUT.out R[j] (List.getElem_mem _);have HLF:=zE hlf;have HHJ:=zE (And.intro hjm hjR);have HHK:=zE hk;have HHL:=zE hL;have HVO:=zE hvo;have hin:i<L.length:=hiL;clear h1 h2 h3 hfs hf hlf H hatL p2 p3 hbL hji ho2 hj hk hk2 hL hvo hi hiL;go_wp2_with fail;refine hct.mono ?_;rintro e w2 ⟨rfl,b2⟩;have kk:=(b2.block _ (zG HHK.out)).trans HHK.out;have g6:=coQ kk 6;simp at g6;rw [xK] at g6;have c2:=(b2.cell (p:=⟨bL,oL+i,none⟩) yL).trans cLj;have hne:¬((i:Int)<0):=(by omega);have T2:=HT.out;have htk:=take_any (HHK.out.under b2) (T2.made.under b2) T2.len HBG.out (T2.rules.under b2) (HHL.out.below b2) (by omega) (Nat.le_trans hBw (Nat.le_trans T2.size b2.size)) (fun e=>by rw [HVO.out] at e;exact (HOB.out b e).2.1 rfl) (fun e=>by rw [HVO.out] at e;exact (HOB.out x.g e).2.2.1 rfl) j HHJ.out.2 (by rw [HML.out];exact hout);have HB2:=zE b2;obtain ⟨a3,c3,rfl,-,-⟩:=T2.taken.form;clear hct k6 cLj kk T T2;go_wp2_with fail;refine htk.mono ?_;rintro e w4 ⟨rfl,vL4,hk4,md4,own4,hvo4,hA4⟩;rw [HVO.out] at hvo4 hA4;have T:=HT.out;have AS:=hA4 (b :: x.g :: ob.toList) (by simp) (by simp) (fun k hk=>by rw [hk];simp);have hSlt:∀ k ∈ (b :: x.g :: ob.toList),k<w.heap.size:=by
    intro k hk;simp at hk;rcases hk with rfl | rfl | hk
    ·exact hbw
    ·exact hgw
    ·exact (HOB.out k hk).1
   have z2:=HB2.out.size;have z4:=AS.size;have own5:=(T.taken.below HB2.out).past AS hSlt;have HO5:=zE own5;have notS:∀ ok:Nat->Prop,¬ok b->¬ok x.g->(∀ k,ob=some k->¬ok k)->∀ i,ok i->i ∉ (b :: x.g :: ob.toList):=by
    intro ok h1 h2 h3 i hi hm;simp at hm;rcases hm with rfl | rfl | hm
    ·exact h1 hi
    ·exact h2 hi
    ·exact h3 i hm hi
   have need4:HRow kIL okN w4 vN N:=(T.needs.keep z2 (fun i _ hl=>HB2.out.block i hl)).keep z4 (fun i hi hl=>AS.block i hl (notS okN HNB.out.1 HNB.out.2 (fun k hk=>(HOB.out k hk).2.2.2.1) i hi));have rule4:HRus okR w4 (.slice x.aR x.nR x.cR) R:=(T.rules.under HB2.out).keep z4 (fun i hi hl=>AS.block i hl (notS okR HRB.out.1 HRB.out.2 (fun k hk=>(HOB.out k hk).2.2.2.2) i hi));have HF4:=zE (And.intro hk4 (And.intro md4 (And.intro own4 (And.intro hvo4 (And.intro need4 rule4)))));have HA4:=zE (show ∀ S,b ∈ S->x.g ∈ S->(∀ k,ob=some k->k ∈ S)->Aside S w.heap.size w w4 from fun S s1 s2 s3=>((T.frame S s1 s2 s3).trans (aside HB2.out) T.size).trans (hA4 S s1 s2 s3) (Nat.le_trans T.size z2));have zw4:w.heap.size<=w4.heap.size:=Nat.le_trans T.size (Nat.le_trans z2 z4);have q2:((nI tk).length+1)*8<=140737488355328:=(by rw [xK];have:=T.few;omega);have q3:(nI tk).length+1<=maxLen:=(by rw [xK];have:=T.few;unfold maxLen;omega);have HNb:=zE (show ∀ k,(Value.slice a3 (nI tk).length c3).ownBlock=some k->k<w4.heap.size from fun k hk=>(own5.lt k hk).2);clear htk hk4 md4 own4 hvo4 need4 rule4 hA4 own5 notS AS T c2 g6 hne
   go_wp2_with (at_builtin;refine zQ kInt rfl _ _ 23 3 rfl Tryz.underlying23 w.heap.size w4.heap.size _ (nI tk) (by rfl) HO5.out [.int .i64 (j:Int)] (j:Int) rfl (by rfl) HNb.out zw4 zw4 q2 q3 ?_;intro v8 w8 own8 b8 _ _;have HO8:=zE own8;clear own8 HO5 HNb)
   go_roundg ((L.filter (· != j)).length)
   case measure=>have:=HLF.out;omega
   case rel=>
    refine ⟨_,_,_,rfl,HZ,zE (by rw [List.length_set];exact HML.out),zE ?_⟩;have T:=HT.out;obtain ⟨hk4,md4,own4,hvo4,need4,rule4⟩:=HF4.out;have hb8:∀ i,i<w.heap.size->w8.heap[i]?=w4.heap[i]?:=fun i hi=>b8.block i hi;have z8:=b8.size;refine ⟨⟨vL4,(hb8 b hbw).trans hk4,ownI_keep own4 (fun k hk=>by rw [hvo4] at hk;exact hb8 k (HOB.out k hk).1),hvo4⟩,(hb8 x.g hgw).trans md4,by rw [List.length_set];exact T.len,need4.keep z8 (fun i hi _=>hb8 i (hokN i hi)),rule4.keep z8 (fun i hi _=>hb8 i (hokR i hi)),?_,Nat.le_trans zw4 z8,?_,T.nodup.filter _,fun i hi=>T.inR i (List.mem_filter.1 hi).1,fun S s1 s2 s3=>(HA4.out S s1 s2 s3).trans (aside (S:=S) b8) zM⟩
    ·have e:nI (tk++[j])=nI tk++[(j:Int)]:=by simp [nI]
     rw [e];exact HO8.out
    ·have:=T.few
     have:=HLF.out;simp;omega
end Go.Proofs.YtegakbobaecdlaaGreatDoor
