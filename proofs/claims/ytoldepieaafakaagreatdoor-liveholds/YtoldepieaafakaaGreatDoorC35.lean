import Derived.Test.YtoldepieaafakaaGreatDoorC34
import Derived.WalkKit
import Derived.WalkSpells
import Derived.IntWalk
import Derived.Deep.Cut
import Derived.Deep.LoopGhost
import Derived.Ground.NamesProg
import Derived.Laws.Cover1
import Derived.Laws.EntriesVeiled
import Derived.Laws.Externs
import Derived.Lib.Hide
import Derived.Lib.MakeNoZero
import Derived.Lib.SlBuf
import Derived.Shelf.Bytes.SlSmallAll
import Derived.Shelf.Lay
set_option linter.unusedVariables false
set_option linter.unusedSimpArgs false
set_option maxHeartbeats 64000000
set_option maxRecDepth 100000
namespace Go.Proofs.YtoldepieaafakaaGreatDoor
open Go.RowKit Go.IntWalk
def nI (l:List Nat):List Int:=l.map Int.ofNat
theorem nI_filter (l:List Nat) (j:Nat):(nI l).filter (· != (j:Int))=nI (l.filter (· != j)):=by
 unfold nI;rw [List.filter_map]
 congr 1
 apply List.filter_congr
 intro x _;rw [Bool.eq_iff_iff];simp;omega
theorem HRus.out {ok:Nat->Prop} {w:World} {ao:Option Addr} {n c:Nat} {l:List Sk.Ru} (h:HRus ok w (.slice ao n c) l) {j:Nat} (hj:j<l.length):∃ b o,ao=some ⟨b,o,none⟩/\b<w.heap.size/\ok b/\n=l.length/\l.length<=c/\c<=maxLen/\w.cell? ⟨b,o+j*6+2,none⟩=some (.int .i64 (l[j]).out):=by
 obtain ⟨C,⟨ao',cap,hv,h1,h2,h3⟩,hC⟩:=h;injection hv with e1 e2 e3;subst e1 e2 e3;obtain ⟨b,o,ha,hob,hb,hc⟩:=h3 (by omega);obtain ⟨y,e,hy⟩:=hC j hj;have:=(hc j hj).2 2 (by decide);rw [e] at this;exact ⟨b,o,ha,hb,hob,rfl,h1,h2,by simpa [rcs] using this⟩
theorem vP {α:Type} {T:Kind α} {B:Nat} {w:World} {v:Value} {l:List α} (h:OwnL T B w v l) {p:Addr} (hp:v.ownBlock≠some p.block) (hE:∀ ok w w' cs a,T.E ok w cs a->T.E ok w' cs a) (u:Value):OwnL T B (w.setCell p u) v l:=by
 obtain ⟨D,⟨h1,h2⟩,h3⟩:=h;refine ⟨D,⟨h1,?_⟩,fun j hj=>hE _ _ _ _ _ (h3 j hj)⟩;rcases h2 with h | ⟨g,cap,cur,e1,e2,e3,e4⟩
 ·exact .inl h
 ·refine .inr ⟨g,cap,cur,e1,e2,?_,e4⟩
  refine zQ e3 ?_ u;intro e
  apply hp
  rw [e1,e];rfl
theorem take_any {okR:Nat->Prop} {w:World} {b B:Nat} {x:WkV} {vN vL:Value} {m:List Bool} {R:List Sk.Ru} {L:List Nat} (hk:WkAt w b x vN vL) (hm:Md w x.g m) (hn:x.nV=m.length) (hbg:b≠x.g) (hR:HRus okR w (.slice x.aR x.nR x.cR) R) (hL:OwnL kInt B w vL (nI L)) (hLl:L.length<=1000) (hBw:B<=w.heap.size)
  (hvb:vL.ownBlock≠some b) (hvg:vL.ownBlock≠some x.g) (j:Nat) (hj:j<R.length) (ho:0<=(R[j]).out/\(R[j]).out<m.length) :
  Calls Tryz.prog 47 #[.pointer (some ⟨b,0,none⟩),.int .i64 (j:Int)] w fun e w'=>e=.returned (.tuple #[])/\∃ vL',WkAt w' b x vN vL'/\Md w' x.g (m.set (R[j]).out.toNat true)/\OwnL kInt B w' vL' (nI (L.filter (· != j)))/\vL'.ownBlock=vL.ownBlock/\∀ S,b ∈ S->x.g ∈ S->(∀ k,vL.ownBlock=some k->k ∈ S)->Aside S w.heap.size w w':=by
 obtain ⟨bR,oR,haR,yR,-,hnR,hcR1,hcR2,cR⟩:=hR.out hj;obtain ⟨oi,hoi⟩:∃ oi:Nat,(R[j]).out=(oi:Int):=⟨(R[j]).out.toNat,by omega⟩;have hoi2:oi<m.length:=(by omega);rw [hoi] at cR ⊢;rw [Int.toNat_natCast];unfold maxLen at hcR2;have hk2:=hk;unfold WkAt at hk2;rw [haR,hnR] at hk2;obtain ⟨RL,hRL⟩:=nmQ (R.length);rw [<-hRL] at hk2 hj hcR1;have b1:Below w.heap.size w (w.alloc (.cells #[.int .i64 (j:Int)] 3 (0,0))):=(Below.refl _ _).alloc zL _;have kJ:=zH w (.cells #[.int .i64 (j:Int)] 3 (0,0));have kW:=(b1.block _ (zG hk2)).trans hk2;have CR:=(b1.cell (p:=⟨bR,oR+j*6+2,none⟩) yR).trans cR;have hm1:=hm.under b1;have hbw:b<w.heap.size:=zG hk;have hgw:x.g<w.heap.size:=zG hm;have HL:=zD (hL.below b1);have HKW:=zD (show WkAt _ b x vN vL from hk.under b1);have HLT:=zD hL.lt;obtain ⟨aL,cL,rfl,-,-⟩:=hL.form;have hoN:oi<x.nV:=(by omega);clear hk hk2 hm hR hL hRL hn cR haR hnR ho hoi;go_enter Tryz.func47,Tryz.ntmps47;go_upto_region 1 with fail;generalize w.alloc (.cells #[.int .i64 (j:Int)] 3 (0,0))=w1 at b1 kJ kW CR hm1 HL HKW ⊢;have j0:=coQ kJ 0;have k3:=coQ kW 3;have k5:=coQ kW 5;have k6:=coQ kW 6;simp at j0 k3 k5 k6;have yJ:=zG kJ;have yW:=zG kW;have yR1:bR<w1.heap.size:=Nat.lt_of_lt_of_le yR b1.size;have cM:=hm1.cell hoi2;have yM:=zG hm1;have fM:=foQ hm1 oi;refine zK (fun w'=>Below w1.heap.size w1 w') (fun i=>i==14) (by kernel_rfl) ?_;have hH0:Below w1.heap.size w1 w1.drew:=(Below.refl _ _).drew;generalize w1.drew=wd0 at hH0 ⊢;refine' tkR 0 4 hH0 ?o1
 refine' tkR 1 5 hH0 ?o2
 refine' tkR 2 6 hH0 ?o3
 refine' tkQ 3 7 hH0 ?hyv ?o4
 case hyv=>
  intro wz hSw;have zc0:=(hSw.cell (p:=⟨w.heap.size,0,none⟩) yJ).trans j0;have zc1:=(hSw.cell (p:=⟨b,3,none⟩) yW).trans k3;have zc2:=(hSw.cell (p:=⟨b,5,none⟩) yW).trans k5;have zc3:=(hSw.cell (p:=⟨b,6,none⟩) yW).trans k6;have zc4:=(hSw.cell (p:=⟨bR,oR+j*6+2,none⟩) yR1).trans CR;have zc5:=(hSw.cell (p:=⟨x.g,oi,none⟩) yM).trans cM;go_simp
  try rfl
 try simp only [Act.put,sT,sZ,sS]
 refine' tkR 4 8 hH0 ?o5
 refine' tkR 5 9 hH0 ?o6
 refine' tkR 6 10 hH0 ?o7
 refine' tkR 7 11 hH0 ?o8
 refine' tkQ 8 12 hH0 ?hyv ?o9
 case hyv=>
  intro wz hSw;have zc0:=(hSw.cell (p:=⟨w.heap.size,0,none⟩) yJ).trans j0;have zc1:=(hSw.cell (p:=⟨b,3,none⟩) yW).trans k3;have zc2:=(hSw.cell (p:=⟨b,5,none⟩) yW).trans k5;have zc3:=(hSw.cell (p:=⟨b,6,none⟩) yW).trans k6;have zc4:=(hSw.cell (p:=⟨bR,oR+j*6+2,none⟩) yR1).trans CR;have zc5:=(hSw.cell (p:=⟨x.g,oi,none⟩) yM).trans cM;go_simp
  try rfl
 try simp only [Act.put,sT,sZ,sS]
 refine' tkQ 9 13 hH0 ?hyv ?o10
 case hyv=>
  intro wz hSw;have zc0:=(hSw.cell (p:=⟨w.heap.size,0,none⟩) yJ).trans j0;have zc1:=(hSw.cell (p:=⟨b,3,none⟩) yW).trans k3;have zc2:=(hSw.cell (p:=⟨b,5,none⟩) yW).trans k5;have zc3:=(hSw.cell (p:=⟨b,6,none⟩) yW).trans k6;have zc4:=(hSw.cell (p:=⟨bR,oR+j*6+2,none⟩) yR1).trans CR;have zc5:=(hSw.cell (p:=⟨x.g,oi,none⟩) yM).trans cM;go_simp
  try rfl
 try simp only [Act.put,sT,sZ,sS]
 refine' tkR 10 14 hH0 ?o11
 refine' tkR 11 15 hH0 ?o12
 refine' tkQ 12 16 hH0 ?hyv ?o13
 case hyv=>
  intro wz hSw;have zc0:=(hSw.cell (p:=⟨w.heap.size,0,none⟩) yJ).trans j0;have zc1:=(hSw.cell (p:=⟨b,3,none⟩) yW).trans k3;have zc2:=(hSw.cell (p:=⟨b,5,none⟩) yW).trans k5;have zc3:=(hSw.cell (p:=⟨b,6,none⟩) yW).trans k6;have zc4:=(hSw.cell (p:=⟨bR,oR+j*6+2,none⟩) yR1).trans CR;have zc5:=(hSw.cell (p:=⟨x.g,oi,none⟩) yM).trans cM;go_simp
  try rfl
 try simp only [Act.put,sT,sZ,sS]
 refine' tkR 13 17 hH0 ?o14
 refine tnQ 14 (fun K hK=>?_);have MD:=hm1.under hH0;have cm2:=MD.cell hoi2;have fr2:=foQ MD oi;have kJ2:=(hH0.block _ yJ).trans kJ;have kW2:=(hH0.block _ yW).trans HKW.out;have HA1:=zD (show ∀ S,x.g ∈ S->Aside S w.heap.size w (wd0.setCell ⟨x.g,oi,none⟩ (.bool true)) from fun S hS=>((aside (S:=S) b1).trans ((aside (S:=S) hH0).mono b1.size) zL).trans (Aside.setCell (B:=w.heap.size) (p:=⟨x.g,oi,none⟩) hS (.bool true)) zL);have HEND:=zD (And.intro (Md.put MD hoi2 true) (And.intro (zQ (p:=⟨x.g,oi,none⟩) kJ2 (by show x.g≠w.heap.size;omega) (.bool true)) (And.intro (zQ (p:=⟨x.g,oi,none⟩) kW2 (by show x.g≠b;exact fun e=>hbg e.symm) (.bool true)) (show OwnL kInt B (wd0.setCell ⟨x.g,oi,none⟩ (.bool true)) (.slice aL (nI L).length cL) (nI L) from vP (HL.out.below hH0) (by simpa using hvg) (fun _ _ _ _ _ h=>h) _))));clear MD kJ2 kW2;go_simp;refine hK.out _ _ (fun h=>absurd h (by decide)) ?_;clear hK K
 try simp only [Act.put,sT,sZ,sS]
 generalize wd0.setCell ⟨x.g,oi,none⟩ (.bool true)=wd1 at HA1 HEND ⊢;refine zJ (by kernel_rfl) ?_ _;obtain ⟨md3,kJ3,kW3,own3⟩:=HEND.out;have hdl:=delete_any (nb:=w.heap.size) own3 (by unfold nI;rw [List.length_map];exact hLl) kJ3 (fun e=>by have:=(HLT.out w.heap.size e).2;omega) (Nat.le_trans hBw (HA1.out [x.g] (by simp)).size);have w6:=coQ kW3 6;simp at w6;have zW:=(HA1.out [x.g] (by simp)).size;generalize wd1=w3 at HA1 HEND hdl md3 kJ3 kW3 own3 w6 zW ⊢;have HMD:=zD md3;have HKW3:=zD (show WkAt w3 b x vN (.slice aL (nI L).length cL) from kW3);clear HEND md3 kJ3 kW3 own3 k3 k5 k6 j0 CR cM fM HL HKW hm1 kJ kW hH0;go_upto_region 2 with fail;go_wp2_with fail;refine hdl.mono ?_;rintro e w5 ⟨v',rfl,own5,hob,hA5⟩;obtain ⟨a5,c5,rfl,-,-⟩:=own5.form;have hA6:=hA5 (b :: x.g :: (Value.slice aL (nI L).length cL).ownBlock.toList) (fun k hk=>by rw [hk];simp);have hbb:b<w3.heap.size:=Nat.lt_of_lt_of_le hbw zW;have hgg:x.g<w3.heap.size:=Nat.lt_of_lt_of_le hgw zW;have hA7:=hA5 ((Value.slice aL (nI L).length cL).ownBlock.toList) (fun k hk=>by rw [hk];simp);have kW5:=hA7.keep HKW3.out hbb (fun hm=>hvb (by simpa using hm));have md5:Md w5 x.g (m.set oi true):=hA7.keep HMD.out hgg (fun hm=>hvg (by simpa using hm));have s6:=coQ kW5 6;have f6:=foQ kW5 6;simp at s6;have KR:=zP kW5 6 (.slice a5 ((nI L).filter (· != (j:Int))).length c5);have HF:=zD (And.intro KR (And.intro (show Md (w5.setCell ⟨b,6,none⟩ (.slice a5 ((nI L).filter (· != (j:Int))).length c5)) x.g (m.set oi true) from zQ md5 (by show b≠x.g;exact hbg) _) (vP (p:=⟨b,6,none⟩) own5 (by rw [hob];exact hvb) (fun _ _ _ _ _ h=>h) (.slice a5 ((nI L).filter (· != (j:Int))).length c5))));have HAS:=zD (show ∀ S,b ∈ S->x.g ∈ S->(∀ k,(Value.slice aL (nI L).length cL).ownBlock=some k->k ∈ S)->Aside S w.heap.size w (w5.setCell ⟨b,6,none⟩ (.slice a5 ((nI L).filter (· != (j:Int))).length c5)) from fun S h1 h2 h3=>((HA1.out S h2).trans (hA5 S h3) zW).trans (Aside.setCell (B:=w.heap.size) (p:=⟨b,6,none⟩) h1 _) zL);have HOB:=zD hob;clear KR md5 own5 kW5 hA6 hA7 hA5 hdl w6 hob;go_wp2;refine bodyPost_end (v:=.tuple #[]) (by simp [results,Tryz.results47,go_sem]) rfl ?_;refine ⟨rfl,.slice a5 ((nI L).filter (· != (j:Int))).length c5,?_,HF.out.2.1,?_,HOB.out,HAS.out⟩
 ·have:=HF.out.1
  simp at this;exact this
 ·rw [<-nI_filter]
  exact HF.out.2.2
end Go.Proofs.YtoldepieaafakaaGreatDoor
namespace Go.Proofs.YtoldepieaafakaaGreatDoor
open Go.RowKit Go.IntWalk
theorem xU (l:List Nat):(nI l).length=l.length:=by simp [nI]
namespace Sk
end Sk
theorem ownI_keep {B:Nat} {w w':World} {v:Value} {l:List Int} (h:OwnL kInt B w v l) (hk:∀ k,v.ownBlock=some k->w'.heap[k]?=w.heap[k]?):OwnL kInt B w' v l:=by
 obtain ⟨D,⟨h1,h2⟩,h3⟩:=h;refine ⟨D,⟨h1,?_⟩,h3⟩;rcases h2 with h | ⟨g,cap,cur,e1,e2,e3,e4⟩
 ·exact .inl h
 ·exact .inr ⟨g,cap,cur,e1,e2,(hk g (by rw [e1];rfl)).trans e3,e4⟩
structure TkAt (okN okR:Nat->Prop) (w wr:World) (b B:Nat) (x:WkV) (vN:Value) (ob:Option Nat) (N:List (List Int)) (R:List Sk.Ru) (v3:Value) (m:List Bool) (L tk:List Nat):Prop where
 left:∃ vL,WkAt wr b x vN vL/\OwnL kInt B wr vL (nI L)/\vL.ownBlock=ob
 made:Md wr x.g m
 len:x.nV=m.length
 needs:HRow kIL okN wr vN N
 rules:HRus okR wr (.slice x.aR x.nR x.cR) R
 taken:OwnL kInt w.heap.size wr v3 (nI tk)
 size:w.heap.size<=wr.heap.size
 few:tk.length+L.length<=R.length
 nodup:L.Nodup
 inR:∀ j ∈ L,j<R.length
 frame:∀ S,b ∈ S->x.g ∈ S->(∀ k,ob=some k->k ∈ S)->Aside S w.heap.size w wr
end Go.Proofs.YtoldepieaafakaaGreatDoor
