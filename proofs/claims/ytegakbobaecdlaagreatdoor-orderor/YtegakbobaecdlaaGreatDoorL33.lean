import Derived.Test.YtegakbobaecdlaaGreatDoorL32
import Derived.WalkKit
import Derived.WalkSpells
import Derived.IntWalk
import Derived.Deep.Cut
import Derived.Deep.LoopGhost
import Derived.Ground.NamesProg
import Derived.Laws.Cover1
import Derived.Laws.EntriesVeiled
import Derived.Laws.Externs
import Derived.Lib.Hide
import Derived.Lib.MakeNoZero
import Derived.Lib.SlBuf
import Derived.Shelf.Bytes.SlSmallAll
import Derived.Shelf.Lay
set_option linter.unusedVariables false
set_option linter.unusedSimpArgs false
set_option maxHeartbeats 64000000
set_option maxRecDepth 100000
namespace Go.Proofs.YtegakbobaecdlaaGreatDoor
open Go.RowKit Go.IntWalk
namespace Sk
theorem check_code (S:Sys) (h:(check S).1=0):check S=(0,0):=by
 unfold check at h ⊢
 split
 ·rename_i q;rw [if_pos q] at h;simp at h
 ·rename_i q0
  rw [if_neg q0] at h
  split
  ·rename_i q;rw [if_pos q] at h;exact absurd h q
  ·rename_i q1
   rw [if_neg q1] at h
   split
   ·rename_i q;rw [if_pos q] at h;exact absurd h q
   ·rename_i q2
    rw [if_neg q2] at h
    split
    ·rename_i q;rw [if_pos q] at h;exact absurd h q
    ·rename_i q3
     rw [if_neg q3] at h
     split
     ·rename_i q;rw [if_pos q] at h;exact absurd h q
     ·rename_i q4
      rw [if_neg q4] at h
      split
      ·rename_i q;rw [if_pos q] at h;exact absurd h q
      ·rename_i q5
       rw [if_neg q5] at h
       split
       ·rename_i q;rw [if_pos q] at h;exact absurd h q
       ·rfl
def inMi (S:Sys) (i:Nat):List Bool:=(S.I.take i).foldl (fun m x=>m.set x.toNat true) (List.replicate S.V.length false)
theorem inMi_succ (S:Sys) (i:Nat) (h:i<S.I.length):inMi S (i+1)=(inMi S i).set (S.I[i]).toNat true:=by
 unfold inMi;rw [List.take_succ_eq_append_getElem h,List.foldl_append];rfl
theorem inMi_len (S:Sys) (i:Nat):(inMi S i).length=S.V.length:=by
 unfold inMi;generalize S.I.take i=l;have:∀ (l:List Int) (m:List Bool),(l.foldl (fun m x=>m.set x.toNat true) m).length=m.length:=by
  intro l
  induction l with
  | nil=>intro m;rfl
  | cons x r ih=>intro m;rw [List.foldl_cons,ih,List.length_set]
 rw [this];simp
theorem inMi_all (S:Sys):inMi S S.I.length=inM S:=by
 unfold inMi inM;rw [List.take_length]
end Sk
theorem xW {w W':World} {v:Value} {o:Obj} (hg:(w.alloc o).grownBy W' v.ownBlock):Aside v.ownBlock.toList w.heap.size w W' :=
 ⟨hg.os,hg.tape,hg.output,Nat.le_trans (by simp) hg.size,fun k hk hn=>by
  rw [hg.block k (by simp;omega) (fun e=>hn (by rw [<-e];simp))];exact Below.heap_alloc _ _ _ hk⟩
structure WoAt (w5 wr:World) (b:Nat) (x:WkV) (m:List Bool) (R:List Sk.Ru) (i:Nat):Prop where
 rows:∃ vN vL okN,WkAt wr b x vN vL/\OwnX kIL okN wr vN ((R.take i).map Sk.needs)/\OwnL kInt w5.heap.size wr vL (nI (List.range i))/\(∀ j,okN j->w5.heap.size<=j/\j<wr.heap.size)/\(∀ k,vL.ownBlock=some k->¬okN k)
 made:Md wr x.g m
theorem WoAt.set {w5 wr:World} {b:Nat} {x:WkV} {m:List Bool} {R:List Sk.Ru} {i:Nat} (h:WoAt w5 wr b x m R i) {p:Addr} (hp:p.block<w5.heap.size) (hb:p.block≠b) (hg:p.block≠x.g) (u:Value):WoAt w5 (wr.setCell p u) b x m R i:=by
 obtain ⟨vN,vL,okN,h1,h2,h3,h4,h5⟩:=h.rows;exact ⟨⟨vN,vL,okN,zP h1 hb u,h2.set (fun q=>by have:=(h4 _ q).1;omega) u,h3.set hp u,fun j hj=>by have:=h4 j hj;simpa [World.setCell] using this,h5⟩,zP h.made hg u⟩
theorem vR {ok:Nat->Prop} {w:World} {aV aI aO aR:Option Addr} {cV cI cO cR:Nat} {S:Sk.Sys} (hG:GlobK w) (hP:GlobP w) (hS:HSys ok w aV aI aO aR cV cI cO cR S) (hfit:∀ r ∈ S.R,r.A.length<=1000000/\r.E.length<=1000000) :
  Calls Tryz.prog 32 #[.agg #[.slice aV S.V.length cV,.slice aI S.I.length cI,.slice aO S.O.length cO,.slice aR S.R.length cR]] w fun e w'=>((Sk.check S).1≠0/\e=.returned (.tuple #[.pointer none,.agg #[.int .i64 (Sk.check S).1,.int .i64 (Sk.check S).2]])/\Below w.heap.size w w')\/(Sk.Okay S/\∃ b g w5,w.heap.size<=b/\w.heap.size<=g/\b<w5.heap.size/\g<w5.heap.size/\b≠g/\w5.heap.size<=w'.heap.size/\e=.returned (.tuple #[.pointer (some ⟨b,0,none⟩),.agg #[.int .i64 0,.int .i64 0]])/\WoAt w5 w' b ⟨aV,S.V.length,cV,aI,S.I.length,cI,aO,S.O.length,cO,aR,S.R.length,cR,g⟩ (Sk.inM S) S.R S.R.length/\HSys (fun i=>i<w.heap.size) w' aV aI aO aR cV cI cO cR S/\Below w.heap.size w w'):=by
 have hch:=fun W (h:Below w.heap.size w W)=>check_any (hG.under h) (hP.under h) (hS.under h) hfit;have hS2:HSys (fun i=>i<w.heap.size) w aV aI aO aR cV cI cO cR S:=hS.wide fun i _ hl=>hl;obtain ⟨_,hvs,-⟩:=hS.V;have cv:=vG hvs;obtain ⟨_,his,-⟩:=hS.I;have ci:=vG his;obtain ⟨_,hrs,-⟩:=hS.R;have cr:=vG hrs;unfold maxLen at cv ci cr;have b1:Below w.heap.size w ((w.alloc (.cells #[.slice aV S.V.length cV,.slice aI S.I.length cI,.slice aO S.O.length cO,.slice aR S.R.length cR] 26 (0,0))).alloc (.cells #[.int .i64 0,.int .i64 0] 30 (0,0))):=((Below.refl _ _).alloc zM _).alloc (by simp) _;have kS:((w.alloc (.cells #[.slice aV S.V.length cV,.slice aI S.I.length cI,.slice aO S.O.length cO,.slice aR S.R.length cR] 26 (0,0))).alloc (.cells #[.int .i64 0,.int .i64 0] 30 (0,0))).heap[w.heap.size]?=some (.cells #[.slice aV S.V.length cV,.slice aI S.I.length cI,.slice aO S.O.length cO,.slice aR S.R.length cR] 26 (0,0)):=(Below.heap_alloc _ _ _ (by simp)).trans (zI w _);have kF:((w.alloc (.cells #[.slice aV S.V.length cV,.slice aI S.I.length cI,.slice aO S.O.length cO,.slice aR S.R.length cR] 26 (0,0))).alloc (.cells #[.int .i64 0,.int .i64 0] 30 (0,0))).heap[w.heap.size+1]?=some (.cells #[.int .i64 0,.int .i64 0] 30 (0,0)):=by
  have:=zI (w.alloc (.cells #[.slice aV S.V.length cV,.slice aI S.I.length cI,.slice aO S.O.length cO,.slice aR S.R.length cR] 26 (0,0))) (.cells #[.int .i64 0,.int .i64 0] 30 (0,0))
  simpa using this
 have hok:=Sk.check_zero S;have hcc:=Sk.check_code S;generalize Sk.check S=F at hch hok hcc ⊢;obtain ⟨f1,f2⟩:=F
 dsimp only at hch hcc ⊢
 have HOK:=zE hok;have HCC:=zE hcc;have HCH:=zE hch;have HS:=zE hS2;have HF:=zE hfit;clear hS hS2 hG hP hfit hvs his hrs hok hcc hch;go_enter Tryz.func32,Tryz.ntmps32;go_upto_region 1 with fail;generalize (w.alloc (.cells #[.slice aV S.V.length cV,.slice aI S.I.length cI,.slice aO S.O.length cO,.slice aR S.R.length cR] 26 (0,0))).alloc (.cells #[.int .i64 0,.int .i64 0] 30 (0,0))=w1 at b1 kS kF ⊢;have s0:=coQ kS 0;have s1:=coQ kS 1;have s2:=coQ kS 2;have s3:=coQ kS 3;simp at s0 s1 s2 s3;go_wp2_with fail;refine (HCH.out w1 b1).mono ?_;rintro e w2 ⟨rfl,b2⟩;have B2:=b1.trans (b2.mono b1.size);have kS2:=(b2.block _ (zG kS)).trans kS;have kF2:=(b2.block _ (zG kF)).trans kF;have b3:Below w2.heap.size w2 (w2.alloc (.cells #[.int .i64 f1,.int .i64 f2] 30 (0,0))):=(Below.refl _ _).alloc zM _;have kE:=zI w2 (.cells #[.int .i64 f1,.int .i64 f2] 30 (0,0));have kS3:=(b3.block _ (zG kS2)).trans kS2;have kF3:=(b3.block _ (zG kF2)).trans kF2;have B3:=B2.trans (b3.mono B2.size);clear HCH s0 s1 s2 s3 kS kF kS2 kF2 b3 b2 b1;go_upto_region 2 with fail;generalize w2.alloc (.cells #[.int .i64 f1,.int .i64 f2] 30 (0,0))=w3 at kE kS3 kF3 B3 ⊢;have e0:=coQ kE 0;have e1:=coQ kE 1;simp at e0 e1;have yE:=zG kE;have zF:=zG kF3;by_cases hz:f1=0
 case neg=>
  have hz2:(f1 != 0)=true:=(by simp [hz]);have HNZ:=zE hz;clear hz;go_upto_region 3 with fail;have st0:=coQ kF3 0;have st1:=coQ kF3 1;simp at st0 st1;refine zK (fun w'=>Below w3.heap.size w3 w') (fun i=>i==2) (by kernel_rfl) ?_;have hH0:Below w3.heap.size w3 w3.drew:=(Below.refl _ _).drew;generalize w3.drew=wd0 at hH0 ⊢;refine' tkQ 0 15 hH0 ?hyv ?o1
  case hyv=>
   intro wz hSw;have zc0:=(hSw.cell (p:=⟨w2.heap.size,0,none⟩) yE).trans e0;have zc1:=(hSw.cell (p:=⟨w2.heap.size,1,none⟩) yE).trans e1;go_simp
   try rfl
  try simp only [Act.put,sT,sZ,sS]
  refine' tkR 1 2 hH0 ?o2
  refine tnQ 2 (fun K hK=>?_);have kF4:=(hH0.block _ zF).trans kF3;have fs0:=coQ kF4 0;have fs1:=coQ kF4 1;have ff0:=foQ kF4 0;have ff1:=foQ kF4 1;simp at fs0 fs1;have KR:=zJ (zJ kF4 0 (.int .i64 f1)) 1 (.int .i64 f2);have r0:=coQ KR 0;have r1:=coQ KR 1;simp at r0 r1;have BR:=((B3.trans (hH0.mono B3.size)).setCell (p:=⟨w.heap.size+1,0,none⟩) (by simp) (.int .i64 f1)).setCell (p:=⟨w.heap.size+1,1,none⟩) (by simp) (.int .i64 f2);clear KR;go_simp;refine hK.out _ _ (fun h=>absurd h (by decide)) ?_;clear hK K
  try simp only [Act.put,sT,sZ,sS]
  refine zH (by kernel_rfl) ?_ _;go_wp2;exact bodyPost_ret (v:=.tuple #[.pointer none,.agg #[.int .i64 f1,.int .i64 f2]]) (by simp [results,Tryz.results32,go_sem,r0,r1]) rfl (.inl ⟨HNZ.out,rfl,BR⟩)
 case pos=>
 have hz2:(f1 != 0)=false:=(by simp [hz]);have hOk:Sk.Okay S:=HOK.out.1 (HCC.out hz);have HO:=zE hOk;have hlim:=And.intro hOk.nV (And.intro hOk.nI hOk.nR);have hmk:=jS S.V.length (by omega);obtain ⟨M,hM⟩:=nmQ (((List.replicate S.V.length false).map Value.bool).toArray);rw [<-hM] at hmk;have HMM:=zE hM;clear hM hz hOk HOK HCC;go_upto_region 4 with fail;have s0:=coQ kS3 0;have s1:=coQ kS3 1;have s2:=coQ kS3 2;have s3:=coQ kS3 3;simp at s0 s1 s2 s3;have yS:=zG kS3;refine zK (fun w'=>Below w3.heap.size w3 w') (fun _=>false) (by kernel_rfl) ?_;have hH0:Below w3.heap.size w3 w3.drew:=(Below.refl _ _).drew;generalize w3.drew=wd0 at hH0 ⊢;refine' tkQ 0 16 hH0 ?hyv ?o3
 case hyv=>
  intro wz hSw;have zc0:=(hSw.cell (p:=⟨w.heap.size,0,none⟩) yS).trans s0;have zc1:=(hSw.cell (p:=⟨w.heap.size,1,none⟩) yS).trans s1;have zc2:=(hSw.cell (p:=⟨w.heap.size,2,none⟩) yS).trans s2;have zc3:=(hSw.cell (p:=⟨w.heap.size,3,none⟩) yS).trans s3;go_simp
  try rfl
 try simp only [Act.put,sT,sZ,sS]
 refine' tkR 1 17 hH0 ?o4
 refine' tkQ 2 18 hH0 ?hyv ?o5
 case hyv=>
  intro wz hSw;have zc0:=(hSw.cell (p:=⟨w.heap.size,0,none⟩) yS).trans s0;have zc1:=(hSw.cell (p:=⟨w.heap.size,1,none⟩) yS).trans s1;have zc2:=(hSw.cell (p:=⟨w.heap.size,2,none⟩) yS).trans s2;have zc3:=(hSw.cell (p:=⟨w.heap.size,3,none⟩) yS).trans s3;go_simp
  try rfl
 try simp only [Act.put,sT,sZ,sS]
 refine' tkR 3 19 hH0 ?o6
 refine tnQ 4 (fun K hK=>?_);go_simp;have hH1:Below w3.heap.size w3 (wd0.alloc (.cells M 4 (0,0))):=hH0.alloc hH0.size _;have kn1:=zI wd0 (.cells M 4 (0,0));have zn1:=hH0.size;refine hK.out _ _ (fun _=>hH1) ?_;clear hK K
 try simp only [Act.put,sT,sZ,sS]
 generalize wd0.alloc (.cells M 4 (0,0))=wd1 at hH1 kn1 ⊢;refine' tkR 5 21 hH1 ?o7
 refine tnQ 6 (fun K hK=>?_);go_simp;have hH2:Below w3.heap.size w3 (wd1.alloc (.cells #[.slice aV S.V.length cV,.slice aI S.I.length cI,.slice aO S.O.length cO,.slice aR S.R.length cR,.slice none 0 0,.slice (some ⟨wd0.heap.size,0,none⟩) S.V.length S.V.length,.slice none 0 0] 72 (0,0))):=hH1.alloc hH1.size _;have kn2:=zI wd1 (.cells #[.slice aV S.V.length cV,.slice aI S.I.length cI,.slice aO S.O.length cO,.slice aR S.R.length cR,.slice none 0 0,.slice (some ⟨wd0.heap.size,0,none⟩) S.V.length S.V.length,.slice none 0 0] 72 (0,0));have zn2:=hH1.size;refine hK.out _ _ (fun _=>hH2) ?_;clear hK K
 try simp only [Act.put,sT,sZ,sS]
 have kn1_2:=(Below.heap_alloc wd1 (.cells #[.slice aV S.V.length cV,.slice aI S.I.length cI,.slice aO S.O.length cO,.slice aR S.R.length cR,.slice none 0 0,.slice (some ⟨wd0.heap.size,0,none⟩) S.V.length S.V.length,.slice none 0 0] 72 (0,0)) _ (zG kn1)).trans kn1;generalize wd1.alloc (.cells #[.slice aV S.V.length cV,.slice aI S.I.length cI,.slice aO S.O.length cO,.slice aR S.R.length cR,.slice none 0 0,.slice (some ⟨wd0.heap.size,0,none⟩) S.V.length S.V.length,.slice none 0 0] 72 (0,0))=wd2 at hH2 kn2 kn1_2 ⊢;refine' tkR 7 5 hH2 ?o8
 refine zH (by kernel_rfl) ?_ _;have ne3:wd1.heap.size≠wd0.heap.size:=(by intro e;rw [e] at kn2;rw [kn2] at kn1_2;injection kn1_2 with e2;injection e2 with e3 e4;cases e4);have hB0:w3.heap.size<=wd1.heap.size:=hH1.size;have hG0:w3.heap.size<=wd0.heap.size:=hH0.size;have B4:=B3.trans (hH2.mono B3.size);have kF4:=(hH2.block _ zF).trans kF3;rw [HMM.out] at kn1_2;have hMd:Md wd2 wd0.heap.size (List.replicate S.V.length false):=kn1_2;generalize wd0.heap.size=g at kn1_2 kn2 ne3 hG0 hMd ⊢;generalize wd1.heap.size=b at kn2 ne3 hB0 ⊢;have hWk:WkAt wd2 b ⟨aV,S.V.length,cV,aI,S.I.length,cI,aO,S.O.length,cO,aR,S.R.length,cR,g⟩ (.slice none 0 0) (.slice none 0 0):=kn2;generalize wd2=w4 at hWk hMd B4 kF4 hH2 kn1_2 kn2 ⊢;clear kn1_2 kn2 e0 e1 s0 s1 s2 s3 yE yS kE kS3 kF3 hmk HMM;clear hH0 hH1 hH2 kn1;have gw4:g<w4.heap.size:=zG hMd;have bw4:b<w4.heap.size:=zG hWk;have zF4:=zG kF4;have wf:w.heap.size+1<w3.heap.size:=zF;have i1:=coQ hWk 1;simp at i1;have HWK:=zE hWk;have HMD:=zE (show Md w4 g (Sk.inMi S 0) from hMd);go_wp2_with fail;go_loopg [29] S.I.length (fun k v wr=>∃ i,i<=S.I.length/\k=S.I.length-i/\v=.int .i64 (i:Nat)/\Hid (Md wr g (Sk.inMi S i))/\Aside [g] w4.heap.size w4 wr)
 case atStart=>exact ⟨0,Nat.zero_le _,rfl,rfl,HMD,Aside.refl _⟩
 case round=>
  clear HMD i1 hMd hWk;obtain ⟨i,hi,rfl,rfl,HM,hbr⟩:=hrel;have zr:=hbr.size;have BWr:Below w.heap.size w wr:=B4.trans ((hbr.mono (by omega)).below (by intro k hk;simp at hk;omega));have hWkr:=hbr.keep HWK.out bw4 (by simp;exact ne3);have k5:=coQ hWkr 5;have k3:=coQ hWkr 3;simp at k5 k3;by_cases hlt:i<S.I.length
  case pos=>
   obtain ⟨ao',cap',eqs,-,-,hat2⟩:=(HS.out.under BWr).I.at;injection eqs with q1 q2 q3;obtain ⟨bI,oI,hbI,yI,c0⟩:=hat2 i hlt;rw [hbI] at q1;subst q1;have hx:=HO.out.ins S.I[i] (List.getElem_mem hlt);obtain ⟨xi,hxi⟩:∃ xi:Nat,S.I[i]=(xi:Int):=⟨(S.I[i]).toNat,by omega⟩;have hxl:xi<S.V.length:=(by omega);have HSUC:=zE (Sk.inMi_succ S i hlt);rw [hxi] at c0 HSUC;have hml:=Sk.inMi_len S i;have cm:=HM.out.cell (i:=xi) (by omega);have fm:=foQ HM.out xi;have HPUT:=zE (Md.put HM.out (i:=xi) (by omega) true);generalize (Sk.inMi S i)[xi]'(by omega)=qv at cm;clear hat2 q2 q3 hbI hx hxi hml hWkr k3;go_wp2_with fail;go_roundg (S.I.length-(i+1))
   case measure=>omega
   case rel=>exact ⟨i+1,by omega,rfl,by go_num,zE (by rw [HSUC.out,Int.toNat_natCast];exact HPUT.out),hbr.trans (Aside.setCell (B:=wr.heap.size) (p:=⟨g,xi,none⟩) (by simp) _) zr⟩
  case neg=>
   have hin:i=S.I.length:=(by omega);subst hin;rw [Sk.inMi_all] at HM;obtain ⟨w5,hw5⟩:=nmQ (wr);subst hw5;have kF5:=hbr.keep kF4 zF4 (by simp;omega);have HWK5:=zE (show WkAt w5 b ⟨aV,S.V.length,cV,aI,S.I.length,cI,aO,S.O.length,cO,aR,S.R.length,cR,g⟩ (.slice none 0 0) (.slice none 0 0) from hWkr);have gw5:g<w5.heap.size:=(by omega);have bw5:b<w5.heap.size:=(by omega);have zF5:=zG kF5;clear hWkr k5 HWK hbr kF4 zF4 zr;go_wp2_with fail;go_loopg [46] S.R.length (fun k v wr=>∃ i,i<=S.R.length/\k=S.R.length-i/\v=.int .i64 (i:Nat)/\Hid (WoAt w5 wr b ⟨aV,S.V.length,cV,aI,S.I.length,cI,aO,S.O.length,cO,aR,S.R.length,cR,g⟩ (Sk.inM S) S.R i)/\Aside [b] w5.heap.size w5 wr)
   case atStart=>exact ⟨0,Nat.zero_le _,rfl,rfl,zE ⟨⟨_,_,fun _=>False,HWK5.out,OwnX.nil,OwnL.nil,fun j hj=>hj.elim,fun k hk=>by cases hk⟩,HM.out⟩,Aside.refl _⟩
   case round=>
    clear HWK5 HM k3;obtain ⟨i,hi,rfl,rfl,HT,fr⟩:=hrel;have zr:=fr.size;have BW:Below w.heap.size w wr:=BWr.trans ((fr.mono (by omega)).below (by intro k hk;simp at hk;omega));have kFr:=fr.keep kF5 zF5 (by simp;omega);by_cases hlt:i<S.R.length
    case neg=>
     have hin:i=S.R.length:=(by omega);subst hin;have st0:=coQ kFr 0;have st1:=coQ kFr 1;have fr0:=foQ kFr 0;have fr1:=foQ kFr 1;simp at st0 st1;have KR:=zJ (zJ kFr 0 (.int .i64 0)) 1 (.int .i64 0);have r0:=coQ KR 0;have r1:=coQ KR 1;simp at r0 r1;have BR:=(BW.setCell (p:=⟨w.heap.size+1,0,none⟩) (by simp) (.int .i64 0)).setCell (p:=⟨w.heap.size+1,1,none⟩) (by simp) (.int .i64 0);have HEND:=zE (show WoAt w5 ((wr.setCell ⟨w.heap.size+1,0,none⟩ (.int .i64 0)).setCell ⟨w.heap.size+1,1,none⟩ (.int .i64 0)) b ⟨aV,S.V.length,cV,aI,S.I.length,cI,aO,S.O.length,cO,aR,S.R.length,cR,g⟩ (Sk.inM S) S.R S.R.length from (HT.out.set (p:=⟨w.heap.size+1,0,none⟩) (by show w.heap.size+1<w5.heap.size;omega) (by show w.heap.size+1≠b;omega) (by show w.heap.size+1≠g;omega) _).set (p:=⟨w.heap.size+1,1,none⟩) (by show w.heap.size+1<w5.heap.size;omega) (by show w.heap.size+1≠b;omega) (by show w.heap.size+1≠g;omega) _);clear KR;go_wp2;exact bodyPost_ret (v:=.tuple #[.pointer (some ⟨b,0,none⟩),.agg #[.int .i64 0,.int .i64 0]]) (by simp [results,Tryz.results32,go_sem,r0,r1]) rfl (.inr ⟨HO.out,b,g,w5,by omega,by omega,bw5,gw5,ne3,(by simpa [World.setCell] using zr),rfl,HEND.out,HS.out.under BR,BR⟩)
    case pos=>
     obtain ⟨vN,vL,okN,hk,hN,hL,hokN,hdis⟩:=HT.out.rows;have hmd:=HT.out.made;obtain ⟨aN,cN,rfl,-,-⟩:=hN.form;obtain ⟨aL,cL,rfl,-,-⟩:=hL.form;have hlN:((S.R.take i).map Sk.needs).length=i:=(by rw [List.length_map,List.length_take];omega);have hlL:(nI (List.range i)).length=i:=(by rw [xK,List.length_range]);rw [hlN] at hk hN;rw [hlL] at hk hL hdis;obtain ⟨ao',cap',eqs,-,-,hat2⟩:=(HS.out.under BW).R.at;injection eqs with q1 q2 q3;obtain ⟨bR,oR,y,hbR,yR,hat,hru⟩:=hat2 i hlt;rw [hbR] at q1;subst q1;obtain ⟨r,hr⟩:=nmQ (S.R[i]);have hfr:=HF.out r (by rw [hr];exact List.getElem_mem hlt);have HTN:=zE (show (S.R.take (i+1)).map Sk.needs=(S.R.take i).map Sk.needs++[Sk.needs r] by rw [List.take_succ_eq_append_getElem hlt,List.map_append,hr];rfl);rw [<-hr] at hat hru;obtain ⟨d0,d1,d2,d3,d4,d5⟩:=hat;have hobN:∀ k,(Value.slice aN i cN).ownBlock=some k->w5.heap.size<=k/\k<wr.heap.size:=fun k hk=>hokN k (hN.lt k hk).1;have bA:Below wr.heap.size wr (wr.alloc (.cells #[.int .i64 r.op,.int .i64 r.k,.int .i64 r.out,.int .i64 r.n,.slice y.aA y.nA y.cA,.slice y.aE y.nE y.cE] 40 (0,0))):=(Below.refl _ _).alloc zM _;have kV:=zI wr (.cells #[.int .i64 r.op,.int .i64 r.k,.int .i64 r.out,.int .i64 r.n,.slice y.aA y.nA y.cA,.slice y.aE y.nE y.cE] 40 (0,0));have hkA:=hk.under bA;have hruA:=hru.under bA;have hNA:=hN.under bA;have HLA:=zE (hL.below bA);have HMA:=zE (hmd.under bA);have frA:=fr.trans (aside (S:=[b]) bA) zr;have HNB:=zE hobN;have HOKN:=zE hokN;have HDIS:=zE hdis;have HLL:=zE (And.intro hlN hlL);have HFR:=zE hfr;clear hat2 q2 q3 hbR hr hk hN hL hokN hdis hru hmd hlN hlL hobN hfr;go_upto_region 13 with fail;generalize wr.alloc (.cells #[.int .i64 r.op,.int .i64 r.k,.int .i64 r.out,.int .i64 r.n,.slice y.aA y.nA y.cA,.slice y.aE y.nE y.cE] 40 (0,0))=wA at bA kV hkA hruA hNA HLA HMA frA ⊢;have hkA2:=hkA;unfold WkAt at hkA2;have k4:=coQ hkA2 4;have k6:=coQ hkA2 6;have v0:=coQ kV 0;have v1:=coQ kV 1;have v2:=coQ kV 2;have v3:=coQ kV 3;have v4:=coQ kV 4;have v5:=coQ kV 5;simp at k4 k6 v0 v1 v2 v3 v4 v5;have yV:=zG kV;have yB:=zG hkA;have zA:=bA.size;have nsB:b ∉ (Value.slice aN i cN).ownBlock.toList:=(by intro hm;have:=(HNB.out b (by simpa using hm)).1;omega);have nsV:wr.heap.size ∉ (Value.slice aN i cN).ownBlock.toList:=(by intro hm;have:=(HNB.out wr.heap.size (by simpa using hm)).2;omega);have HNA:=zE hNA;have HRA:=zE hruA;have q5:(((S.R.take i).map Sk.needs).length+1)*24<=140737488355328:=(by rw [HLL.out.1];omega);have q6:((S.R.take i).map Sk.needs).length+1<=maxLen:=(by rw [HLL.out.1];unfold maxLen;omega);clear hNA hruA d0 d1 d2 d3 d4 d5 k6;refine zK (fun w'=>Aside (Value.slice aN i cN).ownBlock.toList wA.heap.size wA w') (fun i=>i==11) (by kernel_rfl) ?_;have hH0:Aside (Value.slice aN i cN).ownBlock.toList wA.heap.size wA wA.drew:=(Aside.refl _).drew;have bz:Below wA.heap.size wA wA.drew:=(Below.refl _ _).drew;generalize wA.drew=wd0 at hH0 bz ⊢;refine' tkR 0 51 hH0 ?o9
     refine' tkR 1 52 hH0 ?o10
     refine' tkR 2 53 hH0 ?o11
     refine' tkR 3 54 hH0 ?o12
     refine' tkQ 4 55 hH0 ?hyv ?o13
     case hyv=>
      intro wz hSw;have zc0:=(zL hSw (p:=⟨wr.heap.size,0,none⟩) yV nsV).trans v0;have zc1:=(zL hSw (p:=⟨wr.heap.size,1,none⟩) yV nsV).trans v1;have zc2:=(zL hSw (p:=⟨wr.heap.size,2,none⟩) yV nsV).trans v2;have zc3:=(zL hSw (p:=⟨wr.heap.size,3,none⟩) yV nsV).trans v3;have zc4:=(zL hSw (p:=⟨wr.heap.size,4,none⟩) yV nsV).trans v4;have zc5:=(zL hSw (p:=⟨wr.heap.size,5,none⟩) yV nsV).trans v5;have zc6:=(zL hSw (p:=⟨b,4,none⟩) yB nsB).trans k4;go_simp
      try rfl
     try simp only [Act.put,sT,sZ,sS]
     refine' tkQ 5 56 hH0 ?hyv ?o14
     case hyv=>
      intro wz hSw;have zc0:=(zL hSw (p:=⟨wr.heap.size,0,none⟩) yV nsV).trans v0;have zc1:=(zL hSw (p:=⟨wr.heap.size,1,none⟩) yV nsV).trans v1;have zc2:=(zL hSw (p:=⟨wr.heap.size,2,none⟩) yV nsV).trans v2;have zc3:=(zL hSw (p:=⟨wr.heap.size,3,none⟩) yV nsV).trans v3;have zc4:=(zL hSw (p:=⟨wr.heap.size,4,none⟩) yV nsV).trans v4;have zc5:=(zL hSw (p:=⟨wr.heap.size,5,none⟩) yV nsV).trans v5;have zc6:=(zL hSw (p:=⟨b,4,none⟩) yB nsB).trans k4;go_simp
      try rfl
     try simp only [Act.put,sT,sZ,sS]
     refine tnQ 6 (fun K hK=>?_);go_simp;refine (needs_any (HRA.out.under bz) HFR.out.1 HFR.out.2).mono ?_;rintro eq wd1 ⟨u,rfl,hu,bq⟩;obtain ⟨au,cu,rfl,-,-,-⟩:=hu.at;have hH1:Aside (Value.slice aN i cN).ownBlock.toList wA.heap.size wA wd1:=hH0.trans (aside bq) hH0.size;have HU:=zE hu;have bq2:=bz.trans (bq.mono bz.size);clear hu;refine hK.out _ _ (fun _=>hH1) ?_;clear hK K
     try simp only [Act.put,sT,sZ,sS]
     refine tnQ 7 (fun K hK=>?_);go_simp;have hH2:Aside (Value.slice aN i cN).ownBlock.toList wA.heap.size wA (wd1.alloc (.cells #[.slice au (Sk.needs r).length cu] 23 (0,0))):=hH1.alloc hH1.size _;refine hK.out _ _ (fun _=>hH2) ?_;clear hK K
     try simp only [Act.put,sT,sZ,sS]
     refine tnQ 8 (fun K hK=>?_);refine vH kIL _ _ 69 23 rfl Tryz.underlying69 wd0.heap.size okN (.slice aN i cN) ((S.R.take i).map Sk.needs) (by rfl) (HNA.out.under bq2) [.slice au (Sk.needs r).length cu] (Sk.needs r) ⟨_,rfl,HU.out⟩ (by rfl) (fun j hj=>by have h1:=(HOKN.out j hj).2;have h2:=bz.size;omega) bq.size q5 q6 ?_;intro v8 wd3 own8 hg8;have ha8:=xW hg8;have hH3:Aside (Value.slice aN i cN).ownBlock.toList wA.heap.size wA wd3:=hH1.trans ha8 hH1.size;obtain ⟨a8,c8,e8,-,-⟩:=own8.form;rw [List.length_append,HLL.out.1,List.length_singleton] at e8;subst e8;rw [<-HTN.out] at own8;refine hK.out _ _ (fun _=>hH3) ?_;clear hK K
     try simp only [Act.put,sT,sZ,sS]
     refine tnQ 9 (fun K hK=>?_);go_simp;have hH4:=hH3;refine hK.out _ _ (fun _=>hH4) ?_;clear hK K
     try simp only [Act.put,sT,sZ,sS]
     refine tnQ 10 (fun K hK=>?_);go_simp;have hH5:=hH4;refine hK.out _ _ (fun _=>hH5) ?_;clear hK K
     try simp only [Act.put,sT,sZ,sS]
     refine tnQ 11 (fun K hK=>?_);have kW8:=hH5.keep hkA yB nsB;have st4:=coQ kW8 4;have fr4:=foQ kW8 4;simp at st4;have KW:=zJ kW8 4 (.slice a8 (i+1) c8);have z8:=hH5.size;have zq:=bz.size;have md8:Md wd3 g (Sk.inM S):=hH5.keep HMA.out (by omega) (by intro hm;have:=(HNB.out g (by simpa using hm)).1;omega);have own8b:OwnX kIL (fun j=>(okN j\/wd0.heap.size<=j)/\j<wd3.heap.size) wd3 (.slice a8 (i+1) c8) ((S.R.take (i+1)).map Sk.needs):=own8.wide (fun j hj hl=>⟨hj,hl⟩);have L8:OwnL kInt w5.heap.size wd3 (.slice aL i cL) (nI (List.range i)):=ownI_keep HLA.out (fun k hk=>hH5.block k (by have:=(HLA.out.lt k hk).2;omega) (fun hm=>HDIS.out k hk (by have:=HNA.out.lt k (by simpa using hm);exact this.1)));have f8:=frA.trans (hH5.mono (by omega:w5.heap.size<=wA.heap.size) |>.wide (S':=[b]) (fun k hk hn hm=>by have:=(HNB.out k (by simpa using hm)).1;omega)) zM;have HN9:=zE (And.intro (zP (p:=⟨b,4,none⟩) md8 (by show b≠g;exact ne3) (.slice a8 (i+1) c8)) (And.intro (own8b.set (p:=⟨b,4,none⟩) (by rintro ⟨q,_⟩;rcases q with q | q;have:=(HOKN.out b q).1;omega;have h7:wd0.heap.size<=b:=q;omega) (.slice a8 (i+1) c8)) (And.intro (L8.set (p:=⟨b,4,none⟩) bw5 (.slice a8 (i+1) c8)) (And.intro KW (f8.trans (Aside.setCell (B:=w5.heap.size) (p:=⟨b,4,none⟩) (by simp) (.slice a8 (i+1) c8)) zM)))));clear kW8 KW md8 own8b L8 f8 own8;go_simp;refine hK.out _ _ (fun h=>absurd h (by decide)) ?_;clear hK K
     try simp only [Act.put,sT,sZ,sS]
     have zs9:(wd3.setCell ⟨b,4,none⟩ (.slice a8 (i+1) c8)).heap.size=wd3.heap.size:=(by simp [World.setCell]);have HZ9:=zE (And.intro zs9 (And.intro z8 zq));clear zs9;refine zH (by kernel_rfl) ?_ _;generalize wd3.setCell ⟨b,4,none⟩ (.slice a8 (i+1) c8)=w9 at HN9 HZ9 ⊢;obtain ⟨md9,own9,L9,KW9,fr9⟩:=HN9.out;simp at KW9;have g6:=coQ KW9 6;simp at g6;have HM9:=zE md9;have HO9:=zE own9;have HL9:=zE L9;have HK9:=zE (show WkAt w9 b ⟨aV,S.V.length,cV,aI,S.I.length,cI,aO,S.O.length,cO,(some ⟨bR,oR,none⟩),S.R.length,cR,g⟩ (.slice a8 (i+1) c8) (.slice aL i cL) from KW9);have z9:=fr9.size;have yB9:b<w9.heap.size:=(by omega);have q7:((nI (List.range i)).length+1)*8<=140737488355328:=(by rw [HLL.out.2];omega);have q8:(nI (List.range i)).length+1<=maxLen:=(by rw [HLL.out.2];unfold maxLen;omega);have HNb:=zE (show ∀ k,(Value.slice aL i cL).ownBlock=some k->k<w9.heap.size from fun k hk=>(L9.lt k hk).2);clear HN9 md9 own9 L9 KW9 k4 v0 v1 v2 v3 v4 v5 yV hkA hkA2 kV;go_upto_region 14 with fail
     go_wp2_with (at_builtin;refine zQ kInt rfl _ _ 23 3 rfl Tryz.underlying23 w5.heap.size w9.heap.size _ (nI (List.range i)) (by rfl) HL9.out [.int .i64 (i:Int)] (i:Int) rfl (by rfl) HNb.out z9 z9 q7 q8 ?_;intro v10 w10 own10 b10 hg10 hmv10;obtain ⟨a10,c10,e10,-,-⟩:=own10.form;rw [List.length_append,HLL.out.2,List.length_singleton] at e10;subst e10;have ha10:=xW hg10;have HO10:=zE own10;have HMV:=zE hmv10;have nsB10:b ∉ (Value.slice aL i cL).ownBlock.toList:=(by intro hm;have:=(HL9.out.lt b (by simpa using hm)).1;omega);have kW10:=ha10.keep HK9.out yB9 nsB10;have st6:=coQ kW10 6;have ff6:=foQ kW10 6;simp at st6;have HKW10:=zE kW10;clear own10 kW10 hmv10)
     go_roundg (S.R.length-(i+1))
     case measure=>omega
     case rel=>
      have hz1:=HZ9.out.1;have hz2:=HZ9.out.2.1;have hz3:=HZ9.out.2.2;have z10:=ha10.size;have hown:∀ k,(Value.slice aL i cL).ownBlock=some k->w5.heap.size<=k/\k<wA.heap.size/\¬okN k:=fun k hk=>⟨(HLA.out.lt k hk).1,(HLA.out.lt k hk).2,HDIS.out k hk⟩;have hnot:∀ k,((okN k\/wd0.heap.size<=k)/\k<wd3.heap.size)->k ∉ (Value.slice aL i cL).ownBlock.toList:=by
       rintro k ⟨hk | hk,_⟩ hm
       ·exact (hown k (by simpa using hm)).2.2 hk
       ·have:=(hown k (by simpa using hm)).2.1;omega
      have own11:=((HO9.out.keep z10 (fun j hj hl=>ha10.block j hl (hnot j hj))).set (p:=⟨b,6,none⟩) (by rintro ⟨q | q,_⟩;have:=(HOKN.out b q).1;omega;have h7:wd0.heap.size<=b:=q;omega) (.slice a10 (i+1) c10));have KW11:=zJ HKW10.out 6 (.slice a10 (i+1) c10);simp at KW11;have md10:Md w10 g (Sk.inM S):=ha10.keep HM9.out (by omega) (by intro hm;have:=(hown g (by simpa using hm)).1;omega);have szs:(w10.setCell ⟨b,6,none⟩ (.slice a10 (i+1) c10)).heap.size=w10.heap.size:=(by simp [World.setCell]);have eL:nI (List.range (i+1))=nI (List.range i)++[(i:Int)]:=(by rw [List.range_succ];simp [nI]);refine ⟨i+1,by omega,rfl,by go_num,zE ⟨⟨_,_,_,KW11,own11,?_,?_,?_⟩,zP md10 ne3 _⟩,?_⟩
      ·rw [eL]
       exact HO10.out.set (p:=⟨b,6,none⟩) bw5 _
      ·rintro j ⟨hj,hj2⟩
       rw [szs];refine ⟨?_,by omega⟩;rcases hj with hj | hj
       ·exact (HOKN.out j hj).1
       ·omega
      ·intro k hk hok
       rcases HMV.out with h | ⟨q,hq,hq2⟩
       ·rw [h] at hk
        exact hnot k hok (by rw [hk];simp)
       ·rw [hq] at hk
        injection hk with hk;subst hk;have h8:=hok.2;have h9:(w9.alloc (.cells [Value.int .i64 (i:Int)].toArray 3 (0,0))).heap.size=w9.heap.size+1:=(by simp);omega
      ·exact (fr9.trans ((ha10.mono (by omega)).wide (S':=[b]) (fun k hk hn hm=>by have:=(hown k (by simpa using hm)).1;omega)) zM).trans (Aside.setCell (B:=w5.heap.size) (p:=⟨b,6,none⟩) (by simp) _) zM
end Go.Proofs.YtegakbobaecdlaaGreatDoor
