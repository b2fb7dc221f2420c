import Derived.Test.YtkfgbhlpjkkgfaaGreatDoorT21
import Derived.Test.YtkfgbhlpjkkgfaaGreatDoorT22
set_option linter.unusedVariables false
set_option linter.unusedSimpArgs false
set_option maxHeartbeats 64000000
set_option maxRecDepth 100000
namespace Go.Proofs.YtkfgbhlpjkkgfaaGreatDoor
open Go.RowKit Go.IntWalk
theorem zCB (sizes:List ByteArray):∀ (a b had:List De),Kd.declC sizes had (a++b)=if Kd.declC sizes had a≠0 then Kd.declC sizes had a else Kd.declC sizes (had++a) b
 | [],b,had=>by simp [Kd.declC]
 | d :: a,b,had=>by
  rw [List.cons_append,zBv sizes [],zBv sizes []];by_cases h:Kd.declC1 ⟨[],sizes,had⟩ d≠0
  ·rw [if_pos h,if_pos h,if_pos h]
  ·rw [if_neg h,if_neg h,zCB sizes a b (had++[d]),List.append_assoc]
   rfl
theorem twice_cons (had:List ByteArray) (s:ByteArray) (r:List ByteArray):Kd.twice had (s :: r)=(Kd.hasN had s || Kd.twice (had++[s]) r):=rfl
structure NdFit (n:Nd):Prop where
 name:n.name.size<=maxLen
 sizes:∀ s ∈ n.sizes,s.size<=maxLen
 inn:∀ d ∈ n.inn,Rn.deF d
 out:∀ d ∈ n.out,Rn.deF d
 loc:∀ d ∈ n.loc,Rn.deF d
 lens:n.sizes.length+n.inn.length+n.out.length+n.loc.length<1000000
structure HeadP (ok:Nat->Prop) (w:World) (x:SB) (above:List Nd) (n:Nd) (r:Ending) (w':World):Prop where
 ret:r=.returned (.int .i64 (Kd.headC above n))
 asd:Aside x.maps w.heap.size w w'
 scp:Kd.headC above n=0->Scp ok w' x (Kd.envOf above n) (Kd.mkOf n) []
theorem zEc {ok:Nat->Prop} {w:World} {x:SB} {above:List Nd} {n:Nd} {y:NdV} (hS:Scp ok w x ⟨above,[],[]⟩ [] []) (hy:HNd ok w y n) (hF:NdFit n) :
  Calls Tryz.prog 53 #[.pointer (some ⟨x.b,0,none⟩),.agg #[.string y.name,.int .i64 y.place,.slice y.a2 y.n2 y.c2,.slice y.a3 y.n3 y.c3,.slice y.a4 y.n4 y.c4,.slice y.a5 y.n5 y.c5,.slice y.a6 y.n6 y.c6]] w (HeadP ok w x above n):=by
 obtain ⟨R,hR⟩:=nmQ (Kd.headC above n);have HR:=zAA hR;unfold Kd.headC at hR;have je:=hF.name;rw [<-hy.name] at je hR;have bA:Below w.heap.size w (w.alloc (.cells #[.string y.name,.int .i64 y.place,.slice y.a2 y.n2 y.c2,.slice y.a3 y.n3 y.c3,.slice y.a4 y.n4 y.c4,.slice y.a5 y.n5 y.c5,.slice y.a6 y.n6 y.c6] 47 (0,0))):=(Below.refl _ _).alloc nR _;have h1:=hS.keep bA;have e7:=hy.under bA;have kA:=zAC w (.cells #[.string y.name,.int .i64 y.place,.slice y.a2 y.n2 y.c2,.slice y.a3 y.n3 y.c3,.slice y.a4 y.n4 y.c4,.slice y.a5 y.n5 y.c5,.slice y.a6 y.n6 y.c6] 47 (0,0));have ri:=hS.okOut;have hD:w.heap.size ∉ x.maps:=by
  intro hm;obtain ⟨_,a0,_⟩:=hS.h0;obtain ⟨_,a1,_⟩:=hS.h1;obtain ⟨_,a2,_⟩:=hS.h2;obtain ⟨_,a3,_⟩:=hS.h3;have:=a0.lt;have:=a1.lt;have:=a2.lt;have:=a3.lt;simp only [SB.maps,List.mem_cons,List.not_mem_nil,or_false] at hm;rcases hm with e | e | e | e<;>omega
 have Qq:x.b ∉ x.maps:=by
  have:=blkNe hS;simp only [SB.maps,List.mem_cons,List.not_mem_nil,or_false];rintro (e | e | e | e)
  ·exact this.1 e
  ·exact this.2.1 e
  ·exact this.2.2.1 e
  ·exact this.2.2.2 e
 have iA:x.b<w.heap.size:=zAB hS.blk;clear hS hy;go_enter Tryz.func53,Tryz.ntmps53;go_upto_region 1 with fail;generalize w.alloc (.cells #[.string y.name,.int .i64 y.place,.slice y.a2 y.n2 y.c2,.slice y.a3 y.n3 y.c3,.slice y.a4 y.n4 y.c4,.slice y.a5 y.n5 y.c5,.slice y.a6 y.n6 y.c6] 47 (0,0))=w1 at bA h1 kA e7 ⊢;obtain ⟨z,hv,_⟩:=h1.lookNode je;have nO:∀ w',Below w1.heap.size w1 w'->(Instr.lookup 98 (.map (some x.m0)) (.string y.name) true).run Tryz.prog w'=.ok (.tuple #[.agg #[.string z.name,.int .i64 z.place,.slice z.a2 z.n2 z.c2,.slice z.a3 z.n3 z.c3,.slice z.a4 z.n4 z.c4,.slice z.a5 z.n5 z.c5,.slice z.a6 z.n6 z.c6],.bool (Kd.findN above y.name).isSome]) w':=hv;have kS:=h1.blk;have yA:=zAB kA;have yS:=zAB kS;have c0:=co kA 0;have e0:=co kS 0;simp at c0 e0;have kX:=zAA h1;have lh:=zAA e7;have Dg:=zAA kA;generalize (Kd.findN above y.name).isSome=q1 at nO hR;clear h1 kS e7 hv kA;go_cut [6] (fun v6 wd=>v6=.bool q1/\Below w1.heap.size w1 wd)
 case first=>
  refine zAE (fun w'=>Below w1.heap.size w1 w') (fun _=>false) (by kernel_rfl) ?_;have af:Below w1.heap.size w1 w1.drew:=(Below.refl _ _).drew;generalize w1.drew=aW at af ⊢;refine' tkR 0 14 af ?o1
  refine' tkR 1 15 af ?o2
  refine' tkR 2 16 af ?o3
  refine' tkQ 3 17 af ?hyv ?o4
  case hyv=>
   intro wz ae;have bI:=(ae.cell (p:=⟨x.b,0,none⟩) yS).trans e0;go_simp
   try rfl
  try simp only [Act.put,sT,sZ,sS]
  refine' tkR 4 18 af ?o5
  refine' tkQ 5 19 af ?hyv ?o6
  case hyv=>
   intro wz ae;have bI:=(ae.cell (p:=⟨w.heap.size,0,none⟩) yA).trans c0;go_simp
   try rfl
  try simp only [Act.put,sT,sZ,sS]
  refine' tkQ 6 20 af ?hyv ?o7
  case hyv=>
   intro wz ae;have hl:=nO _ ae;go_simp
   try rfl
  try simp only [Act.put,sT,sZ,sS]
  refine' tkR 7 13 af ?o8
  refine' tkR 8 21 af ?o9
  refine' tkR 9 22 af ?o10
  refine tnQ 10 (fun K hK=>?_);go_simp;have al:Below w1.heap.size w1 (aW.alloc (.cells #[.string ⟨#[]⟩,.int .i64 0,.slice none 0 0,.slice none 0 0,.slice none 0 0,.slice none 0 0,.slice none 0 0] 47 (0,0))):=af.alloc af.size _;have dJ:=zAC aW (.cells #[.string ⟨#[]⟩,.int .i64 0,.slice none 0 0,.slice none 0 0,.slice none 0 0,.slice none 0 0,.slice none 0 0] 47 (0,0));have jA:w1.heap.size<=aW.heap.size:=af.size;refine hK.out _ _ (fun _=>al) ?_;clear hK K
  try simp only [Act.put,sT,sZ,sS]
  generalize aW.alloc (.cells #[.string ⟨#[]⟩,.int .i64 0,.slice none 0 0,.slice none 0 0,.slice none 0 0,.slice none 0 0,.slice none 0 0] 47 (0,0))=cW at al dJ ⊢;refine tnQ 11 (fun K hK=>?_);have aX:=co dJ 0;have st1:=co dJ 1;have st2:=co dJ 2;have BU:=co dJ 3;have zi:=co dJ 4;have AG:=co dJ 5;have AQ:=co dJ 6;have dr:=fo dJ 0;have dp:=fo dJ 1;have Ax:=fo dJ 2;have AE:=fo dJ 3;have xl:=fo dJ 4;have Eo:=fo dJ 5;have xP:=fo dJ 6;simp at aX st1 st2 BU zi AG AQ;go_simp;have aK:Below w1.heap.size w1 (((((((cW.setCell ⟨aW.heap.size,0,none⟩ (.string z.name)).setCell ⟨aW.heap.size,1,none⟩ (.int .i64 z.place)).setCell ⟨aW.heap.size,2,none⟩ (.slice z.a2 z.n2 z.c2)).setCell ⟨aW.heap.size,3,none⟩ (.slice z.a3 z.n3 z.c3)).setCell ⟨aW.heap.size,4,none⟩ (.slice z.a4 z.n4 z.c4)).setCell ⟨aW.heap.size,5,none⟩ (.slice z.a5 z.n5 z.c5)).setCell ⟨aW.heap.size,6,none⟩ (.slice z.a6 z.n6 z.c6)):=(Below.setCell (Below.setCell (Below.setCell (Below.setCell (Below.setCell (Below.setCell (Below.setCell al (p:=⟨aW.heap.size,0,none⟩) jA (.string z.name)) (p:=⟨aW.heap.size,1,none⟩) jA (.int .i64 z.place)) (p:=⟨aW.heap.size,2,none⟩) jA (.slice z.a2 z.n2 z.c2)) (p:=⟨aW.heap.size,3,none⟩) jA (.slice z.a3 z.n3 z.c3)) (p:=⟨aW.heap.size,4,none⟩) jA (.slice z.a4 z.n4 z.c4)) (p:=⟨aW.heap.size,5,none⟩) jA (.slice z.a5 z.n5 z.c5)) (p:=⟨aW.heap.size,6,none⟩) jA (.slice z.a6 z.n6 z.c6));refine hK.out _ _ (fun _=>aK) ?_;clear hK K
  try simp only [Act.put,sT,sZ,sS]
  generalize (((((((cW.setCell ⟨aW.heap.size,0,none⟩ (.string z.name)).setCell ⟨aW.heap.size,1,none⟩ (.int .i64 z.place)).setCell ⟨aW.heap.size,2,none⟩ (.slice z.a2 z.n2 z.c2)).setCell ⟨aW.heap.size,3,none⟩ (.slice z.a3 z.n3 z.c3)).setCell ⟨aW.heap.size,4,none⟩ (.slice z.a4 z.n4 z.c4)).setCell ⟨aW.heap.size,5,none⟩ (.slice z.a5 z.n5 z.c5)).setCell ⟨aW.heap.size,6,none⟩ (.slice z.a6 z.n6 z.c6))=fY at aK ⊢;clear dJ jA aX dr st1 dp st2 Ax BU AE zi xl AG Eo AQ xP;refine' tkR 12 6 aK ?o11
  refine zAF (by kernel_rfl) ?_ _;go_wp2_with fail;go_meet
  case rel=>exact ⟨rfl,aK⟩
 case rest=>
  obtain ⟨rfl,bc⟩:=hcut;obtain ⟨w2,gX⟩:=nmQ (wc);rw [<-gX] at bc ⊢;clear gX nO;have BW:=bA.trans (bc.mono bA.size)
  cases q1
  case true=>
   rw [if_pos rfl] at hR;go_wp2;go_ret;exact ⟨by rw [<-HR.out,hR];rfl,aside BW,fun h=>by rw [<-HR.out,hR] at h;cases h⟩
  case false=>
   rw [if_neg (by simp)] at hR;have s9:=(bc.block _ yA).trans Dg.out;have d2:=co s9 2;simp at d2;have jb:=lh.out.under bc;have fc:=kX.out.keep bc;have CZ:=zAA jb;have Bm:=zAA s9;obtain ⟨ao,cap,eqs,aC,av,ai⟩:=jb.sizes.at;injection eqs with q1 q2 q3;rw [q1,q2,q3] at d2;unfold maxLen at av;have Db:=zAA q1;have bo:=hF.sizes;have sn:=hF.lens;obtain ⟨m,hm⟩:=nmQ (n.sizes.length);rw [<-hm] at aC d2;have HM:=zAA hm;have nt:=zAA fc;clear kX lh Dg ai hm q1 q2 q3 fc jb s9;go_upto_block 0 with fail;go_wp2_with fail;go_loopg [27] m (fun k v wr=>∃ i,i<=m/\k=m-i/\v=.int .i64 (i:Nat)/\Hid (Kd.twice [] n.sizes=Kd.twice (n.sizes.take i) (n.sizes.drop i))/\Hid (Scp ok wr x ⟨above,n.sizes.take i,[]⟩ [] [])/\Aside x.maps w2.heap.size w2 wr)
   case atStart=>exact ⟨0,Nat.zero_le _,rfl,rfl,zAA (by simp),zAA (by simpa using nt.out),Aside.refl _⟩
   case round=>
    obtain ⟨i,hi,rfl,rfl,H,ni,aj⟩:=hrel;by_cases ak:i<m
    case neg=>
     have eH:i=m:=(by omega);have Bs:n.sizes.take i=n.sizes:=List.take_of_length_le (by have:=HM.out;omega);have yX:n.sizes.drop i=[]:=List.drop_of_length_le (by have:=HM.out;omega);have Jl:Kd.twice [] n.sizes=false:=(by rw [H.out,yX];rfl);rw [if_neg (by rw [Jl];simp),zCB,zCB] at hR;have qy:=ni.out;rw [Bs] at qy;obtain ⟨wo,rY⟩:=nmQ (wr);rw [<-rY] at qy aj ⊢;clear rY H ni nt Jl Bs yX;have dU:HNd ok wo y n:=CZ.out.keep aj.size (fun j hj cM=>aj.block j cM (ri j hj));have FE:=(aj.block _ (zAB Bm.out) hD).trans Bm.out;have d3:=co FE 3;simp at d3;have AL:=kdecls_any qy dU.inn hF.inn (by show ([]:List De).length+_<_;simp;omega);have GB:=zAA FE;have IX:=zAA dU;clear qy dU FE d2;go_wp2_with fail;refine AL.mono ?_;rintro e w4 ⟨rfl,a4,e9⟩
     dsimp only at e9
     clear AL;have A4:Aside x.maps w.heap.size w w4:=((aside BW).trans aj BW.size).trans a4 (Nat.le_trans BW.size aj.size);generalize sA:Kd.declC n.sizes [] n.inn=g1 at e9 hR ⊢;by_cases bP:g1=0
     case neg=>
      rw [if_pos (by rw [if_pos bP];exact bP),if_pos bP] at hR;have bY:(g1 != 0)=true:=(by simpa using bP);clear e9;go_wp2;go_ret;exact ⟨by rw [<-HR.out,hR];rfl,A4,fun h=>absurd (by rw [<-HR.out,hR] at h;exact h) bP⟩
     case pos=>
      subst bP;have x9:=e9 rfl;clear e9;rw [if_neg (show ¬((0:Int)≠0) by simp)] at hR;have rj:HNd ok w4 y n:=IX.out.keep a4.size (fun j hj cM=>a4.block j cM (ri j hj));have sf:=(a4.block _ (zAB GB.out) hD).trans GB.out;have d4:=co sf 4;simp at d4;have rL:=zEH x9 rj.out hF.out (by show ([]++n.inn).length+_<_;simp;omega) (by simp;omega);have GA:=zAA sf;have we:=zAA rj;clear x9 rj sf d3 GB IX;go_wp2_with fail;refine rL.mono ?_;rintro e w5 ⟨rfl,a5,jy⟩
      dsimp only at jy
      clear rL;have A5:=A4.trans a5 A4.size;generalize ow:Kd.declC n.sizes ([]++n.inn) n.out=g2 at jy hR ⊢;by_cases bP:g2=0
      case neg=>
       rw [if_pos bP] at hR;have bY:(g2 != 0)=true:=(by simpa using bP);clear jy;go_wp2;go_ret;exact ⟨by rw [<-HR.out,hR];rfl,A5,fun h=>absurd (by rw [<-HR.out,hR] at h;exact h) bP⟩
      case pos=>
       subst bP;have BG:=jy rfl;clear jy;rw [if_neg (show ¬((0:Int)≠0) by simp)] at hR;have Kl:HNd ok w5 y n:=we.out.keep a5.size (fun j hj cM=>a5.block j cM (ri j hj));have J0:=(a5.block _ (zAB GA.out) hD).trans GA.out;have d5:=co J0 5;simp at d5;have yN:=zEH BG Kl.loc hF.loc (by show ([]++n.inn++n.out).length+_<_;simp;omega) (by simp;omega);clear BG Kl J0 d4 GA we;go_wp2_with fail;refine yN.mono ?_;rintro e w6 ⟨rfl,a6,y8⟩
       dsimp only at y8
       clear yN;have A6:=A5.trans a6 A5.size;go_wp2;go_ret;refine ⟨by rw [<-HR.out,hR];rfl,A6,fun h=>?_⟩;rw [<-HR.out,hR] at h;have:=y8 (by simpa using h)
       simpa [Kd.envOf,Kd.mkOf] using this
    case pos=>
     have ap:i<n.sizes.length:=(by have:=HM.out;omega);have cw:=bo _ (List.getElem_mem ap);have jG:n.sizes.drop i=n.sizes[i] :: n.sizes.drop (i+1):=List.drop_eq_getElem_cons ap;have g7:n.sizes.take (i+1)=n.sizes.take i++[n.sizes[i]]:=List.take_succ_eq_append_getElem ap;have iu:=H.out;rw [jG,twice_cons] at iu;have Ju:HNames ok wr (.slice y.a2 y.n2 y.c2) n.sizes:=CZ.out.sizes.keep aj.size (fun j hj cM=>aj.block j cM (ri j hj));obtain ⟨fj,bE,eqs,_,_,br⟩:=Ju.at;injection eqs with p1 p2 p3;obtain ⟨b,o,eb,hb,gq⟩:=br i ap;rw [<-p1,Db.out] at eb;subst eb;obtain ⟨s,hs⟩:=nmQ (n.sizes[i]);rw [<-hs] at cw iu g7 gq;have qy:=ni.out;have mb:=qy.blk;have s1:=co mb 1;simp at s1;obtain ⟨vv,wv⟩:=qy.lookSize cw;have rA:=wv wr (Below.refl _ _);obtain ⟨ff,vY,hT⟩:=qy.h1
     dsimp only at vY hT rA
     have OQ:=zAA qy;have rq:=zAA hT;have lB:(n.sizes.take i).length=i:=(by rw [List.length_take];omega);clear Ju br p1 p2 p3 hs qy mb wv hT ni jG H
     cases hq:Kd.hasN (n.sizes.take i) s with
     | true=>
      rw [hq] at rA iu;rw [if_pos (by rw [iu];rfl)] at hR;go_wp2;go_ret;exact ⟨by rw [<-HR.out,hR];rfl,(aside BW).trans aj BW.size,fun h=>by rw [<-HR.out,hR] at h;cases h⟩
     | false=>
      rw [hq] at rA iu;rw [Bool.false_or] at iu;have CV:=zAA iu;clear iu
      go_wp2_with (at_mapUpdate;refine zDJ rfl _ _ _ 133 rfl 3 u133 vY (by unfold maxLen;omega) cw rfl rfl ?_;intro w3 Bg wK)
      have jE:=zAA (OQ.out.afterSize (f:=ff) rq.out Bg wK);have a3:Aside x.maps w2.heap.size w2 w3:=aj.trans (zBd (B:=wr.heap.size) (by simp [SB.maps]) wK nR) aj.size;clear Bg wK vY rA;go_roundg (m-(i+1))
      case measure=>omega
      case rel=>
       refine ⟨i+1,by omega,rfl,by go_num,zAA ?_,zAA ?_,a3⟩
       ·rw [CV.out,g7]
       ·have:=jE.out
        rw [g7];exact this
theorem zCu {α:Type} (f:α->Int):∀ (a b:List α),Rn.firstC f (a++b)=if Rn.firstC f a≠0 then Rn.firstC f a else Rn.firstC f b
 | [],b=>by simp [Rn.firstC]
 | x :: a,b=>by
  rw [List.cons_append];by_cases h:f x=0
  ·have e1:∀ l,Rn.firstC f (x :: l)=Rn.firstC f l:=fun l=>by rw [Rn.firstC,if_pos h]
   rw [e1,e1,zCu f a b]
  ·have e1:∀ l,Rn.firstC f (x :: l)=f x:=fun l=>by rw [Rn.firstC,if_neg h]
   rw [e1,e1,if_pos h]
theorem unmade_eq (done:List ByteArray) (l:List De):Kd.unmade done l=Rn.firstC (Kd.un1 done) l:=rfl
theorem zDw {ok:Nat->Prop} {w:World} {x:SB} {E:Kd.Env} {mk done:List ByteArray} (hS:Scp ok w x E mk done) {n:Nd} {y:NdV} (hy:HNd ok w y n) (hF:NdFit n) :
  Calls Tryz.prog 55 #[.pointer (some ⟨x.b,0,none⟩),.agg #[.string y.name,.int .i64 y.place,.slice y.a2 y.n2 y.c2,.slice y.a3 y.n3 y.c3,.slice y.a4 y.n4 y.c4,.slice y.a5 y.n5 y.c5,.slice y.a6 y.n6 y.c6]] w fun r w'=>r=.returned (.int .i64 (Kd.unmade done (n.out++n.loc)))/\Below w.heap.size w w':=by
 rw [unmade_eq,zCu];obtain ⟨b1,kB,kD⟩:=nw2 w (.cells #[.pointer (some ⟨x.b,0,none⟩)] 99 (0,0)) (.cells #[.string y.name,.int .i64 y.place,.slice y.a2 y.n2 y.c2,.slice y.a3 y.n3 y.c3,.slice y.a4 y.n4 y.c4,.slice y.a5 y.n5 y.c5,.slice y.a6 y.n6 y.c6] 47 (0,0))
 have h1:=hS.keep b1;have e7:=hy.under b1;clear hS hy;obtain ⟨R,hR⟩:=nmQ ((if Rn.firstC (Kd.un1 done) n.out≠0 then Rn.firstC (Kd.un1 done) n.out else Rn.firstC (Kd.un1 done) n.loc));rw [<-hR];go_enter Tryz.func55,Tryz.ntmps55;go_upto_region 2 with fail;generalize (w.alloc (.cells #[.pointer (some ⟨x.b,0,none⟩)] 99 (0,0))).alloc (.cells #[.string y.name,.int .i64 y.place,.slice y.a2 y.n2 y.c2,.slice y.a3 y.n3 y.c3,.slice y.a4 y.n4 y.c4,.slice y.a5 y.n5 y.c5,.slice y.a6 y.n6 y.c6] 47 (0,0))=w1 at b1 kB kD h1 e7 ⊢;have d4:=co kD 4;simp at d4;have hc:=zEI h1 kB e7.out hF.out;have HS:=zAA h1;have HY:=zAA e7;have HB:=zAA kB;have HD:=zAA kD;clear h1 e7 kB kD;generalize Rn.firstC (Kd.un1 done) n.out=c at hc hR;go_wp2_with fail;refine hc.mono ?_;rintro e w2 ⟨rfl,b2⟩;clear hc d4;have B2:=b1.trans (b2.mono b1.size);by_cases hz:c=0
 ·subst hz
  rw [if_neg (by simp)] at hR;have Iw:=(b2.block _ (zAB HB.out)).trans HB.out;have gV:=(b2.block _ (zAB HD.out)).trans HD.out;have d5:=co gV 5;simp at d5;have hc:=zEI (HS.out.keep b2) Iw (HY.out.under b2).loc hF.loc;clear HS HY HB HD Iw gV;generalize Rn.firstC (Kd.un1 done) n.loc=c at hc hR;subst hR;go_wp2_with fail;refine hc.mono ?_;rintro e w3 ⟨rfl,b3⟩;go_wp2;go_ret;exact ⟨rfl,B2.trans (b3.mono B2.size)⟩
 ·rw [if_pos hz] at hR
  subst hR;have bY:(R != 0)=true:=(by simpa using hz);go_wp2;go_ret;exact ⟨rfl,B2⟩
def newSB (m0 B:Nat):SB:=⟨B+1+1+1,m0,B,B+1,B+1+1⟩
theorem newScope_any {ok:Nat->Prop} {w:World} {m0:Nat} {above:List Nd} {f:List UInt8->Option Value} (hm:MapIs w m0 above.length f) (hN:NdF ok w above f) (bm:∀ i,ok i->i<w.heap.size) (BE:¬ok m0) :
  Calls Tryz.prog 52 #[.map (some m0)] w fun r w'=>r=.returned (.pointer (some ⟨(newSB m0 w.heap.size).b,0,none⟩))/\Scp ok w' (newSB m0 w.heap.size) ⟨above,[],[]⟩ [] []/\Below w.heap.size w w':=by
 have sN:=@run_makeMap Tryz.prog;have J8:=hm.lt;obtain ⟨w1,ew⟩:=nmQ (w.alloc (.map #[] 0));obtain ⟨w2,gX⟩:=nmQ (w1.alloc (.map #[] 0));obtain ⟨w3,lf⟩:=nmQ (w2.alloc (.map #[] 0));obtain ⟨w4,mL⟩:=nmQ (w3.alloc (.cells #[.map (some m0),.map (some w.heap.size),.map (some (w.heap.size+1)),.map (some (w.heap.size+1+1))] 136 (0,0)));have z1:=newZ ew;have z2:w2.heap.size=w.heap.size+1+1:=(by rw [gX];simp [z1]);have z3:w3.heap.size=w.heap.size+1+1+1:=(by rw [lf];simp [z2]);have b1:=zAk ew;have b2:=zAk gX;have b3:=zAk lf;have b4:=zAk mL;have M1:MapIs w1 w.heap.size 0 (fun _=>none):=(by rw [ew];exact MapIs.made w);have M2:MapIs w2 (w.heap.size+1) 0 (fun _=>none):=(by have:=MapIs.made w1;rw [<-gX,z1] at this;exact this);have M3:MapIs w3 (w.heap.size+1+1) 0 (fun _=>none):=(by have:=MapIs.made w2;rw [<-lf,z2] at this;exact this);have K4:w4.heap[w.heap.size+1+1+1]?=some (.cells #[.map (some m0),.map (some w.heap.size),.map (some (w.heap.size+1)),.map (some (w.heap.size+1+1))] 136 (0,0)):=by
  have:=zAC w3 (.cells #[.map (some m0),.map (some w.heap.size),.map (some (w.heap.size+1)),.map (some (w.heap.size+1+1))] 136 (0,0));rw [<-mL,z3] at this;exact this
 have B4:Below w.heap.size w w4:=b1.trans ((b2.mono b1.size).trans ((b3.mono (by omega)).trans (b4.mono (by omega))));have Kt:Below w1.heap.size w1 w4:=b2.trans ((b3.mono (by omega)).trans (b4.mono (by omega)));have KX:Below w2.heap.size w2 w4:=b3.trans (b4.mono (by omega));have MF:Hid (Scp ok w4 (newSB m0 w.heap.size) ⟨above,[],[]⟩ [] []):=zAA ⟨K4,fun h=>absurd (bm _ h) (by simp [newSB];omega),BE,fun h=>absurd (bm _ h) (by simp [newSB]),fun h=>absurd (bm _ h) (by simp [newSB]),fun h=>absurd (bm _ h) (by simp [newSB];omega),
  by simp [newSB];omega,by simp [newSB];omega,by simp [newSB];omega,by simp [newSB],by simp [newSB];omega,by simp [newSB],
  ⟨f,hm.keep (B4.block _ J8),hN.keep B4.size (fun i _ hl=>B4.block i hl)⟩,⟨_,M1.keep (Kt.block _ M1.lt),fun s=>rfl⟩,⟨_,M2.keep (KX.block _ M2.lt),fun s=>rfl⟩,⟨_,M3.keep (b4.block _ M3.lt),fun s=>rfl⟩⟩
 have HB:=zAA B4;have HW:Hid (w4=(((w.alloc (.map #[] 0)).alloc (.map #[] 0)).alloc (.map #[] 0)).alloc (.cells #[.map (some m0),.map (some w.heap.size),.map (some (w.heap.size+1)),.map (some (w.heap.size+1+1))] 136 (0,0))):=zAA (by rw [mL,lf,gX,ew]);clear b1 b2 b3 b4 B4 Kt KX M1 M2 M3 K4 z1 z2 z3 ew gX lf mL hm hN J8 bm;go_enter Tryz.func52,Tryz.ntmps52;go_wp2;rw [<-HW.out];go_ret;exact ⟨rfl,MF.out,HB.out⟩
theorem isMain_any {ok:Nat->Prop} {w:World} {n:Nd} {y:NdV} (hy:HNd ok w y n) :
  Calls Tryz.prog 33 #[.agg #[.string y.name,.int .i64 y.place,.slice y.a2 y.n2 y.c2,.slice y.a3 y.n3 y.c3,.slice y.a4 y.n4 y.c4,.slice y.a5 y.n5 y.c5,.slice y.a6 y.n6 y.c6]] w fun r w'=>r=.returned (.bool (Kd.isMain n))/\Below w.heap.size w w':=by
 have b1:Below w.heap.size w (w.alloc (.cells #[.string y.name,.int .i64 y.place,.slice y.a2 y.n2 y.c2,.slice y.a3 y.n3 y.c3,.slice y.a4 y.n4 y.c4,.slice y.a5 y.n5 y.c5,.slice y.a6 y.n6 y.c6] 47 (0,0))):=(Below.refl _ _).alloc nR _;obtain ⟨ao,cap,eqs,_,_,_⟩:=hy.sizes.at;injection eqs with q1 q2 q3;have hq:Kd.isMain n=((y.name.toList==[109,97,105,110])&&decide ((y.n2:Int)=0)):=by
  unfold Kd.isMain;rw [hy.name,Lib.toList_data,q2]
  congr 1
  simp
 rw [hq];clear hq q1 q2 q3 hy
 cases h1:(y.name.toList==[109,97,105,110]) with
 | true=>
  by_cases h2:(y.n2:Int)=0
  ·have h3:((y.n2:Int)==0)=true:=by simpa using h2
   go_enter Tryz.func33,Tryz.ntmps33;go_wp2;go_ret;exact ⟨by rw [decide_eq_true h2];rfl,b1⟩
  ·have h3:((y.n2:Int)==0)=false:=by simpa using h2
   go_enter Tryz.func33,Tryz.ntmps33;go_wp2;go_ret;exact ⟨by rw [decide_eq_false h2];rfl,b1⟩
 | false=>
  go_enter Tryz.func33,Tryz.ntmps33;go_wp2;go_ret;exact ⟨by simp,b1⟩
end Go.Proofs.YtkfgbhlpjkkgfaaGreatDoor
