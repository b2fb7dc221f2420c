import Derived.Test.YtkfgbhlpjkkgfaaGreatDoorN26
import Derived.Test.YtkfgbhlpjkkgfaaGreatDoorN27
set_option linter.unusedVariables false
set_option linter.unusedSimpArgs false
set_option maxHeartbeats 64000000
set_option maxRecDepth 100000
namespace Go.Proofs.YtkfgbhlpjkkgfaaGreatDoor
open Go.RowKit Go.IntWalk
theorem declC_append (sizes:List ByteArray):∀ (a b had:List De),Kd.declC sizes had (a++b)=if Kd.declC sizes had a≠0 then Kd.declC sizes had a else Kd.declC sizes (had++a) b
 | [],b,had=>by simp [Kd.declC]
 | d :: a,b,had=>by
  rw [List.cons_append,declC_cons sizes [],declC_cons sizes []];by_cases h:Kd.declC1 ⟨[],sizes,had⟩ d≠0
  ·rw [if_pos h,if_pos h,if_pos h]
  ·rw [if_neg h,if_neg h,declC_append sizes a b (had++[d]),List.append_assoc]
   rfl
theorem twice_cons (had:List ByteArray) (s:ByteArray) (r:List ByteArray):Kd.twice had (s :: r)=(Kd.hasN had s || Kd.twice (had++[s]) r):=rfl
structure NdFit (n:Nd):Prop where
 name:n.name.size≤maxLen
 sizes:∀ s ∈ n.sizes,s.size≤maxLen
 inn:∀ d ∈ n.inn,Rn.deF d
 out:∀ d ∈ n.out,Rn.deF d
 loc:∀ d ∈ n.loc,Rn.deF d
 lens:n.sizes.length+n.inn.length+n.out.length+n.loc.length<1000000
structure HeadP (ok:Nat→Prop) (w:World) (x:SB) (above:List Nd) (n:Nd) (r:Ending) (w':World):Prop where
 ret:r=.returned (.int .i64 (Kd.headC above n))
 asd:Aside x.maps w.heap.size w w'
 scp:Kd.headC above n=0→Scp ok w' x (Kd.envOf above n) (Kd.mkOf n) []
theorem declareNode_any {ok:Nat→Prop} {w:World} {x:SB} {above:List Nd} {n:Nd} {y:NdV} (hS:Scp ok w x ⟨above,[],[]⟩ [] []) (hy:HNd ok w y n) (hF:NdFit n) :
  Calls Tryz.prog 53 #[.pointer (some ⟨x.b,0,none⟩),.agg #[.string y.name,.int .i64 y.place,.slice y.a2 y.n2 y.c2,.slice y.a3 y.n3 y.c3,.slice y.a4 y.n4 y.c4,.slice y.a5 y.n5 y.c5,.slice y.a6 y.n6 y.c6]] w (HeadP ok w x above n):=by
 obtain ⟨R,hR⟩:=nmQ (Kd.headC above n);have HR:=hide hR;unfold Kd.headC at hR;have hnm:=hF.name;rw [←hy.name] at hnm hR;have bA:Below w.heap.size w (w.alloc (.cells #[.string y.name,.int .i64 y.place,.slice y.a2 y.n2 y.c2,.slice y.a3 y.n3 y.c3,.slice y.a4 y.n4 y.c4,.slice y.a5 y.n5 y.c5,.slice y.a6 y.n6 y.c6] 47 (0,0))):=(Below.refl _ _).alloc nR _;have h1:=hS.keep bA;have hy1:=hy.under bA;have kA:=heap_new w (.cells #[.string y.name,.int .i64 y.place,.slice y.a2 y.n2 y.c2,.slice y.a3 y.n3 y.c3,.slice y.a4 y.n4 y.c4,.slice y.a5 y.n5 y.c5,.slice y.a6 y.n6 y.c6] 47 (0,0));have hOK:=hS.okOut;have hD:w.heap.size ∉ x.maps:=by
  intro hm;obtain ⟨_,a0,_⟩:=hS.h0;obtain ⟨_,a1,_⟩:=hS.h1;obtain ⟨_,a2,_⟩:=hS.h2;obtain ⟨_,a3,_⟩:=hS.h3;have:=a0.lt;have:=a1.lt;have:=a2.lt;have:=a3.lt;simp only [SB.maps,List.mem_cons,List.not_mem_nil,or_false] at hm;rcases hm with e | e | e | e<;>omega
 have hbm:x.b ∉ x.maps:=by
  have:=blkNe hS;simp only [SB.maps,List.mem_cons,List.not_mem_nil,or_false];rintro (e | e | e | e)
  ·exact this.1 e
  ·exact this.2.1 e
  ·exact this.2.2.1 e
  ·exact this.2.2.2 e
 have hbl:x.b<w.heap.size:=lt_of hS.blk;clear hS hy;go_enter Tryz.func53,Tryz.ntmps53;go_upto_region 1 with fail;generalize w.alloc (.cells #[.string y.name,.int .i64 y.place,.slice y.a2 y.n2 y.c2,.slice y.a3 y.n3 y.c3,.slice y.a4 y.n4 y.c4,.slice y.a5 y.n5 y.c5,.slice y.a6 y.n6 y.c6] 47 (0,0))=w1 at bA h1 kA hy1 ⊢;obtain ⟨z,hv,_⟩:=h1.lookNode hnm;have hv':∀ w',Below w1.heap.size w1 w'→(Instr.lookup 98 (.map (some x.m0)) (.string y.name) true).run Tryz.prog w'=.ok (.tuple #[.agg #[.string z.name,.int .i64 z.place,.slice z.a2 z.n2 z.c2,.slice z.a3 z.n3 z.c3,.slice z.a4 z.n4 z.c4,.slice z.a5 z.n5 z.c5,.slice z.a6 z.n6 z.c6],.bool (Kd.findN above y.name).isSome]) w':=hv;have kS:=h1.blk;have yA:=lt_of kA;have yS:=lt_of kS;have c0:=co kA 0;have e0:=co kS 0;simp at c0 e0;have HS1:=hide h1;have HY1:=hide hy1;have HKA:=hide kA;generalize (Kd.findN above y.name).isSome=q1 at hv' hR;clear h1 kS hy1 hv kA;go_cut [6] (fun v6 wd=>v6=.bool q1∧Below w1.heap.size w1 wd)
 case first=>
  refine wp_region_late (fun w'=>Below w1.heap.size w1 w') (fun _=>false) (by kernel_rfl) ?_;have hH0:Below w1.heap.size w1 w1.drew:=(Below.refl _ _).drew;generalize w1.drew=wd0 at hH0 ⊢;refine' wpAnyL_take (i:=0) (oi:=⟨some 14,_,_,_,_,_⟩) (v:=_) rfl (by kernel_rfl) (by kernel_rfl) (by kernel_rfl) (by kernel_rfl) (fun _ _ _ h=>h) hH0 (by rfl) ?hyv ?o1
  case hyv=>
   intro wz hSw;go_simp
   try rfl
  try simp only [Act.put,sT,sZ,sS]
  refine' wpAnyL_take (i:=1) (oi:=⟨some 15,_,_,_,_,_⟩) (v:=_) rfl (by kernel_rfl) (by kernel_rfl) (by kernel_rfl) (by kernel_rfl) (fun _ _ _ h=>h) hH0 (by rfl) ?hyv ?o2
  case hyv=>
   intro wz hSw;go_simp
   try rfl
  try simp only [Act.put,sT,sZ,sS]
  refine' wpAnyL_take (i:=2) (oi:=⟨some 16,_,_,_,_,_⟩) (v:=_) rfl (by kernel_rfl) (by kernel_rfl) (by kernel_rfl) (by kernel_rfl) (fun _ _ _ h=>h) hH0 (by rfl) ?hyv ?o3
  case hyv=>
   intro wz hSw;go_simp
   try rfl
  try simp only [Act.put,sT,sZ,sS]
  refine' wpAnyL_take (i:=3) (oi:=⟨some 17,_,_,_,_,_⟩) (v:=_) rfl (by kernel_rfl) (by kernel_rfl) (by kernel_rfl) (by kernel_rfl) (fun _ _ _ h=>h) hH0 (by rfl) ?hyv ?o4
  case hyv=>
   intro wz hSw;have zc0:=(hSw.cell (p:=⟨x.b,0,none⟩) yS).trans e0;go_simp
   try rfl
  try simp only [Act.put,sT,sZ,sS]
  refine' wpAnyL_take (i:=4) (oi:=⟨some 18,_,_,_,_,_⟩) (v:=_) rfl (by kernel_rfl) (by kernel_rfl) (by kernel_rfl) (by kernel_rfl) (fun _ _ _ h=>h) hH0 (by rfl) ?hyv ?o5
  case hyv=>
   intro wz hSw;go_simp
   try rfl
  try simp only [Act.put,sT,sZ,sS]
  refine' wpAnyL_take (i:=5) (oi:=⟨some 19,_,_,_,_,_⟩) (v:=_) rfl (by kernel_rfl) (by kernel_rfl) (by kernel_rfl) (by kernel_rfl) (fun _ _ _ h=>h) hH0 (by rfl) ?hyv ?o6
  case hyv=>
   intro wz hSw;have zc0:=(hSw.cell (p:=⟨w.heap.size,0,none⟩) yA).trans c0;go_simp
   try rfl
  try simp only [Act.put,sT,sZ,sS]
  refine' wpAnyL_take (i:=6) (oi:=⟨some 20,_,_,_,_,_⟩) (v:=_) rfl (by kernel_rfl) (by kernel_rfl) (by kernel_rfl) (by kernel_rfl) (fun _ _ _ h=>h) hH0 (by rfl) ?hyv ?o7
  case hyv=>
   intro wz hSw;have hl:=hv' _ hSw;go_simp
   try rfl
  try simp only [Act.put,sT,sZ,sS]
  refine' wpAnyL_take (i:=7) (oi:=⟨some 13,_,_,_,_,_⟩) (v:=_) rfl (by kernel_rfl) (by kernel_rfl) (by kernel_rfl) (by kernel_rfl) (fun _ _ _ h=>h) hH0 (by rfl) ?hyv ?o8
  case hyv=>
   intro wz hSw;go_simp
   try rfl
  try simp only [Act.put,sT,sZ,sS]
  refine' wpAnyL_take (i:=8) (oi:=⟨some 21,_,_,_,_,_⟩) (v:=_) rfl (by kernel_rfl) (by kernel_rfl) (by kernel_rfl) (by kernel_rfl) (fun _ _ _ h=>h) hH0 (by rfl) ?hyv ?o9
  case hyv=>
   intro wz hSw;go_simp
   try rfl
  try simp only [Act.put,sT,sZ,sS]
  refine' wpAnyL_take (i:=9) (oi:=⟨some 22,_,_,_,_,_⟩) (v:=_) rfl (by kernel_rfl) (by kernel_rfl) (by kernel_rfl) (by kernel_rfl) (fun _ _ _ h=>h) hH0 (by rfl) ?hyv ?o10
  case hyv=>
   intro wz hSw;go_simp
   try rfl
  try simp only [Act.put,sT,sZ,sS]
  refine wpAnyL_one (i:=10) (o:=_) rfl (by kernel_rfl) (by rfl) (fun K hK=>?_);go_simp;have hH1:Below w1.heap.size w1 (wd0.alloc (.cells #[.string ⟨#[]⟩,.int .i64 0,.slice none 0 0,.slice none 0 0,.slice none 0 0,.slice none 0 0,.slice none 0 0] 47 (0,0))):=hH0.alloc hH0.size _;have kn1:=heap_new wd0 (.cells #[.string ⟨#[]⟩,.int .i64 0,.slice none 0 0,.slice none 0 0,.slice none 0 0,.slice none 0 0,.slice none 0 0] 47 (0,0));have yn1:w1.heap.size≤wd0.heap.size:=hH0.size;refine hK.out _ _ (fun _=>hH1) ?_;clear hK K
  try simp only [Act.put,sT,sZ,sS]
  generalize wd0.alloc (.cells #[.string ⟨#[]⟩,.int .i64 0,.slice none 0 0,.slice none 0 0,.slice none 0 0,.slice none 0 0,.slice none 0 0] 47 (0,0))=wd1 at hH1 kn1 ⊢;refine wpAnyL_one (i:=11) (o:=_) rfl (by kernel_rfl) (by rfl) (fun K hK=>?_);have st0:=co kn1 0;have st1:=co kn1 1;have st2:=co kn1 2;have st3:=co kn1 3;have st4:=co kn1 4;have st5:=co kn1 5;have st6:=co kn1 6;have fr0:=fo kn1 0;have fr1:=fo kn1 1;have fr2:=fo kn1 2;have fr3:=fo kn1 3;have fr4:=fo kn1 4;have fr5:=fo kn1 5;have fr6:=fo kn1 6;simp at st0 st1 st2 st3 st4 st5 st6;go_simp;have hH2:Below w1.heap.size w1 (((((((wd1.setCell ⟨wd0.heap.size,0,none⟩ (.string z.name)).setCell ⟨wd0.heap.size,1,none⟩ (.int .i64 z.place)).setCell ⟨wd0.heap.size,2,none⟩ (.slice z.a2 z.n2 z.c2)).setCell ⟨wd0.heap.size,3,none⟩ (.slice z.a3 z.n3 z.c3)).setCell ⟨wd0.heap.size,4,none⟩ (.slice z.a4 z.n4 z.c4)).setCell ⟨wd0.heap.size,5,none⟩ (.slice z.a5 z.n5 z.c5)).setCell ⟨wd0.heap.size,6,none⟩ (.slice z.a6 z.n6 z.c6)):=(Below.setCell (Below.setCell (Below.setCell (Below.setCell (Below.setCell (Below.setCell (Below.setCell hH1 (p:=⟨wd0.heap.size,0,none⟩) yn1 (.string z.name)) (p:=⟨wd0.heap.size,1,none⟩) yn1 (.int .i64 z.place)) (p:=⟨wd0.heap.size,2,none⟩) yn1 (.slice z.a2 z.n2 z.c2)) (p:=⟨wd0.heap.size,3,none⟩) yn1 (.slice z.a3 z.n3 z.c3)) (p:=⟨wd0.heap.size,4,none⟩) yn1 (.slice z.a4 z.n4 z.c4)) (p:=⟨wd0.heap.size,5,none⟩) yn1 (.slice z.a5 z.n5 z.c5)) (p:=⟨wd0.heap.size,6,none⟩) yn1 (.slice z.a6 z.n6 z.c6));refine hK.out _ _ (fun _=>hH2) ?_;clear hK K
  try simp only [Act.put,sT,sZ,sS]
  generalize (((((((wd1.setCell ⟨wd0.heap.size,0,none⟩ (.string z.name)).setCell ⟨wd0.heap.size,1,none⟩ (.int .i64 z.place)).setCell ⟨wd0.heap.size,2,none⟩ (.slice z.a2 z.n2 z.c2)).setCell ⟨wd0.heap.size,3,none⟩ (.slice z.a3 z.n3 z.c3)).setCell ⟨wd0.heap.size,4,none⟩ (.slice z.a4 z.n4 z.c4)).setCell ⟨wd0.heap.size,5,none⟩ (.slice z.a5 z.n5 z.c5)).setCell ⟨wd0.heap.size,6,none⟩ (.slice z.a6 z.n6 z.c6))=wd2 at hH2 ⊢;clear kn1 yn1 st0 fr0 st1 fr1 st2 fr2 st3 fr3 st4 fr4 st5 fr5 st6 fr6;refine' wpAnyL_take (i:=12) (oi:=⟨some 6,_,_,_,_,_⟩) (v:=_) rfl (by kernel_rfl) (by kernel_rfl) (by kernel_rfl) (by kernel_rfl) (fun _ _ _ h=>h) hH2 (by rfl) ?hyv ?o11
  case hyv=>
   intro wz hSw;go_simp
   try rfl
  try simp only [Act.put,sT,sZ,sS]
  refine wpAnyL_done (by kernel_rfl) ?_ _;go_wp2_with fail;go_meet
  case rel=>exact ⟨rfl,hH2⟩
 case rest=>
  obtain ⟨rfl,bc⟩:=hcut;obtain ⟨w2,hw2⟩:=nmQ (wc);rw [←hw2] at bc ⊢;clear hw2 hv';have BW:=bA.trans (bc.mono bA.size)
  cases q1
  case true=>
   rw [if_pos rfl] at hR;go_wp2;go_ret;exact ⟨by rw [←HR.out,hR];rfl,aside BW,fun h=>by rw [←HR.out,hR] at h;cases h⟩
  case false=>
   rw [if_neg (by simp)] at hR;have kA2:=(bc.block _ yA).trans HKA.out;have d2:=co kA2 2;simp at d2;have hy2:=HY1.out.under bc;have hS2:=HS1.out.keep bc;have HY2:=hide hy2;have HKA2:=hide kA2;obtain ⟨ao,cap,eqs,hc1,hc2,hat⟩:=hy2.sizes.at;injection eqs with q1 q2 q3;rw [q1,q2,q3] at d2;unfold maxLen at hc2;have HQ1:=hide q1;have hsz:=hF.sizes;have hln:=hF.lens;obtain ⟨m,hm⟩:=nmQ (n.sizes.length);rw [←hm] at hc1 d2;have HM:=hide hm;have HS2:=hide hS2;clear HS1 HY1 HKA hat hm q1 q2 q3 hS2 hy2 kA2;go_upto_block 0 with fail;go_wp2_with fail;go_loopg [27] m (fun k v wr=>∃ i,i≤m∧k=m-i∧v=.int .i64 (i:Nat)∧Hid (Kd.twice [] n.sizes=Kd.twice (n.sizes.take i) (n.sizes.drop i))∧Hid (Scp ok wr x ⟨above,n.sizes.take i,[]⟩ [] [])∧Aside x.maps w2.heap.size w2 wr)
   case atStart=>exact ⟨0,Nat.zero_le _,rfl,rfl,hide (by simp),hide (by simpa using HS2.out),Aside.refl _⟩
   case round=>
    obtain ⟨i,hi,rfl,rfl,H,HSc,hbr⟩:=hrel;by_cases hlt:i<m
    case neg=>
     have hie:i=m:=(by omega);have etk:n.sizes.take i=n.sizes:=List.take_of_length_le (by have:=HM.out;omega);have edr:n.sizes.drop i=[]:=List.drop_of_length_le (by have:=HM.out;omega);have htw:Kd.twice [] n.sizes=false:=(by rw [H.out,edr];rfl);rw [if_neg (by rw [htw];simp),declC_append,declC_append] at hR;have hSo:=HSc.out;rw [etk] at hSo;obtain ⟨wo,hwo⟩:=nmQ (wr);rw [←hwo] at hSo hbr ⊢;clear hwo H HSc HS2 htw etk edr;have hyo:HNd ok wo y n:=HY2.out.keep hbr.size (fun j hj hjl=>hbr.block j hjl (hOK j hj));have kAo:=(hbr.block _ (lt_of HKA2.out) hD).trans HKA2.out;have d3:=co kAo 3;simp at d3;have hc1':=kdecls_any hSo hyo.inn hF.inn (by show ([]:List De).length+_<_;simp;omega);have HKo:=hide kAo;have HYo:=hide hyo;clear hSo hyo kAo d2;go_wp2_with fail;refine hc1'.mono ?_;rintro e w4 ⟨rfl,a4,hS4⟩
     dsimp only at hS4
     clear hc1';have A4:Aside x.maps w.heap.size w w4:=((aside BW).trans hbr BW.size).trans a4 (Nat.le_trans BW.size hbr.size);generalize hg1:Kd.declC n.sizes [] n.inn=g1 at hS4 hR ⊢;by_cases hz1:g1=0
     case neg=>
      rw [if_pos (by rw [if_pos hz1];exact hz1),if_pos hz1] at hR;have hz2:(g1 != 0)=true:=(by simpa using hz1);clear hS4;go_wp2;go_ret;exact ⟨by rw [←HR.out,hR];rfl,A4,fun h=>absurd (by rw [←HR.out,hR] at h;exact h) hz1⟩
     case pos=>
      subst hz1;have hS4':=hS4 rfl;clear hS4;rw [if_neg (show ¬((0:Int)≠0) by simp)] at hR;have hy4:HNd ok w4 y n:=HYo.out.keep a4.size (fun j hj hjl=>a4.block j hjl (hOK j hj));have kA4:=(a4.block _ (lt_of HKo.out) hD).trans HKo.out;have d4:=co kA4 4;simp at d4;have hc2':=kdeclsM_any hS4' hy4.out hF.out (by show ([]++n.inn).length+_<_;simp;omega) (by simp;omega);have HK4:=hide kA4;have HY4:=hide hy4;clear hS4' hy4 kA4 d3 HKo HYo;go_wp2_with fail;refine hc2'.mono ?_;rintro e w5 ⟨rfl,a5,hS5⟩
      dsimp only at hS5
      clear hc2';have A5:=A4.trans a5 A4.size;generalize hg2:Kd.declC n.sizes ([]++n.inn) n.out=g2 at hS5 hR ⊢;by_cases hz1:g2=0
      case neg=>
       rw [if_pos hz1] at hR;have hz2:(g2 != 0)=true:=(by simpa using hz1);clear hS5;go_wp2;go_ret;exact ⟨by rw [←HR.out,hR];rfl,A5,fun h=>absurd (by rw [←HR.out,hR] at h;exact h) hz1⟩
      case pos=>
       subst hz1;have hS5':=hS5 rfl;clear hS5;rw [if_neg (show ¬((0:Int)≠0) by simp)] at hR;have hy5:HNd ok w5 y n:=HY4.out.keep a5.size (fun j hj hjl=>a5.block j hjl (hOK j hj));have kA5:=(a5.block _ (lt_of HK4.out) hD).trans HK4.out;have d5:=co kA5 5;simp at d5;have hc3':=kdeclsM_any hS5' hy5.loc hF.loc (by show ([]++n.inn++n.out).length+_<_;simp;omega) (by simp;omega);clear hS5' hy5 kA5 d4 HK4 HY4;go_wp2_with fail;refine hc3'.mono ?_;rintro e w6 ⟨rfl,a6,hS6⟩
       dsimp only at hS6
       clear hc3';have A6:=A5.trans a6 A5.size;go_wp2;go_ret;refine ⟨by rw [←HR.out,hR];rfl,A6,fun h=>?_⟩;rw [←HR.out,hR] at h;have:=hS6 (by simpa using h)
       simpa [Kd.envOf,Kd.mkOf] using this
    case pos=>
     have hil:i<n.sizes.length:=(by have:=HM.out;omega);have hfi:=hsz _ (List.getElem_mem hil);have hdr:n.sizes.drop i=n.sizes[i] :: n.sizes.drop (i+1):=List.drop_eq_getElem_cons hil;have htk:n.sizes.take (i+1)=n.sizes.take i++[n.sizes[i]]:=List.take_succ_eq_append_getElem hil;have hT1:=H.out;rw [hdr,twice_cons] at hT1;have hns:HNames ok wr (.slice y.a2 y.n2 y.c2) n.sizes:=HY2.out.sizes.keep hbr.size (fun j hj hjl=>hbr.block j hjl (hOK j hj));obtain ⟨ao',cap',eqs,_,_,hat2⟩:=hns.at;injection eqs with p1 p2 p3;obtain ⟨b,o,eb,hb,hcs⟩:=hat2 i hil;rw [←p1,HQ1.out] at eb;subst eb;obtain ⟨s,hs⟩:=nmQ (n.sizes[i]);rw [←hs] at hfi hT1 htk hcs;have hSo:=HSc.out;have hblk:=hSo.blk;have s1:=co hblk 1;simp at s1;obtain ⟨vv,hlk⟩:=hSo.lookSize hfi;have hlk0:=hlk wr (Below.refl _ _);obtain ⟨ff,hm1,hT⟩:=hSo.h1
     dsimp only at hm1 hT hlk0
     have HSo:=hide hSo;have HTF:=hide hT;have htl:(n.sizes.take i).length=i:=(by rw [List.length_take];omega);clear hns hat2 p1 p2 p3 hs hSo hblk hlk hT HSc hdr H
     cases hq:Kd.hasN (n.sizes.take i) s with
     | true=>
      rw [hq] at hlk0 hT1;rw [if_pos (by rw [hT1];rfl)] at hR;go_wp2;go_ret;exact ⟨by rw [←HR.out,hR];rfl,(aside BW).trans hbr BW.size,fun h=>by rw [←HR.out,hR] at h;cases h⟩
     | false=>
      rw [hq] at hlk0 hT1;rw [Bool.false_or] at hT1;have HT1:=hide hT1;clear hT1
      go_wp2_with (at_mapUpdate;refine wpList_put rfl _ _ _ 133 rfl 3 u133 hm1 (by unfold maxLen;omega) hfi rfl rfl ?_;intro w3 hm3 hg3)
      have hS3:=hide (HSo.out.afterSize (f:=ff) HTF.out hm3 hg3);have a3:Aside x.maps w2.heap.size w2 w3:=hbr.trans (aside_grown (B:=wr.heap.size) (by simp [SB.maps]) hg3 nR) hbr.size;clear hm3 hg3 hm1 hlk0;go_roundg (m-(i+1))
      case measure=>omega
      case rel=>
       refine ⟨i+1,by omega,rfl,by go_num,hide ?_,hide ?_,a3⟩
       ·rw [HT1.out,htk]
       ·have:=hS3.out
        rw [htk];exact this
theorem firstC_append {α:Type} (f:α→Int):∀ (a b:List α),Rn.firstC f (a++b)=if Rn.firstC f a≠0 then Rn.firstC f a else Rn.firstC f b
 | [],b=>by simp [Rn.firstC]
 | x :: a,b=>by
  rw [List.cons_append];by_cases h:f x=0
  ·have e1:∀ l,Rn.firstC f (x :: l)=Rn.firstC f l:=fun l=>by rw [Rn.firstC,if_pos h]
   rw [e1,e1,firstC_append f a b]
  ·have e1:∀ l,Rn.firstC f (x :: l)=f x:=fun l=>by rw [Rn.firstC,if_neg h]
   rw [e1,e1,if_pos h]
theorem unmade_eq (done:List ByteArray) (l:List De):Kd.unmade done l=Rn.firstC (Kd.un1 done) l:=rfl
theorem codeOfUnmade_any {ok:Nat→Prop} {w:World} {x:SB} {E:Kd.Env} {mk done:List ByteArray} (hS:Scp ok w x E mk done) {n:Nd} {y:NdV} (hy:HNd ok w y n) (hF:NdFit n) :
  Calls Tryz.prog 55 #[.pointer (some ⟨x.b,0,none⟩),.agg #[.string y.name,.int .i64 y.place,.slice y.a2 y.n2 y.c2,.slice y.a3 y.n3 y.c3,.slice y.a4 y.n4 y.c4,.slice y.a5 y.n5 y.c5,.slice y.a6 y.n6 y.c6]] w fun r w'=>r=.returned (.int .i64 (Kd.unmade done (n.out++n.loc)))∧Below w.heap.size w w':=by
 rw [unmade_eq,firstC_append];have b1:Below w.heap.size w ((w.alloc (.cells #[.pointer (some ⟨x.b,0,none⟩)] 99 (0,0))).alloc (.cells #[.string y.name,.int .i64 y.place,.slice y.a2 y.n2 y.c2,.slice y.a3 y.n3 y.c3,.slice y.a4 y.n4 y.c4,.slice y.a5 y.n5 y.c5,.slice y.a6 y.n6 y.c6] 47 (0,0))):=((Below.refl _ _).alloc nR _).alloc (by simp) _;have kB:((w.alloc (.cells #[.pointer (some ⟨x.b,0,none⟩)] 99 (0,0))).alloc (.cells #[.string y.name,.int .i64 y.place,.slice y.a2 y.n2 y.c2,.slice y.a3 y.n3 y.c3,.slice y.a4 y.n4 y.c4,.slice y.a5 y.n5 y.c5,.slice y.a6 y.n6 y.c6] 47 (0,0))).heap[w.heap.size]?=some (.cells #[.pointer (some ⟨x.b,0,none⟩)] 99 (0,0)):=(Below.heap_alloc _ _ _ (by simp)).trans (heap_new w _);have kD:((w.alloc (.cells #[.pointer (some ⟨x.b,0,none⟩)] 99 (0,0))).alloc (.cells #[.string y.name,.int .i64 y.place,.slice y.a2 y.n2 y.c2,.slice y.a3 y.n3 y.c3,.slice y.a4 y.n4 y.c4,.slice y.a5 y.n5 y.c5,.slice y.a6 y.n6 y.c6] 47 (0,0))).heap[w.heap.size+1]?=some (.cells #[.string y.name,.int .i64 y.place,.slice y.a2 y.n2 y.c2,.slice y.a3 y.n3 y.c3,.slice y.a4 y.n4 y.c4,.slice y.a5 y.n5 y.c5,.slice y.a6 y.n6 y.c6] 47 (0,0)):=by
  have:=heap_new (w.alloc (.cells #[.pointer (some ⟨x.b,0,none⟩)] 99 (0,0))) (.cells #[.string y.name,.int .i64 y.place,.slice y.a2 y.n2 y.c2,.slice y.a3 y.n3 y.c3,.slice y.a4 y.n4 y.c4,.slice y.a5 y.n5 y.c5,.slice y.a6 y.n6 y.c6] 47 (0,0))
  simpa using this
 have h1:=hS.keep b1;have hy1:=hy.under b1;clear hS hy;obtain ⟨R,hR⟩:=nmQ ((if Rn.firstC (Kd.un1 done) n.out≠0 then Rn.firstC (Kd.un1 done) n.out else Rn.firstC (Kd.un1 done) n.loc));rw [←hR];go_enter Tryz.func55,Tryz.ntmps55;go_upto_region 2 with fail;generalize (w.alloc (.cells #[.pointer (some ⟨x.b,0,none⟩)] 99 (0,0))).alloc (.cells #[.string y.name,.int .i64 y.place,.slice y.a2 y.n2 y.c2,.slice y.a3 y.n3 y.c3,.slice y.a4 y.n4 y.c4,.slice y.a5 y.n5 y.c5,.slice y.a6 y.n6 y.c6] 47 (0,0))=w1 at b1 kB kD h1 hy1 ⊢;have d4:=co kD 4;simp at d4;have hc:=unmadeL_any h1 kB hy1.out hF.out;have HS:=hide h1;have HY:=hide hy1;have HB:=hide kB;have HD:=hide kD;clear h1 hy1 kB kD;generalize Rn.firstC (Kd.un1 done) n.out=c at hc hR;go_wp2_with fail;refine hc.mono ?_;rintro e w2 ⟨rfl,b2⟩;clear hc d4;have B2:=b1.trans (b2.mono b1.size);by_cases hz:c=0
 ·subst hz
  rw [if_neg (by simp)] at hR;have kB2:=(b2.block _ (lt_of HB.out)).trans HB.out;have kD2:=(b2.block _ (lt_of HD.out)).trans HD.out;have d5:=co kD2 5;simp at d5;have hc:=unmadeL_any (HS.out.keep b2) kB2 (HY.out.under b2).loc hF.loc;clear HS HY HB HD kB2 kD2;generalize Rn.firstC (Kd.un1 done) n.loc=c at hc hR;subst hR;go_wp2_with fail;refine hc.mono ?_;rintro e w3 ⟨rfl,b3⟩;go_wp2;go_ret;exact ⟨rfl,B2.trans (b3.mono B2.size)⟩
 ·rw [if_pos hz] at hR
  subst hR;have hz2:(R != 0)=true:=(by simpa using hz);go_wp2;go_ret;exact ⟨rfl,B2⟩
def newSB (m0 B:Nat):SB:=⟨B+1+1+1,m0,B,B+1,B+1+1⟩
theorem newScope_any {ok:Nat→Prop} {w:World} {m0:Nat} {above:List Nd} {f:List UInt8→Option Value} (hm:MapIs w m0 above.length f) (hN:NdF ok w above f) (hok:∀ i,ok i→i<w.heap.size) (hm0:¬ok m0) :
  Calls Tryz.prog 52 #[.map (some m0)] w fun r w'=>r=.returned (.pointer (some ⟨(newSB m0 w.heap.size).b,0,none⟩))∧Scp ok w' (newSB m0 w.heap.size) ⟨above,[],[]⟩ [] []∧Below w.heap.size w w':=by
 have hmm:=@run_makeMap Tryz.prog;have ylt:=hm.lt;obtain ⟨w1,hw1⟩:=nmQ (w.alloc (.map #[] 0));obtain ⟨w2,hw2⟩:=nmQ (w1.alloc (.map #[] 0));obtain ⟨w3,hw3⟩:=nmQ (w2.alloc (.map #[] 0));obtain ⟨w4,hw4⟩:=nmQ (w3.alloc (.cells #[.map (some m0),.map (some w.heap.size),.map (some (w.heap.size+1)),.map (some (w.heap.size+1+1))] 136 (0,0)));have z1:=newZ hw1;have z2:w2.heap.size=w.heap.size+1+1:=(by rw [hw2];simp [z1]);have z3:w3.heap.size=w.heap.size+1+1+1:=(by rw [hw3];simp [z2]);have b1:=newB hw1;have b2:=newB hw2;have b3:=newB hw3;have b4:=newB hw4;have M1:MapIs w1 w.heap.size 0 (fun _=>none):=(by rw [hw1];exact MapIs.made w);have M2:MapIs w2 (w.heap.size+1) 0 (fun _=>none):=(by have:=MapIs.made w1;rw [←hw2,z1] at this;exact this);have M3:MapIs w3 (w.heap.size+1+1) 0 (fun _=>none):=(by have:=MapIs.made w2;rw [←hw3,z2] at this;exact this);have K4:w4.heap[w.heap.size+1+1+1]?=some (.cells #[.map (some m0),.map (some w.heap.size),.map (some (w.heap.size+1)),.map (some (w.heap.size+1+1))] 136 (0,0)):=by
  have:=heap_new w3 (.cells #[.map (some m0),.map (some w.heap.size),.map (some (w.heap.size+1)),.map (some (w.heap.size+1+1))] 136 (0,0));rw [←hw4,z3] at this;exact this
 have B4:Below w.heap.size w w4:=b1.trans ((b2.mono b1.size).trans ((b3.mono (by omega)).trans (b4.mono (by omega))));have B14:Below w1.heap.size w1 w4:=b2.trans ((b3.mono (by omega)).trans (b4.mono (by omega)));have B24:Below w2.heap.size w2 w4:=b3.trans (b4.mono (by omega));have HSC:Hid (Scp ok w4 (newSB m0 w.heap.size) ⟨above,[],[]⟩ [] []):=hide ⟨K4,fun h=>absurd (hok _ h) (by simp [newSB];omega),hm0,fun h=>absurd (hok _ h) (by simp [newSB]),fun h=>absurd (hok _ h) (by simp [newSB]),fun h=>absurd (hok _ h) (by simp [newSB];omega),
  by simp [newSB];omega,by simp [newSB];omega,by simp [newSB];omega,by simp [newSB],by simp [newSB];omega,by simp [newSB],
  ⟨f,hm.keep (B4.block _ ylt),hN.keep B4.size (fun i _ hl=>B4.block i hl)⟩,⟨_,M1.keep (B14.block _ M1.lt),fun s=>rfl⟩,⟨_,M2.keep (B24.block _ M2.lt),fun s=>rfl⟩,⟨_,M3.keep (b4.block _ M3.lt),fun s=>rfl⟩⟩
 have HB:=hide B4;have HW:Hid (w4=(((w.alloc (.map #[] 0)).alloc (.map #[] 0)).alloc (.map #[] 0)).alloc (.cells #[.map (some m0),.map (some w.heap.size),.map (some (w.heap.size+1)),.map (some (w.heap.size+1+1))] 136 (0,0))):=hide (by rw [hw4,hw3,hw2,hw1]);clear b1 b2 b3 b4 B4 B14 B24 M1 M2 M3 K4 z1 z2 z3 hw1 hw2 hw3 hw4 hm hN ylt hok;go_enter Tryz.func52,Tryz.ntmps52;go_wp2;rw [←HW.out];go_ret;exact ⟨rfl,HSC.out,HB.out⟩
theorem isMain_any {ok:Nat→Prop} {w:World} {n:Nd} {y:NdV} (hy:HNd ok w y n) :
  Calls Tryz.prog 33 #[.agg #[.string y.name,.int .i64 y.place,.slice y.a2 y.n2 y.c2,.slice y.a3 y.n3 y.c3,.slice y.a4 y.n4 y.c4,.slice y.a5 y.n5 y.c5,.slice y.a6 y.n6 y.c6]] w fun r w'=>r=.returned (.bool (Kd.isMain n))∧Below w.heap.size w w':=by
 have b1:Below w.heap.size w (w.alloc (.cells #[.string y.name,.int .i64 y.place,.slice y.a2 y.n2 y.c2,.slice y.a3 y.n3 y.c3,.slice y.a4 y.n4 y.c4,.slice y.a5 y.n5 y.c5,.slice y.a6 y.n6 y.c6] 47 (0,0))):=(Below.refl _ _).alloc nR _;obtain ⟨ao,cap,eqs,_,_,_⟩:=hy.sizes.at;injection eqs with q1 q2 q3;have hq:Kd.isMain n=((y.name.toList==[109,97,105,110])&&decide ((y.n2:Int)=0)):=by
  unfold Kd.isMain;rw [hy.name,Lib.toList_data,q2]
  congr 1
  simp
 rw [hq];clear hq q1 q2 q3 hy
 cases h1:(y.name.toList==[109,97,105,110]) with
 | true=>
  by_cases h2:(y.n2:Int)=0
  ·have h3:((y.n2:Int)==0)=true:=by simpa using h2
   go_enter Tryz.func33,Tryz.ntmps33;go_wp2;go_ret;exact ⟨by rw [decide_eq_true h2];rfl,b1⟩
  ·have h3:((y.n2:Int)==0)=false:=by simpa using h2
   go_enter Tryz.func33,Tryz.ntmps33;go_wp2;go_ret;exact ⟨by rw [decide_eq_false h2];rfl,b1⟩
 | false=>
  go_enter Tryz.func33,Tryz.ntmps33;go_wp2;go_ret;exact ⟨by simp,b1⟩
end Go.Proofs.YtkfgbhlpjkkgfaaGreatDoor
