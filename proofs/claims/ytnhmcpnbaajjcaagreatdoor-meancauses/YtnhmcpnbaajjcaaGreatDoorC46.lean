import Derived.Test.YtnhmcpnbaajjcaaGreatDoorC45
import Derived.Test.YtnhmcpnbaajjcaaGreatDoorC31
set_option linter.unusedVariables false
set_option linter.unusedSimpArgs false
set_option maxHeartbeats 64000000
set_option maxRecDepth 100000
namespace Go.Proofs.YtnhmcpnbaajjcaaGreatDoor
open Go.RowKit Go.IntWalk
def NewPost (w:World) (S:Sk.Sys) (e:Ending) (w':World):Prop :=
 ((Sk.sortF S).1≠0∧e=.returned (.tuple #[.pointer none,.agg #[.int .i64 (Sk.sortF S).1,.int .i64 (Sk.sortF S).2]])∧Below w.heap.size w w') ∨
 (Sk.sortF S=(0,0)∧Sk.Okay S∧(Sk.turns S).2.2=[]∧∃ mb,e=.returned (.tuple #[.pointer (some ⟨mb,0,none⟩),.agg #[.int .i64 0,.int .i64 0]])∧(∀ L:List Nat,(∀ q ∈ L,q<w.heap.size)→MeanAt (mb :: L) w' mb (Sk.sortS S) (fun _=>none))∧w.heap.size≤mb∧Below w.heap.size w w')
theorem new_any {ok:Nat→Prop} {w:World} {aV aI aO aR:Option Addr} {cV cI cO cR:Nat} {S:Sk.Sys} (hG:GlobK w) (hP:GlobP w) (hS:HSys ok w aV aI aO aR cV cI cO cR S) (hfit:∀ r ∈ S.R,r.A.length≤1000000∧r.E.length≤1000000) :
  Calls Tryz.prog 20 #[.agg #[.slice aV S.V.length cV,.slice aI S.I.length cI,.slice aO S.O.length cO,.slice aR S.R.length cR]] w (NewPost w S):=by
 have b1:Below w.heap.size w ((w.alloc (.cells #[.slice aV S.V.length cV,.slice aI S.I.length cI,.slice aO S.O.length cO,.slice aR S.R.length cR] 26 (0,0))).alloc (.cells #[.int .i64 0,.int .i64 0] 30 (0,0))):=((Below.refl _ _).alloc nR _).alloc (by simp) _;have kF:((w.alloc (.cells #[.slice aV S.V.length cV,.slice aI S.I.length cI,.slice aO S.O.length cO,.slice aR S.R.length cR] 26 (0,0))).alloc (.cells #[.int .i64 0,.int .i64 0] 30 (0,0))).heap[w.heap.size+1]?=some (.cells #[.int .i64 0,.int .i64 0] 30 (0,0)):=(by have:=heap_new (w.alloc (.cells #[.slice aV S.V.length cV,.slice aI S.I.length cI,.slice aO S.O.length cO,.slice aR S.R.length cR] 26 (0,0))) (.cells #[.int .i64 0,.int .i64 0] 30 (0,0));simpa using this);have kS:=(Below.heap_alloc (w.alloc (.cells #[.slice aV S.V.length cV,.slice aI S.I.length cI,.slice aO S.O.length cO,.slice aR S.R.length cR] 26 (0,0))) (.cells #[.int .i64 0,.int .i64 0] 30 (0,0)) w.heap.size (by simp)).trans (heap_new w (.cells #[.slice aV S.V.length cV,.slice aI S.I.length cI,.slice aO S.O.length cO,.slice aR S.R.length cR] 26 (0,0)));have HCT:=hide (sort_any2 (hG.under b1) (hP.under b1) (hS.under b1) hfit);obtain ⟨PP,hPP⟩:=nmQ (NewPost w S);rw [←hPP];have HPP:=hide hPP;have HKF:=hide kF;have HB1:=hide b1;clear hG hP hS hfit hPP kF b1;go_enter Tryz.func20,Tryz.ntmps20;go_upto_region 1 with fail;generalize (w.alloc (.cells #[.slice aV S.V.length cV,.slice aI S.I.length cI,.slice aO S.O.length cO,.slice aR S.R.length cR] 26 (0,0))).alloc (.cells #[.int .i64 0,.int .i64 0] 30 (0,0))=w1 at HB1 HKF kS HCT ⊢;have k0:=co kS 0;have k1:=co kS 1;have k2:=co kS 2;have k3:=co kS 3;simp at k0 k1 k2 k3;go_wp2_with fail;refine HCT.out.mono ?_;intro e w2 hpost;clear k0 k1 k2 k3 kS HCT;unfold SortPost at hpost;rcases hpost with ⟨hc,rfl,b2⟩ | ⟨hz,okay,htl,aV',aI',aO',aR',cV',cI',cO',cR',rfl,hS2,b2⟩
 case inl=>
  have HC:=hide hc;have B2:Below w.heap.size w w2:=HB1.out.trans (b2.mono HB1.out.size);have kF2:=(b2.block _ (lt_of HKF.out)).trans HKF.out;have hq:((Sk.sortF S).1 != 0)=true:=(by simpa using hc);generalize hfe:Sk.sortF S=fe at HC hq ⊢;obtain ⟨fc,fa⟩:=fe;simp only at HC hq;have HFE:=hide hfe;have o2:∃ o2,o2=(w2.alloc (.cells #[.slice none 0 0,.slice none 0 0,.slice none 0 0,.slice none 0 0] 26 (0,0))).alloc (.cells #[.int .i64 fc,.int .i64 fa] 30 (0,0)):=⟨_,rfl⟩;have b3:Below w2.heap.size w2 ((w2.alloc (.cells #[.slice none 0 0,.slice none 0 0,.slice none 0 0,.slice none 0 0] 26 (0,0))).alloc (.cells #[.int .i64 fc,.int .i64 fa] 30 (0,0))):=((Below.refl _ _).alloc nR _).alloc (by simp) _;have kG:((w2.alloc (.cells #[.slice none 0 0,.slice none 0 0,.slice none 0 0,.slice none 0 0] 26 (0,0))).alloc (.cells #[.int .i64 fc,.int .i64 fa] 30 (0,0))).heap[w2.heap.size+1]?=some (.cells #[.int .i64 fc,.int .i64 fa] 30 (0,0)):=(by have:=heap_new (w2.alloc (.cells #[.slice none 0 0,.slice none 0 0,.slice none 0 0,.slice none 0 0] 26 (0,0))) (.cells #[.int .i64 fc,.int .i64 fa] 30 (0,0));simpa using this);have kF3:=(b3.block _ (lt_of kF2)).trans kF2;clear hc hfe b2;go_upto_region 3 with fail;generalize (w2.alloc (.cells #[.slice none 0 0,.slice none 0 0,.slice none 0 0,.slice none 0 0] 26 (0,0))).alloc (.cells #[.int .i64 fc,.int .i64 fa] 30 (0,0))=w3 at b3 kG kF3 ⊢;have B3:Below w.heap.size w w3:=B2.trans (b3.mono B2.size);have g0:=co kG 0;have g1:=co kG 1;simp at g0 g1;have yG:=lt_of kG;have yF:=lt_of kF3;refine wp_region_late (fun w'=>Below w3.heap.size w3 w') (fun i=>i==2) (by kernel_rfl) ?_;have hH0:Below w3.heap.size w3 w3.drew:=(Below.refl _ _).drew;generalize w3.drew=wd0 at hH0 ⊢;refine' tkQ 0 14 hH0 ?hyv ?o1
  case hyv=>
   intro wz hSw;have zc0:=(hSw.cell (p:=⟨w2.heap.size+1,0,none⟩) yG).trans g0;have zc1:=(hSw.cell (p:=⟨w2.heap.size+1,1,none⟩) yG).trans g1;go_simp
   try rfl
  try simp only [Act.put,sT,sZ,sS]
  refine' tkR 1 2 hH0 ?o2
  refine tnQ 2 (fun K hK=>?_);have kf5:=(hH0.block _ yF).trans kF3;have st0:=co kf5 0;have st1:=co kf5 1;have fr0:=fo kf5 0;have fr1:=fo kf5 1;simp at st0 st1;have KR:=set_in (set_in kf5 0 (.int .i64 fc)) 1 (.int .i64 fa);simp at KR;have HKR:=hide KR;have BE:Below w.heap.size w ((wd0.setCell ⟨w.heap.size+1,0,none⟩ (.int .i64 fc)).setCell ⟨w.heap.size+1,1,none⟩ (.int .i64 fa)):=((B3.trans (hH0.mono B3.size)).setCell (p:=⟨w.heap.size+1,0,none⟩) (by simp) _).setCell (p:=⟨w.heap.size+1,1,none⟩) (by simp) _;have HBE:=hide BE;clear KR BE kf5;go_simp;refine hK.out _ _ (fun h=>absurd h (by decide)) ?_;clear hK K st0 st1 fr0 fr1
  try simp only [Act.put,sT,sZ,sS]
  generalize ((wd0.setCell ⟨w.heap.size+1,0,none⟩ (.int .i64 fc)).setCell ⟨w.heap.size+1,1,none⟩ (.int .i64 fa))=wd1 at HKR HBE ⊢;refine wpAnyL_done (by kernel_rfl) ?_ _;have r0:=co HKR.out 0;have r1:=co HKR.out 1;simp at r0 r1;clear g0 g1 kG;go_wp2;exact bodyPost_ret (v:=.tuple #[.pointer none,.agg #[.int .i64 fc,.int .i64 fa]]) (by simp [results,Tryz.results20,go_sem,r0,r1]) rfl (by rw [HPP.out];unfold NewPost;rw [HFE.out];exact .inl ⟨HC.out,rfl,HBE.out⟩)
 case inr=>
  have B2:Below w.heap.size w w2:=HB1.out.trans (b2.mono HB1.out.size);have kF2:=hide ((b2.block _ (lt_of HKF.out)).trans HKF.out);have hl:(Sk.turns S).1.length=(Sk.sortS S).R.length:=(by simp [Sk.sortS]);obtain ⟨tl,htl2⟩:=nmQ ((Sk.turns S).1.length);rw [←htl2];have HTL:=hide (htl2.trans hl);have HOK:=hide (And.intro hz (And.intro okay htl));have HS2:=hide hS2;clear hz okay htl htl2 hl hS2 b2;go_upto_region 2 with fail;have b3:Below w2.heap.size w2 ((w2.alloc (.cells #[.slice aV' S.V.length cV',.slice aI' S.I.length cI',.slice aO' S.O.length cO',.slice aR' tl cR'] 26 (0,0))).alloc (.cells #[.int .i64 0,.int .i64 0] 30 (0,0))):=((Below.refl _ _).alloc nR _).alloc (by simp) _;have kG:((w2.alloc (.cells #[.slice aV' S.V.length cV',.slice aI' S.I.length cI',.slice aO' S.O.length cO',.slice aR' tl cR'] 26 (0,0))).alloc (.cells #[.int .i64 0,.int .i64 0] 30 (0,0))).heap[w2.heap.size+1]?=some (.cells #[.int .i64 0,.int .i64 0] 30 (0,0)):=(by have:=heap_new (w2.alloc (.cells #[.slice aV' S.V.length cV',.slice aI' S.I.length cI',.slice aO' S.O.length cO',.slice aR' tl cR'] 26 (0,0))) (.cells #[.int .i64 0,.int .i64 0] 30 (0,0));simpa using this);have kT:=(Below.heap_alloc (w2.alloc (.cells #[.slice aV' S.V.length cV',.slice aI' S.I.length cI',.slice aO' S.O.length cO',.slice aR' tl cR'] 26 (0,0))) (.cells #[.int .i64 0,.int .i64 0] 30 (0,0)) w2.heap.size (by simp)).trans (heap_new w2 (.cells #[.slice aV' S.V.length cV',.slice aI' S.I.length cI',.slice aO' S.O.length cO',.slice aR' tl cR'] 26 (0,0)));generalize (w2.alloc (.cells #[.slice aV' S.V.length cV',.slice aI' S.I.length cI',.slice aO' S.O.length cO',.slice aR' tl cR'] 26 (0,0))).alloc (.cells #[.int .i64 0,.int .i64 0] 30 (0,0))=w3 at b3 kG kT ⊢;have B3:Below w.heap.size w w3:=B2.trans (b3.mono B2.size);have g0:=co kG 0;have t0:=co kT 0;have t1:=co kT 1;have t2:=co kT 2;have t3:=co kT 3;simp at g0 t0 t1 t2 t3;have kF3:=(b3.block _ (lt_of kF2.out)).trans kF2.out;have st0:=co kF3 0;have st1:=co kF3 1;have fr0:=fo kF3 0;have fr1:=fo kF3 1;simp at st0 st1;have yF3:=lt_of kF3;have KR:=set_in (set_in kF3 0 (.int .i64 0)) 1 (.int .i64 0);simp at KR;have T2:Below w.heap.size w3 ((w3.setCell ⟨w.heap.size+1,0,none⟩ (.int .i64 0)).setCell ⟨w.heap.size+1,1,none⟩ (.int .i64 0)):=((Below.refl _ _).setCell (p:=⟨w.heap.size+1,0,none⟩) (by simp) _).setCell (p:=⟨w.heap.size+1,1,none⟩) (by simp) _;have T3:Aside [w.heap.size+1] w3.heap.size w3 ((w3.setCell ⟨w.heap.size+1,0,none⟩ (.int .i64 0)).setCell ⟨w.heap.size+1,1,none⟩ (.int .i64 0)):=two_set;have hsz:((w3.setCell ⟨w.heap.size+1,0,none⟩ (.int .i64 0)).setCell ⟨w.heap.size+1,1,none⟩ (.int .i64 0)).heap.size=w3.heap.size:=(by simp [World.setCell]);have h12:=lt_of HKF.out;have HS3:=hide ((HS2.out.wide (ok':=fun i=>i≠w.heap.size+1∧(i≠w3.heap.size∧w.heap.size≤i)) fun i h1 h2=>by have h3:w1.heap.size≤i:=h1;have:=b3.size;have:=HB1.out.size;exact ⟨by omega,by omega,by omega⟩).under b3 |>.keep T3.size (fun i hi hl=>T3.block i hl (by simpa using hi.1)));have HNB:=hide (And.intro KR (And.intro (B3.trans T2) hsz));clear KR T2 T3 hsz;go_upto_region 4 with fail;clear g0;go_wp2;obtain ⟨KR,BT,hsz⟩:=HNB.out;generalize (w3.setCell ⟨w.heap.size+1,0,none⟩ (.int .i64 0)).setCell ⟨w.heap.size+1,1,none⟩ (.int .i64 0)=w4 at KR BT hsz HS3 ⊢;have b5:Below w4.heap.size w4 (w4.alloc (.cells #[.slice aV' S.V.length cV',.slice aI' S.I.length cI',.slice aO' S.O.length cO',.slice aR' tl cR',.map none] 82 (0,0))):=(Below.refl _ _).alloc nR _;have KR5:=(b5.block _ (lt_of KR)).trans KR;have r0:=co KR5 0;have r1:=co KR5 1;simp at r0 r1;have HMB:=hide (show ∀ L:List Nat,(∀ q ∈ L,q<w.heap.size)→MeanAt (w3.heap.size :: L) (w4.alloc (.cells #[.slice aV' S.V.length cV',.slice aI' S.I.length cI',.slice aO' S.O.length cO',.slice aR' tl cR',.map none] 82 (0,0))) w3.heap.size (Sk.sortS S) (fun _=>none) from fun L hL=>⟨aV',aI',aO',aR',cV',cI',cO',cR',none,fun _=>none,
   (by have h:=heap_new w4 (.cells #[.slice aV' S.V.length cV',.slice aI' S.I.length cI',.slice aO' S.O.length cO',.slice aR' tl cR',.map none] 82 (0,0));rw [hsz] at h;rw [HTL.out] at h;rw [HTL.out];exact h),
   (HS3.out.wide (ok':=(· ∉ w3.heap.size :: L)) fun i h _=>by simp;exact ⟨h.2.1,fun hm=>by have:=hL i hm;have:=h.2.2;omega⟩).under b5,.inl ⟨rfl,rfl⟩,fun x=>.inl ⟨rfl,rfl⟩,by simp,fun q hq=>by
    rcases List.mem_cons.1 hq with e | e
    ·rw [e];simp [hsz]
    ·have:=hL q e;have:=B3.size;simp [hsz];omega⟩)
  exact bodyPost_ret (v:=.tuple #[.pointer (some ⟨w3.heap.size,0,none⟩),.agg #[.int .i64 0,.int .i64 0]]) (by simp [results,Tryz.results20,go_sem,r0,r1]) rfl (by rw [HPP.out];unfold NewPost;exact .inr ⟨HOK.out.1,HOK.out.2.1,HOK.out.2.2,_,rfl,HMB.out,B3.size,BT.trans (b5.mono BT.size)⟩)
theorem sameLongs_same {ok ok':Nat→Prop} {w:World} {u v:Value} {l:List Int} (hu:HInts ok w u l) (hv:HInts ok' w v l) :
  Calls Tryz.prog 22 #[u,v] w fun e w'=>e=.returned (.bool true)∧Below w.heap.size w w':=by
 obtain ⟨aU,cU,rfl,hu1,hu2,-⟩:=hu.at;obtain ⟨aV,cV,rfl,hv1,hv2,-⟩:=hv.at;unfold maxLen at hu2 hv2;have HU:=hide hu;have HV:=hide hv;obtain ⟨n,hn⟩:=nmQ (l.length);rw [←hn] at hu1 hv1 ⊢;have HN:=hide hn;clear hu hv hn;go_enter Tryz.func22,Tryz.ntmps22;go_wp2_with fail;go_loopg [5] n (fun k v wr=>∃ (i:Nat),i≤n∧k=n-i∧v=.int .i64 (i:Nat)∧Below w.heap.size w wr)
 case atStart=>exact ⟨0,Nat.zero_le _,rfl,rfl,Below.refl _ _⟩
 case round=>
  obtain ⟨i,hi,rfl,rfl,hbr⟩:=hrel;have zr:=hbr.size;by_cases hlt:i<n
  case neg=>
   have hin:i=n:=(by omega);subst hin;go_wp2;go_ret;exact ⟨rfl,hbr⟩
  case pos=>
   have hil:i<l.length:=(by have:=HN.out;omega);obtain ⟨ao,cp,e1,-,-,hat⟩:=(HU.out.under hbr).at;injection e1 with q1 q2 q3;obtain ⟨b1,o1,hb1,y1,x1⟩:=hat i hil;rw [hb1] at q1;subst q1;obtain ⟨ao2,cp2,e2,-,-,hat2⟩:=(HV.out.under hbr).at;injection e2 with z1 z2 z3;obtain ⟨b2,o2,hb2,y2,x2⟩:=hat2 i hil;rw [hb2] at z1;subst z1;generalize l[i]=y at x1 x2;clear hat hat2 q2 q3 z2 z3 hb1 hb2 hil;go_upto_region 6 with fail;refine wp_region_late (fun w'=>Below wr.heap.size wr w') (fun _=>false) (by kernel_rfl) ?_;have hH0:Below wr.heap.size wr wr.drew:=(Below.refl _ _).drew;generalize wr.drew=wd0 at hH0 ⊢;refine' tkR 0 17 hH0 ?o1
   refine' tkR 1 18 hH0 ?o2
   refine' tkR 2 19 hH0 ?o3
   refine' tkQ 3 20 hH0 ?hyv ?o4
   case hyv=>
    intro wz hSw;have zc0:=(hSw.cell (p:=⟨b1,o1+i,none⟩) y1).trans x1;have zc1:=(hSw.cell (p:=⟨b2,o2+i,none⟩) y2).trans x2;go_simp
    try rfl
   try simp only [Act.put,sT,sZ,sS]
   refine' tkR 4 21 hH0 ?o5
   refine' tkR 5 22 hH0 ?o6
   refine' tkR 6 23 hH0 ?o7
   refine' tkQ 7 24 hH0 ?hyv ?o8
   case hyv=>
    intro wz hSw;have zc0:=(hSw.cell (p:=⟨b1,o1+i,none⟩) y1).trans x1;have zc1:=(hSw.cell (p:=⟨b2,o2+i,none⟩) y2).trans x2;go_simp
    try rfl
   try simp only [Act.put,sT,sZ,sS]
   refine' tkR 8 25 hH0 ?o9
   refine wpAnyL_done (by kernel_rfl) ?_ _;clear x1 x2;have BE:=hbr.trans (hH0.mono hbr.size);go_wp2_with fail;go_roundg (n-(i+1))
   case measure=>omega
   case rel=>exact ⟨i+1,by omega,rfl,by go_num,BE⟩
structure RowsR (w:World) (n:Nat) (e:Ending) (w':World):Prop where
 out:∃ b,e=.returned (.bool b)∧(b=false→n≤60)∧Below w.heap.size w w'
theorem rowsGreat_any {ok:Nat→Prop} {w:World} {u:Value} {L:List (List Int)} (hu:HRow kLL ok w u L):Calls Tryz.prog 19 #[u] w (RowsR w L.length):=by
 obtain ⟨aU,cU,rfl,hu1,hu2,-⟩:=hu.llAt;unfold maxLen at hu2;have HU:=hide hu;obtain ⟨n,hn⟩:=nmQ (L.length);rw [←hn] at hu1 ⊢;have HN:=hide hn;clear hu hn;by_cases h60:60<n
 case pos=>
  go_enter Tryz.func19,Tryz.ntmps19;go_wp2;go_ret;exact ⟨⟨true,rfl,fun h=>(by cases h),Below.refl _ _⟩⟩
 case neg=>
  have h61:n≤60:=(by omega);go_enter Tryz.func19,Tryz.ntmps19;go_wp2_with fail;go_loopg [3] n (fun k v wr=>∃ (i:Nat),i≤n∧k=n-i∧v=.int .i64 (i:Nat)∧wr=w)
  case atStart=>exact ⟨0,Nat.zero_le _,rfl,rfl,rfl⟩
  case round=>
   obtain ⟨i,hi,rfl,rfl,rfl⟩:=hrel;by_cases hlt:i<n
   case neg=>
    have hin:i=n:=(by omega);subst hin;go_wp2;go_ret;exact ⟨⟨false,rfl,fun _=>h61,Below.refl _ _⟩⟩
   case pos=>
    have hil:i<L.length:=(by have:=HN.out;omega);obtain ⟨ao,cp,e1,-,-,hat⟩:=HU.out.llAt;injection e1 with q1 q2 q3;obtain ⟨b1,o1,v1,hb1,y1,x1,hi1⟩:=hat i hil;rw [hb1] at q1;subst q1;obtain ⟨a2,c2,rfl,-,hc2,-⟩:=hi1.at;unfold maxLen at hc2;generalize (L[i]).length=m at x1;clear hat q2 q3 hb1 hil hi1;by_cases hm:10000<m
    case pos=>
     go_wp2;go_ret;exact ⟨⟨true,rfl,fun h=>(by cases h),Below.refl _ _⟩⟩
    case neg=>
     go_wp2_with fail;go_roundg (n-(i+1))
     case measure=>omega
     case rel=>exact ⟨i+1,by omega,rfl,by go_num,rfl⟩
theorem cells25_any (n:Int) (w:World):Calls Tryz.prog 25 #[.int .i64 n] w fun e w'=>(∃ x:Int,e=.returned (.int .i64 x))∧w'=w:=by
 by_cases h:n<1
 ·go_enter Tryz.func25,Tryz.ntmps25
  go_wp2;go_ret;exact ⟨⟨_,rfl⟩,rfl⟩
 ·go_enter Tryz.func25,Tryz.ntmps25
  go_wp2;go_ret;exact ⟨⟨_,rfl⟩,rfl⟩
structure GreatR (w:World) (S:Sk.Sys) (e:Ending) (w':World):Prop where
 out:∃ b,e=.returned (.bool b)∧(b=false→∀ r ∈ S.R,r.A.length≤100∧r.E.length≤1000)∧Below w.heap.size w w'
theorem great8_any {ok:Nat→Prop} {w:World} {aV aI aO aR:Option Addr} {cV cI cO cR:Nat} {S:Sk.Sys} (hS:HSys ok w aV aI aO aR cV cI cO cR S) :
  Calls Tryz.prog 8 #[.agg #[.slice aV S.V.length cV,.slice aI S.I.length cI,.slice aO S.O.length cO,.slice aR S.R.length cR],.int .i64 150] w (GreatR w S):=by
 obtain ⟨aoV,cpV,evV,hV1,hV2,-⟩:=hS.V.at;injection evV with q1 q2 q3;subst q1 q3;obtain ⟨aoR,cpR,evR,hR1,hR2,-⟩:=hS.R.at;injection evR with q1 q2b q3;subst q1 q3;obtain ⟨aoI,cpI,evI,hI1,hI2,-⟩:=hS.I.at;injection evI with q1 q2c q3;subst q1 q3;obtain ⟨aoO,cpO,evO,hO1,hO2,-⟩:=hS.O.at;injection evO with q1 q2d q3;subst q1 q3;unfold maxLen at hV2 hR2 hI2 hO2;clear q2 q2b q2c q2d;have b1:Below w.heap.size w (w.alloc (.cells #[.slice aV S.V.length cV,.slice aI S.I.length cI,.slice aO S.O.length cO,.slice aR S.R.length cR] 26 (0,0))):=(Below.refl _ _).alloc nR _;have kS:=heap_new w (.cells #[.slice aV S.V.length cV,.slice aI S.I.length cI,.slice aO S.O.length cO,.slice aR S.R.length cR] 26 (0,0));have HS:=hide (hS.under b1);clear hS;by_cases hV:150<S.V.length
 case pos=>
  go_enter Tryz.func8,Tryz.ntmps8;go_upto_region 1 with fail;generalize w.alloc (.cells #[.slice aV S.V.length cV,.slice aI S.I.length cI,.slice aO S.O.length cO,.slice aR S.R.length cR] 26 (0,0))=w1 at b1 kS HS ⊢;have k0:=co kS 0;have k1:=co kS 1;have k2:=co kS 2;have k3:=co kS 3;simp at k0 k1 k2 k3;go_wp2;go_ret;exact ⟨⟨true,rfl,fun h=>(by cases h),b1⟩⟩
 case neg=>
  by_cases hR:150<S.R.length
  case pos=>
   go_enter Tryz.func8,Tryz.ntmps8;go_upto_region 1 with fail;generalize w.alloc (.cells #[.slice aV S.V.length cV,.slice aI S.I.length cI,.slice aO S.O.length cO,.slice aR S.R.length cR] 26 (0,0))=w1 at b1 kS HS ⊢;have k0:=co kS 0;have k1:=co kS 1;have k2:=co kS 2;have k3:=co kS 3;simp at k0 k1 k2 k3;go_wp2;go_ret;exact ⟨⟨true,rfl,fun h=>(by cases h),b1⟩⟩
  case neg=>
   by_cases hI:150<S.I.length
   case pos=>
    go_enter Tryz.func8,Tryz.ntmps8;go_upto_region 1 with fail;generalize w.alloc (.cells #[.slice aV S.V.length cV,.slice aI S.I.length cI,.slice aO S.O.length cO,.slice aR S.R.length cR] 26 (0,0))=w1 at b1 kS HS ⊢;have k0:=co kS 0;have k1:=co kS 1;have k2:=co kS 2;have k3:=co kS 3;simp at k0 k1 k2 k3;go_wp2;go_ret;exact ⟨⟨true,rfl,fun h=>(by cases h),b1⟩⟩
   case neg=>
    by_cases hO:150<S.O.length
    case pos=>
     go_enter Tryz.func8,Tryz.ntmps8;go_upto_region 1 with fail;generalize w.alloc (.cells #[.slice aV S.V.length cV,.slice aI S.I.length cI,.slice aO S.O.length cO,.slice aR S.R.length cR] 26 (0,0))=w1 at b1 kS HS ⊢;have k0:=co kS 0;have k1:=co kS 1;have k2:=co kS 2;have k3:=co kS 3;simp at k0 k1 k2 k3;go_wp2;go_ret;exact ⟨⟨true,rfl,fun h=>(by cases h),b1⟩⟩
    case neg=>
     go_enter Tryz.func8,Tryz.ntmps8;go_upto_region 1 with fail;generalize w.alloc (.cells #[.slice aV S.V.length cV,.slice aI S.I.length cI,.slice aO S.O.length cO,.slice aR S.R.length cR] 26 (0,0))=w1 at b1 kS HS ⊢;have k0:=co kS 0;have k1:=co kS 1;have k2:=co kS 2;have k3:=co kS 3;simp at k0 k1 k2 k3;have yS:=lt_of kS;go_wp2_with fail;go_loopg [5,6] S.V.length (fun k u v wr=>∃ (i:Nat) (x:Int),i≤S.V.length∧k=S.V.length-i∧u=.int .i64 x∧v=.int .i64 (i:Nat)∧wr=w1)
     case atStart=>exact ⟨0,0,Nat.zero_le _,rfl,rfl,rfl,rfl⟩
     case round=>
      obtain ⟨i,x,hi,rfl,rfl,rfl,rfl⟩:=hrel;by_cases hlt:i<S.V.length
      case pos=>
       obtain ⟨ao,cp,e1,-,-,hat⟩:=HS.out.V.at;injection e1 with q1 q2 q3;obtain ⟨bV,oV,hbV,yV,x0,y0⟩:=hat i hlt;rw [hbV] at q1;subst q1;generalize S.V[i]=va at x0 y0;obtain ⟨ve,vn⟩:=va;simp only at x0 y0;clear hat q2 q3 hbV;by_cases hm:1000<vn
       case pos=>
        go_wp2;go_ret;exact ⟨⟨true,rfl,fun h=>(by cases h),b1⟩⟩
       case neg=>
        go_wp2_with fail;refine (cells25_any _ _).mono ?_;rintro e w2 ⟨⟨cx,rfl⟩,rfl⟩;go_wp2_with fail;go_roundg (S.V.length-(i+1))
        case measure=>omega
        case rel=>exact ⟨i+1,_,by omega,rfl,rfl,by go_num,rfl⟩
      case neg=>
       have hin:i=S.V.length:=(by omega);subst hin;obtain ⟨wL,hwL⟩:=nmQ (wr);subst hwL;have HK:=hide kS;go_wp2_with fail;go_loopg [5,7] S.R.length (fun k u v wr=>∃ (i:Nat) (x:Int),i≤S.R.length∧k=S.R.length-i∧u=.int .i64 x∧v=.int .i64 (i:Nat)∧Hid (∀ r ∈ S.R.take i,r.A.length≤100∧r.E.length≤1000)∧Below wL.heap.size wL wr)
       case atStart=>exact ⟨0,_,Nat.zero_le _,rfl,rfl,rfl,hide (by simp),Below.refl _ _⟩
       case round=>
        clear k0 k1 k2 k3 kS;obtain ⟨i,x,hi,rfl,rfl,rfl,HF,hbr⟩:=hrel;have zr:=hbr.size;have B:=b1.trans (hbr.mono b1.size);have kSr:=(hbr.block _ yS).trans HK.out;have k3:=co kSr 3;simp at k3;by_cases hlt:i<S.R.length
        case neg=>
         have hin:i=S.R.length:=(by omega);subst hin;rw [List.take_length] at HF;go_wp2;go_ret;exact ⟨⟨_,rfl,fun _=>HF.out,B⟩⟩
        case pos=>
         obtain ⟨ao',cap',eqs,-,-,hat2⟩:=(HS.out.under hbr).R.at;injection eqs with q1 q2 q3;obtain ⟨bR,oR,y,hbR,yb,hat,hru⟩:=hat2 i hlt;rw [hbR] at q1;subst q1;obtain ⟨r,hr⟩:=nmQ (S.R[i]);have hsn:S.R.take (i+1)=S.R.take i++[r]:=(by rw [List.take_succ_eq_append_getElem hlt,hr]);rw [←hr] at hat hru;obtain ⟨d0,d1,d2,d3,d4,d5⟩:=hat;have lA:y.nA=r.A.length:=(by obtain ⟨a',c',e',-⟩:=hru.A.at;injection e' with _ e' _);have lE:y.nE=r.E.length:=(by obtain ⟨a',c',e',-⟩:=hru.E.at;injection e' with _ e' _);have cA:y.nA≤9223372036854775807:=(by obtain ⟨a',c',e',h1,h2,-⟩:=hru.A.at;unfold maxLen at h2;injection e' with _ e' _;omega);have cE:y.nE≤9223372036854775807:=(by obtain ⟨a',c',e',h1,h2,-⟩:=hru.E.at;unfold maxLen at h2;injection e' with _ e' _;omega);have HSN:=hide hsn;have HLE:=hide (And.intro lA lE);have bA:Below wr.heap.size wr (wr.alloc (.cells #[.int .i64 r.op,.int .i64 r.k,.int .i64 r.out,.int .i64 r.n,.slice y.aA y.nA y.cA,.slice y.aE y.nE y.cE] 40 (0,0))):=(Below.refl _ _).alloc nR _;have kV:=heap_new wr (.cells #[.int .i64 r.op,.int .i64 r.k,.int .i64 r.out,.int .i64 r.n,.slice y.aA y.nA y.cA,.slice y.aE y.nE y.cE] 40 (0,0));obtain ⟨rop,rk,rout,rn,rA,rE⟩:=r;obtain ⟨yaA,ynA,ycA,yaE,ynE,ycE⟩:=y;simp only at d0 d1 d2 d3 d4 d5 HLE bA kV cA cE;clear hat2 q2 q3 hbR hr hsn hru lA lE;go_upto_region 14 with fail;generalize wr.alloc (.cells #[.int .i64 rop,.int .i64 rk,.int .i64 rout,.int .i64 rn,.slice yaA ynA ycA,.slice yaE ynE ycE] 40 (0,0))=wA at bA kV ⊢;have v0:=co kV 0;have v1:=co kV 1;have v2:=co kV 2;have v3:=co kV 3;have v4:=co kV 4;have v5:=co kV 5;simp at v0 v1 v2 v3 v4 v5;have BA:=hbr.trans (bA.mono zr);have BB:=b1.trans (BA.mono b1.size);clear d0 d1 d2 d3 d4 d5 kV k3;by_cases hA:100<ynA
         case pos=>
          go_wp2;go_ret;exact ⟨⟨true,rfl,fun h=>(by cases h),BB⟩⟩
         case neg=>
          by_cases hE:1000<ynE
          case pos=>
           go_wp2;go_ret;exact ⟨⟨true,rfl,fun h=>(by cases h),BB⟩⟩
          case neg=>
           have HF2:=hide (show ∀ r ∈ S.R.take (i+1),r.A.length≤100∧r.E.length≤1000 from fun r hr=>by
            rw [HSN.out] at hr;rcases List.mem_append.1 hr with q | q
            ·exact HF.out r q
            ·simp at q
             subst q;have:=HLE.out;simp only;omega)
           cases h15:(rop==15)
           case false=>
            go_wp2_with fail;go_roundg (S.R.length-(i+1))
            case measure=>omega
            case rel=>exact ⟨i+1,_,by omega,rfl,rfl,by go_num,HF2,BA⟩
           case true=>
            by_cases hN:1000<rn
            case pos=>
             go_wp2;go_ret;exact ⟨⟨true,rfl,fun h=>(by cases h),BB⟩⟩
            case neg=>
             go_wp2_with fail;go_roundg (S.R.length-(i+1))
             case measure=>omega
             case rel=>exact ⟨i+1,_,by omega,rfl,rfl,by go_num,HF2,BA⟩
end Go.Proofs.YtnhmcpnbaajjcaaGreatDoor
