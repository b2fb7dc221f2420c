import Derived.Test.YtophfbefnaelfaaGreatDoorM41
set_option linter.unusedVariables false
set_option linter.unusedSimpArgs false
set_option maxHeartbeats 64000000
set_option maxRecDepth 100000
namespace Go.Proofs.YtophfbefnaelfaaGreatDoor
open Go.RowKit Go.IntWalk
theorem exprText_pair {op k n:Int} {name:ByteArray} {S:List (List Tm)} {L:List Ex} (hE:okE (.mk op k n name S L)) (hD:∀ x ∈ L,XtDoes x) (hop:op=5) (hsne:(Tx.opT k.toNat).2.1.size≠0):XtDoes (.mk op k n name S L):=by
 have HOP:=hide hop;clear hop;intro ok w x must hx htab hm0 hm8 hX;obtain ⟨ex1,ex2,ex3,ex4,hSx,hLx⟩:=hx.parts;obtain ⟨op',k',n',name',aS,nS,cS,aL,nL,cL⟩:=x
 dsimp only [Ex.op,Ex.k,Ex.n,Ex.name,Ex.S,Ex.L] at ex1 ex2 ex3 ex4 hSx hLx ⊢
 obtain rfl:=ex1.symm;obtain rfl:=ex2.symm;obtain rfl:=ex3.symm;obtain rfl:=ex4.symm;clear ex1 ex2 ex3 ex4;rw [okE] at hE;obtain ⟨hF,⟨hn0,hn1⟩,hname,hZ,_⟩:=hE;have hbi:=fun V=>binds_any op k n name aS aL nS cS nL cL V (un_k hF) (bin_k hF);have hun:=un_k hF;have hbin:=bin_k hF;obtain ⟨⟨ho1,ho15⟩,hl1,hl2,hs1,hk1,hk2,hnum⟩:=formOk_parts hF;clear hx;obtain ⟨R,hR⟩:=nmQ (Tx.cat (Tx.partP (.mk op k n name S L) must));rw [←hR];obtain ⟨X,hXe⟩:=nmQ (Tx.cat (Tx.bare (.mk op k n name S L)));have hXs:Tx.fitX (Tx.bare (.mk op k n name S L)):=by
  unfold Tx.partP Tx.partQ at hX
  split at hX
  ·exact hX
  ·exact hX.right.left
 have hrk:Tx.rank (.mk op k n name S L)=Tx.rankE op k:=rfl;have HR:Hid (R=if must≤Tx.rankE op k then X else ⟨#[40]⟩++X++⟨#[41]⟩):=hide (by
  rw [hR,hXe];unfold Tx.partP Tx.partQ;rw [hrk]
  split
  ·rfl
  ·simp only [Tx.cat_append,Tx.cat,ByteArray.append_empty,ByteArray.append_assoc])
 have hRs:R.size≤1000000000000000000:=(by rw [hR];exact hX);have HXE:=hide hXe;have HXS:=hide hXs;have hXsz:X.size≤1000000000000000000:=(by rw [hXe];exact hXs);clear hX hR hXe hXs hF hrk;have bA:Below w.heap.size w (w.alloc (.cells #[.int .i64 op,.int .i64 k,.int .i64 n,.string name,.slice aS nS cS,.slice aL nL cL] 88 (0,0))):=(Below.refl _ _).alloc nR _;obtain ⟨r,hr⟩:=nmQ (Tx.rankE op k);simp only [←hr] at HR hbi;have HRK:=hide hr;clear hr;go_enter Tryz.func54,Tryz.ntmps54;go_wp2_with fail;refine (hbi _).mono ?_;rintro e w1 ⟨rfl,b1⟩;have B1:=bA.trans (b1.mono bA.size);have kL:=(b1.block w.heap.size (by simp)).trans (heap_new w (.cells #[.int .i64 op,.int .i64 k,.int .i64 n,.string name,.slice aS nS cS,.slice aL nL cL] 88 (0,0)));clear hbi;go_upto_block 0 with fail;have bB:Below w1.heap.size w1 (((w1.alloc (.cells #[.string ⟨#[]⟩,.string ⟨#[97,100,100]⟩,.string ⟨#[115,117,98]⟩,.string ⟨#[109,117,108]⟩,.string ⟨#[100,105,118]⟩,.string ⟨#[109,111,100]⟩,.string ⟨#[109,105,110]⟩,.string ⟨#[109,97,120]⟩,.string ⟨#[108,101,115,115]⟩,.string ⟨#[101,113]⟩,.string ⟨#[97,110,100]⟩,.string ⟨#[111,114]⟩,.string ⟨#[120,111,114]⟩,.string ⟨#[110,101,103]⟩,.string ⟨#[110,111,116]⟩] 9 (0,0))).alloc (.cells #[.string ⟨#[]⟩,.string ⟨#[43]⟩,.string ⟨#[45]⟩,.string ⟨#[42]⟩,.string ⟨#[47]⟩,.string ⟨#[37]⟩,.string ⟨#[]⟩,.string ⟨#[]⟩,.string ⟨#[60]⟩,.string ⟨#[61,61]⟩,.string ⟨#[97,110,100]⟩,.string ⟨#[111,114]⟩,.string ⟨#[120,111,114]⟩] 9 (0,0))).alloc (.cells #[.string ⟨#[]⟩,.string ⟨#[]⟩,.string ⟨#[]⟩,.string ⟨#[]⟩,.string ⟨#[]⟩,.string ⟨#[]⟩,.string ⟨#[]⟩,.string ⟨#[109,97,112]⟩,.string ⟨#[102,111,108,100]⟩,.string ⟨#[115,99,97,110]⟩,.string ⟨#[102,105,108,108]⟩,.string ⟨#[]⟩,.string ⟨#[119,105,116,104]⟩,.string ⟨#[115,108,105,99,101]⟩,.string ⟨#[99,97,116]⟩,.string ⟨#[112,114,101]⟩] 9 (0,0))):=(((Below.refl _ _).alloc nR _).alloc (by simp) _).alloc (by simp;omega) _;have B4:=B1.trans (bB.mono B1.size);have kL4:=(bB.block _ (lt_of kL)).trans kL;have kO:(((w1.alloc (.cells #[.string ⟨#[]⟩,.string ⟨#[97,100,100]⟩,.string ⟨#[115,117,98]⟩,.string ⟨#[109,117,108]⟩,.string ⟨#[100,105,118]⟩,.string ⟨#[109,111,100]⟩,.string ⟨#[109,105,110]⟩,.string ⟨#[109,97,120]⟩,.string ⟨#[108,101,115,115]⟩,.string ⟨#[101,113]⟩,.string ⟨#[97,110,100]⟩,.string ⟨#[111,114]⟩,.string ⟨#[120,111,114]⟩,.string ⟨#[110,101,103]⟩,.string ⟨#[110,111,116]⟩] 9 (0,0))).alloc (.cells #[.string ⟨#[]⟩,.string ⟨#[43]⟩,.string ⟨#[45]⟩,.string ⟨#[42]⟩,.string ⟨#[47]⟩,.string ⟨#[37]⟩,.string ⟨#[]⟩,.string ⟨#[]⟩,.string ⟨#[60]⟩,.string ⟨#[61,61]⟩,.string ⟨#[97,110,100]⟩,.string ⟨#[111,114]⟩,.string ⟨#[120,111,114]⟩] 9 (0,0))).alloc (.cells #[.string ⟨#[]⟩,.string ⟨#[]⟩,.string ⟨#[]⟩,.string ⟨#[]⟩,.string ⟨#[]⟩,.string ⟨#[]⟩,.string ⟨#[]⟩,.string ⟨#[109,97,112]⟩,.string ⟨#[102,111,108,100]⟩,.string ⟨#[115,99,97,110]⟩,.string ⟨#[102,105,108,108]⟩,.string ⟨#[]⟩,.string ⟨#[119,105,116,104]⟩,.string ⟨#[115,108,105,99,101]⟩,.string ⟨#[99,97,116]⟩,.string ⟨#[112,114,101]⟩] 9 (0,0))).heap[w1.heap.size]?=some (.cells #[.string ⟨#[]⟩,.string ⟨#[97,100,100]⟩,.string ⟨#[115,117,98]⟩,.string ⟨#[109,117,108]⟩,.string ⟨#[100,105,118]⟩,.string ⟨#[109,111,100]⟩,.string ⟨#[109,105,110]⟩,.string ⟨#[109,97,120]⟩,.string ⟨#[108,101,115,115]⟩,.string ⟨#[101,113]⟩,.string ⟨#[97,110,100]⟩,.string ⟨#[111,114]⟩,.string ⟨#[120,111,114]⟩,.string ⟨#[110,101,103]⟩,.string ⟨#[110,111,116]⟩] 9 (0,0)):=((Below.heap_alloc _ _ _ (by simp;omega)).trans (Below.heap_alloc _ _ _ (by simp))).trans (heap_new w1 _);have kS:(((w1.alloc (.cells #[.string ⟨#[]⟩,.string ⟨#[97,100,100]⟩,.string ⟨#[115,117,98]⟩,.string ⟨#[109,117,108]⟩,.string ⟨#[100,105,118]⟩,.string ⟨#[109,111,100]⟩,.string ⟨#[109,105,110]⟩,.string ⟨#[109,97,120]⟩,.string ⟨#[108,101,115,115]⟩,.string ⟨#[101,113]⟩,.string ⟨#[97,110,100]⟩,.string ⟨#[111,114]⟩,.string ⟨#[120,111,114]⟩,.string ⟨#[110,101,103]⟩,.string ⟨#[110,111,116]⟩] 9 (0,0))).alloc (.cells #[.string ⟨#[]⟩,.string ⟨#[43]⟩,.string ⟨#[45]⟩,.string ⟨#[42]⟩,.string ⟨#[47]⟩,.string ⟨#[37]⟩,.string ⟨#[]⟩,.string ⟨#[]⟩,.string ⟨#[60]⟩,.string ⟨#[61,61]⟩,.string ⟨#[97,110,100]⟩,.string ⟨#[111,114]⟩,.string ⟨#[120,111,114]⟩] 9 (0,0))).alloc (.cells #[.string ⟨#[]⟩,.string ⟨#[]⟩,.string ⟨#[]⟩,.string ⟨#[]⟩,.string ⟨#[]⟩,.string ⟨#[]⟩,.string ⟨#[]⟩,.string ⟨#[109,97,112]⟩,.string ⟨#[102,111,108,100]⟩,.string ⟨#[115,99,97,110]⟩,.string ⟨#[102,105,108,108]⟩,.string ⟨#[]⟩,.string ⟨#[119,105,116,104]⟩,.string ⟨#[115,108,105,99,101]⟩,.string ⟨#[99,97,116]⟩,.string ⟨#[112,114,101]⟩] 9 (0,0))).heap[w1.heap.size+1]?=some (.cells #[.string ⟨#[]⟩,.string ⟨#[43]⟩,.string ⟨#[45]⟩,.string ⟨#[42]⟩,.string ⟨#[47]⟩,.string ⟨#[37]⟩,.string ⟨#[]⟩,.string ⟨#[]⟩,.string ⟨#[60]⟩,.string ⟨#[61,61]⟩,.string ⟨#[97,110,100]⟩,.string ⟨#[111,114]⟩,.string ⟨#[120,111,114]⟩] 9 (0,0)):=(Below.heap_alloc _ _ _ (by simp)).trans (by have:=heap_new (w1.alloc (.cells #[.string ⟨#[]⟩,.string ⟨#[97,100,100]⟩,.string ⟨#[115,117,98]⟩,.string ⟨#[109,117,108]⟩,.string ⟨#[100,105,118]⟩,.string ⟨#[109,111,100]⟩,.string ⟨#[109,105,110]⟩,.string ⟨#[109,97,120]⟩,.string ⟨#[108,101,115,115]⟩,.string ⟨#[101,113]⟩,.string ⟨#[97,110,100]⟩,.string ⟨#[111,114]⟩,.string ⟨#[120,111,114]⟩,.string ⟨#[110,101,103]⟩,.string ⟨#[110,111,116]⟩] 9 (0,0))) (.cells #[.string ⟨#[]⟩,.string ⟨#[43]⟩,.string ⟨#[45]⟩,.string ⟨#[42]⟩,.string ⟨#[47]⟩,.string ⟨#[37]⟩,.string ⟨#[]⟩,.string ⟨#[]⟩,.string ⟨#[60]⟩,.string ⟨#[61,61]⟩,.string ⟨#[97,110,100]⟩,.string ⟨#[111,114]⟩,.string ⟨#[120,111,114]⟩] 9 (0,0));simpa using this);have kW:(((w1.alloc (.cells #[.string ⟨#[]⟩,.string ⟨#[97,100,100]⟩,.string ⟨#[115,117,98]⟩,.string ⟨#[109,117,108]⟩,.string ⟨#[100,105,118]⟩,.string ⟨#[109,111,100]⟩,.string ⟨#[109,105,110]⟩,.string ⟨#[109,97,120]⟩,.string ⟨#[108,101,115,115]⟩,.string ⟨#[101,113]⟩,.string ⟨#[97,110,100]⟩,.string ⟨#[111,114]⟩,.string ⟨#[120,111,114]⟩,.string ⟨#[110,101,103]⟩,.string ⟨#[110,111,116]⟩] 9 (0,0))).alloc (.cells #[.string ⟨#[]⟩,.string ⟨#[43]⟩,.string ⟨#[45]⟩,.string ⟨#[42]⟩,.string ⟨#[47]⟩,.string ⟨#[37]⟩,.string ⟨#[]⟩,.string ⟨#[]⟩,.string ⟨#[60]⟩,.string ⟨#[61,61]⟩,.string ⟨#[97,110,100]⟩,.string ⟨#[111,114]⟩,.string ⟨#[120,111,114]⟩] 9 (0,0))).alloc (.cells #[.string ⟨#[]⟩,.string ⟨#[]⟩,.string ⟨#[]⟩,.string ⟨#[]⟩,.string ⟨#[]⟩,.string ⟨#[]⟩,.string ⟨#[]⟩,.string ⟨#[109,97,112]⟩,.string ⟨#[102,111,108,100]⟩,.string ⟨#[115,99,97,110]⟩,.string ⟨#[102,105,108,108]⟩,.string ⟨#[]⟩,.string ⟨#[119,105,116,104]⟩,.string ⟨#[115,108,105,99,101]⟩,.string ⟨#[99,97,116]⟩,.string ⟨#[112,114,101]⟩] 9 (0,0))).heap[w1.heap.size+1+1]?=some (.cells #[.string ⟨#[]⟩,.string ⟨#[]⟩,.string ⟨#[]⟩,.string ⟨#[]⟩,.string ⟨#[]⟩,.string ⟨#[]⟩,.string ⟨#[]⟩,.string ⟨#[109,97,112]⟩,.string ⟨#[102,111,108,100]⟩,.string ⟨#[115,99,97,110]⟩,.string ⟨#[102,105,108,108]⟩,.string ⟨#[]⟩,.string ⟨#[119,105,116,104]⟩,.string ⟨#[115,108,105,99,101]⟩,.string ⟨#[99,97,116]⟩,.string ⟨#[112,114,101]⟩] 9 (0,0)):=(by have:=heap_new ((w1.alloc (.cells #[.string ⟨#[]⟩,.string ⟨#[97,100,100]⟩,.string ⟨#[115,117,98]⟩,.string ⟨#[109,117,108]⟩,.string ⟨#[100,105,118]⟩,.string ⟨#[109,111,100]⟩,.string ⟨#[109,105,110]⟩,.string ⟨#[109,97,120]⟩,.string ⟨#[108,101,115,115]⟩,.string ⟨#[101,113]⟩,.string ⟨#[97,110,100]⟩,.string ⟨#[111,114]⟩,.string ⟨#[120,111,114]⟩,.string ⟨#[110,101,103]⟩,.string ⟨#[110,111,116]⟩] 9 (0,0))).alloc (.cells #[.string ⟨#[]⟩,.string ⟨#[43]⟩,.string ⟨#[45]⟩,.string ⟨#[42]⟩,.string ⟨#[47]⟩,.string ⟨#[37]⟩,.string ⟨#[]⟩,.string ⟨#[]⟩,.string ⟨#[60]⟩,.string ⟨#[61,61]⟩,.string ⟨#[97,110,100]⟩,.string ⟨#[111,114]⟩,.string ⟨#[120,111,114]⟩] 9 (0,0))) (.cells #[.string ⟨#[]⟩,.string ⟨#[]⟩,.string ⟨#[]⟩,.string ⟨#[]⟩,.string ⟨#[]⟩,.string ⟨#[]⟩,.string ⟨#[]⟩,.string ⟨#[109,97,112]⟩,.string ⟨#[102,111,108,100]⟩,.string ⟨#[115,99,97,110]⟩,.string ⟨#[102,105,108,108]⟩,.string ⟨#[]⟩,.string ⟨#[119,105,116,104]⟩,.string ⟨#[115,108,105,99,101]⟩,.string ⟨#[99,97,116]⟩,.string ⟨#[112,114,101]⟩] 9 (0,0));simpa using this);generalize (((w1.alloc (.cells #[.string ⟨#[]⟩,.string ⟨#[97,100,100]⟩,.string ⟨#[115,117,98]⟩,.string ⟨#[109,117,108]⟩,.string ⟨#[100,105,118]⟩,.string ⟨#[109,111,100]⟩,.string ⟨#[109,105,110]⟩,.string ⟨#[109,97,120]⟩,.string ⟨#[108,101,115,115]⟩,.string ⟨#[101,113]⟩,.string ⟨#[97,110,100]⟩,.string ⟨#[111,114]⟩,.string ⟨#[120,111,114]⟩,.string ⟨#[110,101,103]⟩,.string ⟨#[110,111,116]⟩] 9 (0,0))).alloc (.cells #[.string ⟨#[]⟩,.string ⟨#[43]⟩,.string ⟨#[45]⟩,.string ⟨#[42]⟩,.string ⟨#[47]⟩,.string ⟨#[37]⟩,.string ⟨#[]⟩,.string ⟨#[]⟩,.string ⟨#[60]⟩,.string ⟨#[61,61]⟩,.string ⟨#[97,110,100]⟩,.string ⟨#[111,114]⟩,.string ⟨#[120,111,114]⟩] 9 (0,0))).alloc (.cells #[.string ⟨#[]⟩,.string ⟨#[]⟩,.string ⟨#[]⟩,.string ⟨#[]⟩,.string ⟨#[]⟩,.string ⟨#[]⟩,.string ⟨#[]⟩,.string ⟨#[109,97,112]⟩,.string ⟨#[102,111,108,100]⟩,.string ⟨#[115,99,97,110]⟩,.string ⟨#[102,105,108,108]⟩,.string ⟨#[]⟩,.string ⟨#[119,105,116,104]⟩,.string ⟨#[115,108,105,99,101]⟩,.string ⟨#[99,97,116]⟩,.string ⟨#[112,114,101]⟩] 9 (0,0)))=W at B4 kL4 kO kS kW bB ⊢;have htW:=htab.under B4;clear bB kL;go_cut [9] (fun v9 wc=>v9=.string X∧Below w.heap.size w wc)
 case rest=>
  obtain ⟨rfl,BC⟩:=hcut;by_cases hle:must≤r
  ·have hRR:=HR.out
   rw [if_pos hle] at hRR;have hlI:¬r<must:=(by omega);clear HR HXE HXS HRK;have HE:=hide hRR;clear hRR;go_wp2;go_ret;exact ⟨by rw [HE.out];rfl,BC⟩
  ·have hRR:=HR.out
   rw [if_neg hle] at hRR;have hlI:r<must:=(by omega);have hR2:1+X.size+1≤1000000000000000000:=by
    have:=hRs;rw [hRR] at this;simp only [ByteArray.size_append,sz_lit1] at this;exact this
   have HE:=hide hRR;clear HR HXE HXS hRR HRK;go_wp2;go_ret;exact ⟨by rw [HE.out];rfl,BC⟩
 case first=>
  have q0:=co kL4 0;have q1:=co kL4 1;have q2:=co kL4 2;have q3:=co kL4 3;have q4:=co kL4 4;have q5:=co kL4 5;simp at q0 q1 q2 q3 q4 q5;clear HR hRs;have hX0:=HXE.out;rw [Tx.bare] at hX0;unfold Tx.bareOf at hX0;have HX0:=hide hX0;clear hX0 HXE;have hop:=HOP.out;clear HOP;have hsh:(Rn.shp op.toNat).2.1=2∧(Rn.shp op.toNat).2.2.1=2:=(by subst hop;decide);obtain ⟨e0,e1,rfl⟩:=len2 (l:=L) (by omega);have hkk:=hbin hop;obtain ⟨q,rfl⟩:∃ q:Nat,k=(q:Int):=⟨k.toNat,by omega⟩;rw [Int.toNat_natCast] at hsne;have hq13:q<13:=(by omega);have hq13I:(q:Int)<13:=(by omega);have hrr:r=(Tx.opT q).2.2:=(by rw [HRK.out,Tx.rankE,if_pos (.inr hop),Int.toNat_natCast]);have hsg:=sgn_eq q hq13 hsne;have hro:=opT_ok q (by omega);have hXb:X=Tx.cat (Tx.partP e0 (if r=3 then 4 else r)++([(Tx.opT q).2.1]++Tx.partP e1 (r+1))):=by
   rw [HX0.out,if_neg (by omega),if_neg (by omega),if_neg (by omega),if_neg (by omega),if_pos hop];unfold Tx.pairP;rw [Int.toNat_natCast,if_neg hsne,←hrr];rfl
  have hfx0:Tx.fitX (Tx.partP e0 (if r=3 then 4 else r)++([(Tx.opT q).2.1]++Tx.partP e1 (r+1))):=(by unfold Tx.fitX;rw [←hXb];exact hXsz);have hr7:r<7:=by
   have hall:∀ q,q<13→(Tx.opT q).2.1.size≠0→(Tx.opT q).2.2<7:=(by decide);rw [hrr];exact hall q hq13 hsne
  have hr0:0≤r:=(by rw [hrr];exact hro.2.2.1);have hD0:=hD e0 (by simp);have hD1:=hD e1 (by simp);obtain ⟨hnL,hcc1,hcc2,bL,oL,hao,hget⟩:=hLx.getB (by simp);subst hao;simp at hnL;subst hnL;unfold maxLen at hcc2;obtain ⟨y0,hx0,hy0⟩:=hget 0 (by simp);simp only [List.getElem_cons_zero,List.getElem_cons_succ] at hx0;have hp0:=fun (V:World) (b:Below w.heap.size w V) (must:Int) (h0:0≤must) (h8:must≤8) (hX:Tx.fitX (Tx.partP e0 must))=>hD0 ok V y0 must (hx0.under b) (htab.under b) h0 h8 hX;obtain ⟨o0,k0_,n0_,s0_,aS0,nS0,cS0,aL0,nL0,cL0⟩:=y0
  dsimp only at hp0 hy0
  obtain ⟨y1,hx1,hy1⟩:=hget 1 (by simp);simp only [List.getElem_cons_zero,List.getElem_cons_succ] at hx1;have hp1:=fun (V:World) (b:Below w.heap.size w V) (must:Int) (h0:0≤must) (h8:must≤8) (hX:Tx.fitX (Tx.partP e1 must))=>hD1 ok V y1 must (hx1.under b) (htab.under b) h0 h8 hX;obtain ⟨o1,k1_,n1_,s1_,aS1,nS1,cS1,aL1,nL1,cL1⟩:=y1
  dsimp only at hp1 hy1
  clear hget hLx hD;have hcs:∀ V:World,V.heap[w1.heap.size+1]?=some (.cells #[.string ⟨#[]⟩,.string ⟨#[43]⟩,.string ⟨#[45]⟩,.string ⟨#[42]⟩,.string ⟨#[47]⟩,.string ⟨#[37]⟩,.string ⟨#[]⟩,.string ⟨#[]⟩,.string ⟨#[60]⟩,.string ⟨#[61,61]⟩,.string ⟨#[97,110,100]⟩,.string ⟨#[111,114]⟩,.string ⟨#[120,111,114]⟩] 9 (0,0))→V.cell? ⟨w1.heap.size+1,q,none⟩=some (.string (sgn q)):=fun V hk=>by rw [co hk];exact sgnRow q hq13
  have f1:Tx.fitX (Tx.partP e1 (r+1)):=hfx0.right.right;clear HX0 HXS HRK hun hbin hl1 hl2 hs1 hk1 hk2 ho1 ho15 hsh hrr hro hsne;by_cases h3:r=3
  ·have f0:Tx.fitX (Tx.partP e0 4):=by have:=hfx0.left;rw [if_pos h3] at this;exact this
   subst hop;have hc0:=fun V b=>hp0 V b 4 (by omega) (by omega) f0;have hc1:=fun V b=>hp1 V b (r+1) (by omega) (by omega) f1;have hXX:X=Tx.cat (Tx.partP e0 4)++⟨#[32]⟩++sgn q++⟨#[32]⟩++Tx.cat (Tx.partP e1 (r+1)):=by
    rw [hXb,if_pos h3,Tx.cat_append,Tx.cat_append,Tx.cat_one,hsg];simp only [ByteArray.append_assoc]
   generalize Tx.cat (Tx.partP e0 4)=T0 at hXX hc0;generalize Tx.cat (Tx.partP e1 (r+1))=T1 at hXX hc1;have hs2:T0.size+1+(sgn q).size+1+T1.size≤1000000000000000000:=(by have:=hXsz;rw [hXX] at this;simp only [ByteArray.size_append,sz_lit1] at this;exact this);have HE:=hide hXX;clear hXX hXsz hXb hfx0 hsg f0 f1;generalize sgn q=sg at HE hs2 hcs;have h3b:(r==3)=true:=(by simp [h3]);have H3:=hide h3;clear h3;go_upto_region 42 with fail;refine wp_region_late (fun w'=>w'.cell? ⟨w.heap.size,5,none⟩=some (.slice (some ⟨bL,oL,none⟩) 2 cL)∧ExAt w' bL (oL) ⟨o0,k0_,n0_,s0_,aS0,nS0,cS0,aL0,nL0,cL0⟩∧ExAt w' bL (oL+6) ⟨o1,k1_,n1_,s1_,aS1,nS1,cS1,aL1,nL1,cL1⟩∧w'.cell? ⟨w.heap.size,1,none⟩=some (.int .i64 (q:Int))∧w'.cell? ⟨w1.heap.size+1,q,none⟩=some (.string sg)) (fun _=>false) (by kernel_rfl) ?_;have Bd:=B4.trans ((Below.refl _ W).drew.mono B4.size);have hS:∀ V,Below w.heap.size w V→V.heap[w.heap.size]?=some (.cells #[.int .i64 5,.int .i64 (q:Int),.int .i64 n,.string name,.slice aS nS cS,.slice (some ⟨bL,oL,none⟩) 2 cL] 88 (0,0))→V.heap[w1.heap.size+1]?=some (.cells #[.string ⟨#[]⟩,.string ⟨#[43]⟩,.string ⟨#[45]⟩,.string ⟨#[42]⟩,.string ⟨#[47]⟩,.string ⟨#[37]⟩,.string ⟨#[]⟩,.string ⟨#[]⟩,.string ⟨#[60]⟩,.string ⟨#[61,61]⟩,.string ⟨#[97,110,100]⟩,.string ⟨#[111,114]⟩,.string ⟨#[120,111,114]⟩] 9 (0,0))→(fun w'=>w'.cell? ⟨w.heap.size,5,none⟩=some (.slice (some ⟨bL,oL,none⟩) 2 cL)∧ExAt w' bL (oL) ⟨o0,k0_,n0_,s0_,aS0,nS0,cS0,aL0,nL0,cL0⟩∧ExAt w' bL (oL+6) ⟨o1,k1_,n1_,s1_,aS1,nS1,cS1,aL1,nL1,cL1⟩∧w'.cell? ⟨w.heap.size,1,none⟩=some (.int .i64 (q:Int))∧w'.cell? ⟨w1.heap.size+1,q,none⟩=some (.string sg)) V:=fun V hb hk hk2=>⟨by have:=co hk 5;simpa using this,by have:=hy0 V hb;simpa using this,by have:=hy1 V hb;simpa using this,by have:=co hk 1;simpa using this,hcs V hk2⟩;have hH:=hS W.drew Bd kL4 kS;have kLd:W.drew.heap[w.heap.size]?=some (.cells #[.int .i64 5,.int .i64 (q:Int),.int .i64 n,.string name,.slice aS nS cS,.slice (some ⟨bL,oL,none⟩) 2 cL] 88 (0,0)):=kL4;have kXd:W.drew.heap[w1.heap.size+1]?=some (.cells #[.string ⟨#[]⟩,.string ⟨#[43]⟩,.string ⟨#[45]⟩,.string ⟨#[42]⟩,.string ⟨#[47]⟩,.string ⟨#[37]⟩,.string ⟨#[]⟩,.string ⟨#[]⟩,.string ⟨#[60]⟩,.string ⟨#[61,61]⟩,.string ⟨#[97,110,100]⟩,.string ⟨#[111,114]⟩,.string ⟨#[120,111,114]⟩] 9 (0,0)):=kS;simp only [] at hH;generalize W.drew=wd at Bd hH kLd kXd ⊢;refine' wpAnyL_take (i:=0) (v:=_) rfl (by kernel_rfl) (by kernel_rfl) (by kernel_rfl) (by kernel_rfl) (fun _ _ _ h=>h) hH (by rfl) ?hyv ?o1
   case hyv=>
    intro wz hSw;obtain ⟨cc,⟨a0,a1,a2,a3,a4,a5⟩,⟨b0,b1,b2,b3,b4,b5⟩,ck,cs⟩:=hSw;go_simp
    try rfl
   try simp only [Act.put,sT,sZ,sS]
   refine' wpAnyL_take (i:=1) (v:=_) rfl (by kernel_rfl) (by kernel_rfl) (by kernel_rfl) (by kernel_rfl) (fun _ _ _ h=>h) hH (by rfl) ?hyv ?o2
   case hyv=>
    intro wz hSw;obtain ⟨cc,⟨a0,a1,a2,a3,a4,a5⟩,⟨b0,b1,b2,b3,b4,b5⟩,ck,cs⟩:=hSw;go_simp
    try rfl
   try simp only [Act.put,sT,sZ,sS]
   refine' wpAnyL_take (i:=2) (v:=_) rfl (by kernel_rfl) (by kernel_rfl) (by kernel_rfl) (by kernel_rfl) (fun _ _ _ h=>h) hH (by rfl) ?hyv ?o3
   case hyv=>
    intro wz hSw;obtain ⟨cc,⟨a0,a1,a2,a3,a4,a5⟩,⟨b0,b1,b2,b3,b4,b5⟩,ck,cs⟩:=hSw;go_simp
    try rfl
   try simp only [Act.put,sT,sZ,sS]
   refine' wpAnyL_take (i:=3) (v:=_) rfl (by kernel_rfl) (by kernel_rfl) (by kernel_rfl) (by kernel_rfl) (fun _ _ _ h=>h) hH (by rfl) ?hyv ?o4
   case hyv=>
    intro wz hSw;obtain ⟨cc,⟨a0,a1,a2,a3,a4,a5⟩,⟨b0,b1,b2,b3,b4,b5⟩,ck,cs⟩:=hSw;go_simp
    try rfl
   try simp only [Act.put,sT,sZ,sS]
   refine' wpAnyL_take (i:=4) (v:=_) rfl (by kernel_rfl) (by kernel_rfl) (by kernel_rfl) (by kernel_rfl) (fun _ _ _ h=>h) hH (by rfl) ?hyv ?o5
   case hyv=>
    intro wz hSw;obtain ⟨cc,⟨a0,a1,a2,a3,a4,a5⟩,⟨b0,b1,b2,b3,b4,b5⟩,ck,cs⟩:=hSw;go_simp
    try rfl
   try simp only [Act.put,sT,sZ,sS]
   refine' wpAnyL_take (i:=7) (v:=_) rfl (by kernel_rfl) (by kernel_rfl) (by kernel_rfl) (by kernel_rfl) (fun _ _ _ h=>h) hH (by rfl) ?hyv ?o6
   case hyv=>
    intro wz hSw;obtain ⟨cc,⟨a0,a1,a2,a3,a4,a5⟩,⟨b0,b1,b2,b3,b4,b5⟩,ck,cs⟩:=hSw;go_simp
    try rfl
   try simp only [Act.put,sT,sZ,sS]
   refine' wpAnyL_take (i:=8) (v:=_) rfl (by kernel_rfl) (by kernel_rfl) (by kernel_rfl) (by kernel_rfl) (fun _ _ _ h=>h) hH (by rfl) ?hyv ?o7
   case hyv=>
    intro wz hSw;obtain ⟨cc,⟨a0,a1,a2,a3,a4,a5⟩,⟨b0,b1,b2,b3,b4,b5⟩,ck,cs⟩:=hSw;go_simp
    try rfl
   try simp only [Act.put,sT,sZ,sS]
   refine' wpAnyL_take (i:=9) (v:=_) rfl (by kernel_rfl) (by kernel_rfl) (by kernel_rfl) (by kernel_rfl) (fun _ _ _ h=>h) hH (by rfl) ?hyv ?o8
   case hyv=>
    intro wz hSw;obtain ⟨cc,⟨a0,a1,a2,a3,a4,a5⟩,⟨b0,b1,b2,b3,b4,b5⟩,ck,cs⟩:=hSw;go_simp
    try rfl
   try simp only [Act.put,sT,sZ,sS]
   refine' wpAnyL_take (i:=10) (v:=_) rfl (by kernel_rfl) (by kernel_rfl) (by kernel_rfl) (by kernel_rfl) (fun _ _ _ h=>h) hH (by rfl) ?hyv ?o9
   case hyv=>
    intro wz hSw;obtain ⟨cc,⟨a0,a1,a2,a3,a4,a5⟩,⟨b0,b1,b2,b3,b4,b5⟩,ck,cs⟩:=hSw;go_simp
    try rfl
   try simp only [Act.put,sT,sZ,sS]
   refine' wpAnyL_take (i:=11) (v:=_) rfl (by kernel_rfl) (by kernel_rfl) (by kernel_rfl) (by kernel_rfl) (fun _ _ _ h=>h) hH (by rfl) ?hyv ?o10
   case hyv=>
    intro wz hSw;obtain ⟨cc,⟨a0,a1,a2,a3,a4,a5⟩,⟨b0,b1,b2,b3,b4,b5⟩,ck,cs⟩:=hSw;go_simp
    try rfl
   try simp only [Act.put,sT,sZ,sS]
   refine' wpAnyL_take (i:=14) (v:=_) rfl (by kernel_rfl) (by kernel_rfl) (by kernel_rfl) (by kernel_rfl) (fun _ _ _ h=>h) hH (by rfl) ?hyv ?o11
   case hyv=>
    intro wz hSw;obtain ⟨cc,⟨a0,a1,a2,a3,a4,a5⟩,⟨b0,b1,b2,b3,b4,b5⟩,ck,cs⟩:=hSw;go_simp
    try rfl
   try simp only [Act.put,sT,sZ,sS]
   refine' wpAnyL_take (i:=15) (v:=_) rfl (by kernel_rfl) (by kernel_rfl) (by kernel_rfl) (by kernel_rfl) (fun _ _ _ h=>h) hH (by rfl) ?hyv ?o12
   case hyv=>
    intro wz hSw;obtain ⟨cc,⟨a0,a1,a2,a3,a4,a5⟩,⟨b0,b1,b2,b3,b4,b5⟩,ck,cs⟩:=hSw;go_simp
    try rfl
   try simp only [Act.put,sT,sZ,sS]
   refine' wpAnyL_take (i:=16) (v:=_) rfl (by kernel_rfl) (by kernel_rfl) (by kernel_rfl) (by kernel_rfl) (fun _ _ _ h=>h) hH (by rfl) ?hyv ?o13
   case hyv=>
    intro wz hSw;obtain ⟨cc,⟨a0,a1,a2,a3,a4,a5⟩,⟨b0,b1,b2,b3,b4,b5⟩,ck,cs⟩:=hSw;go_simp
    try rfl
   try simp only [Act.put,sT,sZ,sS]
   refine' wpAnyL_take (i:=17) (v:=_) rfl (by kernel_rfl) (by kernel_rfl) (by kernel_rfl) (by kernel_rfl) (fun _ _ _ h=>h) hH (by rfl) ?hyv ?o14
   case hyv=>
    intro wz hSw;obtain ⟨cc,⟨a0,a1,a2,a3,a4,a5⟩,⟨b0,b1,b2,b3,b4,b5⟩,ck,cs⟩:=hSw;go_simp
    try rfl
   try simp only [Act.put,sT,sZ,sS]
   refine' wpAnyL_take (i:=18) (v:=_) rfl (by kernel_rfl) (by kernel_rfl) (by kernel_rfl) (by kernel_rfl) (fun _ _ _ h=>h) hH (by rfl) ?hyv ?o15
   case hyv=>
    intro wz hSw;obtain ⟨cc,⟨a0,a1,a2,a3,a4,a5⟩,⟨b0,b1,b2,b3,b4,b5⟩,ck,cs⟩:=hSw;go_simp
    try rfl
   try simp only [Act.put,sT,sZ,sS]
   refine' wpAnyL_take (i:=19) (v:=_) rfl (by kernel_rfl) (by kernel_rfl) (by kernel_rfl) (by kernel_rfl) (fun _ _ _ h=>h) hH (by rfl) ?hyv ?o16
   case hyv=>
    intro wz hSw;obtain ⟨cc,⟨a0,a1,a2,a3,a4,a5⟩,⟨b0,b1,b2,b3,b4,b5⟩,ck,cs⟩:=hSw;go_simp
    try rfl
   try simp only [Act.put,sT,sZ,sS]
   refine wpAnyL_one (i:=5) rfl (by kernel_rfl) (by rfl) (fun K hK=>?_);go_simp;refine (hc0 wd Bd).mono ?_;rintro e v1 ⟨rfl,bv1⟩;have Bv1:=Bd.trans (bv1.mono Bd.size);have kv1:=(bv1.block _ (lt_of kLd)).trans kLd;have kx1:=(bv1.block _ (lt_of kXd)).trans kXd;have hH1:=hS v1 Bv1 kv1 kx1;refine hK.out _ _ (fun _=>hH1) ?_;clear hK K
   try simp only [Act.put,sT,sZ,sS]
   refine' wpAnyL_take (i:=6) (v:=_) rfl (by kernel_rfl) (by kernel_rfl) (by kernel_rfl) (by kernel_rfl) (fun _ _ _ h=>h) hH1 (by rfl) ?hyv ?o17
   case hyv=>
    intro wz hSw;obtain ⟨cc,⟨a0,a1,a2,a3,a4,a5⟩,⟨b0,b1,b2,b3,b4,b5⟩,ck,cs⟩:=hSw;go_simp;rw [if_neg (by omega)]
    try rfl
   try simp only [Act.put,sT,sZ,sS]
   refine' wpAnyL_take (i:=12) (v:=_) rfl (by kernel_rfl) (by kernel_rfl) (by kernel_rfl) (by kernel_rfl) (fun _ _ _ h=>h) hH1 (by rfl) ?hyv ?o18
   case hyv=>
    intro wz hSw;obtain ⟨cc,⟨a0,a1,a2,a3,a4,a5⟩,⟨b0,b1,b2,b3,b4,b5⟩,ck,cs⟩:=hSw;go_simp;rw [if_neg (by omega)]
    try rfl
   try simp only [Act.put,sT,sZ,sS]
   refine' wpAnyL_take (i:=13) (v:=_) rfl (by kernel_rfl) (by kernel_rfl) (by kernel_rfl) (by kernel_rfl) (fun _ _ _ h=>h) hH1 (by rfl) ?hyv ?o19
   case hyv=>
    intro wz hSw;obtain ⟨cc,⟨a0,a1,a2,a3,a4,a5⟩,⟨b0,b1,b2,b3,b4,b5⟩,ck,cs⟩:=hSw;go_simp;rw [if_neg (by omega)]
    try rfl
   try simp only [Act.put,sT,sZ,sS]
   refine wpAnyL_one (i:=20) rfl (by kernel_rfl) (by rfl) (fun K hK=>?_);go_simp;rw [show IntKind.i64.wrap (r+1)=r+1 from i64_in _ (by omega)];refine (hc1 v1 Bv1).mono ?_;rintro e v2 ⟨rfl,bv2⟩;have Bv2:=Bv1.trans (bv2.mono Bv1.size);have kv2:=(bv2.block _ (lt_of kv1)).trans kv1;have kx2:=(bv2.block _ (lt_of kx1)).trans kx1;have hH2:=hS v2 Bv2 kv2 kx2;refine hK.out _ _ (fun _=>hH2) ?_;clear hK K
   try simp only [Act.put,sT,sZ,sS]
   refine' wpAnyL_take (i:=21) (v:=_) rfl (by kernel_rfl) (by kernel_rfl) (by kernel_rfl) (by kernel_rfl) (fun _ _ _ h=>h) hH2 (by rfl) ?hyv ?o20
   case hyv=>
    intro wz hSw;obtain ⟨cc,⟨a0,a1,a2,a3,a4,a5⟩,⟨b0,b1,b2,b3,b4,b5⟩,ck,cs⟩:=hSw;go_simp;rw [if_neg (by omega)]
    try rfl
   try simp only [Act.put,sT,sZ,sS]
   refine' wpAnyL_take (i:=22) (v:=_) rfl (by kernel_rfl) (by kernel_rfl) (by kernel_rfl) (by kernel_rfl) (fun _ _ _ h=>h) hH2 (by rfl) ?hyv ?o21
   case hyv=>
    intro wz hSw;obtain ⟨cc,⟨a0,a1,a2,a3,a4,a5⟩,⟨b0,b1,b2,b3,b4,b5⟩,ck,cs⟩:=hSw;go_simp
    try rfl
   try simp only [Act.put,sT,sZ,sS]
   refine wpAnyL_done (by kernel_rfl) ?_ _;go_wp2_with fail;go_meet
   case rel=>exact ⟨by rw [HE.out],Bv2⟩
  ·have f0:Tx.fitX (Tx.partP e0 r):=by have:=hfx0.left;rw [if_neg h3] at this;exact this
   subst hop;have hc0:=fun V b=>hp0 V b r (by omega) (by omega) f0;have hc1:=fun V b=>hp1 V b (r+1) (by omega) (by omega) f1;have hXX:X=Tx.cat (Tx.partP e0 r)++⟨#[32]⟩++sgn q++⟨#[32]⟩++Tx.cat (Tx.partP e1 (r+1)):=by
    rw [hXb,if_neg h3,Tx.cat_append,Tx.cat_append,Tx.cat_one,hsg];simp only [ByteArray.append_assoc]
   generalize Tx.cat (Tx.partP e0 r)=T0 at hXX hc0;generalize Tx.cat (Tx.partP e1 (r+1))=T1 at hXX hc1;have hs2:T0.size+1+(sgn q).size+1+T1.size≤1000000000000000000:=(by have:=hXsz;rw [hXX] at this;simp only [ByteArray.size_append,sz_lit1] at this;exact this);have HE:=hide hXX;clear hXX hXsz hXb hfx0 hsg f0 f1;generalize sgn q=sg at HE hs2 hcs;have h3b:(r==3)=false:=(by simp [h3]);have H3:=hide h3;clear h3;go_upto_region 42 with fail;refine wp_region_late (fun w'=>w'.cell? ⟨w.heap.size,5,none⟩=some (.slice (some ⟨bL,oL,none⟩) 2 cL)∧ExAt w' bL (oL) ⟨o0,k0_,n0_,s0_,aS0,nS0,cS0,aL0,nL0,cL0⟩∧ExAt w' bL (oL+6) ⟨o1,k1_,n1_,s1_,aS1,nS1,cS1,aL1,nL1,cL1⟩∧w'.cell? ⟨w.heap.size,1,none⟩=some (.int .i64 (q:Int))∧w'.cell? ⟨w1.heap.size+1,q,none⟩=some (.string sg)) (fun _=>false) (by kernel_rfl) ?_;have Bd:=B4.trans ((Below.refl _ W).drew.mono B4.size);have hS:∀ V,Below w.heap.size w V→V.heap[w.heap.size]?=some (.cells #[.int .i64 5,.int .i64 (q:Int),.int .i64 n,.string name,.slice aS nS cS,.slice (some ⟨bL,oL,none⟩) 2 cL] 88 (0,0))→V.heap[w1.heap.size+1]?=some (.cells #[.string ⟨#[]⟩,.string ⟨#[43]⟩,.string ⟨#[45]⟩,.string ⟨#[42]⟩,.string ⟨#[47]⟩,.string ⟨#[37]⟩,.string ⟨#[]⟩,.string ⟨#[]⟩,.string ⟨#[60]⟩,.string ⟨#[61,61]⟩,.string ⟨#[97,110,100]⟩,.string ⟨#[111,114]⟩,.string ⟨#[120,111,114]⟩] 9 (0,0))→(fun w'=>w'.cell? ⟨w.heap.size,5,none⟩=some (.slice (some ⟨bL,oL,none⟩) 2 cL)∧ExAt w' bL (oL) ⟨o0,k0_,n0_,s0_,aS0,nS0,cS0,aL0,nL0,cL0⟩∧ExAt w' bL (oL+6) ⟨o1,k1_,n1_,s1_,aS1,nS1,cS1,aL1,nL1,cL1⟩∧w'.cell? ⟨w.heap.size,1,none⟩=some (.int .i64 (q:Int))∧w'.cell? ⟨w1.heap.size+1,q,none⟩=some (.string sg)) V:=fun V hb hk hk2=>⟨by have:=co hk 5;simpa using this,by have:=hy0 V hb;simpa using this,by have:=hy1 V hb;simpa using this,by have:=co hk 1;simpa using this,hcs V hk2⟩;have hH:=hS W.drew Bd kL4 kS;have kLd:W.drew.heap[w.heap.size]?=some (.cells #[.int .i64 5,.int .i64 (q:Int),.int .i64 n,.string name,.slice aS nS cS,.slice (some ⟨bL,oL,none⟩) 2 cL] 88 (0,0)):=kL4;have kXd:W.drew.heap[w1.heap.size+1]?=some (.cells #[.string ⟨#[]⟩,.string ⟨#[43]⟩,.string ⟨#[45]⟩,.string ⟨#[42]⟩,.string ⟨#[47]⟩,.string ⟨#[37]⟩,.string ⟨#[]⟩,.string ⟨#[]⟩,.string ⟨#[60]⟩,.string ⟨#[61,61]⟩,.string ⟨#[97,110,100]⟩,.string ⟨#[111,114]⟩,.string ⟨#[120,111,114]⟩] 9 (0,0)):=kS;simp only [] at hH;generalize W.drew=wd at Bd hH kLd kXd ⊢;refine' wpAnyL_take (i:=0) (v:=_) rfl (by kernel_rfl) (by kernel_rfl) (by kernel_rfl) (by kernel_rfl) (fun _ _ _ h=>h) hH (by rfl) ?hyv ?o22
   case hyv=>
    intro wz hSw;obtain ⟨cc,⟨a0,a1,a2,a3,a4,a5⟩,⟨b0,b1,b2,b3,b4,b5⟩,ck,cs⟩:=hSw;go_simp
    try rfl
   try simp only [Act.put,sT,sZ,sS]
   refine' wpAnyL_take (i:=1) (v:=_) rfl (by kernel_rfl) (by kernel_rfl) (by kernel_rfl) (by kernel_rfl) (fun _ _ _ h=>h) hH (by rfl) ?hyv ?o23
   case hyv=>
    intro wz hSw;obtain ⟨cc,⟨a0,a1,a2,a3,a4,a5⟩,⟨b0,b1,b2,b3,b4,b5⟩,ck,cs⟩:=hSw;go_simp
    try rfl
   try simp only [Act.put,sT,sZ,sS]
   refine' wpAnyL_take (i:=2) (v:=_) rfl (by kernel_rfl) (by kernel_rfl) (by kernel_rfl) (by kernel_rfl) (fun _ _ _ h=>h) hH (by rfl) ?hyv ?o24
   case hyv=>
    intro wz hSw;obtain ⟨cc,⟨a0,a1,a2,a3,a4,a5⟩,⟨b0,b1,b2,b3,b4,b5⟩,ck,cs⟩:=hSw;go_simp
    try rfl
   try simp only [Act.put,sT,sZ,sS]
   refine' wpAnyL_take (i:=3) (v:=_) rfl (by kernel_rfl) (by kernel_rfl) (by kernel_rfl) (by kernel_rfl) (fun _ _ _ h=>h) hH (by rfl) ?hyv ?o25
   case hyv=>
    intro wz hSw;obtain ⟨cc,⟨a0,a1,a2,a3,a4,a5⟩,⟨b0,b1,b2,b3,b4,b5⟩,ck,cs⟩:=hSw;go_simp
    try rfl
   try simp only [Act.put,sT,sZ,sS]
   refine' wpAnyL_take (i:=4) (v:=_) rfl (by kernel_rfl) (by kernel_rfl) (by kernel_rfl) (by kernel_rfl) (fun _ _ _ h=>h) hH (by rfl) ?hyv ?o26
   case hyv=>
    intro wz hSw;obtain ⟨cc,⟨a0,a1,a2,a3,a4,a5⟩,⟨b0,b1,b2,b3,b4,b5⟩,ck,cs⟩:=hSw;go_simp
    try rfl
   try simp only [Act.put,sT,sZ,sS]
   refine' wpAnyL_take (i:=7) (v:=_) rfl (by kernel_rfl) (by kernel_rfl) (by kernel_rfl) (by kernel_rfl) (fun _ _ _ h=>h) hH (by rfl) ?hyv ?o27
   case hyv=>
    intro wz hSw;obtain ⟨cc,⟨a0,a1,a2,a3,a4,a5⟩,⟨b0,b1,b2,b3,b4,b5⟩,ck,cs⟩:=hSw;go_simp
    try rfl
   try simp only [Act.put,sT,sZ,sS]
   refine' wpAnyL_take (i:=8) (v:=_) rfl (by kernel_rfl) (by kernel_rfl) (by kernel_rfl) (by kernel_rfl) (fun _ _ _ h=>h) hH (by rfl) ?hyv ?o28
   case hyv=>
    intro wz hSw;obtain ⟨cc,⟨a0,a1,a2,a3,a4,a5⟩,⟨b0,b1,b2,b3,b4,b5⟩,ck,cs⟩:=hSw;go_simp
    try rfl
   try simp only [Act.put,sT,sZ,sS]
   refine' wpAnyL_take (i:=9) (v:=_) rfl (by kernel_rfl) (by kernel_rfl) (by kernel_rfl) (by kernel_rfl) (fun _ _ _ h=>h) hH (by rfl) ?hyv ?o29
   case hyv=>
    intro wz hSw;obtain ⟨cc,⟨a0,a1,a2,a3,a4,a5⟩,⟨b0,b1,b2,b3,b4,b5⟩,ck,cs⟩:=hSw;go_simp
    try rfl
   try simp only [Act.put,sT,sZ,sS]
   refine' wpAnyL_take (i:=10) (v:=_) rfl (by kernel_rfl) (by kernel_rfl) (by kernel_rfl) (by kernel_rfl) (fun _ _ _ h=>h) hH (by rfl) ?hyv ?o30
   case hyv=>
    intro wz hSw;obtain ⟨cc,⟨a0,a1,a2,a3,a4,a5⟩,⟨b0,b1,b2,b3,b4,b5⟩,ck,cs⟩:=hSw;go_simp
    try rfl
   try simp only [Act.put,sT,sZ,sS]
   refine' wpAnyL_take (i:=11) (v:=_) rfl (by kernel_rfl) (by kernel_rfl) (by kernel_rfl) (by kernel_rfl) (fun _ _ _ h=>h) hH (by rfl) ?hyv ?o31
   case hyv=>
    intro wz hSw;obtain ⟨cc,⟨a0,a1,a2,a3,a4,a5⟩,⟨b0,b1,b2,b3,b4,b5⟩,ck,cs⟩:=hSw;go_simp
    try rfl
   try simp only [Act.put,sT,sZ,sS]
   refine' wpAnyL_take (i:=14) (v:=_) rfl (by kernel_rfl) (by kernel_rfl) (by kernel_rfl) (by kernel_rfl) (fun _ _ _ h=>h) hH (by rfl) ?hyv ?o32
   case hyv=>
    intro wz hSw;obtain ⟨cc,⟨a0,a1,a2,a3,a4,a5⟩,⟨b0,b1,b2,b3,b4,b5⟩,ck,cs⟩:=hSw;go_simp
    try rfl
   try simp only [Act.put,sT,sZ,sS]
   refine' wpAnyL_take (i:=15) (v:=_) rfl (by kernel_rfl) (by kernel_rfl) (by kernel_rfl) (by kernel_rfl) (fun _ _ _ h=>h) hH (by rfl) ?hyv ?o33
   case hyv=>
    intro wz hSw;obtain ⟨cc,⟨a0,a1,a2,a3,a4,a5⟩,⟨b0,b1,b2,b3,b4,b5⟩,ck,cs⟩:=hSw;go_simp
    try rfl
   try simp only [Act.put,sT,sZ,sS]
   refine' wpAnyL_take (i:=16) (v:=_) rfl (by kernel_rfl) (by kernel_rfl) (by kernel_rfl) (by kernel_rfl) (fun _ _ _ h=>h) hH (by rfl) ?hyv ?o34
   case hyv=>
    intro wz hSw;obtain ⟨cc,⟨a0,a1,a2,a3,a4,a5⟩,⟨b0,b1,b2,b3,b4,b5⟩,ck,cs⟩:=hSw;go_simp
    try rfl
   try simp only [Act.put,sT,sZ,sS]
   refine' wpAnyL_take (i:=17) (v:=_) rfl (by kernel_rfl) (by kernel_rfl) (by kernel_rfl) (by kernel_rfl) (fun _ _ _ h=>h) hH (by rfl) ?hyv ?o35
   case hyv=>
    intro wz hSw;obtain ⟨cc,⟨a0,a1,a2,a3,a4,a5⟩,⟨b0,b1,b2,b3,b4,b5⟩,ck,cs⟩:=hSw;go_simp
    try rfl
   try simp only [Act.put,sT,sZ,sS]
   refine' wpAnyL_take (i:=18) (v:=_) rfl (by kernel_rfl) (by kernel_rfl) (by kernel_rfl) (by kernel_rfl) (fun _ _ _ h=>h) hH (by rfl) ?hyv ?o36
   case hyv=>
    intro wz hSw;obtain ⟨cc,⟨a0,a1,a2,a3,a4,a5⟩,⟨b0,b1,b2,b3,b4,b5⟩,ck,cs⟩:=hSw;go_simp
    try rfl
   try simp only [Act.put,sT,sZ,sS]
   refine' wpAnyL_take (i:=19) (v:=_) rfl (by kernel_rfl) (by kernel_rfl) (by kernel_rfl) (by kernel_rfl) (fun _ _ _ h=>h) hH (by rfl) ?hyv ?o37
   case hyv=>
    intro wz hSw;obtain ⟨cc,⟨a0,a1,a2,a3,a4,a5⟩,⟨b0,b1,b2,b3,b4,b5⟩,ck,cs⟩:=hSw;go_simp
    try rfl
   try simp only [Act.put,sT,sZ,sS]
   refine wpAnyL_one (i:=5) rfl (by kernel_rfl) (by rfl) (fun K hK=>?_);go_simp;refine (hc0 wd Bd).mono ?_;rintro e v1 ⟨rfl,bv1⟩;have Bv1:=Bd.trans (bv1.mono Bd.size);have kv1:=(bv1.block _ (lt_of kLd)).trans kLd;have kx1:=(bv1.block _ (lt_of kXd)).trans kXd;have hH1:=hS v1 Bv1 kv1 kx1;refine hK.out _ _ (fun _=>hH1) ?_;clear hK K
   try simp only [Act.put,sT,sZ,sS]
   refine' wpAnyL_take (i:=6) (v:=_) rfl (by kernel_rfl) (by kernel_rfl) (by kernel_rfl) (by kernel_rfl) (fun _ _ _ h=>h) hH1 (by rfl) ?hyv ?o38
   case hyv=>
    intro wz hSw;obtain ⟨cc,⟨a0,a1,a2,a3,a4,a5⟩,⟨b0,b1,b2,b3,b4,b5⟩,ck,cs⟩:=hSw;go_simp;rw [if_neg (by omega)]
    try rfl
   try simp only [Act.put,sT,sZ,sS]
   refine' wpAnyL_take (i:=12) (v:=_) rfl (by kernel_rfl) (by kernel_rfl) (by kernel_rfl) (by kernel_rfl) (fun _ _ _ h=>h) hH1 (by rfl) ?hyv ?o39
   case hyv=>
    intro wz hSw;obtain ⟨cc,⟨a0,a1,a2,a3,a4,a5⟩,⟨b0,b1,b2,b3,b4,b5⟩,ck,cs⟩:=hSw;go_simp;rw [if_neg (by omega)]
    try rfl
   try simp only [Act.put,sT,sZ,sS]
   refine' wpAnyL_take (i:=13) (v:=_) rfl (by kernel_rfl) (by kernel_rfl) (by kernel_rfl) (by kernel_rfl) (fun _ _ _ h=>h) hH1 (by rfl) ?hyv ?o40
   case hyv=>
    intro wz hSw;obtain ⟨cc,⟨a0,a1,a2,a3,a4,a5⟩,⟨b0,b1,b2,b3,b4,b5⟩,ck,cs⟩:=hSw;go_simp;rw [if_neg (by omega)]
    try rfl
   try simp only [Act.put,sT,sZ,sS]
   refine wpAnyL_one (i:=20) rfl (by kernel_rfl) (by rfl) (fun K hK=>?_);go_simp;rw [show IntKind.i64.wrap (r+1)=r+1 from i64_in _ (by omega)];refine (hc1 v1 Bv1).mono ?_;rintro e v2 ⟨rfl,bv2⟩;have Bv2:=Bv1.trans (bv2.mono Bv1.size);have kv2:=(bv2.block _ (lt_of kv1)).trans kv1;have kx2:=(bv2.block _ (lt_of kx1)).trans kx1;have hH2:=hS v2 Bv2 kv2 kx2;refine hK.out _ _ (fun _=>hH2) ?_;clear hK K
   try simp only [Act.put,sT,sZ,sS]
   refine' wpAnyL_take (i:=21) (v:=_) rfl (by kernel_rfl) (by kernel_rfl) (by kernel_rfl) (by kernel_rfl) (fun _ _ _ h=>h) hH2 (by rfl) ?hyv ?o41
   case hyv=>
    intro wz hSw;obtain ⟨cc,⟨a0,a1,a2,a3,a4,a5⟩,⟨b0,b1,b2,b3,b4,b5⟩,ck,cs⟩:=hSw;go_simp;rw [if_neg (by omega)]
    try rfl
   try simp only [Act.put,sT,sZ,sS]
   refine' wpAnyL_take (i:=22) (v:=_) rfl (by kernel_rfl) (by kernel_rfl) (by kernel_rfl) (by kernel_rfl) (fun _ _ _ h=>h) hH2 (by rfl) ?hyv ?o42
   case hyv=>
    intro wz hSw;obtain ⟨cc,⟨a0,a1,a2,a3,a4,a5⟩,⟨b0,b1,b2,b3,b4,b5⟩,ck,cs⟩:=hSw;go_simp
    try rfl
   try simp only [Act.put,sT,sZ,sS]
   refine wpAnyL_done (by kernel_rfl) ?_ _;go_wp2_with fail;go_meet
   case rel=>exact ⟨by rw [HE.out],Bv2⟩
end Go.Proofs.YtophfbefnaelfaaGreatDoor
