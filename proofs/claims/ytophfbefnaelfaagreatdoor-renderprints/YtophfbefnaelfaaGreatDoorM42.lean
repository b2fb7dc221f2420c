import Derived.Test.YtophfbefnaelfaaGreatDoorM41
set_option linter.unusedVariables false
set_option linter.unusedSimpArgs false
set_option maxHeartbeats 64000000
set_option maxRecDepth 100000
namespace Go.Proofs.YtophfbefnaelfaaGreatDoor
open Go.RowKit Go.IntWalk
theorem exprText_if {op k n:Int} {name:ByteArray} {S:List (List Tm)} {L:List Ex} (hE:okE (.mk op k n name S L)) (hD:∀ x ∈ L,XtDoes x) (hop:op=6):XtDoes (.mk op k n name S L):=by
 have HOP:=hide hop;clear hop;intro ok w x must hx htab hm0 hm8 hX;obtain ⟨ex1,ex2,ex3,ex4,hSx,hLx⟩:=hx.parts;obtain ⟨op',k',n',name',aS,nS,cS,aL,nL,cL⟩:=x
 dsimp only [Ex.op,Ex.k,Ex.n,Ex.name,Ex.S,Ex.L] at ex1 ex2 ex3 ex4 hSx hLx ⊢
 obtain rfl:=ex1.symm;obtain rfl:=ex2.symm;obtain rfl:=ex3.symm;obtain rfl:=ex4.symm;clear ex1 ex2 ex3 ex4;rw [okE] at hE;obtain ⟨hF,⟨hn0,hn1⟩,hname,hZ,_⟩:=hE;have hbi:=fun V=>binds_any op k n name aS aL nS cS nL cL V (un_k hF) (bin_k hF);have hun:=un_k hF;have hbin:=bin_k hF;obtain ⟨⟨ho1,ho15⟩,hl1,hl2,hs1,hk1,hk2,hnum⟩:=formOk_parts hF;clear hx;obtain ⟨R,hR⟩:=nmQ (Tx.cat (Tx.partP (.mk op k n name S L) must));rw [←hR];obtain ⟨X,hXe⟩:=nmQ (Tx.cat (Tx.bare (.mk op k n name S L)));have hXs:Tx.fitX (Tx.bare (.mk op k n name S L)):=by
  unfold Tx.partP Tx.partQ at hX
  split at hX
  ·exact hX
  ·exact hX.right.left
 have hrk:Tx.rank (.mk op k n name S L)=Tx.rankE op k:=rfl;have HR:Hid (R=if must≤Tx.rankE op k then X else ⟨#[40]⟩++X++⟨#[41]⟩):=hide (by
  rw [hR,hXe];unfold Tx.partP Tx.partQ;rw [hrk]
  split
  ·rfl
  ·simp only [Tx.cat_append,Tx.cat,ByteArray.append_empty,ByteArray.append_assoc])
 have hRs:R.size≤1000000000000000000:=(by rw [hR];exact hX);have HXE:=hide hXe;have HXS:=hide hXs;have hXsz:X.size≤1000000000000000000:=(by rw [hXe];exact hXs);clear hX hR hXe hXs hF hrk;have bA:Below w.heap.size w (w.alloc (.cells #[.int .i64 op,.int .i64 k,.int .i64 n,.string name,.slice aS nS cS,.slice aL nL cL] 88 (0,0))):=(Below.refl _ _).alloc nR _;obtain ⟨r,hr⟩:=nmQ (Tx.rankE op k);simp only [←hr] at HR hbi;have HRK:=hide hr;clear hr;go_enter Tryz.func54,Tryz.ntmps54;go_wp2_with fail;refine (hbi _).mono ?_;rintro e w1 ⟨rfl,b1⟩;have B1:=bA.trans (b1.mono bA.size);have kL:=(b1.block w.heap.size (by simp)).trans (heap_new w (.cells #[.int .i64 op,.int .i64 k,.int .i64 n,.string name,.slice aS nS cS,.slice aL nL cL] 88 (0,0)));clear hbi;go_upto_block 0 with fail;have bB:Below w1.heap.size w1 (((w1.alloc (.cells #[.string ⟨#[]⟩,.string ⟨#[97,100,100]⟩,.string ⟨#[115,117,98]⟩,.string ⟨#[109,117,108]⟩,.string ⟨#[100,105,118]⟩,.string ⟨#[109,111,100]⟩,.string ⟨#[109,105,110]⟩,.string ⟨#[109,97,120]⟩,.string ⟨#[108,101,115,115]⟩,.string ⟨#[101,113]⟩,.string ⟨#[97,110,100]⟩,.string ⟨#[111,114]⟩,.string ⟨#[120,111,114]⟩,.string ⟨#[110,101,103]⟩,.string ⟨#[110,111,116]⟩] 9 (0,0))).alloc (.cells #[.string ⟨#[]⟩,.string ⟨#[43]⟩,.string ⟨#[45]⟩,.string ⟨#[42]⟩,.string ⟨#[47]⟩,.string ⟨#[37]⟩,.string ⟨#[]⟩,.string ⟨#[]⟩,.string ⟨#[60]⟩,.string ⟨#[61,61]⟩,.string ⟨#[97,110,100]⟩,.string ⟨#[111,114]⟩,.string ⟨#[120,111,114]⟩] 9 (0,0))).alloc (.cells #[.string ⟨#[]⟩,.string ⟨#[]⟩,.string ⟨#[]⟩,.string ⟨#[]⟩,.string ⟨#[]⟩,.string ⟨#[]⟩,.string ⟨#[]⟩,.string ⟨#[109,97,112]⟩,.string ⟨#[102,111,108,100]⟩,.string ⟨#[115,99,97,110]⟩,.string ⟨#[102,105,108,108]⟩,.string ⟨#[]⟩,.string ⟨#[119,105,116,104]⟩,.string ⟨#[115,108,105,99,101]⟩,.string ⟨#[99,97,116]⟩,.string ⟨#[112,114,101]⟩] 9 (0,0))):=(((Below.refl _ _).alloc nR _).alloc (by simp) _).alloc (by simp;omega) _;have B4:=B1.trans (bB.mono B1.size);have kL4:=(bB.block _ (lt_of kL)).trans kL;have kO:(((w1.alloc (.cells #[.string ⟨#[]⟩,.string ⟨#[97,100,100]⟩,.string ⟨#[115,117,98]⟩,.string ⟨#[109,117,108]⟩,.string ⟨#[100,105,118]⟩,.string ⟨#[109,111,100]⟩,.string ⟨#[109,105,110]⟩,.string ⟨#[109,97,120]⟩,.string ⟨#[108,101,115,115]⟩,.string ⟨#[101,113]⟩,.string ⟨#[97,110,100]⟩,.string ⟨#[111,114]⟩,.string ⟨#[120,111,114]⟩,.string ⟨#[110,101,103]⟩,.string ⟨#[110,111,116]⟩] 9 (0,0))).alloc (.cells #[.string ⟨#[]⟩,.string ⟨#[43]⟩,.string ⟨#[45]⟩,.string ⟨#[42]⟩,.string ⟨#[47]⟩,.string ⟨#[37]⟩,.string ⟨#[]⟩,.string ⟨#[]⟩,.string ⟨#[60]⟩,.string ⟨#[61,61]⟩,.string ⟨#[97,110,100]⟩,.string ⟨#[111,114]⟩,.string ⟨#[120,111,114]⟩] 9 (0,0))).alloc (.cells #[.string ⟨#[]⟩,.string ⟨#[]⟩,.string ⟨#[]⟩,.string ⟨#[]⟩,.string ⟨#[]⟩,.string ⟨#[]⟩,.string ⟨#[]⟩,.string ⟨#[109,97,112]⟩,.string ⟨#[102,111,108,100]⟩,.string ⟨#[115,99,97,110]⟩,.string ⟨#[102,105,108,108]⟩,.string ⟨#[]⟩,.string ⟨#[119,105,116,104]⟩,.string ⟨#[115,108,105,99,101]⟩,.string ⟨#[99,97,116]⟩,.string ⟨#[112,114,101]⟩] 9 (0,0))).heap[w1.heap.size]?=some (.cells #[.string ⟨#[]⟩,.string ⟨#[97,100,100]⟩,.string ⟨#[115,117,98]⟩,.string ⟨#[109,117,108]⟩,.string ⟨#[100,105,118]⟩,.string ⟨#[109,111,100]⟩,.string ⟨#[109,105,110]⟩,.string ⟨#[109,97,120]⟩,.string ⟨#[108,101,115,115]⟩,.string ⟨#[101,113]⟩,.string ⟨#[97,110,100]⟩,.string ⟨#[111,114]⟩,.string ⟨#[120,111,114]⟩,.string ⟨#[110,101,103]⟩,.string ⟨#[110,111,116]⟩] 9 (0,0)):=((Below.heap_alloc _ _ _ (by simp;omega)).trans (Below.heap_alloc _ _ _ (by simp))).trans (heap_new w1 _);have kS:(((w1.alloc (.cells #[.string ⟨#[]⟩,.string ⟨#[97,100,100]⟩,.string ⟨#[115,117,98]⟩,.string ⟨#[109,117,108]⟩,.string ⟨#[100,105,118]⟩,.string ⟨#[109,111,100]⟩,.string ⟨#[109,105,110]⟩,.string ⟨#[109,97,120]⟩,.string ⟨#[108,101,115,115]⟩,.string ⟨#[101,113]⟩,.string ⟨#[97,110,100]⟩,.string ⟨#[111,114]⟩,.string ⟨#[120,111,114]⟩,.string ⟨#[110,101,103]⟩,.string ⟨#[110,111,116]⟩] 9 (0,0))).alloc (.cells #[.string ⟨#[]⟩,.string ⟨#[43]⟩,.string ⟨#[45]⟩,.string ⟨#[42]⟩,.string ⟨#[47]⟩,.string ⟨#[37]⟩,.string ⟨#[]⟩,.string ⟨#[]⟩,.string ⟨#[60]⟩,.string ⟨#[61,61]⟩,.string ⟨#[97,110,100]⟩,.string ⟨#[111,114]⟩,.string ⟨#[120,111,114]⟩] 9 (0,0))).alloc (.cells #[.string ⟨#[]⟩,.string ⟨#[]⟩,.string ⟨#[]⟩,.string ⟨#[]⟩,.string ⟨#[]⟩,.string ⟨#[]⟩,.string ⟨#[]⟩,.string ⟨#[109,97,112]⟩,.string ⟨#[102,111,108,100]⟩,.string ⟨#[115,99,97,110]⟩,.string ⟨#[102,105,108,108]⟩,.string ⟨#[]⟩,.string ⟨#[119,105,116,104]⟩,.string ⟨#[115,108,105,99,101]⟩,.string ⟨#[99,97,116]⟩,.string ⟨#[112,114,101]⟩] 9 (0,0))).heap[w1.heap.size+1]?=some (.cells #[.string ⟨#[]⟩,.string ⟨#[43]⟩,.string ⟨#[45]⟩,.string ⟨#[42]⟩,.string ⟨#[47]⟩,.string ⟨#[37]⟩,.string ⟨#[]⟩,.string ⟨#[]⟩,.string ⟨#[60]⟩,.string ⟨#[61,61]⟩,.string ⟨#[97,110,100]⟩,.string ⟨#[111,114]⟩,.string ⟨#[120,111,114]⟩] 9 (0,0)):=(Below.heap_alloc _ _ _ (by simp)).trans (by have:=heap_new (w1.alloc (.cells #[.string ⟨#[]⟩,.string ⟨#[97,100,100]⟩,.string ⟨#[115,117,98]⟩,.string ⟨#[109,117,108]⟩,.string ⟨#[100,105,118]⟩,.string ⟨#[109,111,100]⟩,.string ⟨#[109,105,110]⟩,.string ⟨#[109,97,120]⟩,.string ⟨#[108,101,115,115]⟩,.string ⟨#[101,113]⟩,.string ⟨#[97,110,100]⟩,.string ⟨#[111,114]⟩,.string ⟨#[120,111,114]⟩,.string ⟨#[110,101,103]⟩,.string ⟨#[110,111,116]⟩] 9 (0,0))) (.cells #[.string ⟨#[]⟩,.string ⟨#[43]⟩,.string ⟨#[45]⟩,.string ⟨#[42]⟩,.string ⟨#[47]⟩,.string ⟨#[37]⟩,.string ⟨#[]⟩,.string ⟨#[]⟩,.string ⟨#[60]⟩,.string ⟨#[61,61]⟩,.string ⟨#[97,110,100]⟩,.string ⟨#[111,114]⟩,.string ⟨#[120,111,114]⟩] 9 (0,0));simpa using this);have kW:(((w1.alloc (.cells #[.string ⟨#[]⟩,.string ⟨#[97,100,100]⟩,.string ⟨#[115,117,98]⟩,.string ⟨#[109,117,108]⟩,.string ⟨#[100,105,118]⟩,.string ⟨#[109,111,100]⟩,.string ⟨#[109,105,110]⟩,.string ⟨#[109,97,120]⟩,.string ⟨#[108,101,115,115]⟩,.string ⟨#[101,113]⟩,.string ⟨#[97,110,100]⟩,.string ⟨#[111,114]⟩,.string ⟨#[120,111,114]⟩,.string ⟨#[110,101,103]⟩,.string ⟨#[110,111,116]⟩] 9 (0,0))).alloc (.cells #[.string ⟨#[]⟩,.string ⟨#[43]⟩,.string ⟨#[45]⟩,.string ⟨#[42]⟩,.string ⟨#[47]⟩,.string ⟨#[37]⟩,.string ⟨#[]⟩,.string ⟨#[]⟩,.string ⟨#[60]⟩,.string ⟨#[61,61]⟩,.string ⟨#[97,110,100]⟩,.string ⟨#[111,114]⟩,.string ⟨#[120,111,114]⟩] 9 (0,0))).alloc (.cells #[.string ⟨#[]⟩,.string ⟨#[]⟩,.string ⟨#[]⟩,.string ⟨#[]⟩,.string ⟨#[]⟩,.string ⟨#[]⟩,.string ⟨#[]⟩,.string ⟨#[109,97,112]⟩,.string ⟨#[102,111,108,100]⟩,.string ⟨#[115,99,97,110]⟩,.string ⟨#[102,105,108,108]⟩,.string ⟨#[]⟩,.string ⟨#[119,105,116,104]⟩,.string ⟨#[115,108,105,99,101]⟩,.string ⟨#[99,97,116]⟩,.string ⟨#[112,114,101]⟩] 9 (0,0))).heap[w1.heap.size+1+1]?=some (.cells #[.string ⟨#[]⟩,.string ⟨#[]⟩,.string ⟨#[]⟩,.string ⟨#[]⟩,.string ⟨#[]⟩,.string ⟨#[]⟩,.string ⟨#[]⟩,.string ⟨#[109,97,112]⟩,.string ⟨#[102,111,108,100]⟩,.string ⟨#[115,99,97,110]⟩,.string ⟨#[102,105,108,108]⟩,.string ⟨#[]⟩,.string ⟨#[119,105,116,104]⟩,.string ⟨#[115,108,105,99,101]⟩,.string ⟨#[99,97,116]⟩,.string ⟨#[112,114,101]⟩] 9 (0,0)):=(by have:=heap_new ((w1.alloc (.cells #[.string ⟨#[]⟩,.string ⟨#[97,100,100]⟩,.string ⟨#[115,117,98]⟩,.string ⟨#[109,117,108]⟩,.string ⟨#[100,105,118]⟩,.string ⟨#[109,111,100]⟩,.string ⟨#[109,105,110]⟩,.string ⟨#[109,97,120]⟩,.string ⟨#[108,101,115,115]⟩,.string ⟨#[101,113]⟩,.string ⟨#[97,110,100]⟩,.string ⟨#[111,114]⟩,.string ⟨#[120,111,114]⟩,.string ⟨#[110,101,103]⟩,.string ⟨#[110,111,116]⟩] 9 (0,0))).alloc (.cells #[.string ⟨#[]⟩,.string ⟨#[43]⟩,.string ⟨#[45]⟩,.string ⟨#[42]⟩,.string ⟨#[47]⟩,.string ⟨#[37]⟩,.string ⟨#[]⟩,.string ⟨#[]⟩,.string ⟨#[60]⟩,.string ⟨#[61,61]⟩,.string ⟨#[97,110,100]⟩,.string ⟨#[111,114]⟩,.string ⟨#[120,111,114]⟩] 9 (0,0))) (.cells #[.string ⟨#[]⟩,.string ⟨#[]⟩,.string ⟨#[]⟩,.string ⟨#[]⟩,.string ⟨#[]⟩,.string ⟨#[]⟩,.string ⟨#[]⟩,.string ⟨#[109,97,112]⟩,.string ⟨#[102,111,108,100]⟩,.string ⟨#[115,99,97,110]⟩,.string ⟨#[102,105,108,108]⟩,.string ⟨#[]⟩,.string ⟨#[119,105,116,104]⟩,.string ⟨#[115,108,105,99,101]⟩,.string ⟨#[99,97,116]⟩,.string ⟨#[112,114,101]⟩] 9 (0,0));simpa using this);generalize (((w1.alloc (.cells #[.string ⟨#[]⟩,.string ⟨#[97,100,100]⟩,.string ⟨#[115,117,98]⟩,.string ⟨#[109,117,108]⟩,.string ⟨#[100,105,118]⟩,.string ⟨#[109,111,100]⟩,.string ⟨#[109,105,110]⟩,.string ⟨#[109,97,120]⟩,.string ⟨#[108,101,115,115]⟩,.string ⟨#[101,113]⟩,.string ⟨#[97,110,100]⟩,.string ⟨#[111,114]⟩,.string ⟨#[120,111,114]⟩,.string ⟨#[110,101,103]⟩,.string ⟨#[110,111,116]⟩] 9 (0,0))).alloc (.cells #[.string ⟨#[]⟩,.string ⟨#[43]⟩,.string ⟨#[45]⟩,.string ⟨#[42]⟩,.string ⟨#[47]⟩,.string ⟨#[37]⟩,.string ⟨#[]⟩,.string ⟨#[]⟩,.string ⟨#[60]⟩,.string ⟨#[61,61]⟩,.string ⟨#[97,110,100]⟩,.string ⟨#[111,114]⟩,.string ⟨#[120,111,114]⟩] 9 (0,0))).alloc (.cells #[.string ⟨#[]⟩,.string ⟨#[]⟩,.string ⟨#[]⟩,.string ⟨#[]⟩,.string ⟨#[]⟩,.string ⟨#[]⟩,.string ⟨#[]⟩,.string ⟨#[109,97,112]⟩,.string ⟨#[102,111,108,100]⟩,.string ⟨#[115,99,97,110]⟩,.string ⟨#[102,105,108,108]⟩,.string ⟨#[]⟩,.string ⟨#[119,105,116,104]⟩,.string ⟨#[115,108,105,99,101]⟩,.string ⟨#[99,97,116]⟩,.string ⟨#[112,114,101]⟩] 9 (0,0)))=W at B4 kL4 kO kS kW bB ⊢;have htW:=htab.under B4;clear bB kL;go_cut [9] (fun v9 wc=>v9=.string X∧Below w.heap.size w wc)
 case rest=>
  obtain ⟨rfl,BC⟩:=hcut;by_cases hle:must≤r
  ·have hRR:=HR.out
   rw [if_pos hle] at hRR;have hlI:¬r<must:=(by omega);clear HR HXE HXS HRK;have HE:=hide hRR;clear hRR;go_wp2;go_ret;exact ⟨by rw [HE.out];rfl,BC⟩
  ·have hRR:=HR.out
   rw [if_neg hle] at hRR;have hlI:r<must:=(by omega);have hR2:1+X.size+1≤1000000000000000000:=by
    have:=hRs;rw [hRR] at this;simp only [ByteArray.size_append,sz_lit1] at this;exact this
   have HE:=hide hRR;clear HR HXE HXS hRR HRK;go_wp2;go_ret;exact ⟨by rw [HE.out];rfl,BC⟩
 case first=>
  have q0:=co kL4 0;have q1:=co kL4 1;have q2:=co kL4 2;have q3:=co kL4 3;have q4:=co kL4 4;have q5:=co kL4 5;simp at q0 q1 q2 q3 q4 q5;clear HR hRs;have hX0:=HXE.out;rw [Tx.bare] at hX0;unfold Tx.bareOf at hX0;have HX0:=hide hX0;clear hX0 HXE;have hop:=HOP.out;clear HOP;have c6:=hop
  ·have hsh:(Rn.shp op.toNat).2.1=3∧(Rn.shp op.toNat).2.2.1=3:=by subst c6;decide
   obtain ⟨e0,e1,e2,rfl⟩:=len3 (l:=L) (by omega);have hXb:X=Tx.cat (Tx.choiceP (Tx.bares [e0,e1,e2])):=(by rw [HX0.out,if_neg (by omega),if_neg (by omega),if_neg (by omega),if_neg (by omega),if_neg (by omega),if_pos c6]);have hfx0:Tx.fitX (Tx.choiceP (Tx.bares [e0,e1,e2])):=by
    have h:=HXS.out;rw [Tx.bare] at h;unfold Tx.bareOf at h;rw [if_neg (by omega),if_neg (by omega),if_neg (by omega),if_neg (by omega),if_neg (by omega),if_pos c6] at h;exact h
   have f0:Tx.fitX (Tx.partP e0 0):=hfx0.right.left;have f1:Tx.fitX (Tx.partP e1 0):=hfx0.right.right.right.left;have f2:Tx.fitX (Tx.partP e2 0):=hfx0.right.right.right.right.right
   have hD0:=hD e0 (by simp);have hD1:=hD e1 (by simp);have hD2:=hD e2 (by simp);obtain ⟨hnL,hcc1,hcc2,bL,oL,hao,hget⟩:=hLx.getB (by simp);subst hao;simp at hnL;subst hnL;unfold maxLen at hcc2;obtain ⟨y0,hx0,hy0⟩:=hget 0 (by simp);simp only [List.getElem_cons_zero,List.getElem_cons_succ] at hx0;have hp0:=fun (V:World) (b:Below w.heap.size w V) (must:Int) (h0:0≤must) (h8:must≤8) (hX:Tx.fitX (Tx.partP e0 must))=>hD0 ok V y0 must (hx0.under b) (htab.under b) h0 h8 hX;obtain ⟨o0,k0_,n0_,s0_,aS0,nS0,cS0,aL0,nL0,cL0⟩:=y0
   dsimp only at hp0 hy0
   obtain ⟨y1,hx1,hy1⟩:=hget 1 (by simp);simp only [List.getElem_cons_zero,List.getElem_cons_succ] at hx1;have hp1:=fun (V:World) (b:Below w.heap.size w V) (must:Int) (h0:0≤must) (h8:must≤8) (hX:Tx.fitX (Tx.partP e1 must))=>hD1 ok V y1 must (hx1.under b) (htab.under b) h0 h8 hX;obtain ⟨o1,k1_,n1_,s1_,aS1,nS1,cS1,aL1,nL1,cL1⟩:=y1
   dsimp only at hp1 hy1
   obtain ⟨y2,hx2,hy2⟩:=hget 2 (by simp);simp only [List.getElem_cons_zero,List.getElem_cons_succ] at hx2;have hp2:=fun (V:World) (b:Below w.heap.size w V) (must:Int) (h0:0≤must) (h8:must≤8) (hX:Tx.fitX (Tx.partP e2 must))=>hD2 ok V y2 must (hx2.under b) (htab.under b) h0 h8 hX;obtain ⟨o2,k2_,n2_,s2_,aS2,nS2,cS2,aL2,nL2,cL2⟩:=y2
   dsimp only at hp2 hy2
   clear hget hLx hD;have hXX:X=⟨#[105,102,32]⟩++Tx.cat (Tx.exprP e0)++⟨#[32,116,104,101,110,32]⟩++Tx.cat (Tx.exprP e1)++⟨#[32,101,108,115,101,32]⟩++Tx.cat (Tx.exprP e2):=(by rw [hXb];show Tx.cat ([⟨#[105,102,32]⟩]++(Tx.exprP e0++([⟨#[32,116,104,101,110,32]⟩]++(Tx.exprP e1++([⟨#[32,101,108,115,101,32]⟩]++Tx.exprP e2)))))=_;simp only [Tx.cat_append,Tx.cat,ByteArray.append_empty,ByteArray.append_assoc]);have hc0:=fun V b=>hp0 V b 0 (by omega) (by omega) f0;have hc1:=fun V b=>hp1 V b 0 (by omega) (by omega) f1;have hc2:=fun V b=>hp2 V b 0 (by omega) (by omega) f2;rw [exprP_eq,exprP_eq,exprP_eq] at hXX;generalize Tx.cat (Tx.partP e0 0)=T0 at hXX hc0;generalize Tx.cat (Tx.partP e1 0)=T1 at hXX hc1;generalize Tx.cat (Tx.partP e2 0)=T2 at hXX hc2;have hs2:(⟨#[105,102,32]⟩:ByteArray).size+T0.size+(⟨#[32,116,104,101,110,32]⟩:ByteArray).size+T1.size+(⟨#[32,101,108,115,101,32]⟩:ByteArray).size+T2.size≤1000000000000000000:=(by have:=hXsz;rw [hXX] at this;simp only [ByteArray.size_append] at this;exact this);have HE:=hide hXX;clear hXX hXsz f0 f1 f2;simp only [show (⟨#[105,102,32]⟩:ByteArray).size=3 from rfl,show (⟨#[32,116,104,101,110,32]⟩:ByteArray).size=6 from rfl,show (⟨#[32,101,108,115,101,32]⟩:ByteArray).size=6 from rfl] at hs2
   clear HX0 HXS HRK hun hbin hl1 hl2 hs1 hk1 hk2 ho1 ho15 hop hsh hfx0 hXb;subst c6;go_upto_region 35 with fail;refine wp_region_late (fun w'=>w'.cell? ⟨w.heap.size,5,none⟩=some (.slice (some ⟨bL,oL,none⟩) 3 cL)∧ExAt w' bL (oL) ⟨o0,k0_,n0_,s0_,aS0,nS0,cS0,aL0,nL0,cL0⟩∧ExAt w' bL (oL+6) ⟨o1,k1_,n1_,s1_,aS1,nS1,cS1,aL1,nL1,cL1⟩∧ExAt w' bL (oL+12) ⟨o2,k2_,n2_,s2_,aS2,nS2,cS2,aL2,nL2,cL2⟩) (fun _=>false) (by kernel_rfl) ?_;have Bd:=B4.trans ((Below.refl _ W).drew.mono B4.size);have hS:∀ V,Below w.heap.size w V→V.heap[w.heap.size]?=some (.cells #[.int .i64 6,.int .i64 k,.int .i64 n,.string name,.slice aS nS cS,.slice (some ⟨bL,oL,none⟩) 3 cL] 88 (0,0))→(fun w'=>w'.cell? ⟨w.heap.size,5,none⟩=some (.slice (some ⟨bL,oL,none⟩) 3 cL)∧ExAt w' bL (oL) ⟨o0,k0_,n0_,s0_,aS0,nS0,cS0,aL0,nL0,cL0⟩∧ExAt w' bL (oL+6) ⟨o1,k1_,n1_,s1_,aS1,nS1,cS1,aL1,nL1,cL1⟩∧ExAt w' bL (oL+12) ⟨o2,k2_,n2_,s2_,aS2,nS2,cS2,aL2,nL2,cL2⟩) V:=fun V hb hk=>⟨by have:=co hk 5;simpa using this,by have:=hy0 V hb;simpa using this,by have:=hy1 V hb;simpa using this,by have:=hy2 V hb;simpa using this⟩;have hH:=hS W.drew Bd kL4;have kLd:W.drew.heap[w.heap.size]?=some (.cells #[.int .i64 6,.int .i64 k,.int .i64 n,.string name,.slice aS nS cS,.slice (some ⟨bL,oL,none⟩) 3 cL] 88 (0,0)):=kL4;simp only [] at hH;generalize W.drew=wd at Bd hH kLd ⊢;refine' wpAnyL_take (i:=0) (v:=_) rfl (by kernel_rfl) (by kernel_rfl) (by kernel_rfl) (by kernel_rfl) (fun _ _ _ h=>h) hH (by rfl) ?hyv ?o1
   case hyv=>
    intro wz hSw;obtain ⟨cc,⟨a0,a1,a2,a3,a4,a5⟩,⟨b0,b1,b2,b3,b4,b5⟩,⟨c0,c1,c2,c3,c4,c5⟩⟩:=hSw;go_simp
    try rfl
   try simp only [Act.put,sT,sZ,sS]
   refine' wpAnyL_take (i:=1) (v:=_) rfl (by kernel_rfl) (by kernel_rfl) (by kernel_rfl) (by kernel_rfl) (fun _ _ _ h=>h) hH (by rfl) ?hyv ?o2
   case hyv=>
    intro wz hSw;obtain ⟨cc,⟨a0,a1,a2,a3,a4,a5⟩,⟨b0,b1,b2,b3,b4,b5⟩,⟨c0,c1,c2,c3,c4,c5⟩⟩:=hSw;go_simp
    try rfl
   try simp only [Act.put,sT,sZ,sS]
   refine' wpAnyL_take (i:=2) (v:=_) rfl (by kernel_rfl) (by kernel_rfl) (by kernel_rfl) (by kernel_rfl) (fun _ _ _ h=>h) hH (by rfl) ?hyv ?o3
   case hyv=>
    intro wz hSw;obtain ⟨cc,⟨a0,a1,a2,a3,a4,a5⟩,⟨b0,b1,b2,b3,b4,b5⟩,⟨c0,c1,c2,c3,c4,c5⟩⟩:=hSw;go_simp
    try rfl
   try simp only [Act.put,sT,sZ,sS]
   refine' wpAnyL_take (i:=3) (v:=_) rfl (by kernel_rfl) (by kernel_rfl) (by kernel_rfl) (by kernel_rfl) (fun _ _ _ h=>h) hH (by rfl) ?hyv ?o4
   case hyv=>
    intro wz hSw;obtain ⟨cc,⟨a0,a1,a2,a3,a4,a5⟩,⟨b0,b1,b2,b3,b4,b5⟩,⟨c0,c1,c2,c3,c4,c5⟩⟩:=hSw;go_simp
    try rfl
   try simp only [Act.put,sT,sZ,sS]
   refine' wpAnyL_take (i:=7) (v:=_) rfl (by kernel_rfl) (by kernel_rfl) (by kernel_rfl) (by kernel_rfl) (fun _ _ _ h=>h) hH (by rfl) ?hyv ?o5
   case hyv=>
    intro wz hSw;obtain ⟨cc,⟨a0,a1,a2,a3,a4,a5⟩,⟨b0,b1,b2,b3,b4,b5⟩,⟨c0,c1,c2,c3,c4,c5⟩⟩:=hSw;go_simp
    try rfl
   try simp only [Act.put,sT,sZ,sS]
   refine' wpAnyL_take (i:=8) (v:=_) rfl (by kernel_rfl) (by kernel_rfl) (by kernel_rfl) (by kernel_rfl) (fun _ _ _ h=>h) hH (by rfl) ?hyv ?o6
   case hyv=>
    intro wz hSw;obtain ⟨cc,⟨a0,a1,a2,a3,a4,a5⟩,⟨b0,b1,b2,b3,b4,b5⟩,⟨c0,c1,c2,c3,c4,c5⟩⟩:=hSw;go_simp
    try rfl
   try simp only [Act.put,sT,sZ,sS]
   refine' wpAnyL_take (i:=9) (v:=_) rfl (by kernel_rfl) (by kernel_rfl) (by kernel_rfl) (by kernel_rfl) (fun _ _ _ h=>h) hH (by rfl) ?hyv ?o7
   case hyv=>
    intro wz hSw;obtain ⟨cc,⟨a0,a1,a2,a3,a4,a5⟩,⟨b0,b1,b2,b3,b4,b5⟩,⟨c0,c1,c2,c3,c4,c5⟩⟩:=hSw;go_simp
    try rfl
   try simp only [Act.put,sT,sZ,sS]
   refine' wpAnyL_take (i:=10) (v:=_) rfl (by kernel_rfl) (by kernel_rfl) (by kernel_rfl) (by kernel_rfl) (fun _ _ _ h=>h) hH (by rfl) ?hyv ?o8
   case hyv=>
    intro wz hSw;obtain ⟨cc,⟨a0,a1,a2,a3,a4,a5⟩,⟨b0,b1,b2,b3,b4,b5⟩,⟨c0,c1,c2,c3,c4,c5⟩⟩:=hSw;go_simp
    try rfl
   try simp only [Act.put,sT,sZ,sS]
   refine' wpAnyL_take (i:=14) (v:=_) rfl (by kernel_rfl) (by kernel_rfl) (by kernel_rfl) (by kernel_rfl) (fun _ _ _ h=>h) hH (by rfl) ?hyv ?o9
   case hyv=>
    intro wz hSw;obtain ⟨cc,⟨a0,a1,a2,a3,a4,a5⟩,⟨b0,b1,b2,b3,b4,b5⟩,⟨c0,c1,c2,c3,c4,c5⟩⟩:=hSw;go_simp
    try rfl
   try simp only [Act.put,sT,sZ,sS]
   refine' wpAnyL_take (i:=15) (v:=_) rfl (by kernel_rfl) (by kernel_rfl) (by kernel_rfl) (by kernel_rfl) (fun _ _ _ h=>h) hH (by rfl) ?hyv ?o10
   case hyv=>
    intro wz hSw;obtain ⟨cc,⟨a0,a1,a2,a3,a4,a5⟩,⟨b0,b1,b2,b3,b4,b5⟩,⟨c0,c1,c2,c3,c4,c5⟩⟩:=hSw;go_simp
    try rfl
   try simp only [Act.put,sT,sZ,sS]
   refine' wpAnyL_take (i:=16) (v:=_) rfl (by kernel_rfl) (by kernel_rfl) (by kernel_rfl) (by kernel_rfl) (fun _ _ _ h=>h) hH (by rfl) ?hyv ?o11
   case hyv=>
    intro wz hSw;obtain ⟨cc,⟨a0,a1,a2,a3,a4,a5⟩,⟨b0,b1,b2,b3,b4,b5⟩,⟨c0,c1,c2,c3,c4,c5⟩⟩:=hSw;go_simp
    try rfl
   try simp only [Act.put,sT,sZ,sS]
   refine' wpAnyL_take (i:=17) (v:=_) rfl (by kernel_rfl) (by kernel_rfl) (by kernel_rfl) (by kernel_rfl) (fun _ _ _ h=>h) hH (by rfl) ?hyv ?o12
   case hyv=>
    intro wz hSw;obtain ⟨cc,⟨a0,a1,a2,a3,a4,a5⟩,⟨b0,b1,b2,b3,b4,b5⟩,⟨c0,c1,c2,c3,c4,c5⟩⟩:=hSw;go_simp
    try rfl
   try simp only [Act.put,sT,sZ,sS]
   refine wpAnyL_one (i:=4) rfl (by kernel_rfl) (by rfl) (fun K hK=>?_);go_simp;refine (hc0 wd Bd).mono ?_;rintro e v1 ⟨rfl,bv1⟩;have Bv1:=Bd.trans (bv1.mono Bd.size);have kv1:=(bv1.block _ (lt_of kLd)).trans kLd;have hH1:=hS v1 Bv1 kv1;refine hK.out _ _ (fun _=>hH1) ?_;clear hK K
   try simp only [Act.put,sT,sZ,sS]
   refine' wpAnyL_take (i:=5) (v:=_) rfl (by kernel_rfl) (by kernel_rfl) (by kernel_rfl) (by kernel_rfl) (fun _ _ _ h=>h) hH1 (by rfl) ?hyv ?o13
   case hyv=>
    intro wz hSw;obtain ⟨cc,⟨a0,a1,a2,a3,a4,a5⟩,⟨b0,b1,b2,b3,b4,b5⟩,⟨c0,c1,c2,c3,c4,c5⟩⟩:=hSw;go_simp;rw [if_neg (by omega)]
    try rfl
   try simp only [Act.put,sT,sZ,sS]
   refine' wpAnyL_take (i:=6) (v:=_) rfl (by kernel_rfl) (by kernel_rfl) (by kernel_rfl) (by kernel_rfl) (fun _ _ _ h=>h) hH1 (by rfl) ?hyv ?o14
   case hyv=>
    intro wz hSw;obtain ⟨cc,⟨a0,a1,a2,a3,a4,a5⟩,⟨b0,b1,b2,b3,b4,b5⟩,⟨c0,c1,c2,c3,c4,c5⟩⟩:=hSw;go_simp;rw [if_neg (by omega)]
    try rfl
   try simp only [Act.put,sT,sZ,sS]
   refine wpAnyL_one (i:=11) rfl (by kernel_rfl) (by rfl) (fun K hK=>?_);go_simp;refine (hc1 v1 Bv1).mono ?_;rintro e v2 ⟨rfl,bv2⟩;have Bv2:=Bv1.trans (bv2.mono Bv1.size);have kv2:=(bv2.block _ (lt_of kv1)).trans kv1;have hH2:=hS v2 Bv2 kv2;refine hK.out _ _ (fun _=>hH2) ?_;clear hK K
   try simp only [Act.put,sT,sZ,sS]
   refine' wpAnyL_take (i:=12) (v:=_) rfl (by kernel_rfl) (by kernel_rfl) (by kernel_rfl) (by kernel_rfl) (fun _ _ _ h=>h) hH2 (by rfl) ?hyv ?o15
   case hyv=>
    intro wz hSw;obtain ⟨cc,⟨a0,a1,a2,a3,a4,a5⟩,⟨b0,b1,b2,b3,b4,b5⟩,⟨c0,c1,c2,c3,c4,c5⟩⟩:=hSw;go_simp;rw [if_neg (by omega)]
    try rfl
   try simp only [Act.put,sT,sZ,sS]
   refine' wpAnyL_take (i:=13) (v:=_) rfl (by kernel_rfl) (by kernel_rfl) (by kernel_rfl) (by kernel_rfl) (fun _ _ _ h=>h) hH2 (by rfl) ?hyv ?o16
   case hyv=>
    intro wz hSw;obtain ⟨cc,⟨a0,a1,a2,a3,a4,a5⟩,⟨b0,b1,b2,b3,b4,b5⟩,⟨c0,c1,c2,c3,c4,c5⟩⟩:=hSw;go_simp;rw [if_neg (by omega)]
    try rfl
   try simp only [Act.put,sT,sZ,sS]
   refine wpAnyL_one (i:=18) rfl (by kernel_rfl) (by rfl) (fun K hK=>?_);go_simp;refine (hc2 v2 Bv2).mono ?_;rintro e v3 ⟨rfl,bv3⟩;have Bv3:=Bv2.trans (bv3.mono Bv2.size);have kv3:=(bv3.block _ (lt_of kv2)).trans kv2;have hH3:=hS v3 Bv3 kv3;refine hK.out _ _ (fun _=>hH3) ?_;clear hK K
   try simp only [Act.put,sT,sZ,sS]
   refine' wpAnyL_take (i:=19) (v:=_) rfl (by kernel_rfl) (by kernel_rfl) (by kernel_rfl) (by kernel_rfl) (fun _ _ _ h=>h) hH3 (by rfl) ?hyv ?o17
   case hyv=>
    intro wz hSw;obtain ⟨cc,⟨a0,a1,a2,a3,a4,a5⟩,⟨b0,b1,b2,b3,b4,b5⟩,⟨c0,c1,c2,c3,c4,c5⟩⟩:=hSw;go_simp;rw [if_neg (by omega)]
    try rfl
   try simp only [Act.put,sT,sZ,sS]
   refine' wpAnyL_take (i:=20) (v:=_) rfl (by kernel_rfl) (by kernel_rfl) (by kernel_rfl) (by kernel_rfl) (fun _ _ _ h=>h) hH3 (by rfl) ?hyv ?o18
   case hyv=>
    intro wz hSw;obtain ⟨cc,⟨a0,a1,a2,a3,a4,a5⟩,⟨b0,b1,b2,b3,b4,b5⟩,⟨c0,c1,c2,c3,c4,c5⟩⟩:=hSw;go_simp
    try rfl
   try simp only [Act.put,sT,sZ,sS]
   refine wpAnyL_done (by kernel_rfl) ?_ _;go_wp2_with fail;go_meet
   case rel=>exact ⟨by rw [HE.out],Bv3⟩
end Go.Proofs.YtophfbefnaelfaaGreatDoor
