import Derived.Test.YtophfbefnaelfaaGreatDoorM41
set_option linter.unusedVariables false
set_option linter.unusedSimpArgs false
set_option maxHeartbeats 64000000
set_option maxRecDepth 100000
namespace Go.Proofs.YtophfbefnaelfaaGreatDoor
open Go.RowKit Go.IntWalk
theorem cat_mid_le {α:Type} (g:Nat→α→List ByteArray) (l:List α) (i:Nat) (h:i<l.length):(Tx.cat (Tx.rowP g 0 (l.take i))).size+(Tx.cat (g i l[i])).size≤(Tx.cat (Tx.rowP g 0 l)).size:=by
 have e:l=l.take (i+1)++l.drop (i+1):=(List.take_append_drop _ l).symm;rw [show Tx.rowP g 0 l=Tx.rowP g 0 (l.take (i+1)++l.drop (i+1)) by rw [←e],Tx.rowP_append,Tx.cat_append,Tx.cat_take g l i h];simp only [ByteArray.size_append];omega
theorem exprText_form {op k n:Int} {name:ByteArray} {S:List (List Tm)} {L:List Ex} (hE:okE (.mk op k n name S L)) (hD:∀ x ∈ L,XtDoes x) (hop:5≤op∧op≠6∧op≠11) (hse:op=5→(Tx.opT k.toNat).2.1.size=0):XtDoes (.mk op k n name S L):=by
 intro ok w x must hx htab hm0 hm8 hX;obtain ⟨ex1,ex2,ex3,ex4,hSx,hLx⟩:=hx.parts;obtain ⟨op',k',n',name',aS,nS,cS,aL,nL,cL⟩:=x
 dsimp only [Ex.op,Ex.k,Ex.n,Ex.name,Ex.S,Ex.L] at ex1 ex2 ex3 ex4 hSx hLx ⊢
 obtain rfl:=ex1.symm;obtain rfl:=ex2.symm;obtain rfl:=ex3.symm;obtain rfl:=ex4.symm;clear ex1 ex2 ex3 ex4;rw [okE] at hE;obtain ⟨hF,⟨hn0,hn1⟩,hname,hZ,_⟩:=hE;have hbi:=fun V=>binds_any op k n name aS aL nS cS nL cL V (un_k hF) (bin_k hF);have hun:=un_k hF;have hbin:=bin_k hF;obtain ⟨⟨ho1,ho15⟩,hl1,hl2,hs1,hk1,hk2,hnum⟩:=formOk_parts hF;clear hx;obtain ⟨R,hR⟩:=nmQ (Tx.cat (Tx.partP (.mk op k n name S L) must));rw [←hR];obtain ⟨X,hXe⟩:=nmQ (Tx.cat (Tx.bare (.mk op k n name S L)));have hXs:Tx.fitX (Tx.bare (.mk op k n name S L)):=by
  unfold Tx.partP Tx.partQ at hX
  split at hX
  ·exact hX
  ·exact hX.right.left
 have hrk:Tx.rank (.mk op k n name S L)=Tx.rankE op k:=rfl;have HR:Hid (R=if must≤Tx.rankE op k then X else ⟨#[40]⟩++X++⟨#[41]⟩):=hide (by
  rw [hR,hXe];unfold Tx.partP Tx.partQ;rw [hrk]
  split
  ·rfl
  ·simp only [Tx.cat_append,Tx.cat,ByteArray.append_empty,ByteArray.append_assoc])
 have hRs:R.size≤1000000000000000000:=(by rw [hR];exact hX);have HXE:=hide hXe;have HXS:=hide hXs;have hXsz:X.size≤1000000000000000000:=(by rw [hXe];exact hXs);clear hX hR hXe hXs hF hrk;have bA:Below w.heap.size w (w.alloc (.cells #[.int .i64 op,.int .i64 k,.int .i64 n,.string name,.slice aS nS cS,.slice aL nL cL] 88 (0,0))):=(Below.refl _ _).alloc nR _;obtain ⟨r,hr⟩:=nmQ (Tx.rankE op k);simp only [←hr] at HR hbi;have HRK:=hide hr;clear hr;go_enter Tryz.func54,Tryz.ntmps54;go_wp2_with fail;refine (hbi _).mono ?_;rintro e w1 ⟨rfl,b1⟩;have B1:=bA.trans (b1.mono bA.size);have kL:=(b1.block w.heap.size (by simp)).trans (heap_new w (.cells #[.int .i64 op,.int .i64 k,.int .i64 n,.string name,.slice aS nS cS,.slice aL nL cL] 88 (0,0)));clear hbi;go_upto_block 0 with fail;have bB:Below w1.heap.size w1 (((w1.alloc (.cells #[.string ⟨#[]⟩,.string ⟨#[97,100,100]⟩,.string ⟨#[115,117,98]⟩,.string ⟨#[109,117,108]⟩,.string ⟨#[100,105,118]⟩,.string ⟨#[109,111,100]⟩,.string ⟨#[109,105,110]⟩,.string ⟨#[109,97,120]⟩,.string ⟨#[108,101,115,115]⟩,.string ⟨#[101,113]⟩,.string ⟨#[97,110,100]⟩,.string ⟨#[111,114]⟩,.string ⟨#[120,111,114]⟩,.string ⟨#[110,101,103]⟩,.string ⟨#[110,111,116]⟩] 9 (0,0))).alloc (.cells #[.string ⟨#[]⟩,.string ⟨#[43]⟩,.string ⟨#[45]⟩,.string ⟨#[42]⟩,.string ⟨#[47]⟩,.string ⟨#[37]⟩,.string ⟨#[]⟩,.string ⟨#[]⟩,.string ⟨#[60]⟩,.string ⟨#[61,61]⟩,.string ⟨#[97,110,100]⟩,.string ⟨#[111,114]⟩,.string ⟨#[120,111,114]⟩] 9 (0,0))).alloc (.cells #[.string ⟨#[]⟩,.string ⟨#[]⟩,.string ⟨#[]⟩,.string ⟨#[]⟩,.string ⟨#[]⟩,.string ⟨#[]⟩,.string ⟨#[]⟩,.string ⟨#[109,97,112]⟩,.string ⟨#[102,111,108,100]⟩,.string ⟨#[115,99,97,110]⟩,.string ⟨#[102,105,108,108]⟩,.string ⟨#[]⟩,.string ⟨#[119,105,116,104]⟩,.string ⟨#[115,108,105,99,101]⟩,.string ⟨#[99,97,116]⟩,.string ⟨#[112,114,101]⟩] 9 (0,0))):=(((Below.refl _ _).alloc nR _).alloc (by simp) _).alloc (by simp;omega) _;have B4:=B1.trans (bB.mono B1.size);have kL4:=(bB.block _ (lt_of kL)).trans kL;have kO:(((w1.alloc (.cells #[.string ⟨#[]⟩,.string ⟨#[97,100,100]⟩,.string ⟨#[115,117,98]⟩,.string ⟨#[109,117,108]⟩,.string ⟨#[100,105,118]⟩,.string ⟨#[109,111,100]⟩,.string ⟨#[109,105,110]⟩,.string ⟨#[109,97,120]⟩,.string ⟨#[108,101,115,115]⟩,.string ⟨#[101,113]⟩,.string ⟨#[97,110,100]⟩,.string ⟨#[111,114]⟩,.string ⟨#[120,111,114]⟩,.string ⟨#[110,101,103]⟩,.string ⟨#[110,111,116]⟩] 9 (0,0))).alloc (.cells #[.string ⟨#[]⟩,.string ⟨#[43]⟩,.string ⟨#[45]⟩,.string ⟨#[42]⟩,.string ⟨#[47]⟩,.string ⟨#[37]⟩,.string ⟨#[]⟩,.string ⟨#[]⟩,.string ⟨#[60]⟩,.string ⟨#[61,61]⟩,.string ⟨#[97,110,100]⟩,.string ⟨#[111,114]⟩,.string ⟨#[120,111,114]⟩] 9 (0,0))).alloc (.cells #[.string ⟨#[]⟩,.string ⟨#[]⟩,.string ⟨#[]⟩,.string ⟨#[]⟩,.string ⟨#[]⟩,.string ⟨#[]⟩,.string ⟨#[]⟩,.string ⟨#[109,97,112]⟩,.string ⟨#[102,111,108,100]⟩,.string ⟨#[115,99,97,110]⟩,.string ⟨#[102,105,108,108]⟩,.string ⟨#[]⟩,.string ⟨#[119,105,116,104]⟩,.string ⟨#[115,108,105,99,101]⟩,.string ⟨#[99,97,116]⟩,.string ⟨#[112,114,101]⟩] 9 (0,0))).heap[w1.heap.size]?=some (.cells #[.string ⟨#[]⟩,.string ⟨#[97,100,100]⟩,.string ⟨#[115,117,98]⟩,.string ⟨#[109,117,108]⟩,.string ⟨#[100,105,118]⟩,.string ⟨#[109,111,100]⟩,.string ⟨#[109,105,110]⟩,.string ⟨#[109,97,120]⟩,.string ⟨#[108,101,115,115]⟩,.string ⟨#[101,113]⟩,.string ⟨#[97,110,100]⟩,.string ⟨#[111,114]⟩,.string ⟨#[120,111,114]⟩,.string ⟨#[110,101,103]⟩,.string ⟨#[110,111,116]⟩] 9 (0,0)):=((Below.heap_alloc _ _ _ (by simp;omega)).trans (Below.heap_alloc _ _ _ (by simp))).trans (heap_new w1 _);have kS:(((w1.alloc (.cells #[.string ⟨#[]⟩,.string ⟨#[97,100,100]⟩,.string ⟨#[115,117,98]⟩,.string ⟨#[109,117,108]⟩,.string ⟨#[100,105,118]⟩,.string ⟨#[109,111,100]⟩,.string ⟨#[109,105,110]⟩,.string ⟨#[109,97,120]⟩,.string ⟨#[108,101,115,115]⟩,.string ⟨#[101,113]⟩,.string ⟨#[97,110,100]⟩,.string ⟨#[111,114]⟩,.string ⟨#[120,111,114]⟩,.string ⟨#[110,101,103]⟩,.string ⟨#[110,111,116]⟩] 9 (0,0))).alloc (.cells #[.string ⟨#[]⟩,.string ⟨#[43]⟩,.string ⟨#[45]⟩,.string ⟨#[42]⟩,.string ⟨#[47]⟩,.string ⟨#[37]⟩,.string ⟨#[]⟩,.string ⟨#[]⟩,.string ⟨#[60]⟩,.string ⟨#[61,61]⟩,.string ⟨#[97,110,100]⟩,.string ⟨#[111,114]⟩,.string ⟨#[120,111,114]⟩] 9 (0,0))).alloc (.cells #[.string ⟨#[]⟩,.string ⟨#[]⟩,.string ⟨#[]⟩,.string ⟨#[]⟩,.string ⟨#[]⟩,.string ⟨#[]⟩,.string ⟨#[]⟩,.string ⟨#[109,97,112]⟩,.string ⟨#[102,111,108,100]⟩,.string ⟨#[115,99,97,110]⟩,.string ⟨#[102,105,108,108]⟩,.string ⟨#[]⟩,.string ⟨#[119,105,116,104]⟩,.string ⟨#[115,108,105,99,101]⟩,.string ⟨#[99,97,116]⟩,.string ⟨#[112,114,101]⟩] 9 (0,0))).heap[w1.heap.size+1]?=some (.cells #[.string ⟨#[]⟩,.string ⟨#[43]⟩,.string ⟨#[45]⟩,.string ⟨#[42]⟩,.string ⟨#[47]⟩,.string ⟨#[37]⟩,.string ⟨#[]⟩,.string ⟨#[]⟩,.string ⟨#[60]⟩,.string ⟨#[61,61]⟩,.string ⟨#[97,110,100]⟩,.string ⟨#[111,114]⟩,.string ⟨#[120,111,114]⟩] 9 (0,0)):=(Below.heap_alloc _ _ _ (by simp)).trans (by have:=heap_new (w1.alloc (.cells #[.string ⟨#[]⟩,.string ⟨#[97,100,100]⟩,.string ⟨#[115,117,98]⟩,.string ⟨#[109,117,108]⟩,.string ⟨#[100,105,118]⟩,.string ⟨#[109,111,100]⟩,.string ⟨#[109,105,110]⟩,.string ⟨#[109,97,120]⟩,.string ⟨#[108,101,115,115]⟩,.string ⟨#[101,113]⟩,.string ⟨#[97,110,100]⟩,.string ⟨#[111,114]⟩,.string ⟨#[120,111,114]⟩,.string ⟨#[110,101,103]⟩,.string ⟨#[110,111,116]⟩] 9 (0,0))) (.cells #[.string ⟨#[]⟩,.string ⟨#[43]⟩,.string ⟨#[45]⟩,.string ⟨#[42]⟩,.string ⟨#[47]⟩,.string ⟨#[37]⟩,.string ⟨#[]⟩,.string ⟨#[]⟩,.string ⟨#[60]⟩,.string ⟨#[61,61]⟩,.string ⟨#[97,110,100]⟩,.string ⟨#[111,114]⟩,.string ⟨#[120,111,114]⟩] 9 (0,0));simpa using this);have kW:(((w1.alloc (.cells #[.string ⟨#[]⟩,.string ⟨#[97,100,100]⟩,.string ⟨#[115,117,98]⟩,.string ⟨#[109,117,108]⟩,.string ⟨#[100,105,118]⟩,.string ⟨#[109,111,100]⟩,.string ⟨#[109,105,110]⟩,.string ⟨#[109,97,120]⟩,.string ⟨#[108,101,115,115]⟩,.string ⟨#[101,113]⟩,.string ⟨#[97,110,100]⟩,.string ⟨#[111,114]⟩,.string ⟨#[120,111,114]⟩,.string ⟨#[110,101,103]⟩,.string ⟨#[110,111,116]⟩] 9 (0,0))).alloc (.cells #[.string ⟨#[]⟩,.string ⟨#[43]⟩,.string ⟨#[45]⟩,.string ⟨#[42]⟩,.string ⟨#[47]⟩,.string ⟨#[37]⟩,.string ⟨#[]⟩,.string ⟨#[]⟩,.string ⟨#[60]⟩,.string ⟨#[61,61]⟩,.string ⟨#[97,110,100]⟩,.string ⟨#[111,114]⟩,.string ⟨#[120,111,114]⟩] 9 (0,0))).alloc (.cells #[.string ⟨#[]⟩,.string ⟨#[]⟩,.string ⟨#[]⟩,.string ⟨#[]⟩,.string ⟨#[]⟩,.string ⟨#[]⟩,.string ⟨#[]⟩,.string ⟨#[109,97,112]⟩,.string ⟨#[102,111,108,100]⟩,.string ⟨#[115,99,97,110]⟩,.string ⟨#[102,105,108,108]⟩,.string ⟨#[]⟩,.string ⟨#[119,105,116,104]⟩,.string ⟨#[115,108,105,99,101]⟩,.string ⟨#[99,97,116]⟩,.string ⟨#[112,114,101]⟩] 9 (0,0))).heap[w1.heap.size+1+1]?=some (.cells #[.string ⟨#[]⟩,.string ⟨#[]⟩,.string ⟨#[]⟩,.string ⟨#[]⟩,.string ⟨#[]⟩,.string ⟨#[]⟩,.string ⟨#[]⟩,.string ⟨#[109,97,112]⟩,.string ⟨#[102,111,108,100]⟩,.string ⟨#[115,99,97,110]⟩,.string ⟨#[102,105,108,108]⟩,.string ⟨#[]⟩,.string ⟨#[119,105,116,104]⟩,.string ⟨#[115,108,105,99,101]⟩,.string ⟨#[99,97,116]⟩,.string ⟨#[112,114,101]⟩] 9 (0,0)):=(by have:=heap_new ((w1.alloc (.cells #[.string ⟨#[]⟩,.string ⟨#[97,100,100]⟩,.string ⟨#[115,117,98]⟩,.string ⟨#[109,117,108]⟩,.string ⟨#[100,105,118]⟩,.string ⟨#[109,111,100]⟩,.string ⟨#[109,105,110]⟩,.string ⟨#[109,97,120]⟩,.string ⟨#[108,101,115,115]⟩,.string ⟨#[101,113]⟩,.string ⟨#[97,110,100]⟩,.string ⟨#[111,114]⟩,.string ⟨#[120,111,114]⟩,.string ⟨#[110,101,103]⟩,.string ⟨#[110,111,116]⟩] 9 (0,0))).alloc (.cells #[.string ⟨#[]⟩,.string ⟨#[43]⟩,.string ⟨#[45]⟩,.string ⟨#[42]⟩,.string ⟨#[47]⟩,.string ⟨#[37]⟩,.string ⟨#[]⟩,.string ⟨#[]⟩,.string ⟨#[60]⟩,.string ⟨#[61,61]⟩,.string ⟨#[97,110,100]⟩,.string ⟨#[111,114]⟩,.string ⟨#[120,111,114]⟩] 9 (0,0))) (.cells #[.string ⟨#[]⟩,.string ⟨#[]⟩,.string ⟨#[]⟩,.string ⟨#[]⟩,.string ⟨#[]⟩,.string ⟨#[]⟩,.string ⟨#[]⟩,.string ⟨#[109,97,112]⟩,.string ⟨#[102,111,108,100]⟩,.string ⟨#[115,99,97,110]⟩,.string ⟨#[102,105,108,108]⟩,.string ⟨#[]⟩,.string ⟨#[119,105,116,104]⟩,.string ⟨#[115,108,105,99,101]⟩,.string ⟨#[99,97,116]⟩,.string ⟨#[112,114,101]⟩] 9 (0,0));simpa using this);generalize (((w1.alloc (.cells #[.string ⟨#[]⟩,.string ⟨#[97,100,100]⟩,.string ⟨#[115,117,98]⟩,.string ⟨#[109,117,108]⟩,.string ⟨#[100,105,118]⟩,.string ⟨#[109,111,100]⟩,.string ⟨#[109,105,110]⟩,.string ⟨#[109,97,120]⟩,.string ⟨#[108,101,115,115]⟩,.string ⟨#[101,113]⟩,.string ⟨#[97,110,100]⟩,.string ⟨#[111,114]⟩,.string ⟨#[120,111,114]⟩,.string ⟨#[110,101,103]⟩,.string ⟨#[110,111,116]⟩] 9 (0,0))).alloc (.cells #[.string ⟨#[]⟩,.string ⟨#[43]⟩,.string ⟨#[45]⟩,.string ⟨#[42]⟩,.string ⟨#[47]⟩,.string ⟨#[37]⟩,.string ⟨#[]⟩,.string ⟨#[]⟩,.string ⟨#[60]⟩,.string ⟨#[61,61]⟩,.string ⟨#[97,110,100]⟩,.string ⟨#[111,114]⟩,.string ⟨#[120,111,114]⟩] 9 (0,0))).alloc (.cells #[.string ⟨#[]⟩,.string ⟨#[]⟩,.string ⟨#[]⟩,.string ⟨#[]⟩,.string ⟨#[]⟩,.string ⟨#[]⟩,.string ⟨#[]⟩,.string ⟨#[109,97,112]⟩,.string ⟨#[102,111,108,100]⟩,.string ⟨#[115,99,97,110]⟩,.string ⟨#[102,105,108,108]⟩,.string ⟨#[]⟩,.string ⟨#[119,105,116,104]⟩,.string ⟨#[115,108,105,99,101]⟩,.string ⟨#[99,97,116]⟩,.string ⟨#[112,114,101]⟩] 9 (0,0)))=W at B4 kL4 kO kS kW bB ⊢;have htW:=htab.under B4;clear bB kL;go_cut [9] (fun v9 wc=>v9=.string X∧Below w.heap.size w wc)
 case rest=>
  obtain ⟨rfl,BC⟩:=hcut;by_cases hle:must≤r
  ·have hRR:=HR.out
   rw [if_pos hle] at hRR;have hlI:¬r<must:=(by omega);clear HR HXE HXS HRK;have HE:=hide hRR;clear hRR;go_wp2;go_ret;exact ⟨by rw [HE.out];rfl,BC⟩
  ·have hRR:=HR.out
   rw [if_neg hle] at hRR;have hlI:r<must:=(by omega);have hR2:1+X.size+1≤1000000000000000000:=by
    have:=hRs;rw [hRR] at this;simp only [ByteArray.size_append,sz_lit1] at this;exact this
   have HE:=hide hRR;clear HR HXE HXS hRR HRK;go_wp2;go_ret;exact ⟨by rw [HE.out];rfl,BC⟩
 case first=>
  have q0:=co kL4 0;have q1:=co kL4 1;have q2:=co kL4 2;have q3:=co kL4 3;have q4:=co kL4 4;have q5:=co kL4 5;simp at q0 q1 q2 q3 q4 q5;clear HR hRs;have hX0:=HXE.out;rw [Tx.bare] at hX0;unfold Tx.bareOf at hX0;have HX0:=hide hX0;clear hX0 HXE;obtain ⟨p,rfl⟩:∃ p:Nat,op=(p:Int):=⟨op.toNat,by omega⟩;have hp16:p<16:=(by omega);have hp16I:(p:Int)<16:=(by omega);rw [Int.toNat_natCast] at hk1 hk2 hs1;have hall:∀ p,p<16→0≤(Rn.shp p).2.2.2.2.1∧(Rn.shp p).2.2.2.2.2≤14:=(by decide);have hkk:=hall p hp16;obtain ⟨q,rfl⟩:∃ q:Nat,k=(q:Int):=⟨k.toNat,by omega⟩;have hq:q<15:=(by omega);have hqI:(q:Int)<15:=(by omega);have hok0:=(opT_ok q hq).1;have hok1:=shp_ok p hp16;unfold okS at hok0 hok1;have hco:W.cell? ⟨w1.heap.size,q,none⟩=some (.string (Tx.opT q).1):=(by rw [co kO];exact opsRow q hq);have hcw:W.cell? ⟨w1.heap.size+1+1,p,none⟩=some (.string (Rn.shp p).1):=(by rw [co kW];exact wordsRow p hp16);obtain ⟨aq,cq,ev,hcS1,hcS2,_⟩:=hSx.at;injection ev with ev1 ev2 ev3;subst ev1 ev3;have HNS:Hid (nS=S.length):=hide ev2;rw [←ev2] at hcS1;clear ev2;obtain ⟨aq,cq,ev,hcL1,hcL2,_⟩:=hLx.at;injection ev with ev1 ev2 ev3;subst ev1 ev3;have HNL:Hid (nL=L.length):=hide ev2;rw [←ev2] at hcL1;clear ev2;unfold maxLen at hcS2 hcL2;have HSX:=hide hSx;have HLX:=hide hLx;have HDL:=hide hD;have HZS:=hide hZ;have f1:((p:Int)==1)=false:=(by simp;omega);have f2:((p:Int)==2)=false:=(by simp;omega);have f3:((p:Int)==3)=false:=(by simp;omega);have f4:((p:Int)==4)=false:=(by simp;omega);have f6:((p:Int)==6)=false:=(by simp;omega);have f11:((p:Int)==11)=false:=(by simp;omega);clear hSx hLx hD hZ hun hall;by_cases c5:p=5
  ·have hsz:=hse (by omega)
   rw [Int.toNat_natCast] at hsz;have hS50:(Rn.shp 5).2.2.2.1=0:=(by decide);have hS0:S=[]:=List.eq_nil_of_length_eq_zero (by rw [c5,hS50] at hs1;omega);have hr7:r=7:=by
    have hall:∀ q,q<13→1≤q→(Tx.opT q).2.1.size=0→(Tx.opT q).2.2=7:=(by decide);rw [HRK.out,Tx.rankE,if_pos (.inr (by omega)),Int.toNat_natCast];have:=hbin (by omega);exact hall q (by omega) (by omega) hsz
   have hXX:X=(Tx.opT q).1++⟨#[40]⟩++Tx.cat (Tx.commas Tx.exprP L)++Tx.cat (Tx.sizesP S)++⟨#[41]⟩:=by
    rw [HX0.out,if_neg (by omega),if_neg (by omega),if_neg (by omega),if_neg (by omega),if_pos (by omega)];unfold Tx.pairP;rw [Int.toNat_natCast,if_pos hsz,Tx.commas_bares,hS0];simp only [Tx.sizesP,Tx.rowP,Tx.cat_append,Tx.cat,ByteArray.append_empty,ByteArray.append_assoc]
   have f5:((p:Int)==5)=true:=(by simp [c5]);have g7:¬r<7:=(by omega);have HC5:=hide c5;have HR7:=hide hr7;clear HX0 HXS HRK hbin hl1 hl2 hs1 hk1 hk2 hkk hse hS0 hS50 hr7 c5 hsz ho1 ho15;generalize (Tx.opT q).1=wd at hXX hco hok0;generalize (Rn.shp p).1=sw at hcw hok1;have f7:((p:Int)==7)=false:=(by have:=HC5.out;simp;omega);have f8:((p:Int)==8)=false:=(by have:=HC5.out;simp;omega);have f9:((p:Int)==9)=false:=(by have:=HC5.out;simp;omega);obtain ⟨P0,hP0⟩:=nmQ (wd++⟨#[40]⟩);rw [←hP0] at hXX;have HP0:=hide hP0;have hTot:P0.size+(Tx.cat (Tx.commas Tx.exprP L)).size+(Tx.cat (Tx.sizesP S)).size+1≤1000000000000000000:=(by have:=hXsz;rw [hXX] at this;simp only [ByteArray.size_append,sz_lit1] at this;exact this);have HE:=hide hXX;clear hXX hXsz
   go_upto_region 11 with fail
   clear hP0;go_wp2_with fail;go_loopg [9,11] nL (fun gk v9 v11 wr=>∃ i,i≤nL∧gk=nL-i∧v11=.int .i64 (i:Nat)∧(∃ s,v9=.string s∧Hid (s=P0++Tx.cat (Tx.rowP (Tx.comma Tx.exprP) 0 (L.take i))))∧Below W.heap.size W wr)
   case atStart=>exact ⟨0,Nat.zero_le _,rfl,rfl,⟨_,rfl,hide (by show _=P0++ByteArray.empty;rw [ByteArray.append_empty];exact HP0.out.symm)⟩,Below.refl _ _⟩
   case round=>
    obtain ⟨i,hi,rfl,rfl,⟨s,rfl,H⟩,br⟩:=hrel;have BR:=B4.trans (br.mono B4.size);have kLr:=(br.block _ (lt_of kL4)).trans kL4;have r5:=co kLr 5;have r4:=co kLr 4;simp at r5 r4;by_cases hlt:i<nL
    case neg=>
     have hin:i=nL:=(by omega);subst hin;have hsC:s=P0++Tx.cat (Tx.commas Tx.exprP L):=(by rw [H.out,List.take_of_length_le (by have:=HNL.out;omega)];rfl);have HSC:=hide hsC;clear H hsC;go_wp2_with fail;go_loopg [9,12] nS (fun gk v9 v12 wq=>∃ j,j≤nS∧gk=nS-j∧v12=.int .i64 (j:Nat)∧(∃ z,v9=.string z∧Hid (z=s++Tx.cat (Tx.rowP (fun _ s=>[⟨#[44,32]⟩]++Tx.sizeP s) 0 (S.take j))))∧Below W.heap.size W wq)
     case atStart=>exact ⟨0,Nat.zero_le _,rfl,rfl,⟨_,rfl,hide (by show _=s++ByteArray.empty;rw [ByteArray.append_empty])⟩,br⟩
     case round=>
      obtain ⟨j,hj,rfl,rfl,⟨z,rfl,Hz⟩,bq⟩:=hrel;have BQ:=B4.trans (bq.mono B4.size);have kLq:=(bq.block _ (lt_of kL4)).trans kL4;have t4:=co kLq 4;simp at t4;by_cases hlt2:j<nS
      case neg=>
       have hjn:j=nS:=(by omega);subst hjn;have hz:X=z++⟨#[41]⟩:=(by rw [HE.out,Hz.out,HSC.out,List.take_of_length_le (by have:=HNS.out;omega)];rfl);have hzs:z.size+1≤1000000000000000000:=by
        have h1:=Hz.out;rw [HSC.out,List.take_of_length_le (by have:=HNS.out;omega)] at h1;rw [h1];simp only [ByteArray.size_append];exact hTot
       have HZ:=hide hz;clear Hz hz;go_wp2_with fail;go_meet
       case rel=>exact ⟨by rw [HZ.out],BQ⟩
      case pos=>
       have hjl:j<S.length:=(by have:=HNS.out;omega);have HY:=hide (Tx.cat_take (fun _ s=>[⟨#[44,32]⟩]++Tx.sizeP s) S j hjl);have hMle:=cat_mid_le (fun _ s=>[⟨#[44,32]⟩]++Tx.sizeP s) S j hjl;have hzj:=HZS.out S[j] (List.getElem_mem hjl);obtain ⟨ao',cap',e1,_,_,hat⟩:=(HSX.out.under BQ).at;injection e1 with e2 e3 e4;subst e2 e4;obtain ⟨bl,o,au,nu,cu,e5,hbl,d0,hte⟩:=hat j hjl;subst e5;clear hat e3;have htq:=htab.under BQ;generalize S[j]=x at HY hMle hzj hte;have hcat:Tx.cat ([⟨#[44,32]⟩]++Tx.sizeP x)=⟨#[44,32]⟩++Tx.cat (Tx.sizeP x):=(by rw [Tx.cat_append,Tx.cat_one]);rw [hcat] at HY hMle;rw [ByteArray.size_append,show (⟨#[44,32]⟩:ByteArray).size=2 from rfl] at hMle;have hzs:z.size+(2+(Tx.cat (Tx.sizeP x)).size)≤1000000000000000000:=by
        rw [Hz.out,HSC.out];simp only [ByteArray.size_append];have:(Tx.cat (Tx.sizesP S)).size=(Tx.cat (Tx.rowP (fun _ s=>[⟨#[44,32]⟩]++Tx.sizeP s) 0 S)).size:=rfl;omega
       have hc:=sizeText_any hte htq hzj (by unfold Tx.fitX;omega);generalize Tx.cat (Tx.sizeP x)=D at HY hc hzs hMle;clear hcat hMle;go_wp2_with fail;refine hc.mono ?_;rintro e w5 ⟨rfl,b5⟩;go_wp2_with fail;go_roundg (nS-(j+1))
       case measure=>omega
       case rel=>exact ⟨j+1,by omega,rfl,by go_num,⟨_,rfl,hide (by rw [HY.out,←ByteArray.append_assoc (a:=s),←Hz.out])⟩,bq.trans (b5.mono bq.size)⟩
    case pos=>
     have hil:i<L.length:=(by have:=HNL.out;omega);have HY:=hide (Tx.cat_take (Tx.comma Tx.exprP) L i hil);have hMle:=cat_mid_le (Tx.comma Tx.exprP) L i hil;have hDi:=HDL.out L[i] (List.getElem_mem hil);obtain ⟨ao',cap',e1,_,_,hat⟩:=(HLX.out.under BR).at;injection e1 with e2 e3 e4;subst e2 e4;obtain ⟨bl,o,y,e5,hok,hbl,hy,hex⟩:=hat i hil;subst e5;clear hat e3;obtain ⟨d0,d1,d2,d3,d4,d5⟩:=hy;have htr:=htab.under BR;generalize L[i]=x at HY hMle hDi hex;have hss:s.size+(Tx.cat (Tx.comma Tx.exprP i x)).size≤1000000000000000000:=by
      rw [H.out];simp only [ByteArray.size_append];have:(Tx.cat (Tx.commas Tx.exprP L)).size=(Tx.cat (Tx.rowP (Tx.comma Tx.exprP) 0 L)).size:=rfl;omega
     have hfx:Tx.fitX (Tx.partP x 0):=by
      unfold Tx.fitX;rw [←exprP_eq];have:(Tx.cat (Tx.exprP x)).size≤(Tx.cat (Tx.comma Tx.exprP i x)).size:=by
       unfold Tx.comma
       split
       ·exact Nat.le_refl _
       ·rw [Tx.cat_append,ByteArray.size_append];omega
      omega
     have hc:=hDi ok wr y 0 hex htr (by omega) (by omega) hfx;rw [←exprP_eq] at hc;obtain ⟨yo,yk,yn,ys,yaS,ynS,ycS,yaL,ynL,ycL⟩:=y
     dsimp only at d0 d1 d2 d3 d4 d5 hc
     clear hMle hfx;by_cases hi0:i=0
     ·have hi0I:¬(0:Int)<(i:Int):=by omega
      have hcm:Tx.cat (Tx.comma Tx.exprP i x)=Tx.cat (Tx.exprP x):=(by rw [Tx.comma,if_pos hi0]);have HI0:=hide hi0;clear hi0;rw [hcm] at hss HY;clear hcm;generalize Tx.cat (Tx.exprP x)=D at hss HY hc;go_wp2_with fail;refine hc.mono ?_;rintro e w5 ⟨rfl,b5⟩;go_wp2_with fail;go_roundg (nL-(i+1))
      case measure=>omega
      case rel=>exact ⟨i+1,by omega,rfl,by go_num,⟨_,rfl,hide (by rw [HY.out,←ByteArray.append_assoc,←H.out])⟩,br.trans (b5.mono br.size)⟩
     ·have hi0I:(0:Int)<(i:Int):=by omega
      have hcm:Tx.cat (Tx.comma Tx.exprP i x)=⟨#[44,32]⟩++Tx.cat (Tx.exprP x):=(by rw [Tx.comma,if_neg hi0,Tx.cat_append,Tx.cat_one]);rw [hcm] at hss HY;clear hcm;generalize Tx.cat (Tx.exprP x)=D at hss HY hc;have hss2:s.size+2+D.size≤1000000000000000000:=(by rw [ByteArray.size_append,show (⟨#[44,32]⟩:ByteArray).size=2 from rfl] at hss;omega);clear hss;go_wp2_with fail;refine hc.mono ?_;rintro e w5 ⟨rfl,b5⟩;go_wp2_with fail;go_roundg (nL-(i+1))
      case measure=>omega
      case rel=>exact ⟨i+1,by omega,rfl,by go_num,⟨_,rfl,hide (by rw [HY.out,←ByteArray.append_assoc (a:=P0),←H.out];simp only [ByteArray.append_assoc])⟩,br.trans (b5.mono br.size)⟩
  have f5:((p:Int)==5)=false:=(by simp;omega);have hXF:X=Tx.cat (Tx.formP p q S (Tx.bares L)):=(by rw [HX0.out,if_neg (by omega),if_neg (by omega),if_neg (by omega),if_neg (by omega),if_neg (by omega),if_neg (by omega),if_neg (by omega)]);unfold Tx.formP at hXF;rw [Int.toNat_natCast,Int.toNat_natCast,Tx.commas_bares] at hXF;by_cases c789:p=7∨p=8∨p=9
  ·have hq0:(q:Int)≠0:=by
    have h1:1≤(Rn.shp p).2.2.2.2.1:=by rcases c789 with rfl | rfl | rfl<;>decide
    omega
   have hXX:X=(Rn.shp p).1++⟨#[40]⟩++((Tx.opT q).1++⟨#[44,32]⟩)++Tx.cat (Tx.commas Tx.exprP L)++Tx.cat (Tx.sizesP S)++⟨#[41]⟩:=by
    rw [hXF,if_neg hq0];simp only [Tx.cat_append,Tx.cat,ByteArray.append_empty,ByteArray.append_assoc]
   have HC:=hide c789;clear HX0 HXS HRK hbin hl1 hl2 hs1 hk1 hk2 hkk hse hXF hq0 ho1 ho15;generalize (Tx.opT q).1=wd at hXX hco hok0;generalize (Rn.shp p).1=sw at hXX hcw hok1;rcases c789 with c7 | c8 | c9
   ·have f7:((p:Int)==7)=true:=by simp [c7]
    have f8:((p:Int)==8)=false:=(by simp;omega);have f9:((p:Int)==9)=false:=(by simp;omega);have HC7:=hide c7;clear c7 c5;obtain ⟨P0,hP0⟩:=nmQ (sw++⟨#[40]⟩++(wd++⟨#[44,32]⟩));rw [←hP0] at hXX;have HP0:=hide hP0;have hTot:P0.size+(Tx.cat (Tx.commas Tx.exprP L)).size+(Tx.cat (Tx.sizesP S)).size+1≤1000000000000000000:=(by have:=hXsz;rw [hXX] at this;simp only [ByteArray.size_append,sz_lit1] at this;exact this);have HE:=hide hXX;clear hXX hXsz
    go_upto_region 11 with fail
    clear hP0;go_wp2_with fail;go_loopg [9,11] nL (fun gk v9 v11 wr=>∃ i,i≤nL∧gk=nL-i∧v11=.int .i64 (i:Nat)∧(∃ s,v9=.string s∧Hid (s=P0++Tx.cat (Tx.rowP (Tx.comma Tx.exprP) 0 (L.take i))))∧Below W.heap.size W wr)
    case atStart=>exact ⟨0,Nat.zero_le _,rfl,rfl,⟨_,rfl,hide (by show _=P0++ByteArray.empty;rw [ByteArray.append_empty];exact HP0.out.symm)⟩,Below.refl _ _⟩
    case round=>
     obtain ⟨i,hi,rfl,rfl,⟨s,rfl,H⟩,br⟩:=hrel;have BR:=B4.trans (br.mono B4.size);have kLr:=(br.block _ (lt_of kL4)).trans kL4;have r5:=co kLr 5;have r4:=co kLr 4;simp at r5 r4;by_cases hlt:i<nL
     case neg=>
      have hin:i=nL:=(by omega);subst hin;have hsC:s=P0++Tx.cat (Tx.commas Tx.exprP L):=(by rw [H.out,List.take_of_length_le (by have:=HNL.out;omega)];rfl);have HSC:=hide hsC;clear H hsC;go_wp2_with fail;go_loopg [9,12] nS (fun gk v9 v12 wq=>∃ j,j≤nS∧gk=nS-j∧v12=.int .i64 (j:Nat)∧(∃ z,v9=.string z∧Hid (z=s++Tx.cat (Tx.rowP (fun _ s=>[⟨#[44,32]⟩]++Tx.sizeP s) 0 (S.take j))))∧Below W.heap.size W wq)
      case atStart=>exact ⟨0,Nat.zero_le _,rfl,rfl,⟨_,rfl,hide (by show _=s++ByteArray.empty;rw [ByteArray.append_empty])⟩,br⟩
      case round=>
       obtain ⟨j,hj,rfl,rfl,⟨z,rfl,Hz⟩,bq⟩:=hrel;have BQ:=B4.trans (bq.mono B4.size);have kLq:=(bq.block _ (lt_of kL4)).trans kL4;have t4:=co kLq 4;simp at t4;by_cases hlt2:j<nS
       case neg=>
        have hjn:j=nS:=(by omega);subst hjn;have hz:X=z++⟨#[41]⟩:=(by rw [HE.out,Hz.out,HSC.out,List.take_of_length_le (by have:=HNS.out;omega)];rfl);have hzs:z.size+1≤1000000000000000000:=by
         have h1:=Hz.out;rw [HSC.out,List.take_of_length_le (by have:=HNS.out;omega)] at h1;rw [h1];simp only [ByteArray.size_append];exact hTot
        have HZ:=hide hz;clear Hz hz;go_wp2_with fail;go_meet
        case rel=>exact ⟨by rw [HZ.out],BQ⟩
       case pos=>
        have hjl:j<S.length:=(by have:=HNS.out;omega);have HY:=hide (Tx.cat_take (fun _ s=>[⟨#[44,32]⟩]++Tx.sizeP s) S j hjl);have hMle:=cat_mid_le (fun _ s=>[⟨#[44,32]⟩]++Tx.sizeP s) S j hjl;have hzj:=HZS.out S[j] (List.getElem_mem hjl);obtain ⟨ao',cap',e1,_,_,hat⟩:=(HSX.out.under BQ).at;injection e1 with e2 e3 e4;subst e2 e4;obtain ⟨bl,o,au,nu,cu,e5,hbl,d0,hte⟩:=hat j hjl;subst e5;clear hat e3;have htq:=htab.under BQ;generalize S[j]=x at HY hMle hzj hte;have hcat:Tx.cat ([⟨#[44,32]⟩]++Tx.sizeP x)=⟨#[44,32]⟩++Tx.cat (Tx.sizeP x):=(by rw [Tx.cat_append,Tx.cat_one]);rw [hcat] at HY hMle;rw [ByteArray.size_append,show (⟨#[44,32]⟩:ByteArray).size=2 from rfl] at hMle;have hzs:z.size+(2+(Tx.cat (Tx.sizeP x)).size)≤1000000000000000000:=by
         rw [Hz.out,HSC.out];simp only [ByteArray.size_append];have:(Tx.cat (Tx.sizesP S)).size=(Tx.cat (Tx.rowP (fun _ s=>[⟨#[44,32]⟩]++Tx.sizeP s) 0 S)).size:=rfl;omega
        have hc:=sizeText_any hte htq hzj (by unfold Tx.fitX;omega);generalize Tx.cat (Tx.sizeP x)=D at HY hc hzs hMle;clear hcat hMle;go_wp2_with fail;refine hc.mono ?_;rintro e w5 ⟨rfl,b5⟩;go_wp2_with fail;go_roundg (nS-(j+1))
        case measure=>omega
        case rel=>exact ⟨j+1,by omega,rfl,by go_num,⟨_,rfl,hide (by rw [HY.out,←ByteArray.append_assoc (a:=s),←Hz.out])⟩,bq.trans (b5.mono bq.size)⟩
     case pos=>
      have hil:i<L.length:=(by have:=HNL.out;omega);have HY:=hide (Tx.cat_take (Tx.comma Tx.exprP) L i hil);have hMle:=cat_mid_le (Tx.comma Tx.exprP) L i hil;have hDi:=HDL.out L[i] (List.getElem_mem hil);obtain ⟨ao',cap',e1,_,_,hat⟩:=(HLX.out.under BR).at;injection e1 with e2 e3 e4;subst e2 e4;obtain ⟨bl,o,y,e5,hok,hbl,hy,hex⟩:=hat i hil;subst e5;clear hat e3;obtain ⟨d0,d1,d2,d3,d4,d5⟩:=hy;have htr:=htab.under BR;generalize L[i]=x at HY hMle hDi hex;have hss:s.size+(Tx.cat (Tx.comma Tx.exprP i x)).size≤1000000000000000000:=by
       rw [H.out];simp only [ByteArray.size_append];have:(Tx.cat (Tx.commas Tx.exprP L)).size=(Tx.cat (Tx.rowP (Tx.comma Tx.exprP) 0 L)).size:=rfl;omega
      have hfx:Tx.fitX (Tx.partP x 0):=by
       unfold Tx.fitX;rw [←exprP_eq];have:(Tx.cat (Tx.exprP x)).size≤(Tx.cat (Tx.comma Tx.exprP i x)).size:=by
        unfold Tx.comma
        split
        ·exact Nat.le_refl _
        ·rw [Tx.cat_append,ByteArray.size_append];omega
       omega
      have hc:=hDi ok wr y 0 hex htr (by omega) (by omega) hfx;rw [←exprP_eq] at hc;obtain ⟨yo,yk,yn,ys,yaS,ynS,ycS,yaL,ynL,ycL⟩:=y
      dsimp only at d0 d1 d2 d3 d4 d5 hc
      clear hMle hfx;by_cases hi0:i=0
      ·have hi0I:¬(0:Int)<(i:Int):=by omega
       have hcm:Tx.cat (Tx.comma Tx.exprP i x)=Tx.cat (Tx.exprP x):=(by rw [Tx.comma,if_pos hi0]);have HI0:=hide hi0;clear hi0;rw [hcm] at hss HY;clear hcm;generalize Tx.cat (Tx.exprP x)=D at hss HY hc;go_wp2_with fail;refine hc.mono ?_;rintro e w5 ⟨rfl,b5⟩;go_wp2_with fail;go_roundg (nL-(i+1))
       case measure=>omega
       case rel=>exact ⟨i+1,by omega,rfl,by go_num,⟨_,rfl,hide (by rw [HY.out,←ByteArray.append_assoc,←H.out])⟩,br.trans (b5.mono br.size)⟩
      ·have hi0I:(0:Int)<(i:Int):=by omega
       have hcm:Tx.cat (Tx.comma Tx.exprP i x)=⟨#[44,32]⟩++Tx.cat (Tx.exprP x):=(by rw [Tx.comma,if_neg hi0,Tx.cat_append,Tx.cat_one]);rw [hcm] at hss HY;clear hcm;generalize Tx.cat (Tx.exprP x)=D at hss HY hc;have hss2:s.size+2+D.size≤1000000000000000000:=(by rw [ByteArray.size_append,show (⟨#[44,32]⟩:ByteArray).size=2 from rfl] at hss;omega);clear hss;go_wp2_with fail;refine hc.mono ?_;rintro e w5 ⟨rfl,b5⟩;go_wp2_with fail;go_roundg (nL-(i+1))
       case measure=>omega
       case rel=>exact ⟨i+1,by omega,rfl,by go_num,⟨_,rfl,hide (by rw [HY.out,←ByteArray.append_assoc (a:=P0),←H.out];simp only [ByteArray.append_assoc])⟩,br.trans (b5.mono br.size)⟩
   ·have f7:((p:Int)==7)=false:=by simp;omega
    have f8:((p:Int)==8)=true:=(by simp [c8]);have f9:((p:Int)==9)=false:=(by simp;omega);have HC8:=hide c8;clear c8 c5;obtain ⟨P0,hP0⟩:=nmQ (sw++⟨#[40]⟩++(wd++⟨#[44,32]⟩));rw [←hP0] at hXX;have HP0:=hide hP0;have hTot:P0.size+(Tx.cat (Tx.commas Tx.exprP L)).size+(Tx.cat (Tx.sizesP S)).size+1≤1000000000000000000:=(by have:=hXsz;rw [hXX] at this;simp only [ByteArray.size_append,sz_lit1] at this;exact this);have HE:=hide hXX;clear hXX hXsz
    go_upto_region 11 with fail
    clear hP0;go_wp2_with fail;go_loopg [9,11] nL (fun gk v9 v11 wr=>∃ i,i≤nL∧gk=nL-i∧v11=.int .i64 (i:Nat)∧(∃ s,v9=.string s∧Hid (s=P0++Tx.cat (Tx.rowP (Tx.comma Tx.exprP) 0 (L.take i))))∧Below W.heap.size W wr)
    case atStart=>exact ⟨0,Nat.zero_le _,rfl,rfl,⟨_,rfl,hide (by show _=P0++ByteArray.empty;rw [ByteArray.append_empty];exact HP0.out.symm)⟩,Below.refl _ _⟩
    case round=>
     obtain ⟨i,hi,rfl,rfl,⟨s,rfl,H⟩,br⟩:=hrel;have BR:=B4.trans (br.mono B4.size);have kLr:=(br.block _ (lt_of kL4)).trans kL4;have r5:=co kLr 5;have r4:=co kLr 4;simp at r5 r4;by_cases hlt:i<nL
     case neg=>
      have hin:i=nL:=(by omega);subst hin;have hsC:s=P0++Tx.cat (Tx.commas Tx.exprP L):=(by rw [H.out,List.take_of_length_le (by have:=HNL.out;omega)];rfl);have HSC:=hide hsC;clear H hsC;go_wp2_with fail;go_loopg [9,12] nS (fun gk v9 v12 wq=>∃ j,j≤nS∧gk=nS-j∧v12=.int .i64 (j:Nat)∧(∃ z,v9=.string z∧Hid (z=s++Tx.cat (Tx.rowP (fun _ s=>[⟨#[44,32]⟩]++Tx.sizeP s) 0 (S.take j))))∧Below W.heap.size W wq)
      case atStart=>exact ⟨0,Nat.zero_le _,rfl,rfl,⟨_,rfl,hide (by show _=s++ByteArray.empty;rw [ByteArray.append_empty])⟩,br⟩
      case round=>
       obtain ⟨j,hj,rfl,rfl,⟨z,rfl,Hz⟩,bq⟩:=hrel;have BQ:=B4.trans (bq.mono B4.size);have kLq:=(bq.block _ (lt_of kL4)).trans kL4;have t4:=co kLq 4;simp at t4;by_cases hlt2:j<nS
       case neg=>
        have hjn:j=nS:=(by omega);subst hjn;have hz:X=z++⟨#[41]⟩:=(by rw [HE.out,Hz.out,HSC.out,List.take_of_length_le (by have:=HNS.out;omega)];rfl);have hzs:z.size+1≤1000000000000000000:=by
         have h1:=Hz.out;rw [HSC.out,List.take_of_length_le (by have:=HNS.out;omega)] at h1;rw [h1];simp only [ByteArray.size_append];exact hTot
        have HZ:=hide hz;clear Hz hz;go_wp2_with fail;go_meet
        case rel=>exact ⟨by rw [HZ.out],BQ⟩
       case pos=>
        have hjl:j<S.length:=(by have:=HNS.out;omega);have HY:=hide (Tx.cat_take (fun _ s=>[⟨#[44,32]⟩]++Tx.sizeP s) S j hjl);have hMle:=cat_mid_le (fun _ s=>[⟨#[44,32]⟩]++Tx.sizeP s) S j hjl;have hzj:=HZS.out S[j] (List.getElem_mem hjl);obtain ⟨ao',cap',e1,_,_,hat⟩:=(HSX.out.under BQ).at;injection e1 with e2 e3 e4;subst e2 e4;obtain ⟨bl,o,au,nu,cu,e5,hbl,d0,hte⟩:=hat j hjl;subst e5;clear hat e3;have htq:=htab.under BQ;generalize S[j]=x at HY hMle hzj hte;have hcat:Tx.cat ([⟨#[44,32]⟩]++Tx.sizeP x)=⟨#[44,32]⟩++Tx.cat (Tx.sizeP x):=(by rw [Tx.cat_append,Tx.cat_one]);rw [hcat] at HY hMle;rw [ByteArray.size_append,show (⟨#[44,32]⟩:ByteArray).size=2 from rfl] at hMle;have hzs:z.size+(2+(Tx.cat (Tx.sizeP x)).size)≤1000000000000000000:=by
         rw [Hz.out,HSC.out];simp only [ByteArray.size_append];have:(Tx.cat (Tx.sizesP S)).size=(Tx.cat (Tx.rowP (fun _ s=>[⟨#[44,32]⟩]++Tx.sizeP s) 0 S)).size:=rfl;omega
        have hc:=sizeText_any hte htq hzj (by unfold Tx.fitX;omega);generalize Tx.cat (Tx.sizeP x)=D at HY hc hzs hMle;clear hcat hMle;go_wp2_with fail;refine hc.mono ?_;rintro e w5 ⟨rfl,b5⟩;go_wp2_with fail;go_roundg (nS-(j+1))
        case measure=>omega
        case rel=>exact ⟨j+1,by omega,rfl,by go_num,⟨_,rfl,hide (by rw [HY.out,←ByteArray.append_assoc (a:=s),←Hz.out])⟩,bq.trans (b5.mono bq.size)⟩
     case pos=>
      have hil:i<L.length:=(by have:=HNL.out;omega);have HY:=hide (Tx.cat_take (Tx.comma Tx.exprP) L i hil);have hMle:=cat_mid_le (Tx.comma Tx.exprP) L i hil;have hDi:=HDL.out L[i] (List.getElem_mem hil);obtain ⟨ao',cap',e1,_,_,hat⟩:=(HLX.out.under BR).at;injection e1 with e2 e3 e4;subst e2 e4;obtain ⟨bl,o,y,e5,hok,hbl,hy,hex⟩:=hat i hil;subst e5;clear hat e3;obtain ⟨d0,d1,d2,d3,d4,d5⟩:=hy;have htr:=htab.under BR;generalize L[i]=x at HY hMle hDi hex;have hss:s.size+(Tx.cat (Tx.comma Tx.exprP i x)).size≤1000000000000000000:=by
       rw [H.out];simp only [ByteArray.size_append];have:(Tx.cat (Tx.commas Tx.exprP L)).size=(Tx.cat (Tx.rowP (Tx.comma Tx.exprP) 0 L)).size:=rfl;omega
      have hfx:Tx.fitX (Tx.partP x 0):=by
       unfold Tx.fitX;rw [←exprP_eq];have:(Tx.cat (Tx.exprP x)).size≤(Tx.cat (Tx.comma Tx.exprP i x)).size:=by
        unfold Tx.comma
        split
        ·exact Nat.le_refl _
        ·rw [Tx.cat_append,ByteArray.size_append];omega
       omega
      have hc:=hDi ok wr y 0 hex htr (by omega) (by omega) hfx;rw [←exprP_eq] at hc;obtain ⟨yo,yk,yn,ys,yaS,ynS,ycS,yaL,ynL,ycL⟩:=y
      dsimp only at d0 d1 d2 d3 d4 d5 hc
      clear hMle hfx;by_cases hi0:i=0
      ·have hi0I:¬(0:Int)<(i:Int):=by omega
       have hcm:Tx.cat (Tx.comma Tx.exprP i x)=Tx.cat (Tx.exprP x):=(by rw [Tx.comma,if_pos hi0]);have HI0:=hide hi0;clear hi0;rw [hcm] at hss HY;clear hcm;generalize Tx.cat (Tx.exprP x)=D at hss HY hc;go_wp2_with fail;refine hc.mono ?_;rintro e w5 ⟨rfl,b5⟩;go_wp2_with fail;go_roundg (nL-(i+1))
       case measure=>omega
       case rel=>exact ⟨i+1,by omega,rfl,by go_num,⟨_,rfl,hide (by rw [HY.out,←ByteArray.append_assoc,←H.out])⟩,br.trans (b5.mono br.size)⟩
      ·have hi0I:(0:Int)<(i:Int):=by omega
       have hcm:Tx.cat (Tx.comma Tx.exprP i x)=⟨#[44,32]⟩++Tx.cat (Tx.exprP x):=(by rw [Tx.comma,if_neg hi0,Tx.cat_append,Tx.cat_one]);rw [hcm] at hss HY;clear hcm;generalize Tx.cat (Tx.exprP x)=D at hss HY hc;have hss2:s.size+2+D.size≤1000000000000000000:=(by rw [ByteArray.size_append,show (⟨#[44,32]⟩:ByteArray).size=2 from rfl] at hss;omega);clear hss;go_wp2_with fail;refine hc.mono ?_;rintro e w5 ⟨rfl,b5⟩;go_wp2_with fail;go_roundg (nL-(i+1))
       case measure=>omega
       case rel=>exact ⟨i+1,by omega,rfl,by go_num,⟨_,rfl,hide (by rw [HY.out,←ByteArray.append_assoc (a:=P0),←H.out];simp only [ByteArray.append_assoc])⟩,br.trans (b5.mono br.size)⟩
   ·have f7:((p:Int)==7)=false:=by simp;omega
    have f8:((p:Int)==8)=false:=(by simp;omega);have f9:((p:Int)==9)=true:=(by simp [c9]);have HC9:=hide c9;clear c9 c5;obtain ⟨P0,hP0⟩:=nmQ (sw++⟨#[40]⟩++(wd++⟨#[44,32]⟩));rw [←hP0] at hXX;have HP0:=hide hP0;have hTot:P0.size+(Tx.cat (Tx.commas Tx.exprP L)).size+(Tx.cat (Tx.sizesP S)).size+1≤1000000000000000000:=(by have:=hXsz;rw [hXX] at this;simp only [ByteArray.size_append,sz_lit1] at this;exact this);have HE:=hide hXX;clear hXX hXsz
    go_upto_region 11 with fail
    clear hP0;go_wp2_with fail;go_loopg [9,11] nL (fun gk v9 v11 wr=>∃ i,i≤nL∧gk=nL-i∧v11=.int .i64 (i:Nat)∧(∃ s,v9=.string s∧Hid (s=P0++Tx.cat (Tx.rowP (Tx.comma Tx.exprP) 0 (L.take i))))∧Below W.heap.size W wr)
    case atStart=>exact ⟨0,Nat.zero_le _,rfl,rfl,⟨_,rfl,hide (by show _=P0++ByteArray.empty;rw [ByteArray.append_empty];exact HP0.out.symm)⟩,Below.refl _ _⟩
    case round=>
     obtain ⟨i,hi,rfl,rfl,⟨s,rfl,H⟩,br⟩:=hrel;have BR:=B4.trans (br.mono B4.size);have kLr:=(br.block _ (lt_of kL4)).trans kL4;have r5:=co kLr 5;have r4:=co kLr 4;simp at r5 r4;by_cases hlt:i<nL
     case neg=>
      have hin:i=nL:=(by omega);subst hin;have hsC:s=P0++Tx.cat (Tx.commas Tx.exprP L):=(by rw [H.out,List.take_of_length_le (by have:=HNL.out;omega)];rfl);have HSC:=hide hsC;clear H hsC;go_wp2_with fail;go_loopg [9,12] nS (fun gk v9 v12 wq=>∃ j,j≤nS∧gk=nS-j∧v12=.int .i64 (j:Nat)∧(∃ z,v9=.string z∧Hid (z=s++Tx.cat (Tx.rowP (fun _ s=>[⟨#[44,32]⟩]++Tx.sizeP s) 0 (S.take j))))∧Below W.heap.size W wq)
      case atStart=>exact ⟨0,Nat.zero_le _,rfl,rfl,⟨_,rfl,hide (by show _=s++ByteArray.empty;rw [ByteArray.append_empty])⟩,br⟩
      case round=>
       obtain ⟨j,hj,rfl,rfl,⟨z,rfl,Hz⟩,bq⟩:=hrel;have BQ:=B4.trans (bq.mono B4.size);have kLq:=(bq.block _ (lt_of kL4)).trans kL4;have t4:=co kLq 4;simp at t4;by_cases hlt2:j<nS
       case neg=>
        have hjn:j=nS:=(by omega);subst hjn;have hz:X=z++⟨#[41]⟩:=(by rw [HE.out,Hz.out,HSC.out,List.take_of_length_le (by have:=HNS.out;omega)];rfl);have hzs:z.size+1≤1000000000000000000:=by
         have h1:=Hz.out;rw [HSC.out,List.take_of_length_le (by have:=HNS.out;omega)] at h1;rw [h1];simp only [ByteArray.size_append];exact hTot
        have HZ:=hide hz;clear Hz hz;go_wp2_with fail;go_meet
        case rel=>exact ⟨by rw [HZ.out],BQ⟩
       case pos=>
        have hjl:j<S.length:=(by have:=HNS.out;omega);have HY:=hide (Tx.cat_take (fun _ s=>[⟨#[44,32]⟩]++Tx.sizeP s) S j hjl);have hMle:=cat_mid_le (fun _ s=>[⟨#[44,32]⟩]++Tx.sizeP s) S j hjl;have hzj:=HZS.out S[j] (List.getElem_mem hjl);obtain ⟨ao',cap',e1,_,_,hat⟩:=(HSX.out.under BQ).at;injection e1 with e2 e3 e4;subst e2 e4;obtain ⟨bl,o,au,nu,cu,e5,hbl,d0,hte⟩:=hat j hjl;subst e5;clear hat e3;have htq:=htab.under BQ;generalize S[j]=x at HY hMle hzj hte;have hcat:Tx.cat ([⟨#[44,32]⟩]++Tx.sizeP x)=⟨#[44,32]⟩++Tx.cat (Tx.sizeP x):=(by rw [Tx.cat_append,Tx.cat_one]);rw [hcat] at HY hMle;rw [ByteArray.size_append,show (⟨#[44,32]⟩:ByteArray).size=2 from rfl] at hMle;have hzs:z.size+(2+(Tx.cat (Tx.sizeP x)).size)≤1000000000000000000:=by
         rw [Hz.out,HSC.out];simp only [ByteArray.size_append];have:(Tx.cat (Tx.sizesP S)).size=(Tx.cat (Tx.rowP (fun _ s=>[⟨#[44,32]⟩]++Tx.sizeP s) 0 S)).size:=rfl;omega
        have hc:=sizeText_any hte htq hzj (by unfold Tx.fitX;omega);generalize Tx.cat (Tx.sizeP x)=D at HY hc hzs hMle;clear hcat hMle;go_wp2_with fail;refine hc.mono ?_;rintro e w5 ⟨rfl,b5⟩;go_wp2_with fail;go_roundg (nS-(j+1))
        case measure=>omega
        case rel=>exact ⟨j+1,by omega,rfl,by go_num,⟨_,rfl,hide (by rw [HY.out,←ByteArray.append_assoc (a:=s),←Hz.out])⟩,bq.trans (b5.mono bq.size)⟩
     case pos=>
      have hil:i<L.length:=(by have:=HNL.out;omega);have HY:=hide (Tx.cat_take (Tx.comma Tx.exprP) L i hil);have hMle:=cat_mid_le (Tx.comma Tx.exprP) L i hil;have hDi:=HDL.out L[i] (List.getElem_mem hil);obtain ⟨ao',cap',e1,_,_,hat⟩:=(HLX.out.under BR).at;injection e1 with e2 e3 e4;subst e2 e4;obtain ⟨bl,o,y,e5,hok,hbl,hy,hex⟩:=hat i hil;subst e5;clear hat e3;obtain ⟨d0,d1,d2,d3,d4,d5⟩:=hy;have htr:=htab.under BR;generalize L[i]=x at HY hMle hDi hex;have hss:s.size+(Tx.cat (Tx.comma Tx.exprP i x)).size≤1000000000000000000:=by
       rw [H.out];simp only [ByteArray.size_append];have:(Tx.cat (Tx.commas Tx.exprP L)).size=(Tx.cat (Tx.rowP (Tx.comma Tx.exprP) 0 L)).size:=rfl;omega
      have hfx:Tx.fitX (Tx.partP x 0):=by
       unfold Tx.fitX;rw [←exprP_eq];have:(Tx.cat (Tx.exprP x)).size≤(Tx.cat (Tx.comma Tx.exprP i x)).size:=by
        unfold Tx.comma
        split
        ·exact Nat.le_refl _
        ·rw [Tx.cat_append,ByteArray.size_append];omega
       omega
      have hc:=hDi ok wr y 0 hex htr (by omega) (by omega) hfx;rw [←exprP_eq] at hc;obtain ⟨yo,yk,yn,ys,yaS,ynS,ycS,yaL,ynL,ycL⟩:=y
      dsimp only at d0 d1 d2 d3 d4 d5 hc
      clear hMle hfx;by_cases hi0:i=0
      ·have hi0I:¬(0:Int)<(i:Int):=by omega
       have hcm:Tx.cat (Tx.comma Tx.exprP i x)=Tx.cat (Tx.exprP x):=(by rw [Tx.comma,if_pos hi0]);have HI0:=hide hi0;clear hi0;rw [hcm] at hss HY;clear hcm;generalize Tx.cat (Tx.exprP x)=D at hss HY hc;go_wp2_with fail;refine hc.mono ?_;rintro e w5 ⟨rfl,b5⟩;go_wp2_with fail;go_roundg (nL-(i+1))
       case measure=>omega
       case rel=>exact ⟨i+1,by omega,rfl,by go_num,⟨_,rfl,hide (by rw [HY.out,←ByteArray.append_assoc,←H.out])⟩,br.trans (b5.mono br.size)⟩
      ·have hi0I:(0:Int)<(i:Int):=by omega
       have hcm:Tx.cat (Tx.comma Tx.exprP i x)=⟨#[44,32]⟩++Tx.cat (Tx.exprP x):=(by rw [Tx.comma,if_neg hi0,Tx.cat_append,Tx.cat_one]);rw [hcm] at hss HY;clear hcm;generalize Tx.cat (Tx.exprP x)=D at hss HY hc;have hss2:s.size+2+D.size≤1000000000000000000:=(by rw [ByteArray.size_append,show (⟨#[44,32]⟩:ByteArray).size=2 from rfl] at hss;omega);clear hss;go_wp2_with fail;refine hc.mono ?_;rintro e w5 ⟨rfl,b5⟩;go_wp2_with fail;go_roundg (nL-(i+1))
       case measure=>omega
       case rel=>exact ⟨i+1,by omega,rfl,by go_num,⟨_,rfl,hide (by rw [HY.out,←ByteArray.append_assoc (a:=P0),←H.out];simp only [ByteArray.append_assoc])⟩,br.trans (b5.mono br.size)⟩
  ·have hq0:(q:Int)=0:=by
    have hall:∀ p,p<16→(5<p∧p≠7∧p≠8∧p≠9)→(Rn.shp p).2.2.2.2.1=0∧(Rn.shp p).2.2.2.2.2=0:=(by decide);have:=hall p hp16 ⟨by omega,by omega,by omega,by omega⟩;omega
   have hXX:X=(Rn.shp p).1++⟨#[40]⟩++Tx.cat (Tx.commas Tx.exprP L)++Tx.cat (Tx.sizesP S)++⟨#[41]⟩:=by
    rw [hXF,if_pos hq0];simp only [Tx.cat_append,Tx.cat,ByteArray.append_empty,ByteArray.empty_append,ByteArray.append_assoc]
   have f7:((p:Int)==7)=false:=(by simp;omega);have f8:((p:Int)==8)=false:=(by simp;omega);have f9:((p:Int)==9)=false:=(by simp;omega);have HQ0:=hide hq0;clear HX0 HXS HRK hbin hl1 hl2 hs1 hk1 hk2 hkk hse hXF hq0 ho1 ho15 c789 c5;generalize (Tx.opT q).1=wd at hco hok0;generalize (Rn.shp p).1=sw at hXX hcw hok1;obtain ⟨P0,hP0⟩:=nmQ (sw++⟨#[40]⟩);rw [←hP0] at hXX;have HP0:=hide hP0;have hTot:P0.size+(Tx.cat (Tx.commas Tx.exprP L)).size+(Tx.cat (Tx.sizesP S)).size+1≤1000000000000000000:=(by have:=hXsz;rw [hXX] at this;simp only [ByteArray.size_append,sz_lit1] at this;exact this);have HE:=hide hXX;clear hXX hXsz
   go_upto_region 11 with fail
   clear hP0;go_wp2_with fail;go_loopg [9,11] nL (fun gk v9 v11 wr=>∃ i,i≤nL∧gk=nL-i∧v11=.int .i64 (i:Nat)∧(∃ s,v9=.string s∧Hid (s=P0++Tx.cat (Tx.rowP (Tx.comma Tx.exprP) 0 (L.take i))))∧Below W.heap.size W wr)
   case atStart=>exact ⟨0,Nat.zero_le _,rfl,rfl,⟨_,rfl,hide (by show _=P0++ByteArray.empty;rw [ByteArray.append_empty];exact HP0.out.symm)⟩,Below.refl _ _⟩
   case round=>
    obtain ⟨i,hi,rfl,rfl,⟨s,rfl,H⟩,br⟩:=hrel;have BR:=B4.trans (br.mono B4.size);have kLr:=(br.block _ (lt_of kL4)).trans kL4;have r5:=co kLr 5;have r4:=co kLr 4;simp at r5 r4;by_cases hlt:i<nL
    case neg=>
     have hin:i=nL:=(by omega);subst hin;have hsC:s=P0++Tx.cat (Tx.commas Tx.exprP L):=(by rw [H.out,List.take_of_length_le (by have:=HNL.out;omega)];rfl);have HSC:=hide hsC;clear H hsC;go_wp2_with fail;go_loopg [9,12] nS (fun gk v9 v12 wq=>∃ j,j≤nS∧gk=nS-j∧v12=.int .i64 (j:Nat)∧(∃ z,v9=.string z∧Hid (z=s++Tx.cat (Tx.rowP (fun _ s=>[⟨#[44,32]⟩]++Tx.sizeP s) 0 (S.take j))))∧Below W.heap.size W wq)
     case atStart=>exact ⟨0,Nat.zero_le _,rfl,rfl,⟨_,rfl,hide (by show _=s++ByteArray.empty;rw [ByteArray.append_empty])⟩,br⟩
     case round=>
      obtain ⟨j,hj,rfl,rfl,⟨z,rfl,Hz⟩,bq⟩:=hrel;have BQ:=B4.trans (bq.mono B4.size);have kLq:=(bq.block _ (lt_of kL4)).trans kL4;have t4:=co kLq 4;simp at t4;by_cases hlt2:j<nS
      case neg=>
       have hjn:j=nS:=(by omega);subst hjn;have hz:X=z++⟨#[41]⟩:=(by rw [HE.out,Hz.out,HSC.out,List.take_of_length_le (by have:=HNS.out;omega)];rfl);have hzs:z.size+1≤1000000000000000000:=by
        have h1:=Hz.out;rw [HSC.out,List.take_of_length_le (by have:=HNS.out;omega)] at h1;rw [h1];simp only [ByteArray.size_append];exact hTot
       have HZ:=hide hz;clear Hz hz;go_wp2_with fail;go_meet
       case rel=>exact ⟨by rw [HZ.out],BQ⟩
      case pos=>
       have hjl:j<S.length:=(by have:=HNS.out;omega);have HY:=hide (Tx.cat_take (fun _ s=>[⟨#[44,32]⟩]++Tx.sizeP s) S j hjl);have hMle:=cat_mid_le (fun _ s=>[⟨#[44,32]⟩]++Tx.sizeP s) S j hjl;have hzj:=HZS.out S[j] (List.getElem_mem hjl);obtain ⟨ao',cap',e1,_,_,hat⟩:=(HSX.out.under BQ).at;injection e1 with e2 e3 e4;subst e2 e4;obtain ⟨bl,o,au,nu,cu,e5,hbl,d0,hte⟩:=hat j hjl;subst e5;clear hat e3;have htq:=htab.under BQ;generalize S[j]=x at HY hMle hzj hte;have hcat:Tx.cat ([⟨#[44,32]⟩]++Tx.sizeP x)=⟨#[44,32]⟩++Tx.cat (Tx.sizeP x):=(by rw [Tx.cat_append,Tx.cat_one]);rw [hcat] at HY hMle;rw [ByteArray.size_append,show (⟨#[44,32]⟩:ByteArray).size=2 from rfl] at hMle;have hzs:z.size+(2+(Tx.cat (Tx.sizeP x)).size)≤1000000000000000000:=by
        rw [Hz.out,HSC.out];simp only [ByteArray.size_append];have:(Tx.cat (Tx.sizesP S)).size=(Tx.cat (Tx.rowP (fun _ s=>[⟨#[44,32]⟩]++Tx.sizeP s) 0 S)).size:=rfl;omega
       have hc:=sizeText_any hte htq hzj (by unfold Tx.fitX;omega);generalize Tx.cat (Tx.sizeP x)=D at HY hc hzs hMle;clear hcat hMle;go_wp2_with fail;refine hc.mono ?_;rintro e w5 ⟨rfl,b5⟩;go_wp2_with fail;go_roundg (nS-(j+1))
       case measure=>omega
       case rel=>exact ⟨j+1,by omega,rfl,by go_num,⟨_,rfl,hide (by rw [HY.out,←ByteArray.append_assoc (a:=s),←Hz.out])⟩,bq.trans (b5.mono bq.size)⟩
    case pos=>
     have hil:i<L.length:=(by have:=HNL.out;omega);have HY:=hide (Tx.cat_take (Tx.comma Tx.exprP) L i hil);have hMle:=cat_mid_le (Tx.comma Tx.exprP) L i hil;have hDi:=HDL.out L[i] (List.getElem_mem hil);obtain ⟨ao',cap',e1,_,_,hat⟩:=(HLX.out.under BR).at;injection e1 with e2 e3 e4;subst e2 e4;obtain ⟨bl,o,y,e5,hok,hbl,hy,hex⟩:=hat i hil;subst e5;clear hat e3;obtain ⟨d0,d1,d2,d3,d4,d5⟩:=hy;have htr:=htab.under BR;generalize L[i]=x at HY hMle hDi hex;have hss:s.size+(Tx.cat (Tx.comma Tx.exprP i x)).size≤1000000000000000000:=by
      rw [H.out];simp only [ByteArray.size_append];have:(Tx.cat (Tx.commas Tx.exprP L)).size=(Tx.cat (Tx.rowP (Tx.comma Tx.exprP) 0 L)).size:=rfl;omega
     have hfx:Tx.fitX (Tx.partP x 0):=by
      unfold Tx.fitX;rw [←exprP_eq];have:(Tx.cat (Tx.exprP x)).size≤(Tx.cat (Tx.comma Tx.exprP i x)).size:=by
       unfold Tx.comma
       split
       ·exact Nat.le_refl _
       ·rw [Tx.cat_append,ByteArray.size_append];omega
      omega
     have hc:=hDi ok wr y 0 hex htr (by omega) (by omega) hfx;rw [←exprP_eq] at hc;obtain ⟨yo,yk,yn,ys,yaS,ynS,ycS,yaL,ynL,ycL⟩:=y
     dsimp only at d0 d1 d2 d3 d4 d5 hc
     clear hMle hfx;by_cases hi0:i=0
     ·have hi0I:¬(0:Int)<(i:Int):=by omega
      have hcm:Tx.cat (Tx.comma Tx.exprP i x)=Tx.cat (Tx.exprP x):=(by rw [Tx.comma,if_pos hi0]);have HI0:=hide hi0;clear hi0;rw [hcm] at hss HY;clear hcm;generalize Tx.cat (Tx.exprP x)=D at hss HY hc;go_wp2_with fail;refine hc.mono ?_;rintro e w5 ⟨rfl,b5⟩;go_wp2_with fail;go_roundg (nL-(i+1))
      case measure=>omega
      case rel=>exact ⟨i+1,by omega,rfl,by go_num,⟨_,rfl,hide (by rw [HY.out,←ByteArray.append_assoc,←H.out])⟩,br.trans (b5.mono br.size)⟩
     ·have hi0I:(0:Int)<(i:Int):=by omega
      have hcm:Tx.cat (Tx.comma Tx.exprP i x)=⟨#[44,32]⟩++Tx.cat (Tx.exprP x):=(by rw [Tx.comma,if_neg hi0,Tx.cat_append,Tx.cat_one]);rw [hcm] at hss HY;clear hcm;generalize Tx.cat (Tx.exprP x)=D at hss HY hc;have hss2:s.size+2+D.size≤1000000000000000000:=(by rw [ByteArray.size_append,show (⟨#[44,32]⟩:ByteArray).size=2 from rfl] at hss;omega);clear hss;go_wp2_with fail;refine hc.mono ?_;rintro e w5 ⟨rfl,b5⟩;go_wp2_with fail;go_roundg (nL-(i+1))
      case measure=>omega
      case rel=>exact ⟨i+1,by omega,rfl,by go_num,⟨_,rfl,hide (by rw [HY.out,←ByteArray.append_assoc (a:=P0),←H.out];simp only [ByteArray.append_assoc])⟩,br.trans (b5.mono br.size)⟩
end Go.Proofs.YtophfbefnaelfaaGreatDoor
