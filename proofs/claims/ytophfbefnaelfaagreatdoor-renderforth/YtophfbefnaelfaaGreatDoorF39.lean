import Derived.Test.YtophfbefnaelfaaGreatDoorF38
import Derived.Lib.BufferRead
import Derived.Test.YtophfbefnaelfaaGreatDoorF28
import Derived.Test.YtophfbefnaelfaaGreatDoorF07
import Derived.Test.YtophfbefnaelfaaGreatDoorF37
import Derived.Test.YtophfbefnaelfaaGreatDoorF08
import Derived.Test.YtophfbefnaelfaaGreatDoorF31
import Derived.Deep.CutBlock
import Derived.Deep.QuietTactic
import Derived.BigQuiet
import Derived.Test.YtophfbefnaelfaaGreatDoorF34
import Derived.Test.YtophfbefnaelfaaGreatDoorF35
import Derived.Test.YtophfbefnaelfaaGreatDoorF22
set_option linter.unusedVariables false
set_option linter.unusedSimpArgs false
set_option maxHeartbeats 64000000
set_option maxRecDepth 100000
namespace Go.Proofs.YtophfbefnaelfaaGreatDoor
open Go.RowKit Go.IntWalk
theorem under5:Tryz.prog.underlying 5=some (.int .u8):=by kernel_rfl
theorem own_text {w:World} {base:Nat} {t:ByteArray} {a:Option Addr} {c:Nat} (h:w.ownsRow base 5 1 (.slice a t.size c) t.size (Lib.strCells t)) :
  (convert 61 9 (.slice a t.size c)).run Tryz.prog w=.ok (.string t) w:=by
 rcases h.2 with ⟨hv,h0⟩ | ⟨g,cap,cur,hv,hb,hg,hnc,hcm,hcs,htk⟩
 ·injection hv with e1 e2 e3
  subst e1;have ht:t=⟨#[]⟩:=ByteArray.ext (Array.eq_empty_of_size_eq_zero h0);subst ht;exact Lib.run_convert_nil_bytes w 61 9 5 c under61 under5 under9
 ·injection hv with e1 e2 e3
  subst e1 e3;have hl:t.data.toList.length=t.size:=(by rw [Array.length_toList];rfl);have hc:∀ j (hj:j<t.data.toList.length),w.cell? ((⟨g,0,none⟩:Addr).add j)=some (.int .u8 (t.data.toList[j].toNat:Int)):=fun j hj=>by
   have adds:(⟨g,0,none⟩:Addr).add j=⟨g,j,none⟩:=by unfold Addr.add;split<;>simp_all
   rw [adds,co hg];have hj2:j<t.size:=(by omega);have e:(cur.toList.take (t.size*1))[j]?=(Lib.strCells t)[j]?:=(by rw [htk]);rw [List.getElem?_take_of_lt (by omega)] at e;rw [←Array.getElem?_toList,e];simp [Lib.strCells,List.getElem?_eq_getElem hj]
  have:=run_convert_bytes_back (P:=Tryz.prog) w 61 9 5 ⟨g,0,none⟩ c t.data.toList under61 under5 under9 hc;rw [hl] at this
  simpa using this
theorem print_any {ok:Nat→Prop} {w:World} {v:Value} {l:List Nd} (hl:HNds ok w v l) (hg:Gl (fun i=>i<w.heap.size) w) (hF:Rn.nsF l) :
  Calls Tryz.prog 13 #[.agg #[v]] w fun e w'=>e=.returned (.tuple #[.string (Tx.printT l),.agg #[.int .i64 (Tx.printC l).1,.int .i64 (Tx.printC l).2]])∧Below w.heap.size w w':=by
 obtain ⟨ao,cap,rfl,hc1,hc2,_⟩:=hl.at;unfold maxLen at hc2;have bW:Below w.heap.size w ((w.alloc (.cells #[.slice ao l.length cap] 24 (0,0))).alloc (.cells #[.int .i64 0,.int .i64 0] 28 (0,0))):=((Below.refl _ _).alloc nR _).alloc (by simp) _;have hchk:=checkNodes_any (hl.under bW) (hg.s.under bW) hF;obtain ⟨T,hT⟩:=nmQ (Tx.printT l);obtain ⟨C,hC⟩:=nmQ (Tx.printC l);rw [←hT,←hC];unfold Tx.printT at hT;rw [←hC] at hT;unfold Tx.printC at hC;have HT:=hide hT;have HC:=hide hC;clear hT hC;have HOK:=hide (@nodesC_ok l);generalize Rn.nodesC l=cc at hchk HC HOK;obtain ⟨cd,ca⟩:=cc
 dsimp only at hchk
 have hs1:((w.alloc (.cells #[.slice ao l.length cap] 24 (0,0))).alloc (.cells #[.int .i64 0,.int .i64 0] 28 (0,0))).heap.size=w.heap.size+2:=(by simp);have KA0:((w.alloc (.cells #[.slice ao l.length cap] 24 (0,0))).alloc (.cells #[.int .i64 0,.int .i64 0] 28 (0,0))).heap[w.heap.size]?=some (.cells #[.slice ao l.length cap] 24 (0,0)):=(Below.heap_alloc _ _ _ (by simp)).trans (heap_new w _);have KB0:((w.alloc (.cells #[.slice ao l.length cap] 24 (0,0))).alloc (.cells #[.int .i64 0,.int .i64 0] 28 (0,0))).heap[w.heap.size+1]?=some (.cells #[.int .i64 0,.int .i64 0] 28 (0,0)):=by
  have:=heap_new (w.alloc (.cells #[.slice ao l.length cap] 24 (0,0))) (.cells #[.int .i64 0,.int .i64 0] 28 (0,0))
  simpa using this
 go_enter Tryz.func13,Tryz.ntmps13;go_wp2_with fail;refine hchk.mono ?_;rintro e w1 ⟨rfl,b1⟩;have B1:=bW.trans (b1.mono (by rw [hs1];omega));have KA:=(b1.block _ (by rw [hs1];omega)).trans KA0;have KB:=(b1.block _ (by rw [hs1];omega)).trans KB0;have z1:=b1.size;rw [hs1] at z1;clear hchk KA0 KB0 hs1;have pa:=co KA 0;have pb0:=co KB 0;have pb1:=co KB 1;have pf0:=fo KB 0;have pf1:=fo KB 1;simp at pa pb0 pb1;have bF:Below w1.heap.size w1 (w1.alloc (.cells #[.int .i64 cd,.int .i64 ca] 28 (0,0))):=(Below.refl _ _).alloc nR _;have KA1:=(bF.block _ (lt_of KA)).trans KA;have KB1:=(bF.block _ (lt_of KB)).trans KB;have zF:(w1.alloc (.cells #[.int .i64 cd,.int .i64 ca] 28 (0,0))).heap.size=w1.heap.size+1:=(by simp);have BF:=B1.trans (bF.mono B1.size);have KF:=heap_new w1 (.cells #[.int .i64 cd,.int .i64 ca] 28 (0,0));have hne:w1.heap.size≠w.heap.size+1:=(by omega);clear pa pb0 pb1 pf0 pf1;by_cases hc:cd=0
 case neg=>
  have hcb:(cd != 0)=true:=(by simp [hc]);go_upto_region 3 with fail;generalize (w1.alloc (.cells #[.int .i64 cd,.int .i64 ca] 28 (0,0)))=W at KA1 KB1 zF BF KF ⊢;have pb0:=co KB1 0;have pb1:=co KB1 1;have pf0:=fo KB1 0;have pf1:=fo KB1 1;have pc0:=co KF 0;have pc1:=co KF 1;simp at pb0 pb1 pc0 pc1;have hCC:C=(cd,ca):=(by rw [HC.out,if_pos hc]);have hTT:T=⟨#[]⟩:=(by rw [HT.out,if_pos (by rw [hCC];exact hc)];rfl);clear HC HT;subst hCC hTT
  go_region
  have KR:((W.setCell ⟨w.heap.size+1,0,none⟩ (.int .i64 cd)).setCell ⟨w.heap.size+1,1,none⟩ (.int .i64 ca)).drew.heap[w.heap.size+1]?=some (.cells #[.int .i64 cd,.int .i64 ca] 28 (0,0)):=set_in (set_in KB1 0 (.int .i64 cd)) 1 (.int .i64 ca);have BR:Below w.heap.size w ((W.setCell ⟨w.heap.size+1,0,none⟩ (.int .i64 cd)).setCell ⟨w.heap.size+1,1,none⟩ (.int .i64 ca)).drew:=((BF.setCell (by simp) _).setCell (by simp) _).drew;generalize ((W.setCell ⟨w.heap.size+1,0,none⟩ (.int .i64 cd)).setCell ⟨w.heap.size+1,1,none⟩ (.int .i64 ca)).drew=WR at KR BR ⊢;have r0:=co KR 0;have r1:=co KR 1;simp at r0 r1;go_wp2;exact bodyPost_ret (v:=.tuple #[.string ⟨#[]⟩,.agg #[.int .i64 cd,.int .i64 ca]]) (by simp [results,Tryz.results13,go_sem,r0,r1]) rfl ⟨rfl,BR⟩
 case pos=>
  subst hc;go_upto_region 4 with fail;generalize (w1.alloc (.cells #[.int .i64 0,.int .i64 ca] 28 (0,0)))=W at KA1 KB1 zF BF KF ⊢;have hw:=Wr.init W;have bN:Below W.heap.size W (W.alloc (.cells #[.slice none 0 0] 63 (0,0))):=(Below.refl _ _).alloc nR _;have BN:=BF.trans (bN.mono BF.size);have KA2:=(bN.block _ (lt_of KA1)).trans KA1;have KB2:=(bN.block _ (lt_of KB1)).trans KB1;have hgN:Gl (fun i=>i<W.heap.size) (W.alloc (.cells #[.slice none 0 0] 63 (0,0))):=by
   have g:=hg.keep (Keep.ofBelow BN);have:=BF.size;exact ⟨g.s,g.o,g.t,Nat.lt_of_lt_of_le hg.k0 this,Nat.lt_of_lt_of_le hg.k1 this,Nat.lt_of_lt_of_le hg.k2 this⟩
  have hlN:HNds (fun i=>i<W.heap.size) (W.alloc (.cells #[.slice none 0 0] 63 (0,0))) (.slice ao l.length cap) l:=(hl.wide (ok':=fun i=>i<W.heap.size) (fun i _ hi=>Nat.lt_of_lt_of_le hi BF.size)).under BN;clear zF;have hprog:=programW_any hw hgN hlN (HOK.out (by simp));have pa:=co KA2 0;simp at pa;go_wp2_with fail;refine hprog.mono ?_;rintro e w2 ⟨rfl,h2,k2⟩;have KB3:=(k2.block _ (show w.heap.size+1<W.heap.size from lt_of KB1) (lt_of KB2)).trans KB2;have BZ:Below w.heap.size w w2:=BN.trans ⟨k2.os,k2.tape,k2.output,k2.size,fun i hi=>k2.block i (Nat.lt_of_lt_of_le hi BF.size) (Nat.lt_of_lt_of_le hi BN.size)⟩;have pb0:=co KB3 0;have pb1:=co KB3 1;have pf0:=fo KB3 0;have pf1:=fo KB3 1;simp at pb0 pb1;have hfull:=full_any h2;have hX:(Tx.cat (Tx.progP l)).size=ByteArray.empty.size+(Tx.cat (Tx.progP l)).size:=(by simp);by_cases hf:12000<(Tx.cat (Tx.progP l)).size
  ·have hf2:=Tx.puts_over (Tx.progP l) ByteArray.empty (by rw [←hX];exact hf)
   rw [show decide (12000<(Tx.puts ByteArray.empty (Tx.progP l)).size)=true by simp [hf2]] at hfull;have hCC:C=(7,-1):=(by rw [HC.out,if_neg (by simp),if_pos hf]);have hTT:T=⟨#[]⟩:=(by rw [HT.out,if_pos (by rw [hCC];decide)];rfl);clear HC HT hX;subst hCC hTT;have KR:((w2.setCell ⟨w.heap.size+1,0,none⟩ (.int .i64 7)).setCell ⟨w.heap.size+1,1,none⟩ (.int .i64 (-1))).heap[w.heap.size+1]?=some (.cells #[.int .i64 7,.int .i64 (-1)] 28 (0,0)):=set_in (set_in KB3 0 (.int .i64 7)) 1 (.int .i64 (-1));have BR:Below w.heap.size w ((w2.setCell ⟨w.heap.size+1,0,none⟩ (.int .i64 7)).setCell ⟨w.heap.size+1,1,none⟩ (.int .i64 (-1))):=((BZ.setCell (by simp) _).setCell (by simp) _);have r0:=co KR 0;have r1:=co KR 1;simp at r0 r1;go_wp2_with fail;refine hfull.mono ?_;rintro e w3 ⟨rfl,rfl⟩;go_wp2;exact bodyPost_ret (v:=.tuple #[.string ⟨#[]⟩,.agg #[.int .i64 7,.int .i64 (-1)]]) (by simp [results,Tryz.results13,go_sem,r0,r1]) rfl ⟨rfl,BR⟩
  ·have hf2:=Tx.puts_fit (Tx.progP l) ByteArray.empty (by rw [←hX];omega)
   rw [ByteArray.empty_append] at hf2;rw [hf2] at hfull h2;rw [show decide (12000<(Tx.cat (Tx.progP l)).size)=false by simp [hf]] at hfull;have hCC:C=(0,0):=(by rw [HC.out,if_neg (by simp),if_neg hf]);have hTT:T=Tx.cat (Tx.progP l):=(by rw [HT.out,if_neg (by rw [hCC];decide)]);clear HC HT hX;subst hCC;rw [←hTT] at h2;clear hTT hf2 hf;obtain ⟨a,c,hc,hc3,hc4,hown,hno,hblk⟩:=h2.form;have hconv:=own_text hown;have KR:((w2.setCell ⟨w.heap.size+1,0,none⟩ (.int .i64 0)).setCell ⟨w.heap.size+1,1,none⟩ (.int .i64 0)).heap[w.heap.size+1]?=some (.cells #[.int .i64 0,.int .i64 0] 28 (0,0)):=set_in (set_in KB3 0 (.int .i64 0)) 1 (.int .i64 0);have BR:Below w.heap.size w ((w2.setCell ⟨w.heap.size+1,0,none⟩ (.int .i64 0)).setCell ⟨w.heap.size+1,1,none⟩ (.int .i64 0)):=((BZ.setCell (by simp) _).setCell (by simp) _);have r0:=co KR 0;have r1:=co KR 1;simp at r0 r1;go_wp2_with fail;refine hfull.mono ?_;rintro e w3 ⟨rfl,rfl⟩;go_wp2;exact bodyPost_ret (v:=.tuple #[.string T,.agg #[.int .i64 0,.int .i64 0]]) (by simp [results,Tryz.results13,go_sem,r0,r1]) rfl ⟨rfl,BR⟩
def begT:ByteArray:=⟨#[110,111,100,101,32,97,40,41,32,45,62,32,40,121,58,32,105,110,116,94,50,41,32,123,32,121,32,61,32,102,105,108,108,40,45,40,49,32,43,32,50,41,44,32,50,41,59,32,125]⟩
def begN:List Nd:=[⟨⟨#[97]⟩,0,[],[],[⟨⟨#[121]⟩,105,[(2,⟨#[]⟩)]⟩],[],[⟨25,[⟨#[121]⟩],⟨#[]⟩,[],[(.mk 10 0 0 ⟨#[]⟩ [[(2,⟨#[]⟩)]] [.mk 4 13 0 ⟨#[]⟩ [] [.mk 5 1 0 ⟨#[]⟩ [] [(.mk 1 0 1 ⟨#[]⟩ [] []),(.mk 1 0 2 ⟨#[]⟩ [] [])]]])]⟩]⟩]
theorem beg_parse:parseT begT.data.toList=(begN,0,0):=by kernel_rfl
theorem beg_num1:Tx.num 1=⟨#[49]⟩:=by
 unfold Tx.num Lib.itoa;rw [if_neg (by decide),Lib.decDigits,dif_pos (by decide)];rfl
theorem beg_num2:Tx.num 2=⟨#[50]⟩:=by
 unfold Tx.num Lib.itoa;rw [if_neg (by decide),Lib.decDigits,dif_pos (by decide)];rfl
theorem beg_pieces:Tx.progP begN=[⟨#[110,111,100,101,32]⟩,⟨#[97]⟩,⟨#[40]⟩,⟨#[41,32,45,62,32,40]⟩,⟨#[121]⟩,⟨#[58,32]⟩,⟨#[105,110,116]⟩,⟨#[94]⟩,⟨#[]⟩,Tx.num 2,⟨#[41,32,123,10]⟩,⟨#[9]⟩,⟨#[121]⟩,⟨#[32,61,32]⟩,⟨#[102,105,108,108]⟩,⟨#[40]⟩,⟨#[45]⟩,⟨#[40]⟩,Tx.num 1,⟨#[32,43,32]⟩,Tx.num 2,⟨#[41]⟩,⟨#[44,32]⟩,⟨#[]⟩,Tx.num 2,⟨#[41]⟩,⟨#[59,10]⟩,⟨#[125,10]⟩]:=by kernel_rfl
theorem beg_cat:Tx.cat (Tx.progP begN)=⟨#[110,111,100,101,32,97,40,41,32,45,62,32,40,121,58,32,105,110,116,94,50,41,32,123,10,9,121,32,61,32,102,105,108,108,40,45,40,49,32,43,32,50,41,44,32,50,41,59,10,125,10]⟩:=by
 rw [beg_pieces,beg_num1,beg_num2];rfl
theorem beg_nodes:Rn.nodesC begN=(0,0):=by kernel_rfl
theorem beg_printC:Tx.printC begN=(0,0):=by
 unfold Tx.printC;rw [beg_nodes,if_neg (by simp),beg_cat];rfl
theorem beg_printT:Tx.printT begN=⟨#[110,111,100,101,32,97,40,41,32,45,62,32,40,121,58,32,105,110,116,94,50,41,32,123,10,9,121,32,61,32,102,105,108,108,40,45,40,49,32,43,32,50,41,44,32,50,41,59,10,125,10]⟩:=by
 unfold Tx.printT;rw [beg_printC,if_neg (by simp),beg_cat]
theorem beg_nsF:Rn.nsF begN:=by
 have hs:∀ s:ByteArray,s.size≤100→Rn.nmF s:=fun s h=>by unfold Rn.nmF maxLen;omega
 intro n hn;simp only [begN,List.mem_singleton] at hn;subst hn;refine ⟨⟨hs _ (by decide),fun s hs=>by simp at hs,fun d hd=>by simp at hd,fun d hd=>?_,fun d hd=>by simp at hd⟩,by decide,fun q hq=>?_⟩
 ·simp only [List.mem_singleton] at hd
  subst hd;refine ⟨hs _ (by decide),fun t ht=>?_⟩;simp only [List.mem_singleton] at ht;subst ht;exact hs _ (by decide)
 ·simp only [List.mem_singleton] at hq
  subst hq;refine ⟨fun s hs'=>?_,hs _ (by decide),fun s hs'=>by simp at hs',fun e he=>?_⟩
  ·simp only [List.mem_singleton] at hs'
   subst hs';exact hs _ (by decide)
  ·simp only [List.mem_singleton] at he
   subst he;have h0:Rn.nmF ⟨#[]⟩:=hs _ (by decide);have hsz:∀ s ∈ [[((2:Int),(⟨#[]⟩:ByteArray))]],Rn.szF s:=fun s hs' t ht=>by
    simp only [List.mem_singleton] at hs';subst hs';simp only [List.mem_singleton] at ht;subst ht;exact h0
   have hno:∀ s ∈ ([]:List (List Tm)),Rn.szF s:=fun s hs'=>by simp at hs'
   simp only [Rn.exF,Rn.exsF];exact ⟨h0,hsz,⟨h0,hno,⟨h0,hno,⟨h0,hno,True.intro⟩,⟨h0,hno,True.intro⟩,True.intro⟩,True.intro⟩,True.intro⟩
theorem begun_any (w:World) (hT:GlobT w) (hg:Gl (fun i=>i<w.heap.size) w):Calls Tryz.prog 8 #[] w fun e w'=>e=.returned (.bool true)∧Below w.heap.size w w':=by
 have hp:=parse_all begT w (by decide) hT;unfold PPost at hp;rw [beg_parse] at hp
 dsimp only at hp
 unfold begT at hp;go_enter Tryz.func8,Tryz.ntmps8;go_wp2_with fail;refine hp.mono ?_;rintro e w1 ⟨b1,a,n,c,rfl,hN⟩;clear hp;have bA:Below w1.heap.size w1 ((w1.alloc (.cells #[.slice a n c] 24 (0,0))).alloc (.cells #[.int .i64 0,.int .i64 0] 28 (0,0))):=((Below.refl _ _).alloc nR _).alloc (by simp) _;have BA:=b1.trans (bA.mono b1.size);have kP:((w1.alloc (.cells #[.slice a n c] 24 (0,0))).alloc (.cells #[.int .i64 0,.int .i64 0] 28 (0,0))).heap[w1.heap.size]?=some (.cells #[.slice a n c] 24 (0,0)):=(Below.heap_alloc _ _ _ (by simp)).trans (heap_new w1 _);have kZ:((w1.alloc (.cells #[.slice a n c] 24 (0,0))).alloc (.cells #[.int .i64 0,.int .i64 0] 28 (0,0))).heap[w1.heap.size+1]?=some (.cells #[.int .i64 0,.int .i64 0] 28 (0,0)):=by
  have:=heap_new (w1.alloc (.cells #[.slice a n c] 24 (0,0))) (.cells #[.int .i64 0,.int .i64 0] 28 (0,0))
  simpa using this
 go_upto_region 2 with fail;generalize ((w1.alloc (.cells #[.slice a n c] 24 (0,0))).alloc (.cells #[.int .i64 0,.int .i64 0] 28 (0,0)))=W at bA BA kP kZ ⊢;have hgW:Gl (fun i=>i<W.heap.size) W:=by
  have g:=hg.keep (Keep.ofBelow BA);have:=BA.size;exact ⟨g.s,g.o,g.t,Nat.lt_of_lt_of_le hg.k0 this,Nat.lt_of_lt_of_le hg.k1 this,Nat.lt_of_lt_of_le hg.k2 this⟩
 have hpr:=print_any (hN.under bA) hgW beg_nsF;rw [beg_printT,beg_printC] at hpr
 dsimp only at hpr
 have p0:=co kP 0;simp at p0;go_wp2_with fail;refine hpr.mono ?_;rintro e w2 ⟨rfl,b2⟩;have kZ2:=(b2.block _ (lt_of kZ)).trans kZ;have B2:=BA.trans (b2.mono BA.size);have bF:Below w2.heap.size w2 (w2.alloc (.cells #[.int .i64 0,.int .i64 0] 28 (0,0))):=(Below.refl _ _).alloc nR _;have kZ3:=(bF.block _ (lt_of kZ2)).trans kZ2;have kF:=heap_new w2 (.cells #[.int .i64 0,.int .i64 0] 28 (0,0));go_upto_region 3 with fail;generalize (w2.alloc (.cells #[.int .i64 0,.int .i64 0] 28 (0,0)))=V at bF kZ3 kF ⊢;have z0:=co kZ3 0;have f0:=co kF 0;simp at z0 f0;go_wp2;go_ret;exact ⟨rfl,B2.trans (bF.mono B2.size)⟩
theorem HSizes.one {ok:Nat→Prop} {w:World} {a:Option Addr} {n c:Nat} {l:List Tm} (h:HTerms ok w (.slice a n c) l) (t:TypeId) :
  HSizes (fun i=>ok i∨i=w.heap.size) (w.alloc (.cells #[.slice a n c] t (0,0))) (.slice (some ⟨w.heap.size,0,none⟩) 1 1) [l]:=by
 have hn:=heap_new w (.cells #[.slice a n c] t (0,0));refine ⟨fun _=>[.slice a n c],⟨_,1,rfl,Nat.le_refl _,by decide,fun _=>⟨_,0,rfl,.inr rfl,lt_of hn,fun i hi=>⟨rfl,fun j hj=>?_⟩⟩⟩,fun i hi=>⟨_,rfl,?_⟩⟩
 ·have e1:i=0:=by simpa using hi
  have e2:j=0:=(by omega);subst e1 e2;rw [co hn];rfl
 ·have e1:i=0:=by simpa using hi
  subst e1;exact (h.under ((Below.refl _ w).alloc nR _)).wide (fun i hi _=>.inl hi)
end Go.Proofs.YtophfbefnaelfaaGreatDoor
namespace Go.Proofs.YtophfbefnaelfaaGreatDoor
open Go.RowKit Go.IntWalk
namespace Tx
end Tx
theorem TabN.under {w w':World} (h:TabN w) (b:Below w.heap.size w w'):TabN w':=h.keep (b.block 1 h.lt)
end Go.Proofs.YtophfbefnaelfaaGreatDoor
namespace Go.Proofs.YtophfbefnaelfaaGreatDoor
open Go.RowKit Go.IntWalk
theorem GlobT.under {w w':World} (h:GlobT w) (b:Below w.heap.size w w'):GlobT w':=h.keep b.size (b.block 6 h.1)
theorem Gl.under {w w':World} (h:Gl (fun i=>i<w.heap.size) w) (b:Below w.heap.size w w'):Gl (fun i=>i<w'.heap.size) w':=by
 have g:=h.keep (Keep.ofBelow b);have:=b.size;exact ⟨g.s,g.o,g.t,Nat.lt_of_lt_of_le h.k0 this,Nat.lt_of_lt_of_le h.k1 this,Nat.lt_of_lt_of_le h.k2 this⟩
end Go.Proofs.YtophfbefnaelfaaGreatDoor
