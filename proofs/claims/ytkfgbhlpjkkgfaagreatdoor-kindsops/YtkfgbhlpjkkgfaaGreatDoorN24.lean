import Derived.Test.YtkfgbhlpjkkgfaaGreatDoorN21
import Derived.Test.YtkfgbhlpjkkgfaaGreatDoorN23
import Derived.Lib.BufferRead
set_option linter.unusedVariables false
set_option linter.unusedSimpArgs false
set_option maxHeartbeats 64000000
set_option maxRecDepth 100000
namespace Go.Proofs.YtkfgbhlpjkkgfaaGreatDoor
open Go.RowKit Go.IntWalk
theorem firstC_all {α:Type} {f:α→Int}:∀ {l:List α},Rn.firstC f l=0→∀ x ∈ l,f x=0
 | [],_,x,hx=>by simp at hx
 | y :: l,h,x,hx=>by
  unfold Rn.firstC at h;by_cases h0:f y=0
  ·rw [if_pos h0] at h
   rcases List.mem_cons.1 hx with rfl | hm
   ·exact h0
   ·exact firstC_all h x hm
  ·rw [if_neg h0] at h
   exact absurd h h0
theorem okS_name {s:ByteArray} (h:isName s.data.toList=true):okS s:=by
 unfold isName at h;simp only [Bool.and_eq_true,decide_eq_true_eq] at h;have:=h.1.1.1.2;unfold okS;have e:s.size=s.data.toList.length:=(by rw [Array.length_toList];rfl);omega
theorem okS_nameC {s:ByteArray} (h:Rn.nameC s=0):okS s:=by
 unfold Rn.nameC at h;by_cases hn:isName s.data.toList=true
 ·exact okS_name hn
 ·rw [if_neg hn] at h;exact absurd h (by decide)
theorem okS_empty {s:ByteArray} (h:s.size=0):okS s:=by unfold okS;omega
theorem okT_of {t:Tm} (h:Rn.termC t=0):okT t:=by
 unfold Rn.termC at h;by_cases h1:t.1 ≤ -1000000000000000000∨1000000000000000000≤t.1
 ·rw [if_pos h1] at h;exact absurd h (by decide)
 rw [if_neg h1] at h;refine ⟨by omega,by omega,?_⟩;by_cases h2:t.2.size=0
 ·exact okS_empty h2
 ·rw [if_neg h2] at h;exact okS_nameC h
theorem okZ_of {s:List Tm} (h:Rn.sizeC s=0):okZ s:=by
 unfold Rn.sizeC at h;by_cases h1:s.length=0
 ·rw [if_pos h1] at h;exact absurd h (by decide)
 rw [if_neg h1] at h;by_cases h2:30<s.length
 ·rw [if_pos h2] at h;exact absurd h (by decide)
 rw [if_neg h2] at h;exact fun x hx=>okT_of (firstC_all h x hx)
theorem okD_of {d:De} (h:Rn.declC d=0):okD d:=by
 unfold Rn.declC at h;by_cases h1:isName d.name.data.toList=false
 ·rw [if_pos h1] at h;exact absurd h (by decide)
 rw [if_neg h1] at h;by_cases h2:d.elem≠105∧d.elem≠98
 ·rw [if_pos h2] at h;exact absurd h (by decide)
 rw [if_neg h2] at h;refine ⟨okS_name (by simpa using h1),?_⟩;by_cases h3:d.n.length=0
 ·intro x hx
  rw [List.eq_nil_of_length_eq_zero h3] at hx;simp at hx
 ·rw [if_neg h3] at h;exact okZ_of h
theorem okDs_of {l:List De} (h:Rn.declsC l=0):∀ d ∈ l,okD d:=by
 unfold Rn.declsC at h;by_cases h1:30<l.length
 ·rw [if_pos h1] at h;exact absurd h (by decide)
 rw [if_neg h1] at h;exact fun x hx=>okD_of (firstC_all h x hx)
mutual
theorem okE_of:∀ (e:Ex),Rn.partC e=0→okE e
 | .mk op k n name S L,h=>by
  rw [Rn.partC] at h;by_cases h1:Rn.formOk (.mk op k n name S L)=false
  ·rw [if_pos h1] at h;exact absurd h (by decide)
  rw [if_neg h1] at h;by_cases h2:op=3∧isName name.data.toList=false
  ·rw [if_pos h2] at h;exact absurd h (by decide)
  rw [if_neg h2] at h;by_cases h3:n<0∨1000000000000000000≤n
  ·rw [if_pos h3] at h;exact absurd h (by decide)
  rw [if_neg h3] at h;by_cases h4:Rn.firstC Rn.sizeC S≠0
  ·rw [if_pos h4] at h;exact absurd h h4
  rw [if_neg h4] at h;have hF:Rn.formOk (.mk op k n name S L)=true:=(by simpa using h1);rw [okE];refine ⟨hF,by omega,?_,fun s hs=>okZ_of (firstC_all (by simpa using h4) s hs),okEs_of L h⟩;by_cases h5:op=3
  ·exact okS_name (by
    cases hh:isName name.data.toList
    ·exact absurd ⟨h5,hh⟩ h2
    ·rfl)
  ·have hF2:=hF
   simp only [Rn.formOk,Bool.and_eq_true,Bool.or_eq_true,decide_eq_true_eq,Ex.op,Ex.name] at hF2;rcases hF2.2.2 with h6 | h6
   ·exact absurd (of_decide_eq_true h6) h5
   ·exact okS_empty (of_decide_eq_true h6)
theorem okEs_of:∀ (l:List Ex),Rn.partsC l=0→okEs l
 | [],_=>by rw [okEs];exact True.intro
 | x :: l,h=>by
  rw [Rn.partsC] at h;by_cases h1:Rn.partC x=0
  ·rw [if_pos h1] at h
   rw [okEs];exact ⟨okE_of x h1,okEs_of l h⟩
  ·rw [if_neg h1] at h;exact absurd h h1
end
theorem okX_of {e:Ex} (h:Rn.exprC e=0):okE e:=by
 unfold Rn.exprC at h;by_cases h1:30<parts e
 ·rw [if_pos h1] at h;exact absurd h (by decide)
 ·rw [if_neg h1] at h;exact okE_of e h
theorem okQ_of {q:Eqn} (h:Rn.eqC q=0):okQ q:=by
 unfold Rn.eqC at h;by_cases h1:q.names.length=0∨(q.node.size=0∧¬(q.names.length=1∧q.E.length=1∧q.S.length=0))
 ·rw [if_pos h1] at h;exact absurd h (by decide)
 rw [if_neg h1] at h;by_cases h2:30<q.names.length∨30<q.E.length∨3<q.S.length
 ·rw [if_pos h2] at h;exact absurd h (by decide)
 rw [if_neg h2] at h;by_cases h3:Rn.firstC Rn.nameC q.names≠0∨(q.node.size≠0∧isName q.node.data.toList=false)
 ·rw [if_pos h3] at h;exact absurd h (by decide)
 rw [if_neg h3] at h;by_cases h4:Rn.firstC Rn.sizeC q.S≠0
 ·rw [if_pos h4] at h;exact absurd h h4
 rw [if_neg h4] at h;refine ⟨fun s hs=>okS_nameC (firstC_all (by have:=fun e=>h3 (.inl e);simpa using this) s hs),?_,fun s hs=>okZ_of (firstC_all (by simpa using h4) s hs),fun e he=>okX_of (firstC_all h e he),fun h0=>?_⟩
 ·by_cases h5:q.node.size=0
  ·exact okS_empty h5
  ·exact okS_name (by
    cases hh:isName q.node.data.toList
    ·exact absurd (.inr ⟨h5,hh⟩) h3
    ·rfl)
 ·by_cases h6:0<q.E.length
  ·exact h6
  ·exact absurd (.inr ⟨h0,fun e=>by omega⟩) h1
theorem okN_of {n:Nd} (h:Rn.headC n=0) (h2:∀ q ∈ n.eqs,Rn.eqC q=0):okN n:=by
 unfold Rn.headC at h;by_cases h1:isName n.name.data.toList=false
 ·rw [if_pos h1] at h;exact absurd h (by decide)
 rw [if_neg h1] at h;by_cases h3:3<n.sizes.length∨60<n.eqs.length
 ·rw [if_pos h3] at h;exact absurd h (by decide)
 rw [if_neg h3] at h;by_cases h4:Rn.firstC Rn.nameC n.sizes≠0
 ·rw [if_pos h4] at h;exact absurd h h4
 rw [if_neg h4] at h;by_cases h5:n.out.length=0
 ·rw [if_pos h5] at h;exact absurd h (by decide)
 rw [if_neg h5] at h;by_cases h6:Rn.declsC n.inn≠0
 ·rw [if_pos h6] at h;exact absurd h h6
 rw [if_neg h6] at h;by_cases h7:Rn.declsC n.out≠0
 ·rw [if_pos h7] at h;exact absurd h h7
 rw [if_neg h7] at h;exact ⟨okS_name (by simpa using h1),fun s hs=>okS_nameC (firstC_all (by simpa using h4) s hs),okDs_of (by simpa using h6),okDs_of (by simpa using h7),okDs_of h,fun q hq=>okQ_of (h2 q hq)⟩
theorem goE_none:∀ {l:List Eqn} {k:Nat} {d:Int × Int},((Rn.goE l k).getD d).1=0→(∀ q ∈ l,Rn.eqC q=0)∧Rn.goE l k=none
 | [],k,d,_=>⟨fun q hq=>by simp at hq,by rw [Rn.goE]⟩
 | q :: l,k,d,h=>by
  rw [Rn.goE] at h ⊢;by_cases h0:Rn.eqC q=0
  ·rw [if_pos h0] at h ⊢
   have ih:=goE_none h;exact ⟨fun x hx=>(List.mem_cons.1 hx).elim (fun e=>e ▸ h0) (ih.1 x),ih.2⟩
  ·rw [if_neg h0] at h
   exact absurd h h0
theorem goN_none:∀ {l:List Nd} {i k:Nat},(Rn.goN l i k).1=0→∀ n ∈ l,okN n
 | [],i,k,_,n,hn=>by simp at hn
 | m :: l,i,k,h,n,hn=>by
  rw [Rn.goN] at h;by_cases h0:Rn.headC m=0
  ·rw [if_pos h0] at h
   have h1:=goE_none h;rw [h1.2] at h;rcases List.mem_cons.1 hn with rfl | hm
   ·exact okN_of h0 h1.1
   ·exact goN_none h n hm
  ·rw [if_neg h0] at h
   exact absurd h h0
theorem nodesC_ok {l:List Nd} (h:(Rn.nodesC l).1=0):∀ n ∈ l,okN n:=by
 unfold Rn.nodesC at h;by_cases h1:l.length=0
 ·rw [if_pos h1] at h;exact absurd h (by decide)
 rw [if_neg h1] at h;by_cases h2:10<l.length
 ·rw [if_pos h2] at h;exact absurd h (by decide)
 rw [if_neg h2] at h;exact goN_none h
theorem HNds.wide {ok ok':Nat→Prop} {w:World} {v:Value} {l:List Nd} (h:HNds ok w v l) (hk:∀ i,ok i→i<w.heap.size→ok' i):HNds ok' w v l:=by
 obtain ⟨C,h1,h2⟩:=h;refine ⟨C,h1.wide hk,fun i hi=>?_⟩;obtain ⟨x,e,hx⟩:=h2 i hi;exact ⟨x,e,hx.wide hk⟩
theorem HNd.step {ok:Nat→Prop} {w W:World} {x:NdV} {n:Nd} {L:Nat} (h:HNd ok w x n) (k:Keep ok w W):HNd (okL ok L) W x n:=(h.keep k.size k.block).wide fun i hi _=>.inl hi
theorem HNds.step {ok:Nat→Prop} {w W:World} {v:Value} {l:List Nd} {L:Nat} (h:HNds ok w v l) (k:Keep ok w W):HNds (okL ok L) W v l:=(h.keep k.size k.block).wide fun i hi _=>.inl hi
theorem programW_any {ok:Nat→Prop} {w:World} {b:Nat} {t:ByteArray} {v:Value} {l:List Nd} (hw:Wr ok w b t) (hg:Gl ok w) (hl:HNds ok w v l) (hs:∀ n ∈ l,okN n) :
  Calls Tryz.prog 79 #[.pointer (some ⟨b,0,none⟩),.agg #[v]] w (WPost ok w b t (Tx.progP l)):=by
 obtain ⟨ao,cap,rfl,hc1,hc2,_⟩:=hl.at;unfold maxLen at hc2;have HS:=hide hs;clear hs;obtain ⟨n,hn⟩:=nmQ (l.length);rw [←hn] at hc1 hl ⊢;have HN:=hide hn;clear hn;have hw0:=hw.more (.cells #[.slice ao n cap] 24 (0,0));have hg0:=(hg.keep (Keep.alloc ok w (.cells #[.slice ao n cap] 24 (0,0)))).more w.heap.size;have K0:=Keep.refl (okL ok w.heap.size) (w.alloc (.cells #[.slice ao n cap] 24 (0,0)));have HL:=hide (fun (W:World) (k1:Keep (okL ok w.heap.size) (w.alloc (.cells #[.slice ao n cap] 24 (0,0))) W)=>(hl.step (L:=w.heap.size) k1.all).at);have HH:=hide hw0;clear hl;go_enter Tryz.func79,Tryz.ntmps79;go_wp2_with fail;go_loopg [9] n (fun k v wr=>∃ i,i≤n∧k=n-i∧v=.int .i64 (i:Nat)∧Hid (Wr (okL ok w.heap.size) wr b (Tx.puts t (Tx.rowP (fun _ n=>Tx.nodeP n) 0 (l.take i))))∧Keep (okL ok w.heap.size) (w.alloc (.cells #[.slice ao n cap] 24 (0,0))) wr)
 case atStart=>exact ⟨0,Nat.zero_le _,rfl,rfl,hide (by simpa [Tx.puts,Tx.rowP] using HH.out),K0⟩
 case round=>
  obtain ⟨i,hi,rfl,rfl,H,kr⟩:=hrel;by_cases hlt:i<n
  case neg=>
   have hin:i=n:=(by omega);subst hin;go_wp2;go_end0;refine ⟨rfl,?_,kr.all⟩;have:=H.out;rw [List.take_of_length_le (by have:=HN.out;omega)] at this;exact this.fst
  case pos=>
   have hil:i<l.length:=(by have:=HN.out;omega);have HX:=hide (Tx.puts_take (fun _ n=>Tx.nodeP n) t l i hil);have hsi:=HS.out l[i] (List.getElem_mem hil);obtain ⟨ao',cap',e1,_,_,hat⟩:=HL.out wr kr;injection e1 with e2 e3 e4;subst e2 e4;obtain ⟨bl,o,y,e5,hbl,hy,hye⟩:=hat i hil;subst e5;clear hat e3;obtain ⟨d0,d1,d2,d3,d4,d5,d6⟩:=hy;have hwr:=H.out;generalize l[i]=x at HX hsi hye;obtain ⟨yn,yp,a2,n2,c2,a3,n3,c3,a4,n4,c4,a5,n5,c5,a6,n6,c6⟩:=y
   dsimp only at d0 d1 d2 d3 d4 d5 d6
   generalize Tx.puts t (Tx.rowP (fun _ n=>Tx.nodeP n) 0 (l.take i))=ti at HX hwr H;clear H;have hw1:=hwr.more (.cells #[.string yn,.int .i64 yp,.slice a2 n2 c2,.slice a3 n3 c3,.slice a4 n4 c4,.slice a5 n5 c5,.slice a6 n6 c6] 47 (0,0));have hg1:=((hg0.keep kr).keep (Keep.alloc (okL ok w.heap.size) wr (.cells #[.string yn,.int .i64 yp,.slice a2 n2 c2,.slice a3 n3 c3,.slice a4 n4 c4,.slice a5 n5 c5,.slice a6 n6 c6] 47 (0,0)))).more wr.heap.size;go_wp2_with fail;refine (nodeW_any hw1 hg1 (hye.step (Keep.alloc (okL ok w.heap.size) wr (.cells #[.string yn,.int .i64 yp,.slice a2 n2 c2,.slice a3 n3 c3,.slice a4 n4 c4,.slice a5 n5 c5,.slice a6 n6 c6] 47 (0,0)))) hsi).mono ?_;rintro e wb ⟨rfl,hb,kb⟩;go_wp2_with fail;go_roundg (n-(i+1))
   case measure=>omega
   case rel=>exact ⟨i+1,by omega,rfl,by go_num,hide (by rw [HX.out];exact hb.fst),kr.trans kb.all⟩
theorem Wr.init (w:World):Wr (fun i=>i<w.heap.size) (w.alloc (.cells #[.slice none 0 0] 131 (0,0))) w.heap.size ByteArray.empty:=by
 refine ⟨fun k hk=>by simp;omega,by simp,by simp,.slice none 0 0,heap_new w _,?_,fun k hk=>by cases hk⟩;exact World.ownsRow_nil _ _ _ _
namespace Tx
def printC (l:List Nd):Int × Int:=if (Rn.nodesC l).1≠0 then Rn.nodesC l else if 12000<(cat (progP l)).size then (7,-1) else (0,0)
def printT (l:List Nd):ByteArray:=if (printC l).1≠0 then ByteArray.empty else cat (progP l)
end Tx
end Go.Proofs.YtkfgbhlpjkkgfaaGreatDoor
namespace Go.Proofs.YtkfgbhlpjkkgfaaGreatDoor
open Go.RowKit Go.IntWalk
theorem under5:Tryz.prog.underlying 5=some (.int .u8):=by kernel_rfl
theorem own_text {w:World} {base:Nat} {t:ByteArray} {a:Option Addr} {c:Nat} (h:w.ownsRow base 5 1 (.slice a t.size c) t.size (Lib.strCells t)) :
  (convert 129 9 (.slice a t.size c)).run Tryz.prog w=.ok (.string t) w:=by
 rcases h.2 with ⟨hv,h0⟩ | ⟨g,cap,cur,hv,hb,hg,hnc,hcm,hcs,htk⟩
 ·injection hv with e1 e2 e3
  subst e1;have ht:t=⟨#[]⟩:=ByteArray.ext (Array.eq_empty_of_size_eq_zero h0);subst ht;exact Lib.run_convert_nil_bytes w 129 9 5 c under61 under5 under9
 ·injection hv with e1 e2 e3
  subst e1 e3;have hl:t.data.toList.length=t.size:=(by rw [Array.length_toList];rfl);have hc:∀ j (hj:j<t.data.toList.length),w.cell? ((⟨g,0,none⟩:Addr).add j)=some (.int .u8 (t.data.toList[j].toNat:Int)):=fun j hj=>by
   have adds:(⟨g,0,none⟩:Addr).add j=⟨g,j,none⟩:=by unfold Addr.add;split<;>simp_all
   rw [adds,co hg];have hj2:j<t.size:=(by omega);have e:(cur.toList.take (t.size*1))[j]?=(Lib.strCells t)[j]?:=(by rw [htk]);rw [List.getElem?_take_of_lt (by omega)] at e;rw [←Array.getElem?_toList,e];simp [Lib.strCells,List.getElem?_eq_getElem hj]
  have:=run_convert_bytes_back (P:=Tryz.prog) w 129 9 5 ⟨g,0,none⟩ c t.data.toList under61 under5 under9 hc;rw [hl] at this
  simpa using this
theorem print_any {ok:Nat→Prop} {w:World} {v:Value} {l:List Nd} (hl:HNds ok w v l) (hg:Gl (fun i=>i<w.heap.size) w) (hF:Rn.nsF l) :
  Calls Tryz.prog 51 #[.agg #[v]] w fun e w'=>e=.returned (.tuple #[.string (Tx.printT l),.agg #[.int .i64 (Tx.printC l).1,.int .i64 (Tx.printC l).2]])∧Below w.heap.size w w':=by
 obtain ⟨ao,cap,rfl,hc1,hc2,_⟩:=hl.at;unfold maxLen at hc2;have bW:Below w.heap.size w ((w.alloc (.cells #[.slice ao l.length cap] 24 (0,0))).alloc (.cells #[.int .i64 0,.int .i64 0] 29 (0,0))):=((Below.refl _ _).alloc nR _).alloc (by simp) _;have hchk:=checkNodes_any (hl.under bW) (hg.s.under bW) hF;obtain ⟨T,hT⟩:=nmQ (Tx.printT l);obtain ⟨C,hC⟩:=nmQ (Tx.printC l);rw [←hT,←hC];unfold Tx.printT at hT;rw [←hC] at hT;unfold Tx.printC at hC;have HT:=hide hT;have HC:=hide hC;clear hT hC;have HOK:=hide (@nodesC_ok l);generalize Rn.nodesC l=cc at hchk HC HOK;obtain ⟨cd,ca⟩:=cc
 dsimp only at hchk
 have hs1:((w.alloc (.cells #[.slice ao l.length cap] 24 (0,0))).alloc (.cells #[.int .i64 0,.int .i64 0] 29 (0,0))).heap.size=w.heap.size+2:=(by simp);have KA0:((w.alloc (.cells #[.slice ao l.length cap] 24 (0,0))).alloc (.cells #[.int .i64 0,.int .i64 0] 29 (0,0))).heap[w.heap.size]?=some (.cells #[.slice ao l.length cap] 24 (0,0)):=(Below.heap_alloc _ _ _ (by simp)).trans (heap_new w _);have KB0:((w.alloc (.cells #[.slice ao l.length cap] 24 (0,0))).alloc (.cells #[.int .i64 0,.int .i64 0] 29 (0,0))).heap[w.heap.size+1]?=some (.cells #[.int .i64 0,.int .i64 0] 29 (0,0)):=by
  have:=heap_new (w.alloc (.cells #[.slice ao l.length cap] 24 (0,0))) (.cells #[.int .i64 0,.int .i64 0] 29 (0,0))
  simpa using this
 go_enter Tryz.func51,Tryz.ntmps51;go_wp2_with fail;refine hchk.mono ?_;rintro e w1 ⟨rfl,b1⟩;have B1:=bW.trans (b1.mono (by rw [hs1];omega));have KA:=(b1.block _ (by rw [hs1];omega)).trans KA0;have KB:=(b1.block _ (by rw [hs1];omega)).trans KB0;have z1:=b1.size;rw [hs1] at z1;clear hchk KA0 KB0 hs1;have pa:=co KA 0;have pb0:=co KB 0;have pb1:=co KB 1;have pf0:=fo KB 0;have pf1:=fo KB 1;simp at pa pb0 pb1;have bF:Below w1.heap.size w1 (w1.alloc (.cells #[.int .i64 cd,.int .i64 ca] 29 (0,0))):=(Below.refl _ _).alloc nR _;have KA1:=(bF.block _ (lt_of KA)).trans KA;have KB1:=(bF.block _ (lt_of KB)).trans KB;have zF:(w1.alloc (.cells #[.int .i64 cd,.int .i64 ca] 29 (0,0))).heap.size=w1.heap.size+1:=(by simp);have BF:=B1.trans (bF.mono B1.size);have KF:=heap_new w1 (.cells #[.int .i64 cd,.int .i64 ca] 29 (0,0));have hne:w1.heap.size≠w.heap.size+1:=(by omega);clear pa pb0 pb1 pf0 pf1;by_cases hc:cd=0
 case neg=>
  have hcb:(cd != 0)=true:=(by simp [hc]);go_upto_region 3 with fail;generalize (w1.alloc (.cells #[.int .i64 cd,.int .i64 ca] 29 (0,0)))=W at KA1 KB1 zF BF KF ⊢;have pb0:=co KB1 0;have pb1:=co KB1 1;have pf0:=fo KB1 0;have pf1:=fo KB1 1;have pc0:=co KF 0;have pc1:=co KF 1;simp at pb0 pb1 pc0 pc1;have hCC:C=(cd,ca):=(by rw [HC.out,if_pos hc]);have hTT:T=⟨#[]⟩:=(by rw [HT.out,if_pos (by rw [hCC];exact hc)];rfl);clear HC HT;subst hCC hTT
  go_region
  have KR:((W.setCell ⟨w.heap.size+1,0,none⟩ (.int .i64 cd)).setCell ⟨w.heap.size+1,1,none⟩ (.int .i64 ca)).drew.heap[w.heap.size+1]?=some (.cells #[.int .i64 cd,.int .i64 ca] 29 (0,0)):=set_in (set_in KB1 0 (.int .i64 cd)) 1 (.int .i64 ca);have BR:Below w.heap.size w ((W.setCell ⟨w.heap.size+1,0,none⟩ (.int .i64 cd)).setCell ⟨w.heap.size+1,1,none⟩ (.int .i64 ca)).drew:=((BF.setCell (by simp) _).setCell (by simp) _).drew;generalize ((W.setCell ⟨w.heap.size+1,0,none⟩ (.int .i64 cd)).setCell ⟨w.heap.size+1,1,none⟩ (.int .i64 ca)).drew=WR at KR BR ⊢;have r0:=co KR 0;have r1:=co KR 1;simp at r0 r1;go_wp2;exact bodyPost_ret (v:=.tuple #[.string ⟨#[]⟩,.agg #[.int .i64 cd,.int .i64 ca]]) (by simp [results,Tryz.results51,go_sem,r0,r1]) rfl ⟨rfl,BR⟩
 case pos=>
  subst hc;go_upto_region 4 with fail;generalize (w1.alloc (.cells #[.int .i64 0,.int .i64 ca] 29 (0,0)))=W at KA1 KB1 zF BF KF ⊢;have hw:=Wr.init W;have bN:Below W.heap.size W (W.alloc (.cells #[.slice none 0 0] 131 (0,0))):=(Below.refl _ _).alloc nR _;have BN:=BF.trans (bN.mono BF.size);have KA2:=(bN.block _ (lt_of KA1)).trans KA1;have KB2:=(bN.block _ (lt_of KB1)).trans KB1;have hgN:Gl (fun i=>i<W.heap.size) (W.alloc (.cells #[.slice none 0 0] 131 (0,0))):=by
   have g:=hg.keep (Keep.ofBelow BN);have:=BF.size;exact ⟨g.s,g.o,g.t,Nat.lt_of_lt_of_le hg.k0 this,Nat.lt_of_lt_of_le hg.k1 this,Nat.lt_of_lt_of_le hg.k2 this⟩
  have hlN:HNds (fun i=>i<W.heap.size) (W.alloc (.cells #[.slice none 0 0] 131 (0,0))) (.slice ao l.length cap) l:=(hl.wide (ok':=fun i=>i<W.heap.size) (fun i _ hi=>Nat.lt_of_lt_of_le hi BF.size)).under BN;clear zF;have hprog:=programW_any hw hgN hlN (HOK.out (by simp));have pa:=co KA2 0;simp at pa;go_wp2_with fail;refine hprog.mono ?_;rintro e w2 ⟨rfl,h2,k2⟩;have KB3:=(k2.block _ (show w.heap.size+1<W.heap.size from lt_of KB1) (lt_of KB2)).trans KB2;have BZ:Below w.heap.size w w2:=BN.trans ⟨k2.os,k2.tape,k2.output,k2.size,fun i hi=>k2.block i (Nat.lt_of_lt_of_le hi BF.size) (Nat.lt_of_lt_of_le hi BN.size)⟩;have pb0:=co KB3 0;have pb1:=co KB3 1;have pf0:=fo KB3 0;have pf1:=fo KB3 1;simp at pb0 pb1;have hfull:=full_any h2;have hX:(Tx.cat (Tx.progP l)).size=ByteArray.empty.size+(Tx.cat (Tx.progP l)).size:=(by simp);by_cases hf:12000<(Tx.cat (Tx.progP l)).size
  ·have hf2:=Tx.puts_over (Tx.progP l) ByteArray.empty (by rw [←hX];exact hf)
   rw [show decide (12000<(Tx.puts ByteArray.empty (Tx.progP l)).size)=true by simp [hf2]] at hfull;have hCC:C=(7,-1):=(by rw [HC.out,if_neg (by simp),if_pos hf]);have hTT:T=⟨#[]⟩:=(by rw [HT.out,if_pos (by rw [hCC];decide)];rfl);clear HC HT hX;subst hCC hTT;have KR:((w2.setCell ⟨w.heap.size+1,0,none⟩ (.int .i64 7)).setCell ⟨w.heap.size+1,1,none⟩ (.int .i64 (-1))).heap[w.heap.size+1]?=some (.cells #[.int .i64 7,.int .i64 (-1)] 29 (0,0)):=set_in (set_in KB3 0 (.int .i64 7)) 1 (.int .i64 (-1));have BR:Below w.heap.size w ((w2.setCell ⟨w.heap.size+1,0,none⟩ (.int .i64 7)).setCell ⟨w.heap.size+1,1,none⟩ (.int .i64 (-1))):=((BZ.setCell (by simp) _).setCell (by simp) _);have r0:=co KR 0;have r1:=co KR 1;simp at r0 r1;go_wp2_with fail;refine hfull.mono ?_;rintro e w3 ⟨rfl,rfl⟩;go_wp2;exact bodyPost_ret (v:=.tuple #[.string ⟨#[]⟩,.agg #[.int .i64 7,.int .i64 (-1)]]) (by simp [results,Tryz.results51,go_sem,r0,r1]) rfl ⟨rfl,BR⟩
  ·have hf2:=Tx.puts_fit (Tx.progP l) ByteArray.empty (by rw [←hX];omega)
   rw [ByteArray.empty_append] at hf2;rw [hf2] at hfull h2;rw [show decide (12000<(Tx.cat (Tx.progP l)).size)=false by simp [hf]] at hfull;have hCC:C=(0,0):=(by rw [HC.out,if_neg (by simp),if_neg hf]);have hTT:T=Tx.cat (Tx.progP l):=(by rw [HT.out,if_neg (by rw [hCC];decide)]);clear HC HT hX;subst hCC;rw [←hTT] at h2;clear hTT hf2 hf;obtain ⟨a,c,hc,hc3,hc4,hown,hno,hblk⟩:=h2.form;have hconv:=own_text hown;have KR:((w2.setCell ⟨w.heap.size+1,0,none⟩ (.int .i64 0)).setCell ⟨w.heap.size+1,1,none⟩ (.int .i64 0)).heap[w.heap.size+1]?=some (.cells #[.int .i64 0,.int .i64 0] 29 (0,0)):=set_in (set_in KB3 0 (.int .i64 0)) 1 (.int .i64 0);have BR:Below w.heap.size w ((w2.setCell ⟨w.heap.size+1,0,none⟩ (.int .i64 0)).setCell ⟨w.heap.size+1,1,none⟩ (.int .i64 0)):=((BZ.setCell (by simp) _).setCell (by simp) _);have r0:=co KR 0;have r1:=co KR 1;simp at r0 r1;go_wp2_with fail;refine hfull.mono ?_;rintro e w3 ⟨rfl,rfl⟩;go_wp2;exact bodyPost_ret (v:=.tuple #[.string T,.agg #[.int .i64 0,.int .i64 0]]) (by simp [results,Tryz.results51,go_sem,r0,r1]) rfl ⟨rfl,BR⟩
end Go.Proofs.YtkfgbhlpjkkgfaaGreatDoor
