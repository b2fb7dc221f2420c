import Derived.Test.YtophfbefnaelfaaGreatDoorF35
import Derived.Test.YtophfbefnaelfaaGreatDoorF37
set_option linter.unusedVariables false
set_option linter.unusedSimpArgs false
set_option maxHeartbeats 64000000
set_option maxRecDepth 100000
namespace Go.Proofs.YtophfbefnaelfaaGreatDoor
open Go.RowKit Go.IntWalk
theorem firstC_all {α:Type} {f:α→Int}:∀ {l:List α},Rn.firstC f l=0→∀ x ∈ l,f x=0
 | [],_,x,hx=>by simp at hx
 | y :: l,h,x,hx=>by
  unfold Rn.firstC at h;by_cases h0:f y=0
  ·rw [if_pos h0] at h
   rcases List.mem_cons.1 hx with rfl | hm
   ·exact h0
   ·exact firstC_all h x hm
  ·rw [if_neg h0] at h
   exact absurd h h0
theorem okS_name {s:ByteArray} (h:isName s.data.toList=true):okS s:=by
 unfold isName at h;simp only [Bool.and_eq_true,decide_eq_true_eq] at h;have:=h.1.1.1.2;unfold okS;have e:s.size=s.data.toList.length:=(by rw [Array.length_toList];rfl);omega
theorem okS_nameC {s:ByteArray} (h:Rn.nameC s=0):okS s:=by
 unfold Rn.nameC at h;by_cases hn:isName s.data.toList=true
 ·exact okS_name hn
 ·rw [if_neg hn] at h;exact absurd h (by decide)
theorem okS_empty {s:ByteArray} (h:s.size=0):okS s:=by unfold okS;omega
theorem okT_of {t:Tm} (h:Rn.termC t=0):okT t:=by
 unfold Rn.termC at h;by_cases h1:t.1 ≤ -1000000000000000000∨1000000000000000000≤t.1
 ·rw [if_pos h1] at h;exact absurd h (by decide)
 rw [if_neg h1] at h;refine ⟨by omega,by omega,?_⟩;by_cases h2:t.2.size=0
 ·exact okS_empty h2
 ·rw [if_neg h2] at h;exact okS_nameC h
theorem okZ_of {s:List Tm} (h:Rn.sizeC s=0):okZ s:=by
 unfold Rn.sizeC at h;by_cases h1:s.length=0
 ·rw [if_pos h1] at h;exact absurd h (by decide)
 rw [if_neg h1] at h;by_cases h2:30<s.length
 ·rw [if_pos h2] at h;exact absurd h (by decide)
 rw [if_neg h2] at h;exact fun x hx=>okT_of (firstC_all h x hx)
theorem okD_of {d:De} (h:Rn.declC d=0):okD d:=by
 unfold Rn.declC at h;by_cases h1:isName d.name.data.toList=false
 ·rw [if_pos h1] at h;exact absurd h (by decide)
 rw [if_neg h1] at h;by_cases h2:d.elem≠105∧d.elem≠98
 ·rw [if_pos h2] at h;exact absurd h (by decide)
 rw [if_neg h2] at h;refine ⟨okS_name (by simpa using h1),?_⟩;by_cases h3:d.n.length=0
 ·intro x hx
  rw [List.eq_nil_of_length_eq_zero h3] at hx;simp at hx
 ·rw [if_neg h3] at h;exact okZ_of h
theorem okDs_of {l:List De} (h:Rn.declsC l=0):∀ d ∈ l,okD d:=by
 unfold Rn.declsC at h;by_cases h1:30<l.length
 ·rw [if_pos h1] at h;exact absurd h (by decide)
 rw [if_neg h1] at h;exact fun x hx=>okD_of (firstC_all h x hx)
mutual
theorem okE_of:∀ (e:Ex),Rn.partC e=0→okE e
 | .mk op k n name S L,h=>by
  rw [Rn.partC] at h;by_cases h1:Rn.formOk (.mk op k n name S L)=false
  ·rw [if_pos h1] at h;exact absurd h (by decide)
  rw [if_neg h1] at h;by_cases h2:op=3∧isName name.data.toList=false
  ·rw [if_pos h2] at h;exact absurd h (by decide)
  rw [if_neg h2] at h;by_cases h3:n<0∨1000000000000000000≤n
  ·rw [if_pos h3] at h;exact absurd h (by decide)
  rw [if_neg h3] at h;by_cases h4:Rn.firstC Rn.sizeC S≠0
  ·rw [if_pos h4] at h;exact absurd h h4
  rw [if_neg h4] at h;have hF:Rn.formOk (.mk op k n name S L)=true:=(by simpa using h1);rw [okE];refine ⟨hF,by omega,?_,fun s hs=>okZ_of (firstC_all (by simpa using h4) s hs),okEs_of L h⟩;by_cases h5:op=3
  ·exact okS_name (by
    cases hh:isName name.data.toList
    ·exact absurd ⟨h5,hh⟩ h2
    ·rfl)
  ·have hF2:=hF
   simp only [Rn.formOk,Bool.and_eq_true,Bool.or_eq_true,decide_eq_true_eq,Ex.op,Ex.name] at hF2;rcases hF2.2.2 with h6 | h6
   ·exact absurd (of_decide_eq_true h6) h5
   ·exact okS_empty (of_decide_eq_true h6)
theorem okEs_of:∀ (l:List Ex),Rn.partsC l=0→okEs l
 | [],_=>by rw [okEs];exact True.intro
 | x :: l,h=>by
  rw [Rn.partsC] at h;by_cases h1:Rn.partC x=0
  ·rw [if_pos h1] at h
   rw [okEs];exact ⟨okE_of x h1,okEs_of l h⟩
  ·rw [if_neg h1] at h;exact absurd h h1
end
theorem okX_of {e:Ex} (h:Rn.exprC e=0):okE e:=by
 unfold Rn.exprC at h;by_cases h1:30<parts e
 ·rw [if_pos h1] at h;exact absurd h (by decide)
 ·rw [if_neg h1] at h;exact okE_of e h
theorem okQ_of {q:Eqn} (h:Rn.eqC q=0):okQ q:=by
 unfold Rn.eqC at h;by_cases h1:q.names.length=0∨(q.node.size=0∧¬(q.names.length=1∧q.E.length=1∧q.S.length=0))
 ·rw [if_pos h1] at h;exact absurd h (by decide)
 rw [if_neg h1] at h;by_cases h2:30<q.names.length∨30<q.E.length∨3<q.S.length
 ·rw [if_pos h2] at h;exact absurd h (by decide)
 rw [if_neg h2] at h;by_cases h3:Rn.firstC Rn.nameC q.names≠0∨(q.node.size≠0∧isName q.node.data.toList=false)
 ·rw [if_pos h3] at h;exact absurd h (by decide)
 rw [if_neg h3] at h;by_cases h4:Rn.firstC Rn.sizeC q.S≠0
 ·rw [if_pos h4] at h;exact absurd h h4
 rw [if_neg h4] at h;refine ⟨fun s hs=>okS_nameC (firstC_all (by have:=fun e=>h3 (.inl e);simpa using this) s hs),?_,fun s hs=>okZ_of (firstC_all (by simpa using h4) s hs),fun e he=>okX_of (firstC_all h e he),fun h0=>?_⟩
 ·by_cases h5:q.node.size=0
  ·exact okS_empty h5
  ·exact okS_name (by
    cases hh:isName q.node.data.toList
    ·exact absurd (.inr ⟨h5,hh⟩) h3
    ·rfl)
 ·by_cases h6:0<q.E.length
  ·exact h6
  ·exact absurd (.inr ⟨h0,fun e=>by omega⟩) h1
theorem okN_of {n:Nd} (h:Rn.headC n=0) (h2:∀ q ∈ n.eqs,Rn.eqC q=0):okN n:=by
 unfold Rn.headC at h;by_cases h1:isName n.name.data.toList=false
 ·rw [if_pos h1] at h;exact absurd h (by decide)
 rw [if_neg h1] at h;by_cases h3:3<n.sizes.length∨60<n.eqs.length
 ·rw [if_pos h3] at h;exact absurd h (by decide)
 rw [if_neg h3] at h;by_cases h4:Rn.firstC Rn.nameC n.sizes≠0
 ·rw [if_pos h4] at h;exact absurd h h4
 rw [if_neg h4] at h;by_cases h5:n.out.length=0
 ·rw [if_pos h5] at h;exact absurd h (by decide)
 rw [if_neg h5] at h;by_cases h6:Rn.declsC n.inn≠0
 ·rw [if_pos h6] at h;exact absurd h h6
 rw [if_neg h6] at h;by_cases h7:Rn.declsC n.out≠0
 ·rw [if_pos h7] at h;exact absurd h h7
 rw [if_neg h7] at h;exact ⟨okS_name (by simpa using h1),fun s hs=>okS_nameC (firstC_all (by simpa using h4) s hs),okDs_of (by simpa using h6),okDs_of (by simpa using h7),okDs_of h,fun q hq=>okQ_of (h2 q hq)⟩
theorem goE_none:∀ {l:List Eqn} {k:Nat} {d:Int × Int},((Rn.goE l k).getD d).1=0→(∀ q ∈ l,Rn.eqC q=0)∧Rn.goE l k=none
 | [],k,d,_=>⟨fun q hq=>by simp at hq,by rw [Rn.goE]⟩
 | q :: l,k,d,h=>by
  rw [Rn.goE] at h ⊢;by_cases h0:Rn.eqC q=0
  ·rw [if_pos h0] at h ⊢
   have ih:=goE_none h;exact ⟨fun x hx=>(List.mem_cons.1 hx).elim (fun e=>e ▸ h0) (ih.1 x),ih.2⟩
  ·rw [if_neg h0] at h
   exact absurd h h0
theorem goN_none:∀ {l:List Nd} {i k:Nat},(Rn.goN l i k).1=0→∀ n ∈ l,okN n
 | [],i,k,_,n,hn=>by simp at hn
 | m :: l,i,k,h,n,hn=>by
  rw [Rn.goN] at h;by_cases h0:Rn.headC m=0
  ·rw [if_pos h0] at h
   have h1:=goE_none h;rw [h1.2] at h;rcases List.mem_cons.1 hn with rfl | hm
   ·exact okN_of h0 h1.1
   ·exact goN_none h n hm
  ·rw [if_neg h0] at h
   exact absurd h h0
theorem nodesC_ok {l:List Nd} (h:(Rn.nodesC l).1=0):∀ n ∈ l,okN n:=by
 unfold Rn.nodesC at h;by_cases h1:l.length=0
 ·rw [if_pos h1] at h;exact absurd h (by decide)
 rw [if_neg h1] at h;by_cases h2:10<l.length
 ·rw [if_pos h2] at h;exact absurd h (by decide)
 rw [if_neg h2] at h;exact goN_none h
theorem HNds.wide {ok ok':Nat→Prop} {w:World} {v:Value} {l:List Nd} (h:HNds ok w v l) (hk:∀ i,ok i→i<w.heap.size→ok' i):HNds ok' w v l:=by
 obtain ⟨C,h1,h2⟩:=h;refine ⟨C,h1.wide hk,fun i hi=>?_⟩;obtain ⟨x,e,hx⟩:=h2 i hi;exact ⟨x,e,hx.wide hk⟩
theorem HNd.step {ok:Nat→Prop} {w W:World} {x:NdV} {n:Nd} {L:Nat} (h:HNd ok w x n) (k:Keep ok w W):HNd (okL ok L) W x n:=(h.keep k.size k.block).wide fun i hi _=>.inl hi
theorem HNds.step {ok:Nat→Prop} {w W:World} {v:Value} {l:List Nd} {L:Nat} (h:HNds ok w v l) (k:Keep ok w W):HNds (okL ok L) W v l:=(h.keep k.size k.block).wide fun i hi _=>.inl hi
theorem programW_any {ok:Nat→Prop} {w:World} {b:Nat} {t:ByteArray} {v:Value} {l:List Nd} (hw:Wr ok w b t) (hg:Gl ok w) (hl:HNds ok w v l) (hs:∀ n ∈ l,okN n) :
  Calls Tryz.prog 30 #[.pointer (some ⟨b,0,none⟩),.agg #[v]] w (WPost ok w b t (Tx.progP l)):=by
 obtain ⟨ao,cap,rfl,hc1,hc2,_⟩:=hl.at;unfold maxLen at hc2;have HS:=hide hs;clear hs;obtain ⟨n,hn⟩:=nmQ (l.length);rw [←hn] at hc1 hl ⊢;have HN:=hide hn;clear hn;have hw0:=hw.more (.cells #[.slice ao n cap] 24 (0,0));have hg0:=(hg.keep (Keep.alloc ok w (.cells #[.slice ao n cap] 24 (0,0)))).more w.heap.size;have K0:=Keep.refl (okL ok w.heap.size) (w.alloc (.cells #[.slice ao n cap] 24 (0,0)));have HL:=hide (fun (W:World) (k1:Keep (okL ok w.heap.size) (w.alloc (.cells #[.slice ao n cap] 24 (0,0))) W)=>(hl.step (L:=w.heap.size) k1.all).at);have HH:=hide hw0;clear hl;go_enter Tryz.func30,Tryz.ntmps30;go_wp2_with fail;go_loopg [9] n (fun k v wr=>∃ i,i≤n∧k=n-i∧v=.int .i64 (i:Nat)∧Hid (Wr (okL ok w.heap.size) wr b (Tx.puts t (Tx.rowP (fun _ n=>Tx.nodeP n) 0 (l.take i))))∧Keep (okL ok w.heap.size) (w.alloc (.cells #[.slice ao n cap] 24 (0,0))) wr)
 case atStart=>exact ⟨0,Nat.zero_le _,rfl,rfl,hide (by simpa [Tx.puts,Tx.rowP] using HH.out),K0⟩
 case round=>
  obtain ⟨i,hi,rfl,rfl,H,kr⟩:=hrel;by_cases hlt:i<n
  case neg=>
   have hin:i=n:=(by omega);subst hin;go_wp2;go_end0;refine ⟨rfl,?_,kr.all⟩;have:=H.out;rw [List.take_of_length_le (by have:=HN.out;omega)] at this;exact this.fst
  case pos=>
   have hil:i<l.length:=(by have:=HN.out;omega);have HX:=hide (Tx.puts_take (fun _ n=>Tx.nodeP n) t l i hil);have hsi:=HS.out l[i] (List.getElem_mem hil);obtain ⟨ao',cap',e1,_,_,hat⟩:=HL.out wr kr;injection e1 with e2 e3 e4;subst e2 e4;obtain ⟨bl,o,y,e5,hbl,hy,hye⟩:=hat i hil;subst e5;clear hat e3;obtain ⟨d0,d1,d2,d3,d4,d5,d6⟩:=hy;have hwr:=H.out;generalize l[i]=x at HX hsi hye;obtain ⟨yn,yp,a2,n2,c2,a3,n3,c3,a4,n4,c4,a5,n5,c5,a6,n6,c6⟩:=y
   dsimp only at d0 d1 d2 d3 d4 d5 d6
   generalize Tx.puts t (Tx.rowP (fun _ n=>Tx.nodeP n) 0 (l.take i))=ti at HX hwr H;clear H;have hw1:=hwr.more (.cells #[.string yn,.int .i64 yp,.slice a2 n2 c2,.slice a3 n3 c3,.slice a4 n4 c4,.slice a5 n5 c5,.slice a6 n6 c6] 43 (0,0));have hg1:=((hg0.keep kr).keep (Keep.alloc (okL ok w.heap.size) wr (.cells #[.string yn,.int .i64 yp,.slice a2 n2 c2,.slice a3 n3 c3,.slice a4 n4 c4,.slice a5 n5 c5,.slice a6 n6 c6] 43 (0,0)))).more wr.heap.size;go_wp2_with fail;refine (nodeW_any hw1 hg1 (hye.step (Keep.alloc (okL ok w.heap.size) wr (.cells #[.string yn,.int .i64 yp,.slice a2 n2 c2,.slice a3 n3 c3,.slice a4 n4 c4,.slice a5 n5 c5,.slice a6 n6 c6] 43 (0,0)))) hsi).mono ?_;rintro e wb ⟨rfl,hb,kb⟩;go_wp2_with fail;go_roundg (n-(i+1))
   case measure=>omega
   case rel=>exact ⟨i+1,by omega,rfl,by go_num,hide (by rw [HX.out];exact hb.fst),kr.trans kb.all⟩
theorem Wr.init (w:World):Wr (fun i=>i<w.heap.size) (w.alloc (.cells #[.slice none 0 0] 63 (0,0))) w.heap.size ByteArray.empty:=by
 refine ⟨fun k hk=>by simp;omega,by simp,by simp,.slice none 0 0,heap_new w _,?_,fun k hk=>by cases hk⟩;exact World.ownsRow_nil _ _ _ _
namespace Tx
def printC (l:List Nd):Int × Int:=if (Rn.nodesC l).1≠0 then Rn.nodesC l else if 12000<(cat (progP l)).size then (7,-1) else (0,0)
def printT (l:List Nd):ByteArray:=if (printC l).1≠0 then ByteArray.empty else cat (progP l)
end Tx
end Go.Proofs.YtophfbefnaelfaaGreatDoor
