import Derived.Test.YtophfbefnaelfaaGreatDoorF39
import Derived.Test.YtophfbefnaelfaaGreatDoorF48
set_option linter.unusedVariables false
set_option linter.unusedSimpArgs false
set_option maxHeartbeats 64000000
set_option maxRecDepth 100000
namespace Go.Proofs.YtophfbefnaelfaaGreatDoor
open Go.RowKit Go.IntWalk
namespace Bk
theorem nmF_name {s:ByteArray} (h:isName s.data.toList=true):Rn.nmF s:=by
 obtain ⟨c,t,he,_,_,hl,_⟩:=isName_iff h;unfold Rn.nmF;have:s.size=s.data.toList.length:=Lib.size_eq s;rw [this,he];unfold maxLen;simp;omega
theorem szF_right {s:List Tm} (h:Rn.sizeC s=0):Rn.szF s:=by
 obtain ⟨_,_,h3⟩:=size_of h;intro t ht;obtain ⟨_,_,hn⟩:=term_of (h3 t ht);unfold Rn.tmF;rcases hn with hn | hn
 ·unfold Rn.nmF;rw [hn];exact Nat.zero_le _
 ·exact nmF_name hn
theorem deF_right {d:De} (h:Rn.declC d=0):Rn.deF d:=by
 obtain ⟨h1,_,h3⟩:=decl_of h;refine ⟨nmF_name h1,?_⟩;by_cases hl:d.n.length=0
 ·rw [List.eq_nil_of_length_eq_zero hl];intro t ht;simp at ht
 ·exact szF_right (h3 hl)
theorem exF_right:∀ (q:Nat) (e:Ex),parts e≤q→Rn.partC e=0→Rn.exF e
 | 0,.mk _ _ _ _ _ _,h,_=>by simp [parts] at h
 | q+1,.mk op k n name S L,h,hC=>by
  have hp:=part_of hC;have hf:=form_of hp.form;have hL:∀ l:List Ex,(∀ x ∈ l,x ∈ L)→Rn.exsF l:=by
   intro l
   induction l with
   | nil=>intro _;simp [Rn.exsF]
   | cons x l ih=>
    intro hl;have hx:=hl x (by simp);refine ⟨exF_right q x ?_ (hp.parts x hx),ih (fun y hy=>hl y (by simp [hy]))⟩;have:=parts_mem hx;simp only [parts] at h;omega
  refine ⟨?_,fun s hs=>szF_right (hp.sizes s hs),hL L (fun _ h=>h)⟩;rcases hf.2.2.2.2.2.2.2 with e | e
  ·exact nmF_name (hp.name e)
  ·unfold Rn.nmF;rw [e];exact Nat.zero_le _
theorem nsF_right {l:List Nd} (h:(Rn.nodesC l).1=0):Rn.nsF l:=by
 obtain ⟨_,_,h3⟩:=prog_of h;intro n hn;obtain ⟨hh,hq⟩:=h3 n hn;obtain ⟨a1,a2,a3,a4,a5,a6,a7,a8⟩:=head_of hh;refine ⟨⟨nmF_name a1,fun s hs=>nmF_name (a4 s hs),fun d hd=>deF_right ((decls_of a6).2 d hd),fun d hd=>deF_right ((decls_of a7).2 d hd),fun d hd=>deF_right ((decls_of a8).2 d hd)⟩,by omega,fun q hqm=>?_⟩;obtain ⟨b1,b2,b3,b4,b5,b6,b7,b8,b9⟩:=eq_of (hq q hqm);refine ⟨fun s hs=>nmF_name (b3 s hs),?_,fun s hs=>szF_right (b8 s hs),fun e he=>?_⟩
 ·by_cases h0:q.node.size=0
  ·unfold Rn.nmF;rw [h0];exact Nat.zero_le _
  ·exact nmF_name (b4 h0)
 ·have:=b9 e he
  unfold Rn.exprC at this
  split at this
  ·simp at this
  ·exact exF_right _ e nR this
theorem print_nodes {l:List Nd} (h:(Tx.printC l).1=0):(Rn.nodesC l).1=0:=by
 unfold Tx.printC at h
 split at h
 ·rename_i hn;exact absurd h hn
 ·rename_i hn;simpa using hn
end Bk
theorem forth_walk (s:ByteArray) (w:World) (hml:s.size≤maxLen) (hT:GlobT w) (hg:Gl (fun i=>i<w.heap.size) w) :
  Calls Tryz.prog 7 #[.string s] w fun e w'=>e=.returned (.bool true)∧Below w.heap.size w w':=by
 have hb:=begun_any w hT hg;unfold maxLen at hml;go_enter Tryz.func7,Tryz.ntmps7;go_wp2_with fail;refine hb.mono ?_;rintro e w1 ⟨rfl,b1⟩;clear hb;by_cases hsz:(12000:Int)<(s.size:Int)
 ·go_wp2
  go_ret;exact ⟨rfl,b1⟩
 have hpa:=parse_all s w1 (by omega) (hT.under b1);unfold PPost at hpa;have HR:Hid ((parseT s.data.toList).2.1=0→(Tx.printC (parseT s.data.toList).1=(0,0)∨Tx.printC (parseT s.data.toList).1=(7,-1))∧Rn.nsF (parseT s.data.toList).1):=hide (fun h=>⟨Bk.parse_right h,Bk.nsF_right (by rw [Bk.parse_nodes h])⟩);generalize parseT s.data.toList=P at hpa HR;obtain ⟨l,cd,ca⟩:=P
 dsimp only at hpa HR
 go_wp2_with fail;refine hpa.mono ?_;rintro e w2 ⟨b2,a2,n2,c2,rfl,h2⟩;clear hpa;have B2:=b1.trans (b2.mono b1.size);go_upto_region 6 with fail;obtain ⟨w3,hw3⟩:=nmQ ((w2.alloc (.cells #[.slice a2 n2 c2] 24 (0,0))).alloc (.cells #[.int .i64 cd,.int .i64 ca] 28 (0,0)));have b3:Below w2.heap.size w2 w3:=(by rw [hw3];exact ((Below.refl _ _).alloc nR _).alloc (by simp) _);have j3:w3.heap[w2.heap.size]?=some (.cells #[.slice a2 n2 c2] 24 (0,0)):=(by rw [hw3];exact (Below.heap_alloc _ _ _ (by simp)).trans (heap_new w2 _));have i3:w3.heap[w2.heap.size+1]?=some (.cells #[.int .i64 cd,.int .i64 ca] 28 (0,0)):=by
  rw [hw3];have:=heap_new (w2.alloc (.cells #[.slice a2 n2 c2] 24 (0,0))) (.cells #[.int .i64 cd,.int .i64 ca] 28 (0,0))
  simpa using this
 rw [←hw3];clear hw3;have B3:=B2.trans (b3.mono B2.size);have c0:=co i3 0;have p0:=co j3 0;simp at c0 p0;by_cases hz:cd=0
 case neg=>
  have z1:(cd != 0)=true:=(by simpa using hz);clear hz;go_wp2;go_ret;exact ⟨rfl,B3⟩
 have z1:(cd != 0)=false:=(by simpa using hz);obtain ⟨hpc,hF⟩:=HR.out hz;clear hz HR;have hpr:=print_any (h2.under b3) (hg.under B3) hF;have HPA:Hid ((Tx.printC l).1=0→∀ V,GlobT V→Calls Tryz.prog 16 #[.string (Tx.printT l)] V fun e w'=>∃ a n c l',e=.returned (.tuple #[.agg #[.slice a n c],.agg #[.int .i64 0,.int .i64 0]])∧HNds (fun i=>V.heap.size≤i) w' (.slice a n c) l'∧Hid (Tx.printC l'=(0,0)∧Tx.printT l'=Tx.printT l∧Rn.nsF l')∧Below V.heap.size V w'):=hide (fun hz V hG=>by
  obtain ⟨l',e1,e2⟩:=Bk.parse_print hz;have:=parse_all (Tx.printT l) V (Nat.le_trans Bk.print_len (by decide)) hG;unfold PPost at this;rw [e1] at this;refine this.mono ?_;rintro e w' ⟨b,a,n,c,rfl,hN⟩;have hst:=Bk.printC_st e2;have h0:Tx.printC l=(0,0):=by
   rcases hpc with h | h
   ·exact h
   ·rw [h] at hz;exact absurd hz (by decide)
  exact ⟨a,n,c,l',rfl,hN,hide ⟨hst.1.trans h0,hst.2,Bk.nsF_right (Bk.print_nodes (by rw [hst.1,h0]))⟩,b⟩)
 generalize Tx.printT l=T at hpr HPA;generalize Tx.printC l=C at hpr HPA hpc;obtain ⟨ed,ea⟩:=C
 dsimp only at hpr HPA
 go_wp2_with fail;refine hpr.mono ?_;rintro e w4 ⟨rfl,b4⟩;clear hpr c0 p0;have B4:=B3.trans (b4.mono B3.size);go_upto_region 9 with fail;obtain ⟨w5,hw5⟩:=nmQ (w4.alloc (.cells #[.int .i64 ed,.int .i64 ea] 28 (0,0)));have b5:=newB hw5;have i5:=newK hw5;rw [←hw5];clear hw5;have B5:=B4.trans (b5.mono B4.size);have c0:=co i5 0;have c1:=co i5 1;simp at c0 c1;rcases hpc with hpc | hpc
 case inr=>
  injection hpc with q1 q2;subst q1 q2;have g1:((7:Int)==7)=true:=(by decide);go_wp2
  all_goals go_ret
  all_goals refine ⟨ret_bool ?_,B5⟩
  all_goals rfl
 injection hpc with q1 q2;subst q1 q2;have hpa:=HPA.out rfl w5 (hT.under B5);clear HPA;go_wp2_with fail;refine hpa.mono ?_;rintro e w6 ⟨a6,n6,c6,l',rfl,h6,HS,b6⟩;clear hpa c0 c1;have B6:=B5.trans (b6.mono B5.size);go_upto_region 12 with fail;obtain ⟨w7,hw7⟩:=nmQ ((w6.alloc (.cells #[.slice a6 n6 c6] 24 (0,0))).alloc (.cells #[.int .i64 0,.int .i64 0] 28 (0,0)));have b7:Below w6.heap.size w6 w7:=(by rw [hw7];exact ((Below.refl _ _).alloc nR _).alloc (by simp) _);have j7:w7.heap[w6.heap.size]?=some (.cells #[.slice a6 n6 c6] 24 (0,0)):=(by rw [hw7];exact (Below.heap_alloc _ _ _ (by simp)).trans (heap_new w6 _));have i7:w7.heap[w6.heap.size+1]?=some (.cells #[.int .i64 0,.int .i64 0] 28 (0,0)):=by
  rw [hw7];have:=heap_new (w6.alloc (.cells #[.slice a6 n6 c6] 24 (0,0))) (.cells #[.int .i64 0,.int .i64 0] 28 (0,0))
  simpa using this
 rw [←hw7];clear hw7;have B7:=B6.trans (b7.mono B6.size);have p0:=co j7 0;simp at p0;have hpr:=print_any (h6.under b7) (hg.under B7) HS.out.2.2;rw [HS.out.1,HS.out.2.1] at hpr
 dsimp only at hpr
 go_wp2_with fail;refine hpr.mono ?_;rintro e w8 ⟨rfl,b8⟩;clear hpr p0;have B8:=B7.trans (b8.mono B7.size);have i8:=(b8.block _ (lt_of i7)).trans i7;go_upto_region 13 with fail;obtain ⟨w9,hw9⟩:=nmQ (w8.alloc (.cells #[.int .i64 0,.int .i64 0] 28 (0,0)));have b9:=newB hw9;have k9:=newK hw9;rw [←hw9];clear hw9;have B9:=B8.trans (b9.mono B8.size);have i9:=(b9.block _ (lt_of i8)).trans i8;have c0:=co i9 0;have e0:=co k9 0;simp at c0 e0;go_wp2
 all_goals go_ret
 all_goals refine ⟨ret_bool ?_,B9⟩
 all_goals simp
end Go.Proofs.YtophfbefnaelfaaGreatDoor
