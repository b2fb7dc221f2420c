import Derived.Test.YtkfgbhlpjkkgfaaGreatDoorN42
import Derived.Test.YtkfgbhlpjkkgfaaGreatDoorN36
import Derived.Test.YtkfgbhlpjkkgfaaGreatDoorN07
import Derived.Test.YtkfgbhlpjkkgfaaGreatDoorN38
set_option linter.unusedVariables false
set_option linter.unusedSimpArgs false
set_option maxHeartbeats 64000000
set_option maxRecDepth 100000
namespace Go.Proofs.YtkfgbhlpjkkgfaaGreatDoor
open Go.RowKit Go.IntWalk
def PPost (w:World) (t:List UInt8) (r:Ending) (w':World):Prop :=
 Below w.heap.size w w'∧∃ a n c,r=.returned (.tuple #[.agg #[.slice a n c],.agg #[.int .i64 (parseT t).2.1,.int .i64 (parseT t).2.2]])∧HNds (fun i=>w.heap.size≤i) w' (.slice a n c) (parseT t).1
theorem parse_any (hform:FormC) (s:ByteArray) (w:World) (hs:s.size≤1000000) (hG:GlobT w):Calls Tryz.prog 21 #[.string s] w (PPost w s.data.toList):=by
 have hsz:s.data.toList.length=s.size:=Array.length_toList;have hL:(Tk.scan s.data.toList).1.length≤1099511627776:=by
  have:=scan_len s.data.toList;omega
 obtain ⟨W,hW⟩:=nmQ ((w.alloc (.cells #[.slice none 0 0] 24 (0,0))).alloc (.cells #[.int .i64 0,.int .i64 0] 29 (0,0)));have zW:W.heap.size=w.heap.size+1+1:=(by rw [hW];simp);have bW:Below w.heap.size w W:=(by rw [hW];exact ((Below.refl _ w).alloc nR _).alloc (by simp) _);have hP:W.heap[w.heap.size]?=some (.cells #[.slice none 0 0] 24 (0,0)):=(by rw [hW];exact kA (heap_new w _) _);have hF:W.heap[w.heap.size+1]?=some (.cells #[.int .i64 0,.int .i64 0] 29 (0,0)):=by
  have:=heap_new (w.alloc (.cells #[.slice none 0 0] 24 (0,0))) (.cells #[.int .i64 0,.int .i64 0] 29 (0,0));have e:(w.alloc (.cells #[.slice none 0 0] 24 (0,0))).heap.size=w.heap.size+1:=(by simp);rw [e] at this;rw [hW];exact this
 go_enter Tryz.func21,Tryz.ntmps21;go_wp2_with fail;rw [←hW];clear hW;refine (scan_any s _ (by omega)).mono ?_;rintro r w1 ⟨v,rfl,hown,b1⟩;obtain ⟨L,hLd⟩:=nmQ ((Tk.scan s.data.toList).1);obtain ⟨c,hcd⟩:=nmQ ((Tk.scan s.data.toList).2.1);obtain ⟨a,had⟩:=nmQ ((Tk.scan s.data.toList).2.2);rw [←hLd] at hown hL;rw [←hcd,←had];obtain ⟨ao,g,cap,rfl,hc1,hc2,hT⟩:=toks_slice hown;have hpT:Hid (parseT s.data.toList=if c=0 then match Ps.program ⟨L,s.data.toList.length⟩ with | .ok l _=>(l,0,0) | .err c a=>([],(c:Int),(a:Int)) else ([],c,a)):=by
  show parseT s.data.toList=_
  unfold parseT;rw [hLd,hcd,had];rfl
 clear hLd hcd had hown;have z1:=b1.size;have B1:Below w.heap.size w w1:=bW.trans (b1.mono (by omega));have hP1:=(aside b1 (S:=[])).keep hP (by omega) (by simp);have hF1:=(aside b1 (S:=[])).keep hF (by omega) (by simp);have cm:=hc2;unfold maxLen at cm;clear hP hF b1;by_cases hc0:c=0
 ·have hk:(c==0)=true:=beq_iff_eq.2 hc0
  have HP:=hpT.out;rw [if_pos hc0] at HP;have HPH:=hide HP;clear HP;subst hc0;go_wp2_with fail;have hT2:0<L.length→ao=some ⟨g,0,none⟩∧g<(w1.alloc (.cells #[.int .i64 0,.int .i64 a] 29 (0,0))).heap.size∧HoldsToks (w1.alloc (.cells #[.int .i64 0,.int .i64 a] 29 (0,0))) g L:=fun h0=>by
   obtain ⟨e1,_,e3,e4⟩:=hT h0;exact ⟨e1,by simp;omega,e4.keep (keepB _ e3)⟩
  have hcall:=readProgram_toks hform (I:=⟨L,s.data.toList.length⟩) hL hc1 hc2 hT2 (hG.keep (Nat.le_trans B1.size (by simp)) ((Below.heap_alloc _ _ _ (Nat.lt_of_lt_of_le hG.1 B1.size)).trans (B1.block 7 hG.1)));rw [hsz] at hcall HPH;refine hcall.mono ?_;rintro r w3 ⟨b3,hres⟩;have z3:w1.heap.size+1≤w3.heap.size:=(by simpa using b3.size);have hP3:=(aside b3 (S:=[])).keep (kA hP1 _) (by simp;omega) (by simp);have hF3:=(aside b3 (S:=[])).keep (kA hF1 _) (by simp;omega) (by simp);have B3:Below w.heap.size w w3:=(B1.alloc (by omega) _).trans (b3.mono (by simp;omega));have p0:=co hP3 0;have f0:=co hF3 0;have f1:=co hF3 1;have fP:=fun o=>fo hP3 o;have fF:=fun o=>fo hF3 o;simp at p0 f0 f1;clear hcall hT hT2 hP1 hF1 b3
  cases hp:Ps.program ⟨L,s.size⟩ with
  | ok l n=>
   rw [hp] at hres;obtain ⟨a',n',c',rfl,hN⟩:=hres;have HE:Hid (parseT s.data.toList=(l,0,0)):=by
    show parseT s.data.toList=_
    rw [HPH.out,hp]
   clear hp HPH hpT;have hN2:=(nodes_of (hN.wide' (ok':=fun i=>w.heap.size+1<i) (fun i hi _=>by simp at hi;omega)));go_wp2;refine bodyPost_ret (v:=.tuple #[.agg #[.slice a' n' c'],.agg #[.int .i64 0,.int .i64 0]]) (by simp [results,Tryz.results21,go_sem,p0,f0,f1]) rfl ?_;refine ⟨((B3.setCell (p:=⟨w.heap.size,0,none⟩) nR _).setCell (p:=⟨w.heap.size+1,0,none⟩) (Nat.le_succ _) _).setCell (p:=⟨w.heap.size+1,1,none⟩) (Nat.le_succ _) _,a',n',c',by rw [HE.out],?_⟩;rw [HE.out];exact nodes_row ((((hN2.set (p:=⟨w.heap.size,0,none⟩) (by simp) _).set (p:=⟨w.heap.size+1,0,none⟩) (by simp) _).set (p:=⟨w.heap.size+1,1,none⟩) (by simp) _).wide (fun i hi _=>by omega))
  | err c' a'=>
   rw [hp] at hres;obtain rfl:r=_:=hres;have HE:Hid (parseT s.data.toList=([],(c':Int),(a':Int))):=by
    show parseT s.data.toList=_
    rw [HPH.out,hp]
   clear hp HPH hpT;go_wp2;refine bodyPost_ret (v:=.tuple #[.agg #[.slice none 0 0],.agg #[.int .i64 (c':Int),.int .i64 (a':Int)]]) (by simp [results,Tryz.results21,go_sem,p0,f0,f1]) rfl ?_;refine ⟨((B3.setCell (p:=⟨w.heap.size,0,none⟩) nR _).setCell (p:=⟨w.heap.size+1,0,none⟩) (Nat.le_succ _) _).setCell (p:=⟨w.heap.size+1,1,none⟩) (Nat.le_succ _) _,none,0,0,by rw [HE.out],?_⟩;rw [HE.out];exact nodes_row HRow.nil
 ·have hk:(c==0)=false:=beq_eq_false_iff_ne.2 hc0
  have HE:Hid (parseT s.data.toList=([],c,a)):=by
   show parseT s.data.toList=_
   rw [hpT.out,if_neg hc0]
  clear hpT hT;have p0:=co hP1 0;have f0:=co hF1 0;have f1:=co hF1 1;have fP:=fun o=>fo hP1 o;have fF:=fun o=>fo hF1 o;simp at p0 f0 f1;have zp:w.heap.size<w1.heap.size:=(by omega);have zf:w.heap.size+1<w1.heap.size:=(by omega);go_wp2
  go_region
  all_goals
   go_wp2;refine bodyPost_ret (v:=.tuple #[.agg #[.slice none 0 0],.agg #[.int .i64 c,.int .i64 a]]) (by simp [results,Tryz.results21,go_sem,p0,f0,f1,zp,zf]) rfl ?_;refine ⟨((((B1.setCell (p:=⟨w.heap.size,0,none⟩) nR _).setCell (p:=⟨w.heap.size+1,0,none⟩) (Nat.le_succ _) _).setCell (p:=⟨w.heap.size+1,1,none⟩) (Nat.le_succ _) _).alloc (by simp [World.setCell];omega) _).drew,none,0,0,by rw [HE.out],?_⟩;rw [HE.out];exact nodes_row HRow.nil
def ExSt (N0 eb:Nat) (w:World) (e:Ex):Prop :=
 ∃ (vS vL:Value) (okS okL:Nat→Prop),w.heap[eb]?=some (.cells #[.int .i64 e.op,.int .i64 e.k,.int .i64 e.n,.string e.name,vS,vL] 54 (0,0))∧OwnX kSize okS w vS e.S∧OwnX kExpr okL w vL e.L∧(∀ i,okS i→N0≤i)∧(∀ i,okL i→N0≤i)∧∀ i,okS i→¬okL i
structure Env (b g rb eb N0:Nat):Prop where
 b0:b<N0
 g0:g<N0
 r0:rb<N0
 e0:eb<N0
 nr:rb≠b
 ne:eb≠b
 ng:eb≠g
 nx:rb≠eb
def PostE (b g cap eb N0:Nat) (I:Inp) (op nx:Nat) (w:World) (res:Res Ex) (r:Ending) (w':World):Prop :=
 Aside [b,eb] N0 w w' ∧
 match res with
 | .ok e n1=>nx≤n1∧Rd w' b g cap I.L I.len n1 op∧r=.returned (.tuple #[])∧ExSt N0 eb w' e
 | .err c a=>r=upE c a
theorem PostE.fail {b g cap eb N0:Nat} {I:Inp} {op nx:Nat} {w:World} {res:Res Ex} {w':World} {c a:Nat} (h:res=.err c a) (hA:Aside [b,eb] N0 w w'):PostE b g cap eb N0 I op nx w res (upE c a) w':=by
 subst h;exact ⟨hA,rfl⟩
theorem PostE.good {b g cap eb N0:Nat} {I:Inp} {op nx:Nat} {w:World} {res:Res Ex} {w':World} {e:Ex} {n1:Nat} (h:res=.ok e n1) (hA:Aside [b,eb] N0 w w') (hn:nx≤n1) (hR:Rd w' b g cap I.L I.len n1 op) (hS:ExSt N0 eb w' e):PostE b g cap eb N0 I op nx w res (.returned (.tuple #[])) w':=by
 subst h;exact ⟨hA,hn,hR,rfl,hS⟩
theorem asideE {b eb B:Nat} {w w':World} (h:Aside [b] B w w'):Aside [b,eb] B w w':=h.wide fun k _ hk hm=>hk (by simp at hm ⊢;exact .inl hm)
theorem sizeC_any {b g cap rb eb N0:Nat} {I:Inp} {op nx:Nat} {E:Nat→Res Ex} {e:Ex} {w:World} (hv:Env b g rb eb N0) (h:Rd w b g cap I.L I.len nx op) (hN0:N0≤w.heap.size) (hrb:w.heap[rb]?=some (.cells #[.pointer (some ⟨b,0,none⟩)] 124 (0,0))) (hS:ExSt N0 eb w e) (hlen:e.S.length≤1000) :
  Calls Tryz.prog 280 #[.pointer (some ⟨eb,0,none⟩),.pointer (some ⟨rb,0,none⟩)] w (PostE b g cap eb N0 I op nx w (Ps.part I E .size e nx)):=by
 obtain ⟨vS,vL,okS,okL,heb,ownS,ownL,hokS,hokL,hdis⟩:=hS;obtain ⟨v0,v1,v2,v3,v4,v5,v6,v7⟩:=hv;obtain ⟨aS,cS,rfl,hS1,hS2⟩:=ownS.form;obtain ⟨aL,cL,rfl,hL1,hL2⟩:=ownL.form;have hd5:Rd w.drew b g cap I.L I.len nx op:=h.drew;have hb5:w.drew.heap[eb]?=some (.cells #[.int .i64 e.op,.int .i64 e.k,.int .i64 e.n,.string e.name,.slice aS e.S.length cS,.slice aL e.L.length cL] 54 (0,0)):=heb;have hr5:w.drew.heap[rb]?=some (.cells #[.pointer (some ⟨b,0,none⟩)] 124 (0,0)):=hrb;have A5d:Aside [b,eb] N0 w w.drew:=(Aside.refl w).drew;have z5d:w.drew.heap.size=w.heap.size:=rfl;have om5:=(ownS.under (Below.refl _ w).drew).wide (ok':=fun i=>okS i∧i<w.heap.size) (fun i hi hl=>⟨hi,hl⟩);have oo5:=(ownL.under (Below.refl _ w).drew).wide (ok':=fun i=>okL i∧i<w.heap.size) (fun i hi hl=>⟨hi,hl⟩);go_enter Tryz.func280,Tryz.ntmps280;go_wp2_with fail;refine wp_region_late (fun w'=>w'.cell? ⟨eb,4,none⟩=some (.slice aS e.S.length cS)∧w'.cell? ⟨rb,0,none⟩=some (.pointer (some ⟨b,0,none⟩))) (fun j=>decide (j=7)) (by kernel_rfl) ?_;generalize w.drew=wd at hd5 hb5 hr5 A5d z5d om5 oo5 ⊢;clear h heb hrb ownS ownL;have c4:=co hb5 4;have cr:=co hr5 0;simp only [gT,gZ,gS] at c4 cr;have hH:=And.intro c4 cr;refine' wpAnyL_take (i:=0) (v:=_) rfl (by kernel_rfl) (by kernel_rfl) (by kernel_rfl) (by kernel_rfl) (fun _ _ _ h=>h) hH (by rfl) ?hyv ?o1
 case hyv=>
  intro wz hSw;obtain ⟨k0,k1⟩:=hSw;go_simp
  try rfl
 try simp only [Act.put,sT,sZ,sS]
 refine' wpAnyL_take (i:=1) (v:=_) rfl (by kernel_rfl) (by kernel_rfl) (by kernel_rfl) (by kernel_rfl) (fun _ _ _ h=>h) hH (by rfl) ?hyv ?o2
 case hyv=>
  intro wz hSw;obtain ⟨k0,k1⟩:=hSw;go_simp
  try rfl
 try simp only [Act.put,sT,sZ,sS]
 refine' wpAnyL_take (i:=2) (v:=_) rfl (by kernel_rfl) (by kernel_rfl) (by kernel_rfl) (by kernel_rfl) (fun _ _ _ h=>h) hH (by rfl) ?hyv ?o3
 case hyv=>
  intro wz hSw;obtain ⟨k0,k1⟩:=hSw;go_simp
  try rfl
 try simp only [Act.put,sT,sZ,sS]
 refine wpAnyL_one (i:=3) rfl (by kernel_rfl) (by rfl) (fun K hK=>?_);go_simp;refine (size_any hd5).mono ?_;rintro r w6 ⟨a6,hres⟩;have z6:=a6.size;have A6:Aside [b,eb] N0 w w6:=A5d.trans (asideE a6) (by omega);have hb6:=a6.keep hb5 (by omega) (by simp;omega);have hr6:=a6.keep hr5 (by omega) (by simp;omega);have om6:=om5.past a6 (fun i hi=>by have:=hokS i hi.1;simp;omega);have oo6:=oo5.past a6 (fun i hi=>by have:=hokL i hi.1;simp;omega);clear hd5 hb5 hr5 A5d om5 oo5 hH c4 cr a6
 cases ht:Ps.size I nx with
 | err c0 a0=>
  rw [ht] at hres;obtain rfl:r=_:=hres;exact ⟨rfl,PostE.fail (by unfold Ps.part;simp only [];rw [ht];rfl) A6⟩
 | ok y n2=>
  rw [ht] at hres;obtain ⟨le6,h6,_,rfl,hV⟩:=hres;obtain ⟨ad,nd,cd,rfl⟩:=HTerms.slice hV;have m6:Hid (Ps.part I E .size e nx=.ok (Ps.Ex.addS e y) n2):=by
   show Ps.part I E .size e nx=_
   unfold Ps.part;simp only [];rw [ht];rfl
  clear ht;have c4:=co hb6 4;have cr:=co hr6 0;simp only [gT,gZ,gS] at c4 cr;refine hK.out _ _ (fun _=>And.intro c4 cr) ?_;clear hK K
  try simp only [Act.put,sT,sZ,sS]
  have H7a:=co (kA hb6 (.cells #[.slice ad nd cd] 33 (0,0))) 4;have H7b:=co (kA hr6 (.cells #[.slice ad nd cd] 33 (0,0))) 0;simp only [gT,gZ,gS] at H7a H7b;have H7h:=hide (And.intro H7a H7b);clear H7a H7b;have q1:kSize.E (fun i=>wd.heap.size≤i) w6 [.slice ad nd cd] y:=⟨_,rfl,hV⟩;have q2:(e.S.length+1)*kSize.bytes≤140737488355328:=(by show (e.S.length+1)*24≤_;omega);have q3:e.S.length+1≤maxLen:=(by unfold maxLen;omega);refine wpAnyL_one (i:=4) rfl (by kernel_rfl) (by rfl) (fun K hK=>?_);go_simp;refine hK.out _ _ (fun _=>H7h.out) ?_;clear hK K
  try simp only [Act.put,sT,sZ,sS]
  refine wpAnyL_one (i:=5) rfl (by kernel_rfl) (by rfl) (fun K hK=>?_);refine oper_moreX kSize _ _ 51 33 rfl Tryz.underlying51 wd.heap.size _ _ e.S (by rfl) om6 [.slice ad nd cd] y q1 (by rfl) (fun i hi=>by omega) z6 q2 q3 ?_;intro v8 w8 om8 g8;have hvb:=fun k hk=>(om6.lt k hk).1;obtain ⟨z8,hoth⟩:=grown_other (ok:=fun i=>okS i∧i<w.heap.size) g8 hvb;have A8:Aside [b,eb] N0 w w8:=A6.trans (grown_aside (S:=[b,eb]) g8 hvb (fun i hi=>hokS i hi.1) (by omega)) nR;have hb8:=(hoth eb (lt_of hb6) (fun hh=>by have:=hokS eb hh.1;omega)).trans hb6;have hr8:=(hoth rb (lt_of hr6) (fun hh=>by have:=hokS rb hh.1;omega)).trans hr6;have oo8:=oo6.keep z8 (fun i hi hl=>hoth i hl (fun hh=>hdis i hh.1 hi.1));have h8:Rd w8 b g cap I.L I.len n2 op:=⟨(hoth b h6.bb (fun hh=>by have:=hokS b hh.1;omega)).trans h6.here,h6.toks.keep (hoth g h6.gb (fun hh=>by have:=hokS g hh.1;omega)),h6.apart,Nat.lt_of_lt_of_le h6.gb z8,h6.le,h6.lc,h6.cm⟩;clear A6 hb6 hr6 om6 oo6 h6 q1 c4 cr H7h g8 hoth hvb;have c4:=co hb8 4;have cr:=co hr8 0;simp only [gT,gZ,gS] at c4 cr;refine hK.out _ _ (fun _=>And.intro c4 cr) ?_;clear hK K
  try simp only [Act.put,sT,sZ,sS]
  obtain ⟨a8v,c8v,hv8,_,_⟩:=om8.form;rw [List.length_append,List.length_singleton] at hv8;subst hv8;have f8:=fun o=>fo hb8 o;refine wpAnyL_one (i:=6) rfl (by kernel_rfl) (by rfl) (fun K hK=>?_);go_simp;refine hK.out _ _ (fun _=>And.intro c4 cr) ?_;clear hK K
  try simp only [Act.put,sT,sZ,sS]
  refine wpAnyL_one (i:=7) rfl (by kernel_rfl) (by rfl) (fun K hK=>?_);go_simp;refine hK.out _ _ (fun h=>by cases h) ?_;clear hK K
  try simp only [Act.put,sT,sZ,sS]
  refine wpAnyL_done (by kernel_rfl) ?_ _;have hb9:=set_in hb8 4 (.slice a8v (e.S.length+1) c8v);have h9:=h8.set (p:=⟨eb,4,none⟩) (by simp;omega) (by simp;omega) (.slice a8v (e.S.length+1) c8v);have A9:Aside [b,eb] N0 w (w8.setCell ⟨eb,4,none⟩ (.slice a8v (e.S.length+1) c8v)):=A8.trans (Aside.setCell (by simp) _) nR;have om9:=om8.set (p:=⟨eb,4,none⟩) (by intro hh;have hh2:(okS eb∧eb<w.heap.size)∨wd.heap.size≤eb:=hh;rcases hh2 with q | q;exact absurd (hokS eb q.1) (by omega);omega) (.slice a8v (e.S.length+1) c8v);have oo9:=oo8.set (p:=⟨eb,4,none⟩) (by intro hh;have hh2:okL eb∧eb<w.heap.size:=hh;have:=hokL eb hh2.1;omega) (.slice a8v (e.S.length+1) c8v);simp only [sT,sZ,sS] at hb9;go_wp2;go_end0;exact PostE.good m6.out A9 le6 h9 ⟨_,_,fun i=>(okS i∧i<w.heap.size)∨wd.heap.size≤i,fun i=>okL i∧i<w.heap.size,hb9,om9,oo9,fun i hi=>hi.elim (fun q=>hokS i q.1) (fun q=>by omega),fun i hi=>hokL i hi.1,fun i hi hj=>hi.elim (fun q=>hdis i q.1 hj.1) (fun q=>by omega)⟩
end Go.Proofs.YtkfgbhlpjkkgfaaGreatDoor
