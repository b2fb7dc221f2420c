import Derived.Test.YtkfgbhlpjkkgfaaGreatDoorT25
import Derived.Test.YtkfgbhlpjkkgfaaGreatDoorT27
import Derived.Test.YtkfgbhlpjkkgfaaGreatDoorT33
import Derived.Test.YtkfgbhlpjkkgfaaGreatDoorT47
import Derived.Test.YtkfgbhlpjkkgfaaGreatDoorT48
import Derived.Test.YtkfgbhlpjkkgfaaGreatDoorRows
import Derived.Lib.LaidTab
import Derived.LaidSub
import Derived.FnData
set_option linter.unusedVariables false
set_option linter.unusedSimpArgs false
set_option maxHeartbeats 64000000
set_option maxRecDepth 100000
namespace Go.Proofs.YtkfgbhlpjkkgfaaGreatDoor
open Go.RowKit Go.IntWalk
theorem GlobT.over {w w':World} (h:GlobT w) (b:Below w.heap.size w w'):GlobT w':=h.keep b.size (b.block _ h.1)
theorem Gl.over {w w':World} (h:Gl (fun i=>i<w.heap.size) w) (b:Below w.heap.size w w'):Gl (fun i=>i<w'.heap.size) w':=by
 have g:=h.keep (Keep.ofBelow b);have:=b.size;exact ⟨g.s,g.o,g.t,Nat.lt_of_lt_of_le h.k0 this,Nat.lt_of_lt_of_le h.k1 this,Nat.lt_of_lt_of_le h.k2 this⟩
theorem mod_ok (cut:Int) (m:Nat) (h:0<m) (hm:m<=maxLen):∃ q:Nat,wrap64 ((IntKind.u64.wrap cut).tmod (m:Int))=(q:Int)/\q<m:=by
 unfold maxLen at hm;have h0:0<=IntKind.u64.wrap cut:=(by simp [IntKind.wrap,IntKind.signed,IntKind.bits];omega);rw [Int.tmod_eq_emod_of_nonneg h0];have h1:=Int.emod_nonneg (IntKind.u64.wrap cut) (b:=(m:Int)) (by omega);have h2:=Int.emod_lt_of_pos (IntKind.u64.wrap cut) (b:=(m:Int)) (by omega);generalize IntKind.u64.wrap cut % (m:Int)=r at *;refine ⟨r.toNat,?_,by omega⟩;unfold wrap64;omega
theorem nsF_set {l:List Nd} (h:Rn.nsF l) {k:Nat} (hk:k<l.length) (eqs:List Eqn) (hp:l[k].eqs.Perm eqs):Rn.nsF (l.set k { l[k] with eqs:=eqs }):=by
 intro n hn;rcases List.mem_or_eq_of_mem_set hn with hn | e
 ·exact h n hn
 ·obtain ⟨h1,h2,h3⟩:=h l[k] (List.getElem_mem hk)
  rw [e];exact ⟨h1,by rw [<-hp.length_eq];exact h2,fun q hq=>h3 q (hp.mem_iff.2 hq)⟩
theorem turns_walk {ok:Nat->Prop} {w:World} {ao:Option Addr} {n cap:Nat} {l:List Nd} (node cut:Int) (hl:HNds ok w (.slice ao n cap) l) (bm:∀ i,ok i->i<w.heap.size) (hM:FitP l) (hT:GlobT w) (hK:GlobK w) (hg:Gl (fun i=>i<w.heap.size) w) :
  Calls Tryz.prog 5 #[.agg #[.slice ao n cap],.int .i64 node,.int .i64 cut] w fun e w'=>e=.returned (.bool true)/\Below w.heap.size w w':=by
 have bA:Below w.heap.size w (w.alloc (.cells #[.slice ao n cap] 24 (0,0))):=(Below.refl _ _).alloc nR _;have kA:=zAC w (.cells #[.slice ao n cap] 24 (0,0));have HL:=zAA hl;have HM:=zAA hM;have HT:=zAA hT;have HK:=zAA hK;have HG:=zAA hg;have HO:=zAA bm;obtain ⟨fj,bE,hv,aC,av,_⟩:=hl.at;injection hv with q1 q2 q3;subst q3;clear q1;have HN:=zAA q2;rw [<-q2] at aC;clear q2 hl hM hT hK hg bm;unfold maxLen at av;go_enter Tryz.func5,Tryz.ntmps5;go_upto_region 1 with fail;generalize (w.alloc (.cells #[.slice ao n cap] 24 (0,0)))=W at bA kA ⊢;have hb:=kbegun_any W (HT.out.over bA) (HK.out.under bA) (HG.out.over bA);go_wp2_with fail;refine hb.mono ?_;rintro e w1 ⟨rfl,b1⟩;clear hb;have B1:=bA.trans (b1.mono bA.size);have k1:=(b1.block _ (zAB kA)).trans kA;have p1:=co k1 0;simp at p1;have j9:=great_small (HL.out.under B1) HM.out;go_wp2_with fail;refine j9.mono ?_;rintro e w2 ⟨⟨y,rfl,hy⟩,b2⟩;clear j9 p1;have B2:=B1.trans (b2.mono B1.size);have k2:=(b2.block _ (zAB k1)).trans k1;have p2:=co k2 0;simp at p2
 cases y
 case true=>
  clear hy;go_wp2;go_ret;exact ⟨rfl,B2⟩
 case false=>
  have HS:=zAA (hy rfl);clear hy;by_cases h0:n=0
  ·subst h0
   go_wp2;go_ret;exact ⟨rfl,B2⟩
  have hz:((n:Int)==0)=false:=(by simp;omega);have Dq:=zEX (HL.out.under B2) HM.out;go_wp2_with fail;refine Dq.mono ?_;rintro e w3 ⟨a,m,c,rfl,D,ah,hD,b3⟩;clear Dq p2;have Eg:=own_copyK ah hD;obtain ⟨a',c',hv,Ci,CO⟩:=Eg.form;injection hv with q1 q2 q3;subst q3;clear q1;rw [<-HN.out] at q2 Ci;subst q2;clear ah hD;have HX:=zAA Eg;clear Eg;have B3:=B2.trans (b3.mono B2.size);have b4:Below w3.heap.size w3 (w3.alloc (.cells #[.slice a m c] 24 (0,0))):=(Below.refl _ _).alloc nR _;have B4:=B3.trans (b4.mono B3.size);have k3:=(b3.block _ (zAB k2)).trans k2;have k4:=(b4.block _ (zAB k3)).trans k3;have q4:=zAC w3 (.cells #[.slice a m c] 24 (0,0));go_upto_region 6 with fail;generalize w3.alloc (.cells #[.slice a m c] 24 (0,0))=w4 at b4 B4 k4 q4 ⊢;have r4:=co q4 0;simp at r4;obtain ⟨k,Ky,NS⟩:=mod_ok node m (by omega) (Nat.le_trans Ci CO);have NK:=zAA Ky;clear Ky;have qX:k<l.length:=(by have:=HN.out;omega);obtain ⟨g,cg,y,hy⟩:=own_node HX.out qX;have aV:=hy.form;injection aV with f1 f2 f3;subst f1 f3;clear f2;have heq:=hy.holds.eqs;obtain ⟨ea,ec,Oj,cv,bM,_⟩:=heq.at;injection Oj with v1 v2 v3;have aP:y.n6<=1000:=(by have:=(HS.out _ (List.getElem_mem qX)).2.1;omega);have qn:=hy.okg;have ak:=hy.lt;have rj:=hy.keep b4.size (fun i _ hl=>b4.block i hl);have uY:=rj.holds.eqs;obtain ⟨_,_,_,_,_,_,y6⟩:=rj.cells;have wu:=rj.lt;obtain ⟨cc,FA,eV⟩:=mod_ok cut (y.n6+1) (by omega) (by unfold maxLen;omega);have Pu:=zAA FA;clear FA;have uU:cc<=y.n6:=(by omega);obtain ⟨v5,w5,r5,o5,g5,m5⟩:=run_joinO kEq (w:=w4) 45 45 Tryz.underlying45 (OwnX.nil (ok:=fun _=>False)) (row_tail (T:=kEq) uY uU) (fun k h=>by cases h) (by show (0+(List.drop cc l[k].eqs).length)*96<=_;rw [List.length_drop];omega) (by show 0+(List.drop cc l[k].eqs).length<=_;rw [List.length_drop];unfold maxLen;omega);have qC:∀ k,v5.ownBlock=some k->w4.heap.size<=k:=by
   rcases m5 with h | ⟨k,h1,h2⟩
   ·intro k e
    rw [h] at e
    cases e
   ·intro k' e
    rw [h1] at e;injection e with e;omega
  have we:=zAA rj;have Pz:=zAA uY;have JC:=zAA v2;have QK:cc<=y.c6:=(by omega);have BQ:=zAA o5;clear hy rj heq uY cv bM m5 v1 v2 v3 o5;go_upto_region 7 with fail;rw [NK.out];go_upto_region 9 with fail;rw [show ((y.n6:Int)+1)=((y.n6+1:Nat):Int) by omega,Pu.out];go_upto_region 11 with (at_builtin;refine wpList_joinO rfl _ _ _ rfl _ _ _ (by rfl) (by rfl) r5 ?_);have z3:=b3.size;have z4:=b4.size;have z5:=g5.size;have Fv:w3.heap.size<w4.heap.size:=zAB q4;have q5:w5.heap[w3.heap.size]?=some (.cells #[.slice (some ⟨g,0,none⟩) m c] 24 (0,0)):=(g5.block _ Fv (by intro e;cases e)).trans q4;have mJ:∀ i,(w2.heap.size<=i/\i<w3.heap.size)->i<w4.heap.size->w5.heap[i]?=w4.heap[i]?:=fun i hi hl=>g5.block i hl (by intro e;cases e);have yJ:HRow kEq (fun i=>(w2.heap.size<=i/\i<w3.heap.size)/\i≠g) w5 (.slice y.a6 y.n6 y.c6) l[k].eqs:=Pz.out.keep z5 (fun i hi hl=>mJ i hi.1 hl);have bD:Below w5.heap.size w5 w5.drew:=(Below.refl _ _).drew;obtain ⟨wd,GC⟩:=nmQ (w5.drew);rw [<-GC] at bD;have Nt:HRow kEq (fun i=>(w2.heap.size<=i/\i<w3.heap.size)/\i≠g) wd (.slice y.a6 cc y.c6) (List.take cc l[k].eqs):=row_head (T:=kEq) (yJ.keep bD.size (fun i _ hl=>bD.block i hl)) uU;have NV:=BQ.out.under bD;have B9:∀ k,v5.ownBlock=some k->¬((w2.heap.size<=k/\k<w3.heap.size)/\k≠g):=fun k h1 h2=>by
   have h3:=qC k h1;have h4:=h2.1.2;omega
  have ry:([]++List.drop cc l[k].eqs).length=y.n6-cc:=(by rw [List.nil_append,List.length_drop];have:=JC.out;omega);have mx:(List.take cc l[k].eqs).length=cc:=(by rw [List.length_take];have:=JC.out;omega);obtain ⟨v6,w6,r6,o6,g6,m6⟩:=run_joinO kEq (w:=wd) 45 45 Tryz.underlying45 NV Nt B9 (by rw [ry,mx];show (y.n6-cc+cc)*96<=_;omega) (by rw [ry,mx];unfold maxLen;omega);obtain ⟨a6,c6,ud,_,_⟩:=o6.form;generalize ([]++List.drop cc l[k].eqs++List.take cc l[k].eqs).length=n6 at ud;subst ud;have z6:=g6.size;have zD:=bD.size;have q6:w6.heap[w3.heap.size]?=some (.cells #[.slice (some ⟨g,0,none⟩) m c] 24 (0,0)):=(g6.block w3.heap.size (by omega) (by intro e;have:=qC _ e.symm;omega)).trans ((bD.block _ (by omega)).trans q5);have keep6:∀ i,(w2.heap.size<=i/\i<w3.heap.size)->i<w3.heap.size->w6.heap[i]?=w3.heap[i]?:=fun i hi hl=>(g6.block i (by omega) (by intro e;have:=qC _ e.symm;omega)).trans ((bD.block i (by omega)).trans <| (mJ i hi (by omega)).trans (b4.block i hl));have Km:=HX.out.keep (w':=w6) (by omega) keep6;have At:=we.out.keep (w':=w6) (by omega) (fun i hi hl=>(g6.block i (by omega) (by intro e;have:=qC _ e.symm;have:=hi.2;omega)).trans ((bD.block i (by omega)).trans (mJ i hi hl)));have Am:=own_put Km At (u:=.slice a6 n6 c6) o6.row (by rintro ((h | h | h) | h | h)<;>first | exact h | (have:=h.2;omega) | omega);have B5:Below w.heap.size w w5:=B4.grown g5 B4.size (fun k h=>by cases h);have B6:Below w.heap.size w w6:=(B5.trans (bD.mono B5.size)).grown g6 (by have:=B5.size;omega) (fun k h=>by have:=qC k h;have:=B4.size;omega);have Lu:w.heap.size<=g:=(by have:=B2.size;have:=qn.1;omega);have B7:Below w.heap.size w (w6.setCell ⟨g,k*7+6,none⟩ (.slice a6 n6 c6)):=B6.setCell (p:=⟨g,k*7+6,none⟩) Lu (.slice a6 n6 c6);have q7:(w6.setCell ⟨g,k*7+6,none⟩ (.slice a6 n6 c6)).heap[w3.heap.size]?=some (.cells #[.slice (some ⟨g,0,none⟩) m c] 24 (0,0)):=zAI q6 (by show g≠w3.heap.size;omega) _;obtain ⟨Pd,sB⟩:=At.blk;have Qc:=At.lt;obtain ⟨_,_,_,_,_,_,s6⟩:=At.cells;have xP:=fo sB (k*7+6);have jC:=zAA Am;have PR:=zAA o6;have IB:Hid ((w6.setCell ⟨g,k*7+6,none⟩ (.slice a6 n6 c6)).heap[w.heap.size]?=some (.cells #[.slice ao m cap] 24 (0,0))):=zAA (by
   have hx:=zAB k3;refine zAI ?_ (by show g≠w.heap.size;have:=B2.size;have:=qn.1;have:=zAB k2;omega) _;exact (g6.block _ (by omega) (by intro e;have:=qC _ e.symm;omega)).trans ((bD.block _ (by omega)).trans ((g5.block _ (by omega) (by intro e;cases e)).trans k4)))
  clear Am o6 Km At sB yJ r5 g5 g6 m6 mJ keep6;refine zAE (fun V:World=>V.heap[w3.heap.size]?=some (.cells #[.slice (some ⟨g,0,none⟩) m c] 24 (0,0))) (fun _=>false) (by kernel_rfl) ?_;have hH:(fun V:World=>V.heap[w3.heap.size]?=some (.cells #[.slice (some ⟨g,0,none⟩) m c] 24 (0,0))) wd:=(bD.block _ (by omega)).trans q5;simp only [] at hH;rw [<-GC];clear GC;refine' tkQ 0 51 hH ?hyv ?o1
  case hyv=>
   intro wz ae;have zc:=co ae 0;simp at zc;go_simp
   try rfl
  try simp only [Act.put,sT,sZ,sS]
  refine' tkQ 1 52 hH ?hyv ?o2
  case hyv=>
   intro wz ae;have zc:=co ae 0;simp at zc;go_simp
   try rfl
  try simp only [Act.put,sT,sZ,sS]
  refine' tkQ 2 53 hH ?hyv ?o3
  case hyv=>
   intro wz ae;have zc:=co ae 0;simp at zc;go_simp
   try rfl
  try simp only [Act.put,sT,sZ,sS]
  refine' tkQ 3 54 hH ?hyv ?o4
  case hyv=>
   intro wz ae;have zc:=co ae 0;simp at zc;go_simp
   try rfl
  try simp only [Act.put,sT,sZ,sS]
  refine' tkQ 4 55 hH ?hyv ?o5
  case hyv=>
   intro wz ae;have zc:=co ae 0;simp at zc;go_simp
   try rfl
  try simp only [Act.put,sT,sZ,sS]
  refine' tkQ 5 56 hH ?hyv ?o6
  case hyv=>
   intro wz ae;have zc:=co ae 0;simp at zc;go_simp
   try rfl
  try simp only [Act.put,sT,sZ,sS]
  refine' zBN (i:=6) (oi:=⟨some 57,_,_,_,_,_⟩) (v:=.slice y.a6 cc y.c6) rfl (by kernel_rfl) (by kernel_rfl) (by kernel_rfl) (by kernel_rfl) (fun _ _ _ h=>h) hH (by rfl) ?hyv ?o7
  case hyv=>
   intro wz ae;go_simp
   try (intro hh;omega)
   try rfl
  try simp only [Act.put,sT,sZ,sS]
  refine tnQ 7 (fun K hK=>?_);refine oper_joinO _ _ _ rfl _ _ _ (by rfl) (by rfl) r6 ?_;refine hK.out _ _ (fun _=>q6) ?_;clear hK K
  try simp only [Act.put,sT,sZ,sS]
  refine' tkQ 8 59 q6 ?hyv ?o8
  case hyv=>
   intro wz ae;have zc:=co ae 0;simp at zc;go_simp
   try rfl
  try simp only [Act.put,sT,sZ,sS]
  refine' tkQ 9 60 q6 ?hyv ?o9
  case hyv=>
   intro wz ae;have zc:=co ae 0;simp at zc;go_simp
   try rfl
  try simp only [Act.put,sT,sZ,sS]
  refine tnQ 10 (fun K hK=>?_);go_simp;refine hK.out _ _ (fun _=>q7) ?_;clear hK K
  try simp only [Act.put,sT,sZ,sS]
  refine zAF (by kernel_rfl) ?_ _;generalize w6.setCell ⟨g,k*7+6,none⟩ (.slice a6 n6 c6)=w7 at B7 q7 jC IB ⊢;clear q6 q5 s6 xP;have kt:w.heap.size<w7.heap.size:=(by have h1:=zAB q7;have h2:=zAB k3;omega);have k7:w7.heap[w.heap.size]?=some (.cells #[.slice ao m cap] 24 (0,0)):=IB.out;obtain ⟨l2,ek⟩:=nmQ (l.set k { l[k] with eqs:=[]++List.drop cc l[k].eqs++List.take cc l[k].eqs });rw [<-ek] at jC;have ki:(kcheckC l).1=0↔(kcheckC l2).1=0:=by
   rw [ek];refine zFJ (Kd.TL.set l k qX _ ⟨rfl,rfl,rfl,rfl,rfl,?_⟩);rw [List.nil_append];exact (List.perm_append_comm.trans (by rw [List.take_append_drop])).symm
  have hF:=nsF_of HS.out;have nV:Rn.nsF l2:=by
   rw [ek];exact nsF_set hF qX _ ((List.perm_append_comm.trans (by rw [List.nil_append,List.take_append_drop])).symm)
  have GS:Hid (∀ V,Below w7.heap.size w7 V->Calls Tryz.prog 10 #[.agg #[.slice ao m cap]] V fun r w'=>r=.returned (.agg #[.int .i64 (kcheckC l).1,.int .i64 (kcheckC l).2])/\Below V.heap.size V w'):=fun V b=>by
   have bb:=B7.trans (b.mono B7.size);exact zEz (HL.out.under bb) (fun i hi=>Nat.lt_of_lt_of_le (HO.out i hi) bb.size) (HK.out.under bb) (HG.out.over bb) hF
  have Ei:Hid (∀ V,Below w7.heap.size w7 V->Calls Tryz.prog 10 #[.agg #[.slice (some ⟨g,0,none⟩) m c]] V fun r w'=>r=.returned (.agg #[.int .i64 (kcheckC l2).1,.int .i64 (kcheckC l2).2])/\Below V.heap.size V w'):=fun V b=>by
   have bb:=B7.trans (b.mono B7.size);exact zEz (ok:=fun i=>i<V.heap.size) ((jC.out.under b).wide' (fun i _ h=>h)) (fun i hi=>hi) (HK.out.under bb) (HG.out.over bb) nV
  generalize kcheckC l=C1 at GS ki;generalize kcheckC l2=C2 at Ei ki;obtain ⟨x1,y1⟩:=C1;obtain ⟨x2,y2⟩:=C2
  dsimp only at GS Ei ki
  have LI:=zAA ki;clear ki hF nV ek jC;have pH:∀ (a b:Int) (W:World),(Instr.field 29 (.agg #[.int .i64 a,.int .i64 b]) 0).run Tryz.prog W=.ok (.int .i64 a) W:=fun a b W=>by kernel_rfl
  go_upto_region 12 with fail;refine zAE (fun V:World=>Below w7.heap.size w7 V) (fun _=>false) (by kernel_rfl) ?_;have af:Below w7.heap.size w7 w7.drew:=(Below.refl _ _).drew;generalize w7.drew=aW at af ⊢;refine' tkQ 0 61 af ?hyv ?o10
  case hyv=>
   intro wz ae;have zp:=co ((ae.block _ kt).trans k7) 0;have zq:=co ((ae.block _ (zAB q7)).trans q7) 0;simp at zp zq;go_simp
   try rfl
  try simp only [Act.put,sT,sZ,sS]
  refine' tkQ 4 65 af ?hyv ?o11
  case hyv=>
   intro wz ae;have zp:=co ((ae.block _ kt).trans k7) 0;have zq:=co ((ae.block _ (zAB q7)).trans q7) 0;simp at zp zq;go_simp
   try rfl
  try simp only [Act.put,sT,sZ,sS]
  refine tnQ 1 (fun K hK=>?_);go_simp;refine (GS.out aW af).mono ?_;rintro eq cW ⟨rfl,dL⟩;have al:Below w7.heap.size w7 cW:=af.trans (dL.mono af.size);refine hK.out _ _ (fun _=>al) ?_;clear hK K
  try simp only [Act.put,sT,sZ,sS]
  refine' tkQ 2 63 al ?hyv ?o12
  case hyv=>
   intro wz ae;have zp:=co ((ae.block _ kt).trans k7) 0;have zq:=co ((ae.block _ (zAB q7)).trans q7) 0;simp at zp zq;go_simp
   try rfl
  try simp only [Act.put,sT,sZ,sS]
  refine' tkQ 3 64 al ?hyv ?o13
  case hyv=>
   intro wz ae;have zp:=co ((ae.block _ kt).trans k7) 0;have zq:=co ((ae.block _ (zAB q7)).trans q7) 0;simp at zp zq;go_simp
   try rfl
  try simp only [Act.put,sT,sZ,sS]
  refine tnQ 5 (fun K hK=>?_);go_simp;refine (Ei.out cW al).mono ?_;rintro eq fY ⟨rfl,ib⟩;have aK:Below w7.heap.size w7 fY:=al.trans (ib.mono al.size);refine hK.out _ _ (fun _=>aK) ?_;clear hK K
  try simp only [Act.put,sT,sZ,sS]
  refine' tkQ 6 67 aK ?hyv ?o14
  case hyv=>
   intro wz ae;have zp:=co ((ae.block _ kt).trans k7) 0;have zq:=co ((ae.block _ (zAB q7)).trans q7) 0;simp at zp zq;go_simp
   try rfl
  try simp only [Act.put,sT,sZ,sS]
  refine' tkQ 7 68 aK ?hyv ?o15
  case hyv=>
   intro wz ae;have zp:=co ((ae.block _ kt).trans k7) 0;have zq:=co ((ae.block _ (zAB q7)).trans q7) 0;simp at zp zq;go_simp
   try rfl
  try simp only [Act.put,sT,sZ,sS]
  refine' tkQ 8 69 aK ?hyv ?o16
  case hyv=>
   intro wz ae;have zp:=co ((ae.block _ kt).trans k7) 0;have zq:=co ((ae.block _ (zAB q7)).trans q7) 0;simp at zp zq;go_simp
   try rfl
  try simp only [Act.put,sT,sZ,sS]
  refine' tkQ 9 6 aK ?hyv ?o17
  case hyv=>
   intro wz ae;have zp:=co ((ae.block _ kt).trans k7) 0;have zq:=co ((ae.block _ (zAB q7)).trans q7) 0;simp at zp zq;go_simp
   try rfl
  try simp only [Act.put,sT,sZ,sS]
  refine zAF (by kernel_rfl) ?_ _;have e:(x1==0)=(x2==0):=by
   apply Bool.eq_iff_iff.2
   rw [beq_iff_eq,beq_iff_eq];exact LI.out
  have HE:=zAA e;clear e;go_wp2
  all_goals go_ret
  all_goals exact ⟨by rw [HE.out];simp,B7.trans (aK.mono B7.size)⟩
end Go.Proofs.YtkfgbhlpjkkgfaaGreatDoor
namespace Go.Proofs.YtkfgbhlpjkkgfaaGreatDoor
open Go.RowKit Go.IntWalk
namespace Ld
variable {H:Type} {enc:TypeId × Value->H} {P:Program} {w:World} {base:Nat} {sp:Nat->Bool} {held:Bool}
theorem cells_of_strs {fuel:Nat} {t e:TypeId} {n:Nat} {cs:List Value} {zs:List (List UInt8)} {p:List MemPlace}
  (ht:P.underlying t=some (.array n e)) (he:P.underlying e=some .string) (Nx:P.cellsOf e=1) (ui:P.cellsOf t=n)
  (h:DataW.trod enc P w base sp held fuel t cs=some (.agg (zs.map fun z=>.lit (.string z)),p)):cs=zs.map fun z=>Value.string (str z):=by
 cases fuel with
 | zero=>simp [DataW.trod] at h
 | succ fuel=>
  simp only [DataW.trod,ht,Nx,ui,Nat.mul_one] at h
  split at h
  ·rename_i hl
   obtain ⟨xs,hm,hx⟩:=Option.map_eq_some_iff.1 h;have Cx:xs.map (·.1)=zs.map fun z=>(DataW.lit (.string z):DataW H):=by
    have:=congrArg Prod.fst hx
    simpa using this
   have Dz:xs.length=n:=(by simpa using Lib.mapM_length hm);have DW:zs.length=n:=by
    have:=congrArg List.length Cx;simp at this;omega
   apply List.ext_getElem?
   intro i;by_cases hi:i<n
   ·obtain ⟨b,hb,hf⟩:=Lib.mapM_at hm i i (by simp [hi])
    obtain ⟨s,hc,rfl,_⟩:=DataW.trod_string he hf;have h1:cs[i]?=some (.string s):=by
     have:=congrArg (·[0]?) hc
     simpa [List.getElem?_take,List.getElem?_drop] using this
    have h2:(xs.map (·.1))[i]?=some (DataW.lit (.string s.data.toList):DataW H):=(by simp [hb]);rw [Cx] at h2;simp only [List.getElem?_map,Option.map_eq_some_iff,DataW.lit.injEq,Lit.string.injEq] at h2;obtain ⟨z',Pj,rfl⟩:=h2;simp [h1,Pj,str]
   ·rw [List.getElem?_eq_none (by omega),List.getElem?_eq_none (by simp;omega)]
  ·cases h
def fieldsOf (P:Program) (t:TypeId):Option (List (TypeId × Nat)) :=
 match P.underlying t with
 | some (.struct fs)=>some (fs.toList.map fun f=>(f.type,f.offset))
 | _=>none
theorem trod_field {fuel:Nat} {t:TypeId} {cs:List Value} {L:List (TypeId × Nat)} {d:DataW H} {p:List MemPlace} (hF:fieldsOf P t=some L)
  (h:DataW.trod enc P w base sp held fuel t cs=some (d,p)) {j:Nat} {u:TypeId} {off:Nat} (hj:L[j]?=some (u,off)) :
  ∃ ds fuel' d' p',d=.agg ds/\ds[j]?=some d'/\DataW.trod enc P w base sp held fuel' u ((cs.drop off).take (P.cellsOf u))=some (d',p'):=by
 unfold fieldsOf at hF
 split at hF
 ·rename_i fs hu
  obtain rfl:=Option.some.inj hF
  cases fuel with
  | zero=>simp [DataW.trod] at h
  | succ fuel=>
   simp only [DataW.trod,hu] at h
   split at h
   ·obtain ⟨xs,hm,hx⟩:=Option.map_eq_some_iff.1 h
    simp only [List.getElem?_map,Option.map_eq_some_iff] at hj;obtain ⟨f,hf,rn⟩:=hj;obtain ⟨b,hb,lj⟩:=Lib.mapM_at hm j f hf;injection rn with e1 e2;subst e1 e2;refine ⟨xs.map (·.1),fuel,b.1,b.2,?_,by simp [hb],lj⟩;exact (congrArg Prod.fst hx).symm
   ·cases h
 ·cases hF
theorem trod_elem {fuel:Nat} {t e:TypeId} {n:Nat} {cs:List Value} {ds:List (DataW H)} {p:List MemPlace} (ht:P.underlying t=some (.array n e))
  (h:DataW.trod enc P w base sp held fuel t cs=some (.agg ds,p)) {i:Nat} (hi:i<n) :
  ∃ fuel' d' p',ds[i]?=some d'/\DataW.trod enc P w base sp held fuel' e ((cs.drop (i*P.cellsOf e)).take (P.cellsOf e))=some (d',p'):=by
 cases fuel with
 | zero=>simp [DataW.trod] at h
 | succ fuel=>
  simp only [DataW.trod,ht] at h
  split at h
  ·obtain ⟨xs,hm,hx⟩:=Option.map_eq_some_iff.1 h
   obtain ⟨b,hb,lj⟩:=Lib.mapM_at hm i i (by simp [hi]);refine ⟨fuel,b.1,b.2,?_,lj⟩;have:=congrArg Prod.fst hx;simp only [DataW.agg.injEq] at this;rw [<-this];simp [hb]
  ·cases h
theorem row_str {fuel:Nat} {t e u:TypeId} {n c off i j:Nat} {cs:List Value} {ds:List (DataW H)} {p:List MemPlace} {L:List (TypeId × Nat)} (ht:P.underlying t=some (.array n e)) (hc:P.cellsOf e=c) (hF:fieldsOf P e=some L)
  (h:DataW.trod enc P w base sp held fuel t cs=some (.agg ds,p)) (hi:i<n) (hj:L[j]?=some (u,off)) (hu:P.underlying u=some .string) (yz:P.cellsOf u=1) (ho:off<c)
  {es:List (DataW H)} {z:ByteArray} (hd:ds[i]?=some (.agg es)) (he:es[j]?=some (.lit (.string z.data.toList))):cs[i*c+off]?=some (.string z):=by
 obtain ⟨f1,d1,p1,h1,h2⟩:=trod_elem ht h hi;obtain ⟨KU,f2,d2,p2,rfl,h3,h4⟩:=trod_field hF h2 hj;obtain ⟨s,h5,h6,_⟩:=DataW.trod_string hu h4;rw [hd] at h1;simp only [Option.some.injEq,DataW.agg.injEq] at h1;subst h1;rw [he] at h3;have h7:d2=.lit (.string s.data.toList):=congrArg Prod.fst h6;rw [h7] at h3;simp only [Option.some.injEq,DataW.lit.injEq,Lit.string.injEq] at h3;have hz:z=s:=by
  obtain ⟨⟨a⟩⟩:=z;obtain ⟨⟨b⟩⟩:=s;simp at h3;rw [h3]
 subst hz;have:=congrArg (·[0]?) h5;rw [hc,yz] at this
 simpa [List.getElem?_take,List.getElem?_drop,ho] using this
theorem row_int {fuel:Nat} {t e u:TypeId} {n c off i j:Nat} {k:IntKind} {cs:List Value} {ds:List (DataW H)} {p:List MemPlace} {L:List (TypeId × Nat)} (ht:P.underlying t=some (.array n e)) (hc:P.cellsOf e=c) (hF:fieldsOf P e=some L)
  (h:DataW.trod enc P w base sp held fuel t cs=some (.agg ds,p)) (hi:i<n) (hj:L[j]?=some (u,off)) (hu:P.underlying u=some (.int k)) (yz:P.cellsOf u=1) (ho:off<c)
  {es:List (DataW H)} {z:Int} (hd:ds[i]?=some (.agg es)) (he:es[j]?=some (.lit (.int k z))):cs[i*c+off]?=some (.int k z):=by
 obtain ⟨f1,d1,p1,h1,h2⟩:=trod_elem ht h hi;obtain ⟨KU,f2,d2,p2,rfl,h3,h4⟩:=trod_field hF h2 hj;obtain ⟨s,h5,h6,_⟩:=DataW.trod_int hu h4;rw [hd] at h1;simp only [Option.some.injEq,DataW.agg.injEq] at h1;subst h1;rw [he] at h3;have h7:d2=.lit (.int k s):=congrArg Prod.fst h6;rw [h7] at h3;simp only [Option.some.injEq,DataW.lit.injEq,Lit.int.injEq,true_and] at h3;subst h3;have:=congrArg (·[0]?) h5;rw [hc,yz] at this
 simpa [List.getElem?_take,List.getElem?_drop,ho] using this
end Ld
theorem zEf {W:World} {g j:Nat} {v:Value} (h:W.cell? ⟨g,j,none⟩=some v):g<W.heap.size:=by
 apply Classical.byContradiction
 intro ak;have:W.heap[g]?=none:=(by simp;omega);simp [World.cell?,this] at h
def shapesL:List (DataW Unit):=Rn.shpT.map fun s=>.agg [.lit (.string s.1.data.toList),.lit (.int .i64 s.2.1),.lit (.int .i64 s.2.2.1),.lit (.int .i64 s.2.2.2.1),.lit (.int .i64 s.2.2.2.2.1),.lit (.int .i64 s.2.2.2.2.2)]
theorem shapes_eq:Rows.laid_loomwork_render_shapes=.agg shapesL:=rfl
theorem globS_of {W : World} (h : laidMetH Tryz.prog [("loomwork/render.shapes", Rows.laid_loomwork_render_shapes)] W) : GlobS W := by
 have h : laidMet Tryz.prog [("loomwork/render.shapes", Rows.laid_loomwork_render_shapes)] W := h;obtain ⟨ps, ⟨g', t', cs, fuel, p, q, vR, tj, me, hd, _, _⟩, _⟩ := h;obtain rfl := Option.some.inj ((show Tryz.prog.globalNamed "loomwork/render.shapes" = some 3 by kernel_rfl).symm.trans vR);obtain rfl := Option.some.inj ((show (Tryz.prog.globals[3]?).map (·.type) = some 257 by kernel_rfl).symm.trans tj);rw [shapes_eq] at hd;have hu : Tryz.prog.underlying 257 = some (.array 16 256) := (by kernel_rfl);have hF : Ld.fieldsOf Tryz.prog 256 = some [(9, 0), (3, 1), (3, 2), (3, 3), (3, 4), (3, 5)] := (by kernel_rfl);have hc : Tryz.prog.cellsOf 256 = 6 := (by kernel_rfl);have h9 : Tryz.prog.cellsOf 9 = 1 := (by kernel_rfl);have h3 : Tryz.prog.cellsOf 3 = 1 := (by kernel_rfl);have u3 : Tryz.prog.underlying 3 = some (.int .i64) := (by kernel_rfl);have u9 : Tryz.prog.underlying 9 = some .string := (by kernel_rfl);have hv := fun j => World.var?_cell (show Tryz.prog.globalNamed "loomwork/render.shapes" = some 3 by kernel_rfl) me j;have hL : ∀ k, k < 16 -> shapesL[k]? = some (.agg [.lit (.string (Rn.shp k).1.data.toList), .lit (.int .i64 (Rn.shp k).2.1), .lit (.int .i64 (Rn.shp k).2.2.1), .lit (.int .i64 (Rn.shp k).2.2.2.1), .lit (.int .i64 (Rn.shp k).2.2.2.2.1), .lit (.int .i64 (Rn.shp k).2.2.2.2.2)]) := by
  intro k hk;have nj:k<Rn.shpT.length:=hk;unfold shapesL Rn.shp;rw [List.getElem?_map,List.getElem?_eq_getElem nj,List.getD_eq_getElem?_getD,List.getElem?_eq_getElem nj];rfl
 have bX:∀ k,k<16->W.cell? ⟨3,k*6,none⟩=some (.string (Rn.shp k).1)/\W.cell? ⟨3,k*6+1,none⟩=some (.int .i64 (Rn.shp k).2.1)/\W.cell? ⟨3,k*6+2,none⟩=some (.int .i64 (Rn.shp k).2.2.1)/\W.cell? ⟨3,k*6+3,none⟩=some (.int .i64 (Rn.shp k).2.2.2.1)/\W.cell? ⟨3,k*6+4,none⟩=some (.int .i64 (Rn.shp k).2.2.2.2.1)/\W.cell? ⟨3,k*6+5,none⟩=some (.int .i64 (Rn.shp k).2.2.2.2.2):=by
  intro k hk;have e:=hL k hk;refine ⟨?_,?_,?_,?_,?_,?_⟩
  ·rw [hv,<-Array.getElem?_toList];exact Ld.row_str (j:=0) hu hc hF hd hk rfl u9 h9 (by decide) e rfl
  ·rw [hv,<-Array.getElem?_toList];exact Ld.row_int (j:=1) hu hc hF hd hk rfl u3 h3 (by decide) e rfl
  ·rw [hv,<-Array.getElem?_toList];exact Ld.row_int (j:=2) hu hc hF hd hk rfl u3 h3 (by decide) e rfl
  ·rw [hv,<-Array.getElem?_toList];exact Ld.row_int (j:=3) hu hc hF hd hk rfl u3 h3 (by decide) e rfl
  ·rw [hv,<-Array.getElem?_toList];exact Ld.row_int (j:=4) hu hc hF hd hk rfl u3 h3 (by decide) e rfl
  ·rw [hv,<-Array.getElem?_toList];exact Ld.row_int (j:=5) hu hc hF hd hk rfl u3 h3 (by decide) e rfl
 exact ⟨zEf (bX 0 (by decide)).1,bX⟩
def opsL:List (DataW Unit):=Tx.opsT.map fun s=>.agg [.lit (.string s.1.data.toList),.lit (.string s.2.1.data.toList),.lit (.int .i64 s.2.2)]
theorem ops_eq:Rows.laid_loomwork_render_operators=.agg opsL:=rfl
theorem globO_of {W : World} (h : laidMetH Tryz.prog [("loomwork/render.operators", Rows.laid_loomwork_render_operators)] W) : GlobO W := by
 have h : laidMet Tryz.prog [("loomwork/render.operators", Rows.laid_loomwork_render_operators)] W := h;obtain ⟨ps, ⟨g', t', cs, fuel, p, q, vR, tj, me, hd, _, _⟩, _⟩ := h;obtain rfl := Option.some.inj ((show Tryz.prog.globalNamed "loomwork/render.operators" = some 4 by kernel_rfl).symm.trans vR);obtain rfl := Option.some.inj ((show (Tryz.prog.globals[4]?).map (·.type) = some 265 by kernel_rfl).symm.trans tj);rw [ops_eq] at hd;have hu : Tryz.prog.underlying 265 = some (.array 15 264) := (by kernel_rfl);have hF : Ld.fieldsOf Tryz.prog 264 = some [(9, 0), (9, 1), (3, 2)] := (by kernel_rfl);have hc : Tryz.prog.cellsOf 264 = 3 := (by kernel_rfl);have h9 : Tryz.prog.cellsOf 9 = 1 := (by kernel_rfl);have h3 : Tryz.prog.cellsOf 3 = 1 := (by kernel_rfl);have u3 : Tryz.prog.underlying 3 = some (.int .i64) := (by kernel_rfl);have u9 : Tryz.prog.underlying 9 = some .string := (by kernel_rfl);have hv := fun j => World.var?_cell (show Tryz.prog.globalNamed "loomwork/render.operators" = some 4 by kernel_rfl) me j;have hL : ∀ k, k < 15 -> opsL[k]? = some (.agg [.lit (.string (Tx.opT k).1.data.toList), .lit (.string (Tx.opT k).2.1.data.toList), .lit (.int .i64 (Tx.opT k).2.2)]) := by
  intro k hk;have nj:k<Tx.opsT.length:=hk;unfold opsL Tx.opT;rw [List.getElem?_map,List.getElem?_eq_getElem nj,List.getD_eq_getElem?_getD,List.getElem?_eq_getElem nj];rfl
 have bX:∀ k,k<15->W.cell? ⟨4,k*3,none⟩=some (.string (Tx.opT k).1)/\W.cell? ⟨4,k*3+1,none⟩=some (.string (Tx.opT k).2.1)/\W.cell? ⟨4,k*3+2,none⟩=some (.int .i64 (Tx.opT k).2.2):=by
  intro k hk;have e:=hL k hk;refine ⟨?_,?_,?_⟩
  ·rw [hv,<-Array.getElem?_toList];exact Ld.row_str (j:=0) hu hc hF hd hk rfl u9 h9 (by decide) e rfl
  ·rw [hv,<-Array.getElem?_toList];exact Ld.row_str (j:=1) hu hc hF hd hk rfl u9 h9 (by decide) e rfl
  ·rw [hv,<-Array.getElem?_toList];exact Ld.row_int (j:=2) hu hc hF hd hk rfl u3 h3 (by decide) e rfl
 exact ⟨zEf (bX 0 (by decide)).1,bX⟩
theorem globT_of {W : World} (h : laidMetH Tryz.prog [("loomwork/syntax.operators", Rows.laid_loomwork_syntax_operators)] W) : GlobT W := by
 have h : laidMet Tryz.prog [("loomwork/syntax.operators", Rows.laid_loomwork_syntax_operators)] W := h;obtain ⟨ps, ⟨g', t', cs, fuel, p, q, vR, tj, me, hd, _, _⟩, _⟩ := h;obtain rfl := Option.some.inj ((show Tryz.prog.globalNamed "loomwork/syntax.operators" = some 7 by kernel_rfl).symm.trans vR);obtain rfl := Option.some.inj ((show (Tryz.prog.globals[7]?).map (·.type) = some 279 by kernel_rfl).symm.trans tj);have gq := Ld.cells_of_strs (zs := Ps.words) (show Tryz.prog.underlying 279 = some (.array 14 9) by kernel_rfl) (show Tryz.prog.underlying 9 = some .string by kernel_rfl) (by kernel_rfl) (by kernel_rfl) hd;have hc : ∀ j (h : j < Ps.words.length), W.cell? ⟨7, j, none⟩ = some (.string (str Ps.words[j])) := by
  intro j hj;have := World.var?_cell (show Tryz.prog.globalNamed "loomwork/syntax.operators" = some 7 by kernel_rfl) me j;rw [this, <- Array.getElem?_toList, gq];simp [hj]
 exact ⟨zEf (hc 0 (by decide)),hc⟩
theorem pow_eq:Rows.laid_internal_strconv_uint64pow10=(Lib.tabData .u64 Lib.pow10Tab:DataW Unit):=rfl
theorem tabN_of {W : World} (h : laidMetH Tryz.prog [("internal/strconv.uint64pow10", Rows.laid_internal_strconv_uint64pow10)] W) : TabN W := by
 have h : laidMet Tryz.prog [("internal/strconv.uint64pow10", Rows.laid_internal_strconv_uint64pow10)] W := h;rw [pow_eq] at h;exact Lib.tabIs_of_head named1 (show (Tryz.prog.globals[2]?).map (·.type) = some 252 by kernel_rfl) (show Tryz.prog.underlying 252 = some (.array 20 225) by kernel_rfl) (by kernel_rfl) (by kernel_rfl) (by kernel_rfl) h
def kopsL:List (DataW Unit):=Kd.opsT.map fun s=>.agg [.lit (.int .u8 s.1),.lit (.int .u8 s.2.1),.lit (.int .i64 s.2.2)]
theorem kops_eq:Rows.laid_loomwork_kinds_operators=.agg kopsL:=rfl
theorem globK_of {W : World} (h : laidMetH Tryz.prog [("loomwork/kinds.operators", Rows.laid_loomwork_kinds_operators)] W) : GlobK W := by
 have h : laidMet Tryz.prog [("loomwork/kinds.operators", Rows.laid_loomwork_kinds_operators)] W := h;obtain ⟨ps, ⟨g', t', cs, fuel, p, q, vR, tj, me, hd, _, _⟩, _⟩ := h;obtain rfl := Option.some.inj ((show Tryz.prog.globalNamed "loomwork/kinds.operators" = some 0 by kernel_rfl).symm.trans vR);obtain rfl := Option.some.inj ((show (Tryz.prog.globals[0]?).map (·.type) = some 86 by kernel_rfl).symm.trans tj);rw [kops_eq] at hd;have hu : Tryz.prog.underlying 86 = some (.array 15 85) := (by kernel_rfl);have hF : Ld.fieldsOf Tryz.prog 85 = some [(5, 0), (5, 1), (3, 2)] := (by kernel_rfl);have hc : Tryz.prog.cellsOf 85 = 3 := (by kernel_rfl);have h5 : Tryz.prog.cellsOf 5 = 1 := (by kernel_rfl);have h3 : Tryz.prog.cellsOf 3 = 1 := (by kernel_rfl);have u3 : Tryz.prog.underlying 3 = some (.int .i64) := (by kernel_rfl);have u5 : Tryz.prog.underlying 5 = some (.int .u8) := (by kernel_rfl);have hv := fun j => World.var?_cell (show Tryz.prog.globalNamed "loomwork/kinds.operators" = some 0 by kernel_rfl) me j;have hL : ∀ k, k < 15 -> kopsL[k]? = some (.agg [.lit (.int .u8 (Kd.opN k).1), .lit (.int .u8 (Kd.opN k).2.1), .lit (.int .i64 (Kd.opN k).2.2)]) := by
  intro k hk;have nj:k<Kd.opsT.length:=hk;unfold kopsL Kd.opN;rw [List.getElem?_map,List.getElem?_eq_getElem nj,List.getD_eq_getElem?_getD,List.getElem?_eq_getElem nj];rfl
 have bX:∀ k,k<15->W.cell? ⟨0,k*3,none⟩=some (.int .u8 (Kd.opN k).1)/\W.cell? ⟨0,k*3+1,none⟩=some (.int .u8 (Kd.opN k).2.1)/\W.cell? ⟨0,k*3+2,none⟩=some (.int .i64 (Kd.opN k).2.2):=by
  intro k hk;have e:=hL k hk;refine ⟨?_,?_,?_⟩
  ·rw [hv,<-Array.getElem?_toList];exact Ld.row_int (j:=0) hu hc hF hd hk rfl u5 h5 (by decide) e rfl
  ·rw [hv,<-Array.getElem?_toList];exact Ld.row_int (j:=1) hu hc hF hd hk rfl u5 h5 (by decide) e rfl
  ·rw [hv,<-Array.getElem?_toList];exact Ld.row_int (j:=2) hu hc hF hd hk rfl u3 h3 (by decide) e rfl
 exact ⟨zEf (bX 0 (by decide)).1,bX⟩
theorem zEw {W:World} (h:laidMetH Tryz.prog Rows.kindsTurnsRow.laid W):GlobT W/\GlobK W/\Gl (fun i=>i<W.heap.size) W:=by
 have hT : GlobT W := globT_of (h.filter (fun x => x.1 == "loomwork/syntax.operators"));have hK : GlobK W := globK_of (h.filter (fun x => x.1 == "loomwork/kinds.operators"));have hS : GlobS W := globS_of (h.filter (fun x => x.1 == "loomwork/render.shapes"));have hO : GlobO W := globO_of (h.filter (fun x => x.1 == "loomwork/render.operators"));have hN : TabN W := tabN_of (h.filter (fun x => x.1 == "internal/strconv.uint64pow10"));exact ⟨hT, hK, hS, hO, hN, hS.1, hN.lt, hO.1⟩
end Go.Proofs.YtkfgbhlpjkkgfaaGreatDoor
