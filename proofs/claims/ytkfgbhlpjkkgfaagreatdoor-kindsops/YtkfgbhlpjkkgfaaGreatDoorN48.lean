import Derived.Test.YtkfgbhlpjkkgfaaGreatDoorN43
import Derived.Test.YtkfgbhlpjkkgfaaGreatDoorN47
import Derived.Test.YtkfgbhlpjkkgfaaGreatDoorN30
import Derived.Test.YtkfgbhlpjkkgfaaGreatDoorN31
import Derived.Test.YtkfgbhlpjkkgfaaGreatDoorN11
import Derived.Test.YtkfgbhlpjkkgfaaGreatDoorN13
set_option linter.unusedVariables false
set_option linter.unusedSimpArgs false
set_option maxHeartbeats 64000000
set_option maxRecDepth 100000
namespace Go.Proofs.YtkfgbhlpjkkgfaaGreatDoor
open Go.RowKit Go.IntWalk
theorem parse_all (s:ByteArray) (w:World) (hs:s.size≤1000000) (hG:GlobT w) :
  Calls Tryz.prog 21 #[.string s] w (PPost w s.data.toList):=
 parse_any form_any s w hs hG
def begX:Ex:=.mk 14 0 0 ⟨#[]⟩ [] [.mk 3 0 0 ⟨#[97]⟩ [] [],.mk 10 0 0 ⟨#[]⟩ [[(1,⟨#[]⟩)]] [.mk 1 0 0 ⟨#[]⟩ [] []]]
def begQ:Eqn:=⟨36,[⟨#[98]⟩],⟨#[]⟩,[],[begX]⟩
def begNd (x:Int):Nd:=⟨⟨#[109,97,105,110]⟩,0,[],[⟨⟨#[97]⟩,105,[(2,⟨#[]⟩)]⟩],[⟨⟨#[98]⟩,105,[(x,⟨#[]⟩)]⟩],[],[begQ]⟩
def begT2:ByteArray:=⟨#[110,111,100,101,32,109,97,105,110,40,97,58,32,105,110,116,94,50,41,32,45,62,32,40,98,58,32,105,110,116,94,50,41,32,123,32,98,32,61,32,99,97,116,40,97,44,32,102,105,108,108,40,48,44,32,49,41,41,59,32,125]⟩
def begT3:ByteArray:=⟨#[110,111,100,101,32,109,97,105,110,40,97,58,32,105,110,116,94,50,41,32,45,62,32,40,98,58,32,105,110,116,94,51,41,32,123,32,98,32,61,32,99,97,116,40,97,44,32,102,105,108,108,40,48,44,32,49,41,41,59,32,125]⟩
theorem beg_parse2:parseT begT2.data.toList=([begNd 2],0,0):=by kernel_rfl
theorem beg_parse3:parseT begT3.data.toList=([begNd 3],0,0):=by kernel_rfl
theorem knum0:Tx.num 0=⟨#[48]⟩:=by
 unfold Tx.num Lib.itoa;rw [if_neg (by decide),Lib.decDigits,dif_pos (by decide)];rfl
theorem knum1:Tx.num 1=⟨#[49]⟩:=by
 unfold Tx.num Lib.itoa;rw [if_neg (by decide),Lib.decDigits,dif_pos (by decide)];rfl
theorem knum2:Tx.num 2=⟨#[50]⟩:=by
 unfold Tx.num Lib.itoa;rw [if_neg (by decide),Lib.decDigits,dif_pos (by decide)];rfl
theorem knum3:Tx.num 3=⟨#[51]⟩:=by
 unfold Tx.num Lib.itoa;rw [if_neg (by decide),Lib.decDigits,dif_pos (by decide)];rfl
theorem beg_pieces2:Tx.progP [begNd 2]=[⟨#[110,111,100,101,32]⟩,⟨#[109,97,105,110]⟩,⟨#[40]⟩,⟨#[97]⟩,⟨#[58,32]⟩,⟨#[105,110,116]⟩,⟨#[94]⟩,⟨#[]⟩,Tx.num 2,⟨#[41,32,45,62,32,40]⟩,⟨#[98]⟩,⟨#[58,32]⟩,⟨#[105,110,116]⟩,⟨#[94]⟩,⟨#[]⟩,Tx.num 2,⟨#[41,32,123,10]⟩,⟨#[9]⟩,⟨#[98]⟩,⟨#[32,61,32]⟩,⟨#[99,97,116]⟩,⟨#[40]⟩,⟨#[97]⟩,⟨#[44,32]⟩,⟨#[102,105,108,108]⟩,⟨#[40]⟩,Tx.num 0,⟨#[44,32]⟩,⟨#[]⟩,Tx.num 1,⟨#[41]⟩,⟨#[41]⟩,⟨#[59,10]⟩,⟨#[125,10]⟩]:=by kernel_rfl
theorem beg_cat2:Tx.cat (Tx.progP [begNd 2])=⟨#[110,111,100,101,32,109,97,105,110,40,97,58,32,105,110,116,94,50,41,32,45,62,32,40,98,58,32,105,110,116,94,50,41,32,123,10,9,98,32,61,32,99,97,116,40,97,44,32,102,105,108,108,40,48,44,32,49,41,41,59,10,125,10]⟩:=by
 rw [beg_pieces2,knum0,knum1,knum2];rfl
theorem beg_nodes2:Rn.nodesC [begNd 2]=(0,0):=by kernel_rfl
theorem beg_printC2:Tx.printC [begNd 2]=(0,0):=by
 unfold Tx.printC;rw [beg_nodes2,if_neg (by simp),beg_cat2];rfl
theorem beg_pieces3:Tx.progP [begNd 3]=[⟨#[110,111,100,101,32]⟩,⟨#[109,97,105,110]⟩,⟨#[40]⟩,⟨#[97]⟩,⟨#[58,32]⟩,⟨#[105,110,116]⟩,⟨#[94]⟩,⟨#[]⟩,Tx.num 2,⟨#[41,32,45,62,32,40]⟩,⟨#[98]⟩,⟨#[58,32]⟩,⟨#[105,110,116]⟩,⟨#[94]⟩,⟨#[]⟩,Tx.num 3,⟨#[41,32,123,10]⟩,⟨#[9]⟩,⟨#[98]⟩,⟨#[32,61,32]⟩,⟨#[99,97,116]⟩,⟨#[40]⟩,⟨#[97]⟩,⟨#[44,32]⟩,⟨#[102,105,108,108]⟩,⟨#[40]⟩,Tx.num 0,⟨#[44,32]⟩,⟨#[]⟩,Tx.num 1,⟨#[41]⟩,⟨#[41]⟩,⟨#[59,10]⟩,⟨#[125,10]⟩]:=by kernel_rfl
theorem beg_cat3:Tx.cat (Tx.progP [begNd 3])=⟨#[110,111,100,101,32,109,97,105,110,40,97,58,32,105,110,116,94,50,41,32,45,62,32,40,98,58,32,105,110,116,94,51,41,32,123,10,9,98,32,61,32,99,97,116,40,97,44,32,102,105,108,108,40,48,44,32,49,41,41,59,10,125,10]⟩:=by
 rw [beg_pieces3,knum0,knum1,knum2,knum3];rfl
theorem beg_nodes3:Rn.nodesC [begNd 3]=(0,0):=by kernel_rfl
theorem beg_printC3:Tx.printC [begNd 3]=(0,0):=by
 unfold Tx.printC;rw [beg_nodes3,if_neg (by simp),beg_cat3];rfl
theorem beg_exF:Rn.exF begX:=by
 have h0:Rn.nmF ⟨#[]⟩:=(by unfold Rn.nmF maxLen;decide);have h1:Rn.nmF ⟨#[97]⟩:=(by unfold Rn.nmF maxLen;decide);have hno:∀ s ∈ ([]:List (List Tm)),Rn.szF s:=fun s hs'=>by simp at hs'
 have hsz:∀ s ∈ [[((1:Int),(⟨#[]⟩:ByteArray))]],Rn.szF s:=fun s hs' t ht=>by
  simp only [List.mem_singleton] at hs';subst hs';simp only [List.mem_singleton] at ht;subst ht;exact h0
 unfold begX;simp only [Rn.exF,Rn.exsF];exact ⟨h0,hno,⟨h1,hno,True.intro⟩,⟨h0,hsz,⟨h0,hno,True.intro⟩,True.intro⟩,True.intro⟩
theorem nm98:Rn.nmF ⟨#[98]⟩:=by unfold Rn.nmF maxLen;decide
theorem nm97:Rn.nmF ⟨#[97]⟩:=by unfold Rn.nmF maxLen;decide
theorem nm0:Rn.nmF ⟨#[]⟩:=by unfold Rn.nmF maxLen;decide
theorem nmM:Rn.nmF ⟨#[109,97,105,110]⟩:=by unfold Rn.nmF maxLen;decide
theorem sz1 (x:Int):Rn.szF [(x,⟨#[]⟩)]:=fun t ht=>by
 simp only [List.mem_singleton] at ht;subst ht;exact nm0
theorem beg_inn (x:Int):∀ d ∈ (begNd x).inn,Rn.deF d:=fun d hd=>by
 simp only [begNd,List.mem_singleton] at hd;subst hd;exact ⟨nm97,sz1 2⟩
theorem beg_out (x:Int):∀ d ∈ (begNd x).out,Rn.deF d:=fun d hd=>by
 simp only [begNd,List.mem_singleton] at hd;subst hd;exact ⟨nm98,sz1 x⟩
theorem beg_nsF (x:Int):Rn.nsF [begNd x]:=by
 intro n hn;simp only [List.mem_singleton] at hn;subst hn;refine ⟨⟨nmM,fun s hs=>by simp [begNd] at hs,beg_inn x,beg_out x,fun d hd=>by simp [begNd] at hd⟩,by simp [begNd],fun q hq=>?_⟩;simp only [begNd,List.mem_singleton] at hq;subst hq;refine ⟨fun s hs'=>?_,nm0,fun s hs'=>by simp [begQ] at hs',fun e he=>?_⟩
 ·simp only [begQ,List.mem_singleton] at hs'
  subst hs';exact nm98
 ·simp only [begQ,List.mem_singleton] at he
  subst he;exact beg_exF
theorem beg_fit (x:Int):NodeFit (begNd x):=by
 refine ⟨⟨nmM,fun s hs=>by simp [begNd] at hs,beg_inn x,beg_out x,fun d hd=>by simp [begNd] at hd,by simp [begNd]⟩,fun q hq=>?_,by simp [begNd,Kd.mkOf,Kd.doneOf,begQ],by simp [begNd]⟩;simp only [begNd,List.mem_singleton] at hq;subst hq;refine ⟨fun s hs'=>?_,by simp [begQ],fun _=>by simp [begQ]⟩;simp only [begQ,List.mem_singleton] at hs';subst hs';exact nm98
def begP (op _k:Int):Prop:=op=10∨op=14
theorem beg_ops:AllX begP begX:=by
 unfold begX;simp only [AllX,AllL];exact ⟨fun _=>.inr rfl,⟨fun h=>absurd h (by decide),True.intro⟩,⟨fun _=>.inl rfl,⟨fun h=>absurd h (by decide),True.intro⟩,True.intro⟩,True.intro⟩
theorem beg_does (x:Int):NodeDoes (begNd x):=by
 intro sb above _ q hq;simp only [begNd,List.mem_singleton] at hq;subst hq;refine ⟨fun _ e he=>?_,fun h=>absurd rfl h⟩;simp only [begQ,List.mem_singleton] at he;subst he;refine typeOf_all (P:=begP) (fun d hd=>?_) (fun op k h=>?_) begX (by kernel_rfl) beg_exF beg_ops
 ·simp only [Kd.envOf,begNd,List.append_nil,List.cons_append,List.nil_append,List.mem_cons,List.not_mem_nil,or_false] at hd
  rcases hd with rfl | rfl<;>simp
 ·rcases h with rfl | rfl
  ·exact whole10 k
  ·exact whole14 k
theorem nf_one {l:List Te} {n:Int} (hn:n≠0) (h:∀ s,sumOf l s=if s=[] then n else 0):NF l [(n,[])]:=by
 refine ⟨List.pairwise_singleton _ _,fun m s=>?_⟩;rw [h s];by_cases hs:s=[]
 ·subst hs
  simp only [if_true,List.mem_singleton,Prod.mk.injEq,and_true];exact ⟨fun e=>⟨e,e ▸ hn⟩,fun h=>h.1⟩
 ·simp only [hs,if_false,List.mem_singleton,Prod.mk.injEq,and_false,false_iff]
  exact fun h=>h.2 h.1
theorem nf21:NF ([((2:Int),(⟨#[]⟩:ByteArray)),(1,⟨#[]⟩)].map te) [(3,[])]:=nf_one (by decide) fun s=>by
 by_cases hs:s=[]
 ·subst hs
  rfl
 ·have:¬([]=s):=fun e=>hs e.symm
  simp [sumOf,te,hs,this]
theorem nfx (x:Int) (hx:x≠0):NF ([(x,(⟨#[]⟩:ByteArray))].map te) [(x,[])]:=nf_one hx fun s=>by
 by_cases hs:s=[]
 ·subst hs
  simp [sumOf,te]
 ·have:¬([]=s):=fun e=>hs e.symm
  simp [sumOf,te,hs,this]
theorem same3:Kd.sameS [((2:Int),(⟨#[]⟩:ByteArray)),(1,⟨#[]⟩)] [(3,⟨#[]⟩)]=true:=by
 unfold Kd.sameS;exact @decide_eq_true _ (Classical.propDecidable _) ⟨(Kd.okB_iff _).1 rfl,(Kd.okB_iff _).1 rfl,_,nf21,nfx 3 (by decide)⟩
theorem same2:Kd.sameS [((2:Int),(⟨#[]⟩:ByteArray)),(1,⟨#[]⟩)] [(2,⟨#[]⟩)]=false:=by
 unfold Kd.sameS;refine @decide_eq_false _ (Classical.propDecidable _) ?_;rintro ⟨_,_,r,h1,h2⟩;have e1:=h1.uniq nf21;have e2:=h2.uniq (nfx 2 (by decide));rw [e1] at e2;simp at e2
theorem beg_ty2:Kd.tyX (Kd.envOf [] (begNd 2)) begX=.ok ⟨105,[(2,⟨#[]⟩),(1,⟨#[]⟩)]⟩:=by kernel_rfl
theorem beg_same2:Kd.same ⟨105,[(2,⟨#[]⟩),(1,⟨#[]⟩)]⟩ (Kd.typ (Kd.envOf [] (begNd 2)).types ⟨#[98]⟩)=false:=by
 have e:Kd.typ (Kd.envOf [] (begNd 2)).types ⟨#[98]⟩=⟨105,[(2,⟨#[]⟩)]⟩:=(by kernel_rfl);rw [e];unfold Kd.same
 dsimp only
 rw [same2];rfl
theorem beg_eq2:Kd.codeEq (Kd.envOf [] (begNd 2)) (Kd.mkOf (begNd 2)) [] begQ=10:=by
 have e1:Kd.mkNm (Kd.mkOf (begNd 2)) [] begQ.names=0:=(by kernel_rfl);unfold Kd.codeEq;rw [e1,if_neg (by simp),if_neg (fun h=>h rfl)];have e2:begQ.E.getD 0 (.mk 0 0 0 ⟨#[]⟩ [] [])=begX:=rfl;have e3:begQ.names.getD 0 ⟨#[]⟩=⟨#[98]⟩:=rfl;rw [e2,e3,beg_ty2];simp only;rw [beg_same2];rfl
theorem beg_check2:kcheckC [begNd 2]=(10,0):=by
 have h1:Kd.headC [] (begNd 2)=0:=(by kernel_rfl);have h2:(begNd 2).eqs=[begQ]:=rfl;unfold kcheckC;rw [beg_printC2,if_neg (by simp)];unfold Kd.checkN;have hg:Kd.goN [] [begNd 2] 0 0=(10,0):=by
  simp only [Kd.goN,Kd.nodeF];rw [h1,if_neg (by simp),h2];simp only [Kd.goE];rw [beg_eq2];rfl
 rw [hg];rfl
theorem beg_ty3:Kd.tyX (Kd.envOf [] (begNd 3)) begX=.ok ⟨105,[(2,⟨#[]⟩),(1,⟨#[]⟩)]⟩:=by kernel_rfl
theorem beg_same3:Kd.same ⟨105,[(2,⟨#[]⟩),(1,⟨#[]⟩)]⟩ (Kd.typ (Kd.envOf [] (begNd 3)).types ⟨#[98]⟩)=true:=by
 have e:Kd.typ (Kd.envOf [] (begNd 3)).types ⟨#[98]⟩=⟨105,[(3,⟨#[]⟩)]⟩:=(by kernel_rfl);rw [e];unfold Kd.same
 dsimp only
 rw [same3];rfl
theorem beg_eq3:Kd.codeEq (Kd.envOf [] (begNd 3)) (Kd.mkOf (begNd 3)) [] begQ=0:=by
 have e1:Kd.mkNm (Kd.mkOf (begNd 3)) [] begQ.names=0:=(by kernel_rfl);unfold Kd.codeEq;rw [e1,if_neg (by simp),if_neg (fun h=>h rfl)];have e2:begQ.E.getD 0 (.mk 0 0 0 ⟨#[]⟩ [] [])=begX:=rfl;have e3:begQ.names.getD 0 ⟨#[]⟩=⟨#[98]⟩:=rfl;rw [e2,e3,beg_ty3];simp only;rw [beg_same3];rfl
theorem beg_check3:kcheckC [begNd 3]=(0,0):=by
 have h1:Kd.headC [] (begNd 3)=0:=(by kernel_rfl);have h2:(begNd 3).eqs=[begQ]:=rfl;unfold kcheckC;rw [beg_printC3,if_neg (by simp)];unfold Kd.checkN;have hg:Kd.goN [] [begNd 3] 0 0=(0,0):=by
  simp only [Kd.goN,Kd.nodeF];rw [h1,if_neg (by simp),h2];simp only [Kd.goE];rw [beg_eq3];simp only [ne_eq,not_true_eq_false,if_false];rfl
 rw [hg];rfl
theorem kbegun_any (w:World) (hT:GlobT w) (hG:GlobK w) (hg:Gl (fun i=>i<w.heap.size) w):Calls Tryz.prog 7 #[] w fun e w'=>e=.returned (.bool true)∧Below w.heap.size w w':=by
 have hp:=parse_all begT2 w (by decide) hT;unfold PPost at hp;rw [beg_parse2] at hp
 dsimp only at hp
 unfold begT2 at hp;go_enter Tryz.func7,Tryz.ntmps7;go_wp2_with fail;refine hp.mono ?_;rintro e w1 ⟨b1,a,n,c,rfl,hN⟩;clear hp;have bA:Below w1.heap.size w1 ((w1.alloc (.cells #[.slice a n c] 24 (0,0))).alloc (.cells #[.int .i64 0,.int .i64 0] 29 (0,0))):=((Below.refl _ _).alloc nR _).alloc (by simp) _;have BA:=b1.trans (bA.mono b1.size);have kP:((w1.alloc (.cells #[.slice a n c] 24 (0,0))).alloc (.cells #[.int .i64 0,.int .i64 0] 29 (0,0))).heap[w1.heap.size]?=some (.cells #[.slice a n c] 24 (0,0)):=(Below.heap_alloc _ _ _ (by simp)).trans (heap_new w1 _);have hNA:=hN.under bA;go_upto_region 2 with fail;generalize ((w1.alloc (.cells #[.slice a n c] 24 (0,0))).alloc (.cells #[.int .i64 0,.int .i64 0] 29 (0,0)))=W at bA BA kP hNA ⊢;have hTW:GlobT W:=hT.keep BA.size (BA.block _ hT.1);have hp:=parse_all begT3 W (by decide) hTW;unfold PPost at hp;rw [beg_parse3] at hp
 dsimp only at hp
 unfold begT3 at hp;go_wp2_with fail;refine hp.mono ?_;rintro e w2 ⟨b2,a',n',c',rfl,hN2⟩;clear hp;have B2:=BA.trans (b2.mono BA.size);have kP2:=(b2.block _ (lt_of kP)).trans kP;have hN12:=hNA.under b2;have bB:Below w2.heap.size w2 ((w2.alloc (.cells #[.slice a' n' c'] 24 (0,0))).alloc (.cells #[.int .i64 0,.int .i64 0] 29 (0,0))):=((Below.refl _ _).alloc nR _).alloc (by simp) _;have BB:=B2.trans (bB.mono B2.size);have kQ:((w2.alloc (.cells #[.slice a' n' c'] 24 (0,0))).alloc (.cells #[.int .i64 0,.int .i64 0] 29 (0,0))).heap[w2.heap.size]?=some (.cells #[.slice a' n' c'] 24 (0,0)):=(Below.heap_alloc _ _ _ (by simp)).trans (heap_new w2 _);have kG:((w2.alloc (.cells #[.slice a' n' c'] 24 (0,0))).alloc (.cells #[.int .i64 0,.int .i64 0] 29 (0,0))).heap[w2.heap.size+1]?=some (.cells #[.int .i64 0,.int .i64 0] 29 (0,0)):=by
  have:=heap_new (w2.alloc (.cells #[.slice a' n' c'] 24 (0,0))) (.cells #[.int .i64 0,.int .i64 0] 29 (0,0))
  simpa using this
 have kP3:=(bB.block _ (lt_of kP2)).trans kP2;have hN13:=hN12.under bB;have hN23:=hN2.under bB;clear hN hNA hN12 hN2 kP kP2;go_upto_region 3 with fail;generalize ((w2.alloc (.cells #[.slice a' n' c'] 24 (0,0))).alloc (.cells #[.int .i64 0,.int .i64 0] 29 (0,0)))=V at bB BB kQ kG kP3 hN13 hN23 ⊢;have gl:∀ {U:World},Below w.heap.size w U→Gl (fun i=>i<U.heap.size) U:=fun {U} hU=>by
  have g:=hg.keep (Keep.ofBelow hU);have:=hU.size;exact ⟨g.s,g.o,g.t,Nat.lt_of_lt_of_le hg.k0 this,Nat.lt_of_lt_of_le hg.k1 this,Nat.lt_of_lt_of_le hg.k2 this⟩
 have hc:=kcheck_any (ok:=fun i=>i<V.heap.size) (hN13.wide' (fun i _ hl=>hl)) (fun i hi=>hi) (hG.under (BB.mono nR)) (gl BB) (beg_nsF 2) (fun _ n hn=>by
  simp only [List.mem_singleton] at hn;subst hn;exact ⟨beg_fit 2,beg_does 2⟩) (by simp)
 rw [beg_check2] at hc
 dsimp only at hc
 have p0:=co kP3 0;have q0:=co kQ 0;have z0:=co kG 0;simp at p0 q0 z0;go_wp2_with fail;refine hc.mono ?_;rintro e w3 ⟨rfl,b3⟩;clear hc;have B3:=BB.trans (b3.mono BB.size);have q03:=(b3.cell (p:=⟨w2.heap.size,0,none⟩) (lt_of kQ)).trans q0;have hc:=kcheck_any (ok:=fun i=>i<w3.heap.size) ((hN23.under b3).wide' (fun i _ hl=>hl)) (fun i hi=>hi) (hG.under (B3.mono nR)) (gl B3) (beg_nsF 3) (fun _ n hn=>by
  simp only [List.mem_singleton] at hn;subst hn;exact ⟨beg_fit 3,beg_does 3⟩) (by simp)
 rw [beg_check3] at hc
 dsimp only at hc
 clear p0 q0 z0;have hf:∀ (a b:Int) (W:World),(Instr.field 29 (.agg #[.int .i64 a,.int .i64 b]) 0).run Tryz.prog W=.ok (.int .i64 a) W:=fun a b W=>by kernel_rfl
 go_wp2_with fail;refine hc.mono ?_;rintro e w4 ⟨rfl,b4⟩;clear hc;go_wp2;go_ret;exact ⟨rfl,B3.trans (b4.mono B3.size)⟩
end Go.Proofs.YtkfgbhlpjkkgfaaGreatDoor
namespace Go.Proofs.YtkfgbhlpjkkgfaaGreatDoor
open Go.Shelf Go.RowKit Go.Lib Go.IntWalk Go.Maps
theorem sameSize_any {ok ok':Nat→Prop} {w:World} {v u:Value} {a b:List Tm} (ha:HTerms ok w v a) (hb:HTerms ok' w u b) :
  Calls Tryz.prog 45 #[v,u] w fun e w'=>∃ q:Bool,e=.returned (.bool q)∧(q=true↔SameN a b)∧Below w.heap.size w w':=by
 have hna:=refNorm_any ha;obtain ⟨aa,ca,rfl,_,_,_⟩:=ha.at;obtain ⟨ab,cb,rfl,_,_,_⟩:=hb.at;clear ha;go_enter Tryz.func45,Tryz.ntmps45;go_wp2_with fail;refine hna.mono ?_;rintro e w1 ⟨ra,c1,a1,rfl,np1,b1⟩;clear hna;go_upto_region 2 with fail;obtain ⟨w2,hw2⟩:=nmQ (w1.alloc (.cells #[.int .i64 c1,.int .i64 a1] 29 (0,0)));have b2:=newB hw2;have K2:=newK hw2;rw [←hw2];clear hw2;have B2:=b1.trans (b2.mono b1.size);have hnb:=refNorm_any (hb.keep (w':=w2) B2.size (fun i _ hl=>B2.block i hl));clear hb;go_wp2_with fail;refine hnb.mono ?_;rintro e w3 ⟨rb,c2,a2,rfl,np2,b3⟩;clear hnb;have K3:=(b3.block _ (lt_of K2)).trans K2;go_upto_region 3 with fail;obtain ⟨w4,hw4⟩:=nmQ (w3.alloc (.cells #[.int .i64 c2,.int .i64 a2] 29 (0,0)));have b4:=newB hw4;have K4:=newK hw4;rw [←hw4];clear hw4;have K5:=(b4.block _ (lt_of K3)).trans K3;have B3:=B2.trans (b3.mono B2.size);have B4:=B3.trans (b4.mono B3.size);have d0:=co K4 0;have k0:=co K5 0;simp at d0 k0;rcases normP_cases np1 with ⟨hc1,f1⟩ | ⟨rfl,rfl,hl1,hs1,r1,own1,nf1⟩
 ·have h1:(c1==0)=false:=by simpa using hc1
  have HF:=hide (faultP_not f1 hc1);clear np1 np2 f1;go_wp2;go_ret;exact ⟨false,rfl,⟨fun h=>(by cases h),fun h=>absurd h.1 HF.out⟩,B4⟩
 ·rcases normP_cases np2 with ⟨hc2,f2⟩ | ⟨rfl,rfl,hl2,hs2,r2,own2,nf2⟩
  ·have h1:(c2==0)=false:=by simpa using hc2
   have HF:=hide (faultP_not f2 hc2);clear np1 np2 f2 own1 nf1;go_wp2;go_ret;exact ⟨false,rfl,⟨fun h=>(by cases h),fun h=>absurd h.2.1 HF.out⟩,B4⟩
  ·have bb:Below w1.heap.size w1 w4:=b2.trans ((b3.mono b2.size).trans (b4.mono (Nat.le_trans b2.size b3.size)))
   have heq:=sameTerms_any (terms_row ((own1.below bb).row)) (terms_row ((own2.below b4).row));have HNF1:=hide nf1;have HNF2:=hide nf2;have HO1:=hide (show OkN a from ⟨hl1,hs1⟩);have HO2:=hide (show OkN b from ⟨hl2,hs2⟩);clear np1 np2 own1 own2 nf1 nf2;go_wp2_with fail;refine heq.mono ?_;rintro e w5 ⟨rfl,b5⟩;go_wp2;go_ret;refine ⟨_,rfl,?_,B4.trans (b5.mono B4.size)⟩;rw [eqL_te]
   constructor
   ·intro h
    exact ⟨HO1.out,HO2.out,_,HNF1.out,h ▸ HNF2.out⟩
   ·rintro ⟨_,_,r,n1,n2⟩
    rw [HNF1.out.uniq n1,HNF2.out.uniq n2]
end Go.Proofs.YtkfgbhlpjkkgfaaGreatDoor
namespace Go.Proofs.YtkfgbhlpjkkgfaaGreatDoor
open Go.RowKit Go.IntWalk
theorem refOp_any (k:Int) (w:World) :
  Calls Tryz.prog 15 #[.int .i64 k] w fun r w'=>r=.returned (.tuple #[.int .u8 (Kd.opT k).1,.int .u8 (Kd.opT k).2.1,.int .i64 (Kd.opT k).2.2])∧Below w.heap.size w w':=by
 by_cases h1:k<1
 ·have e:Kd.opT k=(0,0,0):=by
   unfold Kd.opT;by_cases h0:k<0
   ·rw [if_pos (.inl h0)]
   ·have:k=0:=by omega
    subst this;rfl
  rw [e];go_enter Tryz.func15,Tryz.ntmps15;go_wp2;exact bodyPost_ret (v:=.tuple #[.int .u8 0,.int .u8 0,.int .i64 0]) (by simp [results,Tryz.results15,go_sem]) rfl ⟨rfl,Below.refl _ _⟩
 ·by_cases h2:14<k
  ·have e:Kd.opT k=(0,0,0):=by
    unfold Kd.opT;rw [if_pos (.inr (by omega))]
   rw [e];go_enter Tryz.func15,Tryz.ntmps15;go_wp2;exact bodyPost_ret (v:=.tuple #[.int .u8 0,.int .u8 0,.int .i64 0]) (by simp [results,Tryz.results15,go_sem]) rfl ⟨rfl,Below.refl _ _⟩
  ·have hk:k=1∨k=2∨k=3∨k=4∨k=5∨k=6∨k=7∨k=8∨k=9∨k=10∨k=11∨k=12∨k=13∨k=14:=by omega
   clear h1 h2;rcases hk with rfl | rfl | rfl | rfl | rfl | rfl | rfl | rfl | rfl | rfl | rfl | rfl | rfl | rfl
   ·have e:Kd.opT 1=(105,105,2):=by decide
    rw [e];clear e;go_enter Tryz.func15,Tryz.ntmps15;go_upto_region 8 with fail;go_quiet (fail);go_wp2;exact bodyPost_ret (v:=.tuple #[.int .u8 105,.int .u8 105,.int .i64 2]) (by simp [results,Tryz.results15,go_sem];exact ⟨rfl,rfl⟩) rfl ⟨rfl,drewN_below (Below.refl _ _) _⟩
   ·have e:Kd.opT 2=(105,105,2):=by decide
    rw [e];clear e;go_enter Tryz.func15,Tryz.ntmps15;go_upto_region 8 with fail;go_quiet (fail);go_wp2;exact bodyPost_ret (v:=.tuple #[.int .u8 105,.int .u8 105,.int .i64 2]) (by simp [results,Tryz.results15,go_sem];exact ⟨rfl,rfl⟩) rfl ⟨rfl,drewN_below (Below.refl _ _) _⟩
   ·have e:Kd.opT 3=(105,105,2):=by decide
    rw [e];clear e;go_enter Tryz.func15,Tryz.ntmps15;go_upto_region 8 with fail;go_quiet (fail);go_wp2;exact bodyPost_ret (v:=.tuple #[.int .u8 105,.int .u8 105,.int .i64 2]) (by simp [results,Tryz.results15,go_sem];exact ⟨rfl,rfl⟩) rfl ⟨rfl,drewN_below (Below.refl _ _) _⟩
   ·have e:Kd.opT 4=(105,105,2):=by decide
    rw [e];clear e;go_enter Tryz.func15,Tryz.ntmps15;go_upto_region 8 with fail;go_quiet (fail);go_wp2;exact bodyPost_ret (v:=.tuple #[.int .u8 105,.int .u8 105,.int .i64 2]) (by simp [results,Tryz.results15,go_sem];exact ⟨rfl,rfl⟩) rfl ⟨rfl,drewN_below (Below.refl _ _) _⟩
   ·have e:Kd.opT 5=(105,105,2):=by decide
    rw [e];clear e;go_enter Tryz.func15,Tryz.ntmps15;go_upto_region 8 with fail;go_quiet (fail);go_wp2;exact bodyPost_ret (v:=.tuple #[.int .u8 105,.int .u8 105,.int .i64 2]) (by simp [results,Tryz.results15,go_sem];exact ⟨rfl,rfl⟩) rfl ⟨rfl,drewN_below (Below.refl _ _) _⟩
   ·have e:Kd.opT 6=(105,105,2):=by decide
    rw [e];clear e;go_enter Tryz.func15,Tryz.ntmps15;go_upto_region 8 with fail;go_quiet (fail);go_wp2;exact bodyPost_ret (v:=.tuple #[.int .u8 105,.int .u8 105,.int .i64 2]) (by simp [results,Tryz.results15,go_sem];exact ⟨rfl,rfl⟩) rfl ⟨rfl,drewN_below (Below.refl _ _) _⟩
   ·have e:Kd.opT 7=(105,105,2):=by decide
    rw [e];clear e;go_enter Tryz.func15,Tryz.ntmps15;go_upto_region 8 with fail;go_quiet (fail);go_wp2;exact bodyPost_ret (v:=.tuple #[.int .u8 105,.int .u8 105,.int .i64 2]) (by simp [results,Tryz.results15,go_sem];exact ⟨rfl,rfl⟩) rfl ⟨rfl,drewN_below (Below.refl _ _) _⟩
   ·have e:Kd.opT 8=(105,98,2):=by decide
    rw [e];clear e;go_enter Tryz.func15,Tryz.ntmps15;go_upto_region 8 with fail;go_quiet (fail);go_wp2;exact bodyPost_ret (v:=.tuple #[.int .u8 105,.int .u8 98,.int .i64 2]) (by simp [results,Tryz.results15,go_sem];exact ⟨rfl,rfl⟩) rfl ⟨rfl,drewN_below (Below.refl _ _) _⟩
   ·have e:Kd.opT 9=(105,98,2):=by decide
    rw [e];clear e;go_enter Tryz.func15,Tryz.ntmps15;go_upto_region 8 with fail;go_quiet (fail);go_wp2;exact bodyPost_ret (v:=.tuple #[.int .u8 105,.int .u8 98,.int .i64 2]) (by simp [results,Tryz.results15,go_sem];exact ⟨rfl,rfl⟩) rfl ⟨rfl,drewN_below (Below.refl _ _) _⟩
   ·have e:Kd.opT 10=(98,98,2):=by decide
    rw [e];clear e;go_enter Tryz.func15,Tryz.ntmps15;go_upto_region 8 with fail;go_quiet (fail);go_wp2;exact bodyPost_ret (v:=.tuple #[.int .u8 98,.int .u8 98,.int .i64 2]) (by simp [results,Tryz.results15,go_sem];exact ⟨rfl,rfl⟩) rfl ⟨rfl,drewN_below (Below.refl _ _) _⟩
   ·have e:Kd.opT 11=(98,98,2):=by decide
    rw [e];clear e;go_enter Tryz.func15,Tryz.ntmps15;go_upto_region 8 with fail;go_quiet (fail);go_wp2;exact bodyPost_ret (v:=.tuple #[.int .u8 98,.int .u8 98,.int .i64 2]) (by simp [results,Tryz.results15,go_sem];exact ⟨rfl,rfl⟩) rfl ⟨rfl,drewN_below (Below.refl _ _) _⟩
   ·have e:Kd.opT 12=(98,98,2):=by decide
    rw [e];clear e;go_enter Tryz.func15,Tryz.ntmps15;go_upto_region 8 with fail;go_quiet (fail);go_wp2;exact bodyPost_ret (v:=.tuple #[.int .u8 98,.int .u8 98,.int .i64 2]) (by simp [results,Tryz.results15,go_sem];exact ⟨rfl,rfl⟩) rfl ⟨rfl,drewN_below (Below.refl _ _) _⟩
   ·have e:Kd.opT 13=(105,105,1):=by decide
    rw [e];clear e;go_enter Tryz.func15,Tryz.ntmps15;go_upto_region 8 with fail;go_quiet (fail);go_wp2;exact bodyPost_ret (v:=.tuple #[.int .u8 105,.int .u8 105,.int .i64 1]) (by simp [results,Tryz.results15,go_sem];exact ⟨rfl,rfl⟩) rfl ⟨rfl,drewN_below (Below.refl _ _) _⟩
   ·have e:Kd.opT 14=(98,98,1):=by decide
    rw [e];clear e;go_enter Tryz.func15,Tryz.ntmps15;go_upto_region 8 with fail;go_quiet (fail);go_wp2;exact bodyPost_ret (v:=.tuple #[.int .u8 98,.int .u8 98,.int .i64 1]) (by simp [results,Tryz.results15,go_sem];exact ⟨rfl,rfl⟩) rfl ⟨rfl,drewN_below (Below.refl _ _) _⟩
theorem refFolds_any (k:Int) (w:World) :
  Calls Tryz.prog 17 #[.int .i64 k] w fun r w'=>r=.returned (.bool (Kd.folds k))∧Below w.heap.size w w':=by
 have hc:=refOp_any k w;unfold Kd.folds;generalize Kd.opT k=oq at hc ⊢;obtain ⟨tk,mk,n⟩:=oq
 dsimp only at hc ⊢
 go_enter Tryz.func17,Tryz.ntmps17;go_wp2_with fail;refine hc.mono ?_;rintro r w1 ⟨rfl,b1⟩;by_cases h2:n=2
 ·subst h2
  by_cases he:tk=mk
  ·subst he
   go_wp2;go_ret;exact ⟨by simp,b1⟩
  ·have he2:(tk==mk)=false:=by simpa using he
   go_wp2;go_ret;exact ⟨by simp [he],b1⟩
 ·have h3:(n==2)=false:=by simpa using h2
  go_wp2;go_ret;exact ⟨by simp [h2],b1⟩
theorem sameN_nil:SameN [] []:=by
 have h:NF (([]:List Tm).map te) []:=⟨List.Pairwise.nil,fun n s=>by simp [sumOf]⟩;exact ⟨⟨by simp,by simp⟩,⟨by simp,by simp⟩,[],h,h⟩
theorem refSame_any {ok ok':Nat→Prop} {w:World} {v u:Value} {a b:Kd.Ty} (ha:HTy ok w v a) (hb:HTy ok' w u b) :
  Calls Tryz.prog 19 #[v,u] w fun r w'=>r=.returned (.bool (Kd.same a b))∧Below w.heap.size w w':=by
 obtain ⟨va,rfl,hva⟩:=ha;obtain ⟨aa,ca,rfl,_,_,_⟩:=hva.at;obtain ⟨vb,rfl,hvb⟩:=hb;obtain ⟨ab,cb,rfl,_,_,_⟩:=hvb.at;have b2:Below w.heap.size w ((w.alloc (.cells #[.int .u8 a.elem,.slice aa a.n.length ca] 35 (0,0))).alloc (.cells #[.int .u8 b.elem,.slice ab b.n.length cb] 35 (0,0))):=((Below.refl _ _).alloc nR _).alloc (by simp) _;have kA:((w.alloc (.cells #[.int .u8 a.elem,.slice aa a.n.length ca] 35 (0,0))).alloc (.cells #[.int .u8 b.elem,.slice ab b.n.length cb] 35 (0,0))).heap[w.heap.size]?=some (.cells #[.int .u8 a.elem,.slice aa a.n.length ca] 35 (0,0)):=(Below.heap_alloc _ _ _ (by simp)).trans (heap_new w _);have kB:((w.alloc (.cells #[.int .u8 a.elem,.slice aa a.n.length ca] 35 (0,0))).alloc (.cells #[.int .u8 b.elem,.slice ab b.n.length cb] 35 (0,0))).heap[w.heap.size+1]?=some (.cells #[.int .u8 b.elem,.slice ab b.n.length cb] 35 (0,0)):=by
  have:=heap_new (w.alloc (.cells #[.int .u8 a.elem,.slice aa a.n.length ca] 35 (0,0))) (.cells #[.int .u8 b.elem,.slice ab b.n.length cb] 35 (0,0))
  simpa using this
 have HVA:=hide (hva.under b2);have HVB:=hide (hvb.under b2);obtain ⟨R,hR⟩:=nmQ (Kd.same a b);rw [←hR];clear hva hvb;go_enter Tryz.func19,Tryz.ntmps19;go_upto_region 1 with fail;generalize (w.alloc (.cells #[.int .u8 a.elem,.slice aa a.n.length ca] 35 (0,0))).alloc (.cells #[.int .u8 b.elem,.slice ab b.n.length cb] 35 (0,0))=w2 at b2 kA kB HVA HVB ⊢;have g0:=co kA 0;have g1:=co kA 1;have h0:=co kB 0;have h1:=co kB 1;simp at g0 g1 h0 h1;by_cases he:a.elem=b.elem
 case neg=>
  have he2:(a.elem != b.elem)=true:=(by simpa using he);have hf:R=false:=(by rw [hR];unfold Kd.same;simp [he]);clear hR;subst hf;go_wp2;go_ret;exact ⟨rfl,b2⟩
 case pos=>
  have he2:(a.elem != b.elem)=false:=(by simpa using he);have HE:=hide he;clear he;by_cases hp:(0<a.n.length)=(0<b.n.length)
  case neg=>
   have hf:R=false:=by
    rw [hR];unfold Kd.same Kd.arr;have:(decide (0<a.n.length)==decide (0<b.n.length))=false:=by
     rw [beq_eq_false_iff_ne];intro e;exact hp (propext (by simpa using e))
    rw [this];simp
   clear hR;subst hf;have hcase:(0<a.n.length∧¬0<b.n.length)∨(¬0<a.n.length∧0<b.n.length):=by
    by_cases x1:0<a.n.length
    ·by_cases x2:0<b.n.length
     ·exact absurd (propext ⟨fun _=>x2,fun _=>x1⟩) hp
     ·exact .inl ⟨x1,x2⟩
    ·by_cases x2:0<b.n.length
     ·exact .inr ⟨x1,x2⟩
     ·exact absurd (propext ⟨fun h=>absurd h x1,fun h=>absurd h x2⟩) hp
   clear hp;rcases hcase with ⟨x1,x2⟩ | ⟨x1,x2⟩
   ·have i1:(0:Int)<(a.n.length:Int):=by omega
    have i2:¬(0:Int)<(b.n.length:Int):=(by omega);go_wp2;go_ret;exact ⟨rfl,b2⟩
   ·have i1:¬(0:Int)<(a.n.length:Int):=by omega
    have i2:(0:Int)<(b.n.length:Int):=(by omega);go_wp2;go_ret;exact ⟨rfl,b2⟩
  case pos=>
   have hc:=sameSize_any HVA.out HVB.out;have hR2:R=Kd.sameS a.n b.n:=by
    rw [hR];unfold Kd.same Kd.arr;have e1:decide (0<a.n.length)=decide (0<b.n.length):=(by simp only [hp]);rw [←e1];have:decide (a.elem=b.elem)=true:=(by simpa using HE.out);rw [this];by_cases x1:0<a.n.length
    ·simp [x1]
    ·have x2:¬0<b.n.length:=by rw [←hp];exact x1
     have y1:a.n=[]:=List.length_eq_zero_iff.1 (by omega);have y2:b.n=[]:=List.length_eq_zero_iff.1 (by omega);rw [y1,y2];have:Kd.sameS [] []=true:=(by unfold Kd.sameS;exact @decide_eq_true _ (Classical.propDecidable _) sameN_nil);rw [this];simp
   clear hR;have hcase:(0<a.n.length∧0<b.n.length)∨(¬0<a.n.length∧¬0<b.n.length):=by
    by_cases x1:0<a.n.length
    ·exact .inl ⟨x1,by rw [←hp];exact x1⟩
    ·exact .inr ⟨x1,by rw [←hp];exact x1⟩
   clear hp;have hfin:∀ q:Bool,(q=true↔SameN a.n b.n)→R=q:=fun q hq=>by
    rw [hR2];unfold Kd.sameS
    cases q
    ·exact @decide_eq_false _ (Classical.propDecidable _) (fun h=>by have:=hq.2 h;cases this)
    ·exact @decide_eq_true _ (Classical.propDecidable _) (hq.1 rfl)
   clear hR2;rcases hcase with ⟨x1,x2⟩ | ⟨x1,x2⟩
   ·have i1:(0:Int)<(a.n.length:Int):=by omega
    have i2:(0:Int)<(b.n.length:Int):=(by omega);go_wp2_with fail;refine hc.mono ?_;rintro e w3 ⟨q,rfl,hq,b3⟩;have hx:=hfin q hq;subst hx;go_wp2;go_ret;exact ⟨rfl,b2.trans (b3.mono b2.size)⟩
   ·have i1:¬(0:Int)<(a.n.length:Int):=by omega
    have i2:¬(0:Int)<(b.n.length:Int):=(by omega);go_wp2_with fail;refine hc.mono ?_;rintro e w3 ⟨q,rfl,hq,b3⟩;have hx:=hfin q hq;subst hx;go_wp2;go_ret;exact ⟨rfl,b2.trans (b3.mono b2.size)⟩
end Go.Proofs.YtkfgbhlpjkkgfaaGreatDoor
namespace Go.Proofs.YtkfgbhlpjkkgfaaGreatDoor
open Go.Shelf Go.RowKit Go.Lib Go.IntWalk Go.Maps
structure NotG (s:List Tm) (names:List ByteArray) (L:List (List Tm)):Prop where
 hs:s.length≤1100
 hn:names.length≤100
 hl:L.length≤100
 ss:∀ t ∈ s,t.2.size≤100
 ns:∀ x ∈ names,x.size≤100
 ls:∀ m ∈ L,m.length≤1100
structure GrE (s:List Tm) (names:List ByteArray) (L:List (List Tm)) (w:World) (e:Ending) (w':World):Prop where
 out:(e=.returned (.bool true)∨(e=.returned (.bool false)∧NotG s names L))∧w'=w
theorem szgreat_any {ok okn okl:Nat→Prop} {w:World} {v vn vl:Value} {s:List Tm} {names:List ByteArray} {L:List (List Tm)} (hs:HTerms ok w v s) (hn:HNames okn w vn names) (hL:HSizes okl w vl L) :
  Calls Tryz.prog 13 #[v,vn,vl] w fun e w'=>GrE s names L w e w':=by
 obtain ⟨ao,cap,rfl,hc1,hc2,hat⟩:=hs.at;obtain ⟨an,cn,rfl,hn1,hn2,hnat⟩:=hn.at;obtain ⟨aL,cL,rfl,hL1,hL2,hLat⟩:=hL.at;unfold maxLen at hc2 hn2 hL2;have HAT:=hide hat;have HNAT:=hide hnat;have HLAT:=hide hLat;clear hs hn hL hat hnat hLat;by_cases h1:1100<s.length
 ·have h1I:(1100:Int)<(s.length:Int):=by omega
  go_enter Tryz.func13,Tryz.ntmps13;go_wp2;go_ret;exact ⟨⟨.inl rfl,rfl⟩⟩
 by_cases h2:100<names.length
 ·have h1I:¬(1100:Int)<(s.length:Int):=by omega
  have h2I:(100:Int)<(names.length:Int):=(by omega);go_enter Tryz.func13,Tryz.ntmps13;go_wp2;go_ret;exact ⟨⟨.inl rfl,rfl⟩⟩
 by_cases h3:100<L.length
 ·have h1I:¬(1100:Int)<(s.length:Int):=by omega
  have h2I:¬(100:Int)<(names.length:Int):=(by omega);have h3I:(100:Int)<(L.length:Int):=(by omega);go_enter Tryz.func13,Tryz.ntmps13;go_wp2;go_ret;exact ⟨⟨.inl rfl,rfl⟩⟩
 have h1I:¬(1100:Int)<(s.length:Int):=(by omega);have h2I:¬(100:Int)<(names.length:Int):=(by omega);have h3I:¬(100:Int)<(L.length:Int):=(by omega);go_enter Tryz.func13,Tryz.ntmps13;go_upto_block 0 with fail;go_cut [7] (fun _ wd=>Hid (∀ t ∈ s,t.2.size≤100)∧wd=w)
 case first=>
  go_wp2_with fail;go_loopg [7] s.length (fun gh s7 wr=>∃ i:Nat,s7=.int .i64 (i:Int)∧i≤s.length∧s.length≤gh+i∧Hid (∀ j (hj:j<s.length),j<i→(s[j]).2.size≤100)∧wr=w)
  case atStart=>exact ⟨0,rfl,by omega,by omega,hide (fun j hj h=>absurd h (Nat.not_lt_zero _)),rfl⟩
  case round=>
   obtain ⟨i,rfl,his,hgi,HI,rfl⟩:=hrel;by_cases hlt:i<s.length
   case neg=>
    have hge:¬(i:Int)<(s.length:Int):=(by omega);go_wp2_with fail;go_meet
    case rel=>exact ⟨hide (fun t ht=>by
     obtain ⟨j,hj,rfl⟩:=List.mem_iff_getElem.1 ht;exact HI.out j hj (by omega)),rfl⟩
   case pos=>
    have hltI:(i:Int)<(s.length:Int):=(by omega);obtain ⟨b,o,rfl,hb,c0,c1⟩:=HAT.out i hlt;have HI2:=hide (fun (h:(s[i]).2.size≤100) j (hj:j<s.length) (hji:j<i+1)=>(show (s[j]).2.size≤100 by
     by_cases e:j=i
     ·subst e;exact h
     ·exact HI.out j hj (by omega)))
    generalize s[i]=t at c0 c1 HI2;by_cases hz:100<t.2.size
    ·have hzI:(100:Int)<(t.2.size:Int):=by omega
     go_wp2;go_ret;exact ⟨⟨.inl rfl,rfl⟩⟩
    ·have hzI:¬(100:Int)<(t.2.size:Int):=by omega
     go_wp2_with fail;go_roundg (gk-1)
     case measure=>omega
     case rel=>exact ⟨i+1,by go_num,by omega,by omega,hide (HI2.out (by omega)),rfl⟩
 case rest=>
  obtain ⟨HSS,rfl⟩:=hcut;go_upto_block 2 with fail;go_cut [8] (fun _ wd=>Hid (∀ x ∈ names,x.size≤100)∧wd=wc)
  case first=>
   go_wp2_with fail;go_loopg [8] names.length (fun gh s7 wr=>∃ i:Nat,s7=.int .i64 (i:Int)∧i≤names.length∧names.length≤gh+i∧Hid (∀ j (hj:j<names.length),j<i→(names[j]).size≤100)∧wr=wc)
   case atStart=>exact ⟨0,rfl,by omega,by omega,hide (fun j hj h=>absurd h (Nat.not_lt_zero _)),rfl⟩
   case round=>
    obtain ⟨i,rfl,his,hgi,HI,rfl⟩:=hrel;by_cases hlt:i<names.length
    case neg=>
     have hge:¬(i:Int)<(names.length:Int):=(by omega);go_wp2_with fail;go_meet
     case rel=>exact ⟨hide (fun t ht=>by
      obtain ⟨j,hj,rfl⟩:=List.mem_iff_getElem.1 ht;exact HI.out j hj (by omega)),rfl⟩
    case pos=>
     have hltI:(i:Int)<(names.length:Int):=(by omega);obtain ⟨b,o,rfl,hb,c0⟩:=HNAT.out i hlt;have HI2:=hide (fun (h:(names[i]).size≤100) j (hj:j<names.length) (hji:j<i+1)=>(show (names[j]).size≤100 by
      by_cases e:j=i
      ·subst e;exact h
      ·exact HI.out j hj (by omega)))
     generalize names[i]=t at c0 HI2;by_cases hz:100<t.size
     ·have hzI:(100:Int)<(t.size:Int):=by omega
      go_wp2;go_ret;exact ⟨⟨.inl rfl,rfl⟩⟩
     ·have hzI:¬(100:Int)<(t.size:Int):=by omega
      go_wp2_with fail;go_roundg (gk-1)
      case measure=>omega
      case rel=>exact ⟨i+1,by go_num,by omega,by omega,hide (HI2.out (by omega)),rfl⟩
  case rest=>
   obtain ⟨HNS,rfl⟩:=hcut;obtain ⟨wo,hwo⟩:=nmQ (wc);subst hwo;go_wp2_with fail;go_loopg [9,10] L.length (fun gh s9 _ wr=>∃ i:Nat,s9=.int .i64 (i:Int)∧i≤L.length∧L.length≤gh+i∧Hid (∀ j (hj:j<L.length),j<i→(L[j]).length≤1100)∧wr=wo)
   case atStart=>exact ⟨0,rfl,by omega,by omega,hide (fun j hj h=>absurd h (Nat.not_lt_zero _)),rfl⟩
   case round=>
    obtain ⟨i,rfl,his,hgi,HI,rfl⟩:=hrel;by_cases hlt:i<L.length
    case neg=>
     have hge:¬(i:Int)<(L.length:Int):=(by omega);go_wp2;go_ret;exact ⟨⟨.inr ⟨rfl,⟨by omega,by omega,by omega,HSS.out,HNS.out,fun m hm=>by
      obtain ⟨j,hj,rfl⟩:=List.mem_iff_getElem.1 hm;exact HI.out j hj (by omega)⟩⟩,rfl⟩⟩
    case pos=>
     have hltI:(i:Int)<(L.length:Int):=(by omega);obtain ⟨b,o,au,nu,cu,rfl,hb,c0,hTu⟩:=HLAT.out i hlt;obtain ⟨au',cu',ev4,hu1,hu2,hmat⟩:=hTu.at;injection ev4 with ev5 ev6 ev7;subst ev6;subst ev5;have HI2:=hide (fun (h:(L[i]).length≤1100) j (hj:j<L.length) (hji:j<i+1)=>(show (L[j]).length≤1100 by
      by_cases e:j=i
      ·subst e;exact h
      ·exact HI.out j hj (by omega)))
     generalize L[i]=m at c0 HI2 hmat hu1;have HMAT:=hide hmat;unfold maxLen at hu2;clear hTu hmat ev7 HI;obtain ⟨G,hG⟩:=nmQ (gk);subst hG;by_cases hz:1100<m.length
     ·have hzI:(1100:Int)<(m.length:Int):=by omega
      go_wp2;go_ret;exact ⟨⟨.inl rfl,rfl⟩⟩
     ·have hzI:¬(1100:Int)<(m.length:Int):=by omega
      obtain ⟨wi,hwi⟩:=nmQ (wr);subst hwi;go_wp2_with fail;go_loopg [10] m.length (fun gh s10 wr=>∃ j:Nat,s10=.int .i64 (j:Int)∧j≤m.length∧m.length≤gh+j∧wr=wi)
      case atStart=>exact ⟨0,rfl,by omega,by omega,rfl⟩
      case round=>
       obtain ⟨j,rfl,hjm,hgj,rfl⟩:=hrel;by_cases hjlt:j<m.length
       case neg=>
        have hge:¬(j:Int)<(m.length:Int):=(by omega);go_wp2_with fail;go_roundg (G-1)
        case measure=>omega
        case rel=>exact ⟨i+1,by go_num,by omega,by omega,hide (HI2.out (by omega)),rfl⟩
       case pos=>
        have hjI:(j:Int)<(m.length:Int):=(by omega);obtain ⟨bm,om,rfl,hbm,m0,m1⟩:=HMAT.out j hjlt;generalize m[j]=x at m0 m1;by_cases hy:100<x.2.size
        ·have hyI:(100:Int)<(x.2.size:Int):=by omega
         go_wp2;go_ret;exact ⟨⟨.inl rfl,rfl⟩⟩
        ·have hyI:¬(100:Int)<(x.2.size:Int):=by omega
         go_wp2_with fail;go_roundg (gk-1)
         case measure=>omega
         case rel=>exact ⟨j+1,by go_num,by omega,by omega,rfl⟩
end Go.Proofs.YtkfgbhlpjkkgfaaGreatDoor
