import Derived.Test.YtkfgbhlpjkkgfaaGreatDoorT42
import Derived.Test.YtkfgbhlpjkkgfaaGreatDoorT46
import Derived.Test.YtkfgbhlpjkkgfaaGreatDoorT24
import Derived.Test.YtkfgbhlpjkkgfaaGreatDoorT28
set_option linter.unusedVariables false
set_option linter.unusedSimpArgs false
set_option maxHeartbeats 64000000
set_option maxRecDepth 100000
namespace Go.Proofs.YtkfgbhlpjkkgfaaGreatDoor
open Go.RowKit Go.IntWalk
theorem parse_all (s:ByteArray) (w:World) (hs:s.size<=1000000) (hG:GlobT w) :
  Calls Tryz.prog 21 #[.string s] w (PPost w s.data.toList):=
 parse_any form_any s w hs hG
def begX:Ex:=.mk 14 0 0 ⟨#[]⟩ [] [.mk 3 0 0 ⟨#[97]⟩ [] [],.mk 10 0 0 ⟨#[]⟩ [[(1,⟨#[]⟩)]] [.mk 1 0 0 ⟨#[]⟩ [] []]]
def begQ:Eqn:=⟨36,[⟨#[98]⟩],⟨#[]⟩,[],[begX]⟩
def begNd (x:Int):Nd:=⟨⟨#[109,97,105,110]⟩,0,[],[⟨⟨#[97]⟩,105,[(2,⟨#[]⟩)]⟩],[⟨⟨#[98]⟩,105,[(x,⟨#[]⟩)]⟩],[],[begQ]⟩
def begT2:ByteArray:=⟨#[110,111,100,101,32,109,97,105,110,40,97,58,32,105,110,116,94,50,41,32,45,62,32,40,98,58,32,105,110,116,94,50,41,32,123,32,98,32,61,32,99,97,116,40,97,44,32,102,105,108,108,40,48,44,32,49,41,41,59,32,125]⟩
def begT3:ByteArray:=⟨#[110,111,100,101,32,109,97,105,110,40,97,58,32,105,110,116,94,50,41,32,45,62,32,40,98,58,32,105,110,116,94,51,41,32,123,32,98,32,61,32,99,97,116,40,97,44,32,102,105,108,108,40,48,44,32,49,41,41,59,32,125]⟩
theorem beg_parse2:parseT begT2.data.toList=([begNd 2],0,0):=by kernel_rfl
theorem beg_parse3:parseT begT3.data.toList=([begNd 3],0,0):=by kernel_rfl
theorem knum0:Tx.num 0=⟨#[48]⟩:=by
 unfold Tx.num Lib.itoa;rw [if_neg (by decide),Lib.decDigits,dif_pos (by decide)];rfl
theorem knum1:Tx.num 1=⟨#[49]⟩:=by
 unfold Tx.num Lib.itoa;rw [if_neg (by decide),Lib.decDigits,dif_pos (by decide)];rfl
theorem knum2:Tx.num 2=⟨#[50]⟩:=by
 unfold Tx.num Lib.itoa;rw [if_neg (by decide),Lib.decDigits,dif_pos (by decide)];rfl
theorem knum3:Tx.num 3=⟨#[51]⟩:=by
 unfold Tx.num Lib.itoa;rw [if_neg (by decide),Lib.decDigits,dif_pos (by decide)];rfl
theorem beg_pieces2:Tx.progP [begNd 2]=[⟨#[110,111,100,101,32]⟩,⟨#[109,97,105,110]⟩,⟨#[40]⟩,⟨#[97]⟩,⟨#[58,32]⟩,⟨#[105,110,116]⟩,⟨#[94]⟩,⟨#[]⟩,Tx.num 2,⟨#[41,32,45,62,32,40]⟩,⟨#[98]⟩,⟨#[58,32]⟩,⟨#[105,110,116]⟩,⟨#[94]⟩,⟨#[]⟩,Tx.num 2,⟨#[41,32,123,10]⟩,⟨#[9]⟩,⟨#[98]⟩,⟨#[32,61,32]⟩,⟨#[99,97,116]⟩,⟨#[40]⟩,⟨#[97]⟩,⟨#[44,32]⟩,⟨#[102,105,108,108]⟩,⟨#[40]⟩,Tx.num 0,⟨#[44,32]⟩,⟨#[]⟩,Tx.num 1,⟨#[41]⟩,⟨#[41]⟩,⟨#[59,10]⟩,⟨#[125,10]⟩]:=by kernel_rfl
theorem beg_cat2:Tx.cat (Tx.progP [begNd 2])=⟨#[110,111,100,101,32,109,97,105,110,40,97,58,32,105,110,116,94,50,41,32,45,62,32,40,98,58,32,105,110,116,94,50,41,32,123,10,9,98,32,61,32,99,97,116,40,97,44,32,102,105,108,108,40,48,44,32,49,41,41,59,10,125,10]⟩:=by
 rw [beg_pieces2,knum0,knum1,knum2];rfl
theorem beg_nodes2:Rn.nodesC [begNd 2]=(0,0):=by kernel_rfl
theorem beg_printC2:Tx.printC [begNd 2]=(0,0):=by
 unfold Tx.printC;rw [beg_nodes2,if_neg (by simp),beg_cat2];rfl
theorem beg_pieces3:Tx.progP [begNd 3]=[⟨#[110,111,100,101,32]⟩,⟨#[109,97,105,110]⟩,⟨#[40]⟩,⟨#[97]⟩,⟨#[58,32]⟩,⟨#[105,110,116]⟩,⟨#[94]⟩,⟨#[]⟩,Tx.num 2,⟨#[41,32,45,62,32,40]⟩,⟨#[98]⟩,⟨#[58,32]⟩,⟨#[105,110,116]⟩,⟨#[94]⟩,⟨#[]⟩,Tx.num 3,⟨#[41,32,123,10]⟩,⟨#[9]⟩,⟨#[98]⟩,⟨#[32,61,32]⟩,⟨#[99,97,116]⟩,⟨#[40]⟩,⟨#[97]⟩,⟨#[44,32]⟩,⟨#[102,105,108,108]⟩,⟨#[40]⟩,Tx.num 0,⟨#[44,32]⟩,⟨#[]⟩,Tx.num 1,⟨#[41]⟩,⟨#[41]⟩,⟨#[59,10]⟩,⟨#[125,10]⟩]:=by kernel_rfl
theorem beg_cat3:Tx.cat (Tx.progP [begNd 3])=⟨#[110,111,100,101,32,109,97,105,110,40,97,58,32,105,110,116,94,50,41,32,45,62,32,40,98,58,32,105,110,116,94,51,41,32,123,10,9,98,32,61,32,99,97,116,40,97,44,32,102,105,108,108,40,48,44,32,49,41,41,59,10,125,10]⟩:=by
 rw [beg_pieces3,knum0,knum1,knum2,knum3];rfl
theorem beg_nodes3:Rn.nodesC [begNd 3]=(0,0):=by kernel_rfl
theorem beg_printC3:Tx.printC [begNd 3]=(0,0):=by
 unfold Tx.printC;rw [beg_nodes3,if_neg (by simp),beg_cat3];rfl
theorem beg_exF:Rn.exF begX:=by
 have h0:Rn.nmF ⟨#[]⟩:=(by unfold Rn.nmF maxLen;decide);have h1:Rn.nmF ⟨#[97]⟩:=(by unfold Rn.nmF maxLen;decide);have lL:∀ s ∈ ([]:List (List Tm)),Rn.szF s:=fun s jM=>by simp at jM
 have bo:∀ s ∈ [[((1:Int),(⟨#[]⟩:ByteArray))]],Rn.szF s:=fun s jM t ht=>by
  simp only [List.mem_singleton] at jM;subst jM;simp only [List.mem_singleton] at ht;subst ht;exact h0
 unfold begX;simp only [Rn.exF,Rn.exsF];exact ⟨h0,lL,⟨h1,lL,True.intro⟩,⟨h0,bo,⟨h0,lL,True.intro⟩,True.intro⟩,True.intro⟩
theorem nm98:Rn.nmF ⟨#[98]⟩:=by unfold Rn.nmF maxLen;decide
theorem nm97:Rn.nmF ⟨#[97]⟩:=by unfold Rn.nmF maxLen;decide
theorem nm0:Rn.nmF ⟨#[]⟩:=by unfold Rn.nmF maxLen;decide
theorem nmM:Rn.nmF ⟨#[109,97,105,110]⟩:=by unfold Rn.nmF maxLen;decide
theorem sz1 (x:Int):Rn.szF [(x,⟨#[]⟩)]:=fun t ht=>by
 simp only [List.mem_singleton] at ht;subst ht;exact nm0
theorem beg_inn (x:Int):∀ d ∈ (begNd x).inn,Rn.deF d:=fun d hd=>by
 simp only [begNd,List.mem_singleton] at hd;subst hd;exact ⟨nm97,sz1 2⟩
theorem beg_out (x:Int):∀ d ∈ (begNd x).out,Rn.deF d:=fun d hd=>by
 simp only [begNd,List.mem_singleton] at hd;subst hd;exact ⟨nm98,sz1 x⟩
theorem beg_nsF (x:Int):Rn.nsF [begNd x]:=by
 intro n hn;simp only [List.mem_singleton] at hn;subst hn;refine ⟨⟨nmM,fun s hs=>by simp [begNd] at hs,beg_inn x,beg_out x,fun d hd=>by simp [begNd] at hd⟩,by simp [begNd],fun q hq=>?_⟩;simp only [begNd,List.mem_singleton] at hq;subst hq;refine ⟨fun s jM=>?_,nm0,fun s jM=>by simp [begQ] at jM,fun e he=>?_⟩
 ·simp only [begQ,List.mem_singleton] at jM
  subst jM;exact nm98
 ·simp only [begQ,List.mem_singleton] at he
  subst he;exact beg_exF
theorem beg_fit (x:Int):NodeFit (begNd x):=by
 refine ⟨⟨nmM,fun s hs=>by simp [begNd] at hs,beg_inn x,beg_out x,fun d hd=>by simp [begNd] at hd,by simp [begNd]⟩,fun q hq=>?_,by simp [begNd,Kd.mkOf,Kd.doneOf,begQ],by simp [begNd]⟩;simp only [begNd,List.mem_singleton] at hq;subst hq;refine ⟨fun s jM=>?_,by simp [begQ],fun _=>by simp [begQ]⟩;simp only [begQ,List.mem_singleton] at jM;subst jM;exact nm98
def begP (op _k:Int):Prop:=op=10\/op=14
theorem beg_ops:AllX begP begX:=by
 unfold begX;simp only [AllX,AllL];exact ⟨fun _=>.inr rfl,⟨fun h=>absurd h (by decide),True.intro⟩,⟨fun _=>.inl rfl,⟨fun h=>absurd h (by decide),True.intro⟩,True.intro⟩,True.intro⟩
theorem beg_does (x:Int):NodeDoes (begNd x):=by
 intro sb above _ _ q hq;simp only [begNd,List.mem_singleton] at hq;subst hq;refine ⟨fun _ e he=>?_,fun h=>absurd rfl h⟩;simp only [begQ,List.mem_singleton] at he;subst he;refine zDA (P:=begP) (fun d hd=>?_) (fun op k h=>?_) begX (by kernel_rfl) beg_exF beg_ops
 ·simp only [Kd.envOf,begNd,List.append_nil,List.cons_append,List.nil_append,List.mem_cons,List.not_mem_nil,or_false] at hd
  rcases hd with rfl | rfl<;>simp
 ·rcases h with rfl | rfl
  ·exact whole10 k
  ·exact whole14 k
theorem nf_one {l:List Te} {n:Int} (hn:n≠0) (h:∀ s,sumOf l s=if s=[] then n else 0):NF l [(n,[])]:=by
 refine ⟨List.pairwise_singleton _ _,fun m s=>?_⟩;rw [h s];by_cases hs:s=[]
 ·subst hs
  simp only [if_true,List.mem_singleton,Prod.mk.injEq,and_true];exact ⟨fun e=>⟨e,e ▸ hn⟩,fun h=>h.1⟩
 ·simp only [hs,if_false,List.mem_singleton,Prod.mk.injEq,and_false,false_iff]
  exact fun h=>h.2 h.1
theorem nf21:NF ([((2:Int),(⟨#[]⟩:ByteArray)),(1,⟨#[]⟩)].map te) [(3,[])]:=nf_one (by decide) fun s=>by
 by_cases hs:s=[]
 ·subst hs
  rfl
 ·have:¬([]=s):=fun e=>hs e.symm
  simp [sumOf,te,hs,this]
theorem nfx (x:Int) (hx:x≠0):NF ([(x,(⟨#[]⟩:ByteArray))].map te) [(x,[])]:=nf_one hx fun s=>by
 by_cases hs:s=[]
 ·subst hs
  simp [sumOf,te]
 ·have:¬([]=s):=fun e=>hs e.symm
  simp [sumOf,te,hs,this]
theorem same3:Kd.sameS [((2:Int),(⟨#[]⟩:ByteArray)),(1,⟨#[]⟩)] [(3,⟨#[]⟩)]=true:=by
 unfold Kd.sameS;exact @decide_eq_true _ (Classical.propDecidable _) ⟨(Kd.okB_iff _).1 rfl,(Kd.okB_iff _).1 rfl,_,nf21,nfx 3 (by decide)⟩
theorem same2:Kd.sameS [((2:Int),(⟨#[]⟩:ByteArray)),(1,⟨#[]⟩)] [(2,⟨#[]⟩)]=false:=by
 unfold Kd.sameS;refine @decide_eq_false _ (Classical.propDecidable _) ?_;rintro ⟨_,_,r,h1,h2⟩;have e1:=h1.uniq nf21;have e2:=h2.uniq (nfx 2 (by decide));rw [e1] at e2;simp at e2
theorem beg_ty2:Kd.tyX (Kd.envOf [] (begNd 2)) begX=.ok ⟨105,[(2,⟨#[]⟩),(1,⟨#[]⟩)]⟩:=by kernel_rfl
theorem beg_same2:Kd.same ⟨105,[(2,⟨#[]⟩),(1,⟨#[]⟩)]⟩ (Kd.typ (Kd.envOf [] (begNd 2)).types ⟨#[98]⟩)=false:=by
 have e:Kd.typ (Kd.envOf [] (begNd 2)).types ⟨#[98]⟩=⟨105,[(2,⟨#[]⟩)]⟩:=(by kernel_rfl);rw [e];unfold Kd.same
 dsimp only
 rw [same2];rfl
theorem beg_eq2:Kd.codeEq (Kd.envOf [] (begNd 2)) (Kd.mkOf (begNd 2)) [] begQ=10:=by
 have e1:Kd.mkNm (Kd.mkOf (begNd 2)) [] begQ.names=0:=(by kernel_rfl);unfold Kd.codeEq;rw [e1,if_neg (by simp),if_neg (fun h=>h rfl)];have e2:begQ.E.getD 0 (.mk 0 0 0 ⟨#[]⟩ [] [])=begX:=rfl;have e3:begQ.names.getD 0 ⟨#[]⟩=⟨#[98]⟩:=rfl;rw [e2,e3,beg_ty2];simp only;rw [beg_same2];rfl
theorem beg_check2:kcheckC [begNd 2]=(10,0):=by
 have h1:Kd.headC [] (begNd 2)=0:=(by kernel_rfl);have h2:(begNd 2).eqs=[begQ]:=rfl;unfold kcheckC;rw [beg_printC2,if_neg (by simp)];unfold Kd.checkN;have hg:Kd.goN [] [begNd 2] 0 0=(10,0):=by
  simp only [Kd.goN,Kd.nodeF];rw [h1,if_neg (by simp),h2];simp only [Kd.goE];rw [beg_eq2];rfl
 rw [hg];rfl
theorem beg_ty3:Kd.tyX (Kd.envOf [] (begNd 3)) begX=.ok ⟨105,[(2,⟨#[]⟩),(1,⟨#[]⟩)]⟩:=by kernel_rfl
theorem beg_same3:Kd.same ⟨105,[(2,⟨#[]⟩),(1,⟨#[]⟩)]⟩ (Kd.typ (Kd.envOf [] (begNd 3)).types ⟨#[98]⟩)=true:=by
 have e:Kd.typ (Kd.envOf [] (begNd 3)).types ⟨#[98]⟩=⟨105,[(3,⟨#[]⟩)]⟩:=(by kernel_rfl);rw [e];unfold Kd.same
 dsimp only
 rw [same3];rfl
theorem beg_eq3:Kd.codeEq (Kd.envOf [] (begNd 3)) (Kd.mkOf (begNd 3)) [] begQ=0:=by
 have e1:Kd.mkNm (Kd.mkOf (begNd 3)) [] begQ.names=0:=(by kernel_rfl);unfold Kd.codeEq;rw [e1,if_neg (by simp),if_neg (fun h=>h rfl)];have e2:begQ.E.getD 0 (.mk 0 0 0 ⟨#[]⟩ [] [])=begX:=rfl;have e3:begQ.names.getD 0 ⟨#[]⟩=⟨#[98]⟩:=rfl;rw [e2,e3,beg_ty3];simp only;rw [beg_same3];rfl
theorem beg_check3:kcheckC [begNd 3]=(0,0):=by
 have h1:Kd.headC [] (begNd 3)=0:=(by kernel_rfl);have h2:(begNd 3).eqs=[begQ]:=rfl;unfold kcheckC;rw [beg_printC3,if_neg (by simp)];unfold Kd.checkN;have hg:Kd.goN [] [begNd 3] 0 0=(0,0):=by
  simp only [Kd.goN,Kd.nodeF];rw [h1,if_neg (by simp),h2];simp only [Kd.goE];rw [beg_eq3];simp only [ne_eq,not_true_eq_false,if_false];rfl
 rw [hg];rfl
theorem kbegun_any (w:World) (hT:GlobT w) (hG:GlobK w) (hg:Gl (fun i=>i<w.heap.size) w):Calls Tryz.prog 7 #[] w fun e w'=>e=.returned (.bool true)/\Below w.heap.size w w':=by
 have hp:=parse_all begT2 w (by decide) hT;unfold PPost at hp;rw [beg_parse2] at hp
 dsimp only at hp
 unfold begT2 at hp;go_enter Tryz.func7,Tryz.ntmps7;go_wp2_with fail;refine hp.mono ?_;rintro e w1 ⟨b1,a,n,c,rfl,hN⟩;clear hp;have bA:Below w1.heap.size w1 ((w1.alloc (.cells #[.slice a n c] 24 (0,0))).alloc (.cells #[.int .i64 0,.int .i64 0] 29 (0,0))):=((Below.refl _ _).alloc nR _).alloc (by simp) _;have BA:=b1.trans (bA.mono b1.size);have kP:((w1.alloc (.cells #[.slice a n c] 24 (0,0))).alloc (.cells #[.int .i64 0,.int .i64 0] 29 (0,0))).heap[w1.heap.size]?=some (.cells #[.slice a n c] 24 (0,0)):=(Below.heap_alloc _ _ _ (by simp)).trans (zAC w1 _);have Et:=hN.under bA;go_upto_region 2 with fail;generalize ((w1.alloc (.cells #[.slice a n c] 24 (0,0))).alloc (.cells #[.int .i64 0,.int .i64 0] 29 (0,0)))=W at bA BA kP Et ⊢;have sY:GlobT W:=hT.keep BA.size (BA.block _ hT.1);have hp:=parse_all begT3 W (by decide) sY;unfold PPost at hp;rw [beg_parse3] at hp
 dsimp only at hp
 unfold begT3 at hp;go_wp2_with fail;refine hp.mono ?_;rintro e w2 ⟨b2,a',n',c',rfl,gH⟩;clear hp;have B2:=BA.trans (b2.mono BA.size);have EY:=(b2.block _ (zAB kP)).trans kP;have gR:=Et.under b2;have bB:Below w2.heap.size w2 ((w2.alloc (.cells #[.slice a' n' c'] 24 (0,0))).alloc (.cells #[.int .i64 0,.int .i64 0] 29 (0,0))):=((Below.refl _ _).alloc nR _).alloc (by simp) _;have BB:=B2.trans (bB.mono B2.size);have kQ:((w2.alloc (.cells #[.slice a' n' c'] 24 (0,0))).alloc (.cells #[.int .i64 0,.int .i64 0] 29 (0,0))).heap[w2.heap.size]?=some (.cells #[.slice a' n' c'] 24 (0,0)):=(Below.heap_alloc _ _ _ (by simp)).trans (zAC w2 _);have kG:((w2.alloc (.cells #[.slice a' n' c'] 24 (0,0))).alloc (.cells #[.int .i64 0,.int .i64 0] 29 (0,0))).heap[w2.heap.size+1]?=some (.cells #[.int .i64 0,.int .i64 0] 29 (0,0)):=by
  have:=zAC (w2.alloc (.cells #[.slice a' n' c'] 24 (0,0))) (.cells #[.int .i64 0,.int .i64 0] 29 (0,0))
  simpa using this
 have qE:=(bB.block _ (zAB EY)).trans EY;have ig:=gR.under bB;have zU:=gH.under bB;clear hN Et gR gH kP EY;go_upto_region 3 with fail;generalize ((w2.alloc (.cells #[.slice a' n' c'] 24 (0,0))).alloc (.cells #[.int .i64 0,.int .i64 0] 29 (0,0)))=V at bB BB kQ kG qE ig zU ⊢;have gl:∀ {U:World},Below w.heap.size w U->Gl (fun i=>i<U.heap.size) U:=fun {U} hU=>by
  have g:=hg.keep (Keep.ofBelow hU);have:=hU.size;exact ⟨g.s,g.o,g.t,Nat.lt_of_lt_of_le hg.k0 this,Nat.lt_of_lt_of_le hg.k1 this,Nat.lt_of_lt_of_le hg.k2 this⟩
 have hc:=zDQ (ok:=fun i=>i<V.heap.size) (ig.wide' (fun i _ hl=>hl)) (fun i hi=>hi) (hG.under (BB.mono nR)) (gl BB) (beg_nsF 2) (fun _ n hn=>by
  simp only [List.mem_singleton] at hn;subst hn;exact ⟨beg_fit 2,beg_does 2⟩) (fun _=>by simp)
 rw [beg_check2] at hc
 dsimp only at hc
 have p0:=co qE 0;have q0:=co kQ 0;have z0:=co kG 0;simp at p0 q0 z0;go_wp2_with fail;refine hc.mono ?_;rintro e w3 ⟨rfl,b3⟩;clear hc;have B3:=BB.trans (b3.mono BB.size);have QF:=(b3.cell (p:=⟨w2.heap.size,0,none⟩) (zAB kQ)).trans q0;have hc:=zDQ (ok:=fun i=>i<w3.heap.size) ((zU.under b3).wide' (fun i _ hl=>hl)) (fun i hi=>hi) (hG.under (B3.mono nR)) (gl B3) (beg_nsF 3) (fun _ n hn=>by
  simp only [List.mem_singleton] at hn;subst hn;exact ⟨beg_fit 3,beg_does 3⟩) (fun _=>by simp)
 rw [beg_check3] at hc
 dsimp only at hc
 clear p0 q0 z0;have hf:∀ (a b:Int) (W:World),(Instr.field 29 (.agg #[.int .i64 a,.int .i64 b]) 0).run Tryz.prog W=.ok (.int .i64 a) W:=fun a b W=>by kernel_rfl
 go_wp2_with fail;refine hc.mono ?_;rintro e w4 ⟨rfl,b4⟩;clear hc;go_wp2;go_ret;exact ⟨rfl,B3.trans (b4.mono B3.size)⟩
end Go.Proofs.YtkfgbhlpjkkgfaaGreatDoor
