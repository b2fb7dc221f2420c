import Derived.Test.YtkfgbhlpjkkgfaaGreatDoorN06
import Derived.Deep.RegionLawGrows
import Derived.Defers
import Derived.Recover
import Derived.Test.YtkfgbhlpjkkgfaaGreatDoorN41
set_option linter.unusedVariables false
set_option linter.unusedSimpArgs false
set_option maxHeartbeats 64000000
set_option maxRecDepth 100000
namespace Go.Proofs.YtkfgbhlpjkkgfaaGreatDoor
open Go.RowKit Go.IntWalk
def BegunAt (B:Nat) (w:World) (nb:Nat):Prop:=∃ q cq bk:Nat,B≤nb∧nb<w.heap.size∧B≤q∧q<w.heap.size∧B≤bk∧bk<w.heap.size∧1≤cq ∧
 w.cell? ⟨nb,6,none⟩=some (.slice (some ⟨q,0,none⟩) 1 cq)∧w.cell? ⟨q,4,none⟩=some (.slice (some ⟨bk,0,none⟩) 1 1)∧w.cell? ⟨bk,1,none⟩=some (.int .i64 2)
theorem BegunAt.keep {B:Nat} {w w':World} {nb:Nat} (h:BegunAt B w nb) (hz:w.heap.size≤w'.heap.size) (hk:∀ k,B≤k→k<w.heap.size→w'.heap[k]?=w.heap[k]?):BegunAt B w' nb:=by
 obtain ⟨q,cq,bk,h1,h2,h3,h4,h5,h6,h7,h8,h9,h10⟩:=h;exact ⟨q,cq,bk,h1,by omega,h3,by omega,h5,by omega,h7,(World.cell?_of_block (w:=w) (a:=⟨nb,6,none⟩) (hk nb h1 h2)).trans h8,(World.cell?_of_block (w:=w) (a:=⟨q,4,none⟩) (hk q h3 h4)).trans h9,(World.cell?_of_block (w:=w) (a:=⟨bk,1,none⟩) (hk bk h5 h6)).trans h10⟩
theorem caught_idle (p q:Addr) (w:World) :
  CallsD Tryz.prog 76 #[.pointer (some p),.pointer (some q)] .returning w fun e u' w'=>e=.returned (.tuple #[])∧u'=.returning∧w'=w:=by
 refine callsD_of_wpS Tryz.func76 rfl fun c₀ cs hu=>?_
 apply wpS_seq
 apply wpS_region
 simp [wpOpsS,go_sem,recoverD,hu,Tryz.ntmps76,Exit.thenS];refine wpS_of_wp ?_;go_wp2
 cases c₀
 simp_all [bodyPostS,results,Tryz.results76]
def prV:Nat→World→Value→List Nd→Prop:=fun B w x l=>∃ a n c,x=.agg #[.slice a n c]∧HNds (fun i=>B≤i) w (.slice a n c) l
theorem node_not {I:Inp} {n:Nat} (h:Ps.sees I [110,111,100,101] n=false):Ps.node I n=.err (Ps.refC I n) (I.pk n).place:=by
 rw [node_eq];unfold Ps.need;rw [h];rfl
theorem nodes_succ {I:Inp} {f:Nat} {acc:List Nd} {n:Nat} (h:(I.pk n).kind≠0):Ps.nodes I (f+1) acc n=(Ps.node I n).bind fun x n1=>Ps.nodes I f (acc++[x]) n1:=by
 simp [Ps.nodes,h]
theorem nodes_stop {I:Inp} {n:Nat} (h:(I.pk n).kind=0):∀ (k:Nat) (acc:List Nd),Ps.nodes I k acc n=.ok acc n
 | 0,acc=>by simp [Ps.nodes,h]
 | k+1,acc=>by simp [Ps.nodes,h]
theorem program_any (hform:FormC) {b g cap:Nat} {I:Inp} (hL:I.L.length≤1099511627776) {w:World} (h:Rd w b g cap I.L I.len 0 0) (hG:GlobB b w) :
  Calls Tryz.prog 77 #[.pointer (some ⟨b,0,none⟩)] w (Post b g cap I 0 prV 0 w (Ps.program I)):=by
 have HN:=node_any hform (b:=b) (g:=g) (cap:=cap) hL;have hb:=h.bb;have hg:=h.gb;go_enter Tryz.func77,Tryz.ntmps77;go_wp2_with fail;refine (HN _ _ (h.alloc _) (hG.alloc _)).mono ?_;rintro e w1 ⟨a1,hres⟩;have z1:w.heap.size+1≤w1.heap.size:=(by simpa using a1.size);have hA1:=a1.keep (heap_new w _) (by simp) (by simp;omega);have A1:=((Aside.refl (S:=[b]) (B:=w.heap.size) w).alloc nR _).trans a1 (by simp);clear a1
 cases ht:Ps.node I 0 with
 | err c0 a0=>
  rw [ht] at hres;obtain rfl:e=_:=hres;exact ⟨rfl,Post.fail (by unfold Ps.program;rw [ht];rfl) A1⟩
 | ok x0 n1=>
  rw [ht] at hres;obtain ⟨le1,h1,_,rfl,y,rfl,hy⟩:=hres;have hmod:Hid (Ps.program I=Ps.nodes I 9 [x0] n1):=by
   show Ps.program I=_
   unfold Ps.program;rw [ht];rfl
  clear ht;have hE:kNode.E (fun i=>w.heap.size+1≤i) w1 [.string y.name,.int .i64 y.place,.slice y.a2 y.n2 y.c2,.slice y.a3 y.n3 y.c3,.slice y.a4 y.n4 y.c4,.slice y.a5 y.n5 y.c5,.slice y.a6 y.n6 y.c6] x0:=⟨y,rfl,hy.wide (fun i hi _=>by simpa using hi)⟩;have hlit:OwnL kNode (w.heap.size+1) (w1.alloc (.cells #[.string y.name,.int .i64 y.place,.slice y.a2 y.n2 y.c2,.slice y.a3 y.n3 y.c3,.slice y.a4 y.n4 y.c4,.slice y.a5 y.n5 y.c5,.slice y.a6 y.n6 y.c6] 47 (0,0))) (.slice (some ⟨w1.heap.size,0,none⟩) 1 1) [x0]:=OwnL.lit (T:=kNode) (cs:=[.string y.name,.int .i64 y.place,.slice y.a2 y.n2 y.c2,.slice y.a3 y.n3 y.c3,.slice y.a4 y.n4 y.c4,.slice y.a5 y.n5 y.c5,.slice y.a6 y.n6 y.c6]) z1 hE;clear hy hE;go_wp2;go_loopg [3] 9 (fun k v wr=>∃ (m:Nat) (acc:List Nd),k+acc.length=10∧OwnL kNode (w.heap.size+1) wr v acc∧Rd wr b g cap I.L I.len m 0∧Aside [b] w.heap.size w wr∧wr.heap[w.heap.size]?=some (.cells #[.slice none 0 0] 24 (0,0))∧w.heap.size+1≤wr.heap.size∧Hid (Ps.program I=Ps.nodes I k acc m))
  case atStart=>exact ⟨n1,[x0],rfl,hlit,h1.alloc _,A1.alloc (by omega) _,kA hA1 _,by simp;omega,hmod⟩
  case round=>
   clear hmod hlit h1 A1 hA1;obtain ⟨m,acc,hk,hown,hr,hA,hN,zr,hmod⟩:=hrel;obtain ⟨aa,cc,rfl,hc1,hc2⟩:=hown.form;unfold maxLen at hc2;have hp:=@peek_any _ _ _ _ _ _ _ _ hr;obtain ⟨t,ht⟩:=nmQ (I.pk m);have hpk:peekT I.L I.len m=t:=ht.symm;rw [hpk] at hp;unfold tokV at hp;have hf:=fun x w=>tokF0 t x w;have HT:=hide ht;clear hpk ht;go_wp2_with fail;refine hp.mono ?_;rintro e w2 ⟨rfl,b2⟩;have z2:=b2.size;have h2:=hr.below b2;have A2:=hA.trans (aside b2) hA.size;have hN2:=(aside b2 (S:=[])).keep hN (lt_of hN) (by simp);have own2:=hown.below b2;clear hp hr hA hN hown b2;by_cases hk0:t.kind=0
   ·have hkb:(t.kind==0)=true:=beq_iff_eq.2 hk0
    have HK0:=hide hk0;clear hk0;have c0:=co hN2 0;have f0:=fo hN2 0;simp at c0;have rN:=own2.row.wide (ok':=fun i=>w.heap.size<i) (fun i hi _=>by omega);go_wp2;refine bodyPost_ret (v:=.agg #[.slice aa acc.length cc]) (by simp [results,Tryz.results77,go_sem,c0]) rfl ?_;exact Post.good (by rw [hmod.out];exact nodes_stop (by rw [←HT.out];exact HK0.out) gk acc) (A2.set (by simp) _) (Nat.zero_le _) (h2.set (by simp;omega) (by simp;omega) _) ⟨_,_,_,rfl,nodes_row ((rN.set (by simp) _).wide (fun i hi _=>Nat.le_of_lt hi))⟩
   ·have hkb:(t.kind==0)=false:=beq_eq_false_iff_ne.2 hk0
    have hkp:(I.pk m).kind≠0:=(by rw [←HT.out];exact hk0);go_wp2_with fail;refine (seesI h2 ⟨#[110,111,100,101]⟩).mono ?_;rintro e w3 ⟨rfl,b3⟩;have es:(⟨#[110,111,100,101]⟩:ByteArray).data.toList=[110,111,100,101]:=rfl;simp only [es];clear es;have z3:=b3.size;have h3:=h2.below b3;have A3:=A2.trans (aside b3) A2.size;have hN3:=(aside b3 (S:=[])).keep hN2 (lt_of hN2) (by simp);have own3:=own2.below b3;clear h2 A2 hN2 own2 b3
    cases hq:Ps.sees I [110,111,100,101] m with
    | false=>
     go_wp2_with fail;refine (HN _ _ h3 (hG.far A3)).mono ?_;rintro e w4 ⟨a4,hres⟩;rw [node_not hq] at hres;obtain rfl:e=_:=hres;refine ⟨rfl,Post.fail ?_ (A3.trans a4 A3.size)⟩;rw [hmod.out]
     cases gk with
     | zero=>simp [Ps.nodes,hkp,hq];rfl
     | succ f=>rw [nodes_succ hkp,node_not hq];rfl
    | true=>
     by_cases hz:gk=0
     ·subst hz
      go_wp2_with fail;refine (allow_no h3 _ _ (by omega)).mono ?_;rintro e w4 ⟨rfl,b4⟩;exact ⟨rfl,Post.fail (by rw [hmod.out];simp [Ps.nodes,hkp,hq]) (A3.trans (aside b4) A3.size)⟩
     ·obtain ⟨f,rfl⟩:∃ f,gk=f+1:=⟨gk-1,by omega⟩
      go_wp2_with fail;refine (allow_yes _ _ _ (by omega) _).mono ?_;rintro e w3 ⟨rfl,rfl⟩;go_wp2_with fail;refine (HN _ _ h3 (hG.far A3)).mono ?_;rintro e w4 ⟨a4,hres⟩;have z4:=a4.size;have A4:=A3.trans a4 A3.size;have hN4:=a4.keep hN3 (lt_of hN3) (by simp;omega);have own4:=own3.past a4 (by simp;omega)
      cases ht:Ps.node I m with
      | err c0 a0=>
       rw [ht] at hres;obtain rfl:e=_:=hres;exact ⟨rfl,Post.fail (by rw [hmod.out,nodes_succ hkp,ht];rfl) A4⟩
      | ok x4 n4=>
       rw [ht] at hres;obtain ⟨le4,h4,_,rfl,y,rfl,hy⟩:=hres;have hmod2:Hid (Ps.program I=Ps.nodes I f (acc++[x4]) n4):=by
        show Ps.program I=_
        rw [hmod.out,nodes_succ hkp,ht];rfl
       have hNb:=fun k hk=>(own3.lt k hk).2;have q1:kNode.E (fun i=>w3.heap.size≤i) w4 [.string y.name,.int .i64 y.place,.slice y.a2 y.n2 y.c2,.slice y.a3 y.n3 y.c3,.slice y.a4 y.n4 y.c4,.slice y.a5 y.n5 y.c5,.slice y.a6 y.n6 y.c6] x4:=⟨y,rfl,hy⟩;have q2:(acc.length+1)*kNode.bytes≤140737488355328:=(by show (acc.length+1)*144≤_;omega);have q3:acc.length+1≤maxLen:=(by unfold maxLen;omega);have zz3:w.heap.size+1≤w3.heap.size:=(by omega);have zz4:w.heap.size+1≤w4.heap.size:=(by omega);clear ht hmod a4 own3 h3 hN3 A3 hy
       go_wp2_with (at_builtin;refine wpList_more kNode rfl _ _ 22 47 rfl Tryz.underlying22 (w.heap.size+1) w3.heap.size _ acc (by rfl) own4 [.string y.name,.int .i64 y.place,.slice y.a2 y.n2 y.c2,.slice y.a3 y.n3 y.c3,.slice y.a4 y.n4 y.c4,.slice y.a5 y.n5 y.c5,.slice y.a6 y.n6 y.c6] x4 q1 (by rfl) hNb zz3 zz4 q2 q3 ?_;intro v8 w8 own8 b8 _ _)
       go_wp2;go_roundg f
       case measure=>omega
       case rel=>exact ⟨n4,acc++[x4],by simp;omega,own8,h4.under b8 (by omega) (by omega),A4.trans (aside (b8.mono (Nat.le_succ _))) nR,(b8.block _ (Nat.lt_succ_self _)).trans hN4,by have:=b8.size;omega,hmod2⟩
theorem asserts75 (c a:Int) (w:World):(Instr.typeAssert (.iface 123 (.agg #[.int .i64 c,.int .i64 a])) 20 123 true).run Tryz.prog w=.ok (.tuple #[.agg #[.int .i64 c,.int .i64 a],.bool true]) w:=by kernel_rfl
theorem caught_up (pb qb:Nat) (c a:Int) (vp v0 v1:Value) (w:World) (hP:w.heap[pb]?=some (.cells #[vp] 24 (0,0))) (hQ:w.heap[qb]?=some (.cells #[v0,v1] 29 (0,0))) (hpq:pb≠qb) :
  CallsD Tryz.prog 76 #[.pointer (some ⟨pb,0,none⟩),.pointer (some ⟨qb,0,none⟩)] (.panicking [{ v:=upV c a,recovered:=false }]) w fun e u' w'=>
   e=.returned (.tuple #[])∧u'=.panicking [{ v:=upV c a,recovered:=true }]∧w'.heap[pb]?=some (.cells #[.slice none 0 0] 24 (0,0))∧w'.heap[qb]?=some (.cells #[.int .i64 c,.int .i64 a] 29 (0,0))∧Aside [pb,qb] w.heap.size w w':=by
 have zP:=lt_of hP;have zQ:=lt_of hQ;refine callsD_of_wpS Tryz.func76 rfl fun c₀ cs hu=>?_
 apply wpS_seq
 apply wpS_region
 simp [wpOpsS,go_sem,recoverD,hu,Tryz.ntmps76,Exit.thenS,upV];refine wpS_of_wp ?_;have ef:(#[Value.pointer (some ⟨pb,0,none⟩),Value.pointer (some ⟨qb,0,none⟩)]++(Array.replicate 12 undef).setIfInBounds 3 (Value.iface 123 (.agg #[.int .i64 c,.int .i64 a])))=#[Value.pointer (some ⟨pb,0,none⟩),Value.pointer (some ⟨qb,0,none⟩),undef,undef,undef,Value.iface 123 (.agg #[.int .i64 c,.int .i64 a]),undef,undef,undef,undef,undef,undef,undef,undef]:=rfl;rw [ef];clear ef;have hta:=asserts75;go_wp2_with fail;have hP1:(w.alloc (.cells #[.int .i64 c,.int .i64 a] 123 (0,0))).drew.heap[pb]?=some (.cells #[vp] 24 (0,0)):=kA hP _;have hQ1:(w.alloc (.cells #[.int .i64 c,.int .i64 a] 123 (0,0))).drew.heap[qb]?=some (.cells #[v0,v1] 29 (0,0)):=kA hQ _;have hT1:(w.alloc (.cells #[.int .i64 c,.int .i64 a] 123 (0,0))).drew.heap[w.heap.size]?=some (.cells #[.int .i64 c,.int .i64 a] 123 (0,0)):=heap_new w _;have A1:Aside [pb,qb] w.heap.size w (w.alloc (.cells #[.int .i64 c,.int .i64 a] 123 (0,0))).drew:=((Aside.refl w).alloc nR _).drew;refine wp_region_late (fun w'=>w'.cell? ⟨w.heap.size,0,none⟩=some (.int .i64 c)∧w'.cell? ⟨w.heap.size,1,none⟩=some (.int .i64 a)) (fun j=>decide (j=4)) (by kernel_rfl) ?_;generalize (w.alloc (.cells #[.int .i64 c,.int .i64 a] 123 (0,0))).drew=w1 at hP1 hQ1 hT1 A1 ⊢;have t0:=co hT1 0;have t1:=co hT1 1;simp at t0 t1;have hH:=And.intro t0 t1;have p0:=co hP1 0;have q0:=co hQ1 0;have q1:=co hQ1 1;have fP:=fun o=>fo hP1 o;have fQ:=fun o=>fo hQ1 o;simp at p0 q0 q1;have hT2:=co (keep_set hT1 (p:=⟨pb,0,none⟩) (by simp;omega) (.slice none 0 0)) 0;have hT3:=co (keep_set hT1 (p:=⟨pb,0,none⟩) (by simp;omega) (.slice none 0 0)) 1;simp only [gT,gZ,gS] at hT2 hT3;have H2:=hide (And.intro hT2 hT3);clear hT2 hT3;have nQ:qb≠pb:=hpq.symm;refine' wpAnyL_take (i:=0) (v:=_) rfl (by kernel_rfl) (by kernel_rfl) (by kernel_rfl) (by kernel_rfl) (fun _ _ _ h=>h) hH (by rfl) ?hyv ?o1
 case hyv=>
  intro wz hSw;obtain ⟨c0,c1⟩:=hSw;go_simp
  try rfl
 try simp only [Act.put,sT,sZ,sS]
 refine' wpAnyL_take (i:=1) (v:=_) rfl (by kernel_rfl) (by kernel_rfl) (by kernel_rfl) (by kernel_rfl) (fun _ _ _ h=>h) hH (by rfl) ?hyv ?o2
 case hyv=>
  intro wz hSw;obtain ⟨c0,c1⟩:=hSw;go_simp
  try rfl
 try simp only [Act.put,sT,sZ,sS]
 refine' wpAnyL_take (i:=2) (v:=_) rfl (by kernel_rfl) (by kernel_rfl) (by kernel_rfl) (by kernel_rfl) (fun _ _ _ h=>h) hH (by rfl) ?hyv ?o3
 case hyv=>
  intro wz hSw;obtain ⟨c0,c1⟩:=hSw;go_simp
  try rfl
 try simp only [Act.put,sT,sZ,sS]
 refine wpAnyL_one (i:=3) rfl (by kernel_rfl) (by rfl) (fun K hK=>?_);go_simp;refine hK.out _ _ (fun _=>H2.out) ?_;clear hK K
 try simp only [Act.put,sT,sZ,sS]
 have hP2:=set_in hP1 0 (.slice none 0 0);have hQ2:=keep_set hQ1 (p:=⟨pb,0,none⟩) (by simpa using hpq) (.slice none 0 0);have A2:Aside [pb,qb] w.heap.size w (w1.setCell ⟨pb,0,none⟩ (.slice none 0 0)):=A1.trans (Aside.setCell (by simp) _) nR;simp at hP2;generalize w1.setCell ⟨pb,0,none⟩ (.slice none 0 0)=w2 at hP2 hQ2 A2 ⊢;have q2:=co hQ2 0;have q3:=co hQ2 1;have fQ2:=fun o=>fo hQ2 o;simp at q2 q3;clear hH t0 t1 p0 q0 q1 fP fQ H2 hT1 A1 hP1 hQ1;refine wpAnyL_one (i:=4) rfl (by kernel_rfl) (by rfl) (fun K hK=>?_);go_simp;refine hK.out _ _ (fun h=>by cases h) ?_;clear hK K
 try simp only [Act.put,sT,sZ,sS]
 refine wpAnyL_done (by kernel_rfl) ?_ _;have hP3:=keep_set (keep_set hP2 (p:=⟨qb,0,none⟩) (by simpa using nQ) (.int .i64 c)) (p:=⟨qb,1,none⟩) (by simpa using nQ) (.int .i64 a);have hQ3:=set_in (set_in hQ2 0 (.int .i64 c)) 1 (.int .i64 a);have A3:Aside [pb,qb] w.heap.size w ((w2.setCell ⟨qb,0,none⟩ (.int .i64 c)).setCell ⟨qb,1,none⟩ (.int .i64 a)):=(A2.trans (Aside.setCell (by simp) _) nR).trans (Aside.setCell (by simp) _) nR;simp at hQ3;generalize (w2.setCell ⟨qb,0,none⟩ (.int .i64 c)).setCell ⟨qb,1,none⟩ (.int .i64 a)=w3 at hP3 hQ3 A3 ⊢;go_wp2
 cases c₀
 simp_all [Exit.inBlock,bodyPostS,results,Tryz.results76,upV]
theorem keepB {w:World} {k:Nat} (o:Obj) (h:k<w.heap.size):(w.alloc o).heap[k]?=w.heap[k]?:=Below.heap_alloc _ _ _ h
theorem nodes_of {ok:Nat→Prop} {w:World} {v:Value} {l:List Nd} (h:HNds ok w v l):HRow kNode ok w v l:=h
theorem HNds.wide' {ok ok':Nat→Prop} {w:World} {v:Value} {l:List Nd} (h:HNds ok w v l) (hk:∀ i,ok i→i<w.heap.size→ok' i):HNds ok' w v l:=HRow.wide (T:=kNode) h hk
def RPost (w:World) (res:Res (List Nd)) (r:Ending) (w':World):Prop :=
 Below w.heap.size w w' ∧
 match res with
 | .ok l _=>∃ a n c,r=.returned (.tuple #[.agg #[.slice a n c],.agg #[.int .i64 0,.int .i64 0]])∧HNds (fun i=>w.heap.size≤i) w' (.slice a n c) l
 | .err c a=>r=.returned (.tuple #[.agg #[.slice none 0 0],.agg #[.int .i64 (c:Int),.int .i64 (a:Int)]])
theorem readProgram_any (hform:FormC) {I:Inp} (hL:I.L.length≤1099511627776) {w:World} {g cap:Nat} (ht:HoldsToks w g I.L) (hg:g<w.heap.size) (hc:I.L.length≤cap) (hm:cap≤maxLen) (hG:GlobT w) :
  Calls Tryz.prog 50 #[.slice (some ⟨g,0,none⟩) I.L.length cap,.int .i64 (I.len:Int)] w (RPost w (Ps.program I)):=by
 have hmf:=makes;obtain ⟨W1,hW1⟩:∃ W,W=w.alloc (.cells #[.slice none 0 0] 24 (0,0)):=⟨_,rfl⟩;obtain ⟨W2,hW2⟩:∃ W,W=W1.alloc (.cells #[.int .i64 0,.int .i64 0] 29 (0,0)):=⟨_,rfl⟩;obtain ⟨W3,hW3⟩:∃ W,W=W2.alloc (.cells #[.slice (some ⟨g,0,none⟩) I.L.length cap,.int .i64 0,.int .i64 (I.len:Int),.int .i64 0] 126 (0,0)):=⟨_,rfl⟩;have y1:=newZ hW1;have y2:W2.heap.size=w.heap.size+1+1:=(by rw [hW2];simp [y1]);have y3:W3.heap.size=w.heap.size+1+1+1:=(by rw [hW3];simp [y2]);have bW:Below w.heap.size w W3:=(by rw [hW3,hW2,hW1];exact (((Below.refl _ w).alloc nR _).alloc (by simp) _).alloc (by simp;omega) _);have hP:W3.heap[w.heap.size]?=some (.cells #[.slice none 0 0] 24 (0,0)):=(by rw [hW3,hW2,hW1];exact kA (kA (heap_new w _) _) _);have hF:W3.heap[w.heap.size+1]?=some (.cells #[.int .i64 0,.int .i64 0] 29 (0,0)):=(by rw [hW3,hW2,←y1];exact kA (heap_new W1 _) _);have hB:W3.heap[w.heap.size+1+1]?=some (.cells #[.slice (some ⟨g,0,none⟩) I.L.length cap,.int .i64 0,.int .i64 (I.len:Int),.int .i64 0] 126 (0,0)):=(by rw [hW3,←y2];exact heap_new W2 _);have hR:Rd W3 (w.heap.size+1+1) g cap I.L I.len 0 0:=⟨hB,ht.keep (bW.block g hg),by omega,by omega,Nat.zero_le _,hc,hm⟩
 go_enter_defers Tryz.func50,Tryz.ntmps50
 go_wp2_with fail;rw [←hW1,←hW2,←hW3];refine (program_any hform hL hR ⟨by have:=hG.1;omega,hG.keep bW.size (bW.block 7 hG.1)⟩).mono ?_;rintro r w4 ⟨a4,hres⟩;have z4:=a4.size;have hP4:=a4.keep hP (by omega) (by simp;omega);have hF4:=a4.keep hF (by omega) (by simp);have A4:Below w.heap.size w w4:=bW.trans ((a4.mono (B':=w.heap.size) (by omega)).below (by simp;omega));have cp0:=co hP4 0;have fp0:=fo hP4 0;have cf0:=co hF4 0;have ff0:=fo hF4 0;have cf1:=co hF4 1;have ff1:=fo hF4 1;simp at cp0 cf0 cf1;clear hR hB hP hF bW a4 hW1 hW2 hW3
 cases hp:Ps.program I with
 | ok l n=>
  rw [hp] at hres;obtain ⟨_,h4,_,rfl,a,n',c,rfl,hN⟩:=hres;clear h4;go_wp2;refine leaves_cons (f:=76) (args:=#[.pointer (some ⟨w.heap.size,0,none⟩),.pointer (some ⟨w.heap.size+1,0,none⟩)]) (by simp) (by simp [go_sem]) ?_;refine (caught_idle ⟨w.heap.size,0,none⟩ ⟨w.heap.size+1,0,none⟩ _).mono ?_;rintro e u' w'' ⟨rfl,rfl,rfl⟩;have A5:=((A4.setCell (p:=⟨w.heap.size,0,none⟩) nR (.slice a n' c)).setCell (p:=⟨w.heap.size+1,0,none⟩) (Nat.le_succ _) (.int .i64 0)).setCell (p:=⟨w.heap.size+1,1,none⟩) (Nat.le_succ _) (.int .i64 0);have hN5:=((nodes_of (hN.wide' (ok':=fun i=>w.heap.size+1<i) (fun i hi _=>by omega))).set (p:=⟨w.heap.size,0,none⟩) (by simp) (.slice a n' c) |>.set (p:=⟨w.heap.size+1,0,none⟩) (by simp) (.int .i64 0) |>.set (p:=⟨w.heap.size+1,1,none⟩) (by simp) (.int .i64 0)).wide (ok':=fun i=>w.heap.size≤i) (fun i hi _=>by omega);simp [Leaves,settle,results,Tryz.results50,go_sem,cp0,cf0,cf1];refine ⟨A5,?_⟩;rw [hp];exact ⟨a,n',c,rfl,nodes_row hN5⟩
 | err c a=>
  rw [hp] at hres;obtain rfl:r=_:=hres;unfold upE;refine leaves_cons (f:=76) (args:=#[.pointer (some ⟨w.heap.size,0,none⟩),.pointer (some ⟨w.heap.size+1,0,none⟩)]) (by simp) (by simp [go_sem]) ?_;refine (caught_up w.heap.size (w.heap.size+1) c a _ _ _ _ hP4 hF4 (by omega)).mono ?_;rintro e u' w5 ⟨rfl,rfl,hP5,hF5,a5⟩;have p0:=co hP5 0;have f0:=co hF5 0;have f1:=co hF5 1;simp at p0 f0 f1;have A5:Below w.heap.size w w5:=A4.trans ((a5.mono (B':=w.heap.size) (by have:=A4.size;omega)).below (by simp));simp [Leaves,settle,results,Tryz.results50,go_sem,p0,f0,f1,upV];exact ⟨A5,rfl⟩
def RdE (w:World) (b:Nat) (ao:Option Addr) (cap len:Nat):Prop:=w.heap[b]?=some (.cells #[.slice ao 0 cap,.int .i64 0,.int .i64 (len:Int),.int .i64 0] 126 (0,0))
theorem RdE.below {w w':World} {b:Nat} {ao:Option Addr} {cap len:Nat} (h:RdE w b ao cap len) (hb:Below w.heap.size w w'):RdE w' b ao cap len:=(hb.block b (lt_of h)).trans h
theorem RdE.alloc {w:World} {b:Nat} {ao:Option Addr} {cap len:Nat} (h:RdE w b ao cap len) (o:Obj):RdE (w.alloc o) b ao cap len:=kA h o
theorem peekE {w:World} {b:Nat} {ao:Option Addr} {cap len:Nat} (h:RdE w b ao cap len) :
  Calls Tryz.prog 108 #[.pointer (some ⟨b,0,none⟩)] w fun e w'=>e=.returned (tokV ⟨0,len,[],0⟩)∧Below w.heap.size w w':=by
 have hb:=lt_of h;have c0:=co h 0;have c1:=co h 1;have c2:=co h 2;simp at c0 c1 c2;go_enter Tryz.func108,Tryz.ntmps108;go_wp2
 go_region
 go_wp2;exact bodyPost_ret (v:=tokV ⟨0,len,[],0⟩) (by simp [tokV,str,results,Tryz.results108,go_sem]) rfl ⟨rfl,((Below.refl _ w).alloc nR _).drew⟩
theorem seesE {w:World} {b:Nat} {ao:Option Addr} {cap len:Nat} (h:RdE w b ao cap len) (s:ByteArray) (hs:(([]:List UInt8)==s.data.toList)=false) :
  Calls Tryz.prog 109 #[.pointer (some ⟨b,0,none⟩),.string s] w fun e w'=>e=.returned (.bool false)∧Below w.heap.size w w':=by
 have hp:=peekE h;obtain ⟨t,ht⟩:∃ t:Tk.Tok,t=⟨0,len,[],0⟩:=⟨_,rfl⟩;rw [←ht] at hp;unfold tokV at hp;have hf:=fun x w=>tok_field2 t x w;have HT:=hide ht;clear ht;go_enter Tryz.func109,Tryz.ntmps109
 go_wp2_with (go_at_call 108;refine hp.mono ?_;rintro e w' ⟨rfl,hb⟩)
 go_ret;refine ⟨ret_bool ?_,hb⟩;have:=HT.out;subst this
 simpa [str,Lib.toList_data] using hs
theorem needE {w:World} {b:Nat} {ao:Option Addr} {cap len:Nat} (h:RdE w b ao cap len) (s:ByteArray) (hs:(([]:List UInt8)==s.data.toList)=false) :
  Calls Tryz.prog 139 #[.pointer (some ⟨b,0,none⟩),.string s] w fun e w'=>e=upE 5 len∧Below w.heap.size w w':=by
 have htake:∀ w,RdE w b ao cap len→Calls Tryz.prog 141 #[.pointer (some ⟨b,0,none⟩),.string s] w fun e w'=>e=.returned (.bool false)∧Below w.heap.size w w':=fun w h=>by
  have hp:=seesE h s hs;go_enter Tryz.func141,Tryz.ntmps141
  go_wp2_with (go_at_call 109;refine hp.mono ?_;rintro e w1 ⟨rfl,hb⟩)
  go_ret;exact ⟨rfl,hb⟩
 have href:∀ w,RdE w b ao cap len→Calls Tryz.prog 182 #[.pointer (some ⟨b,0,none⟩)] w fun e w'=>e=upE 5 len∧Below w.heap.size w w':=fun w h=>by
  have hp:=peekE h;unfold tokV at hp;go_enter Tryz.func182,Tryz.ntmps182;go_wp2_with fail;refine hp.mono ?_;rintro e w1 ⟨rfl,hb⟩;go_wp2_with fail;refine (giveUp_any _ _ _).mono ?_;rintro e w2 ⟨rfl,rfl⟩;exact ⟨rfl,rfl,hb.alloc hb.size _⟩
 have hp:=htake w h;go_enter Tryz.func139,Tryz.ntmps139;go_wp2_with fail;refine hp.mono ?_;rintro e w1 ⟨rfl,hb⟩;go_wp2_with fail;refine (href _ (h.below hb)).mono ?_;rintro e w2 ⟨rfl,ha⟩;exact ⟨rfl,rfl,hb.trans (ha.mono hb.size)⟩
theorem nodeE {w:World} {b:Nat} {ao:Option Addr} {cap len:Nat} (h:RdE w b ao cap len) :
  Calls Tryz.prog 107 #[.pointer (some ⟨b,0,none⟩)] w fun e w'=>e=upE 5 len∧Below w.heap.size w w':=by
 obtain ⟨t,ht⟩:∃ t:Tk.Tok,t=⟨0,len,[],0⟩:=⟨_,rfl⟩;have hp:=peekE (h.alloc (.cells #[.string ⟨#[]⟩,.int .i64 0,.slice none 0 0,.slice none 0 0,.slice none 0 0,.slice none 0 0,.slice none 0 0] 47 (0,0)));rw [←ht] at hp;unfold tokV at hp;have hf:=fun x w=>tokF1 t x w;clear ht;go_enter Tryz.func107,Tryz.ntmps107;go_wp2_with fail;refine hp.mono ?_;rintro e w1 ⟨rfl,b1⟩;have z1:w.heap.size+1≤w1.heap.size:=(by simpa using b1.size);have B1:Below w.heap.size w w1:=((Below.refl _ w).alloc nR _).trans (b1.mono (by simp));go_wp2_with fail;refine (needE (((h.alloc _).below b1).alloc _) ⟨#[110,111,100,101]⟩ rfl).mono ?_;rintro e w2 ⟨rfl,b2⟩;exact ⟨rfl,rfl,(B1.alloc (by omega) _).trans (b2.mono (by simp;omega))⟩
theorem programE {w:World} {b:Nat} {ao:Option Addr} {cap len:Nat} (h:RdE w b ao cap len) :
  Calls Tryz.prog 77 #[.pointer (some ⟨b,0,none⟩)] w fun e w'=>e=upE 5 len∧Below w.heap.size w w':=by
 go_enter Tryz.func77,Tryz.ntmps77;go_wp2_with fail;refine (nodeE (h.alloc _)).mono ?_;rintro e w1 ⟨rfl,b1⟩;exact ⟨rfl,rfl,((Below.refl _ w).alloc nR _).trans (b1.mono (by simp))⟩
theorem readProgramE {w:World} {ao:Option Addr} {cap len:Nat} (hm:cap≤maxLen) :
  Calls Tryz.prog 50 #[.slice ao 0 cap,.int .i64 (len:Int)] w (RPost w (.err 5 len)):=by
 have hmf:=makes;obtain ⟨W1,hW1⟩:∃ W,W=w.alloc (.cells #[.slice none 0 0] 24 (0,0)):=⟨_,rfl⟩;obtain ⟨W2,hW2⟩:∃ W,W=W1.alloc (.cells #[.int .i64 0,.int .i64 0] 29 (0,0)):=⟨_,rfl⟩;obtain ⟨W3,hW3⟩:∃ W,W=W2.alloc (.cells #[.slice ao 0 cap,.int .i64 0,.int .i64 (len:Int),.int .i64 0] 126 (0,0)):=⟨_,rfl⟩;have y1:=newZ hW1;have y2:W2.heap.size=w.heap.size+1+1:=(by rw [hW2];simp [y1]);have y3:W3.heap.size=w.heap.size+1+1+1:=(by rw [hW3];simp [y2]);have bW:Below w.heap.size w W3:=(by rw [hW3,hW2,hW1];exact (((Below.refl _ w).alloc nR _).alloc (by simp) _).alloc (by simp;omega) _);have hP:W3.heap[w.heap.size]?=some (.cells #[.slice none 0 0] 24 (0,0)):=(by rw [hW3,hW2,hW1];exact kA (kA (heap_new w _) _) _);have hF:W3.heap[w.heap.size+1]?=some (.cells #[.int .i64 0,.int .i64 0] 29 (0,0)):=(by rw [hW3,hW2,←y1];exact kA (heap_new W1 _) _);have hB:RdE W3 (w.heap.size+1+1) ao cap len:=(by unfold RdE;rw [hW3,←y2];exact heap_new W2 _)
 go_enter_defers Tryz.func50,Tryz.ntmps50
 go_wp2_with fail;rw [←hW1,←hW2,←hW3];refine (programE hB).mono ?_;rintro r w4 ⟨rfl,b4⟩;have z4:=b4.size;have hP4:=(aside b4 (S:=[])).keep hP (by omega) (by simp);have hF4:=(aside b4 (S:=[])).keep hF (by omega) (by simp);have A4:Below w.heap.size w w4:=bW.trans (b4.mono (by omega));unfold upE;refine leaves_cons (f:=76) (args:=#[.pointer (some ⟨w.heap.size,0,none⟩),.pointer (some ⟨w.heap.size+1,0,none⟩)]) (by simp) (by simp [go_sem]) ?_;refine (caught_up w.heap.size (w.heap.size+1) 5 len _ _ _ _ hP4 hF4 (by omega)).mono ?_;rintro e u' w5 ⟨rfl,rfl,hP5,hF5,a5⟩;have p0:=co hP5 0;have f0:=co hF5 0;have f1:=co hF5 1;simp at p0 f0 f1;have A5:Below w.heap.size w w5:=A4.trans ((a5.mono (B':=w.heap.size) (by omega)).below (by simp));simp [Leaves,settle,results,Tryz.results50,go_sem,p0,f0,f1,upV];exact ⟨A5,rfl⟩
theorem program_none (len:Nat):Ps.program ⟨[],len⟩=.err 5 len:=rfl
theorem scanR_len:∀ (f:Nat) (l:List UInt8) (p:Nat),(Tk.scanR f l p).1.length≤f
 | 0,_,_=>by simp [Tk.scanR]
 | _+1,[],_=>by simp [Tk.scanR]
 | f+1,c :: l,p=>by
  unfold Tk.scanR
  split
  ·simp
  ·have:=scanR_len f ((((c :: l).drop (Tk.read (c :: l)).text.length)).drop (Tk.blankLen false ((c :: l).drop (Tk.read (c :: l)).text.length))) (p+(Tk.read (c :: l)).text.length+Tk.blankLen false ((c :: l).drop (Tk.read (c :: l)).text.length))
   simp only []
   split
   ·simp
   ·simp only [List.length_cons]
    omega
theorem scan_len (l:List UInt8):(Tk.scan l).1.length≤l.length:=by
 unfold Tk.scan
 split
 ·simp
 ·exact scanR_len _ _ _
theorem readProgram_toks (hform:FormC) {I:Inp} (hL:I.L.length≤1099511627776) {w:World} {ao:Option Addr} {g cap:Nat} (hc:I.L.length≤cap) (hm:cap≤maxLen) (hT:0<I.L.length→ao=some ⟨g,0,none⟩∧g<w.heap.size∧HoldsToks w g I.L) (hG:GlobT w) :
  Calls Tryz.prog 50 #[.slice ao I.L.length cap,.int .i64 (I.len:Int)] w (RPost w (Ps.program I)):=by
 by_cases h0:0<I.L.length
 ·obtain ⟨rfl,hg,ht⟩:=hT h0
  exact readProgram_any hform hL ht hg hc hm hG
 ·obtain ⟨L,len⟩:=I
  have hL0:L=[]:=List.eq_nil_of_length_eq_zero (by simpa using h0);subst hL0;rw [program_none];exact readProgramE hm
end Go.Proofs.YtkfgbhlpjkkgfaaGreatDoor
