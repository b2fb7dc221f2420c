import Derived.Test.YthkpanbgkimhoaaGreatDoorM21
import Derived.Defers
import Derived.Recover
import Derived.Test.YthkpanbgkimhoaaGreatDoorPg17
import Derived.Test.YthkpanbgkimhoaaGreatDoorQ21
import Derived.Test.YthkpanbgkimhoaaGreatDoorM20
import Derived.Deep.CutBlock
import Derived.Deep.DeepCutAuto
set_option linter.unusedVariables false
set_option linter.unusedSimpArgs false
set_option maxHeartbeats 64000000
set_option maxRecDepth 100000
namespace Go.Proofs.YthkpanbgkimhoaaGreatDoor
open Go.RowKit Go.IntWalk
def BegunAt (B:Nat) (w:World) (nb:Nat):Prop:=∃ q cq bk:Nat,B≤nb∧nb<w.heap.size∧B≤q∧q<w.heap.size∧B≤bk∧bk<w.heap.size∧1≤cq ∧
 w.cell? ⟨nb,6,none⟩=some (.slice (some ⟨q,0,none⟩) 1 cq)∧w.cell? ⟨q,4,none⟩=some (.slice (some ⟨bk,0,none⟩) 1 1)∧w.cell? ⟨bk,1,none⟩=some (.int .i64 2)
theorem BegunAt.keep {B:Nat} {w w':World} {nb:Nat} (h:BegunAt B w nb) (hz:w.heap.size≤w'.heap.size) (hk:∀ k,B≤k→k<w.heap.size→w'.heap[k]?=w.heap[k]?):BegunAt B w' nb:=by
 obtain ⟨q,cq,bk,h1,h2,h3,h4,h5,h6,h7,h8,h9,h10⟩:=h;exact ⟨q,cq,bk,h1,by omega,h3,by omega,h5,by omega,h7,(World.cell?_of_block (w:=w) (a:=⟨nb,6,none⟩) (hk nb h1 h2)).trans h8,(World.cell?_of_block (w:=w) (a:=⟨q,4,none⟩) (hk q h3 h4)).trans h9,(World.cell?_of_block (w:=w) (a:=⟨bk,1,none⟩) (hk bk h5 h6)).trans h10⟩
theorem zDm {w:World} {b g cap op:Nat} (h:Rd w b g cap begunL 48 0 op) :
  Calls Tryz.prog 36 #[.pointer (some ⟨b,0,none⟩)] w fun r w'=>∃ nb,r=.returned (.agg #[.slice (some ⟨nb,0,none⟩) 1 1])∧BegunAt (w.heap.size+1) w' nb∧Aside [b] w.heap.size w w':=by
 have hb:=h.bb;have hg:=h.gb;have hf:=tokG0;go_enter Tryz.func36,Tryz.ntmps36;go_wp2_with fail;refine (node_begun (h.alloc _)).mono ?_;rintro r w1 ⟨a3,a4,c3,c4,q,cq,bk,y,rfl,hcq,hq1,hq2,hbk1,hq4,hbk,hyk,h1,a1⟩;have z1:w.heap.size+1≤w1.heap.size:=(by simpa using a1.size);have hA1:=a1.keep (zF w _) (by simp) (by simp;omega);have A1:=((Aside.refl (S:=[b]) (B:=w.heap.size) w).alloc nR _).trans a1 (by simp);have hq1':w.heap.size+1≤q:=(by simpa using hq1);have hbk1':w.heap.size+1≤bk:=(by simpa using hbk1);have hbz:=zC hbk;have hbc:=co hbk 1;simp at hbc;rw [hyk] at hbc;clear a1 hq1 hbk1;go_wp2;obtain ⟨W,hW⟩:=nm (w1.alloc (Obj.cells #[.string (str [109,97,105,110]),.int .i64 0,.slice none 0 0,.slice a3 1 c3,.slice a4 1 c4,.slice none 0 0,.slice (some ⟨q,0,none⟩) 1 cq] 39 (0,0)));have hzW:=xU hW;have hNW:=zF w1 (Obj.cells #[.string (str [109,97,105,110]),.int .i64 0,.slice none 0 0,.slice a3 1 c3,.slice a4 1 c4,.slice none 0 0,.slice (some ⟨q,0,none⟩) 1 cq] 39 (0,0));have hAW:=kA hA1 (Obj.cells #[.string (str [109,97,105,110]),.int .i64 0,.slice none 0 0,.slice a3 1 c3,.slice a4 1 c4,.slice none 0 0,.slice (some ⟨q,0,none⟩) 1 cq] 39 (0,0));have hbW:=xA hW;rw [←hW] at hNW hAW ⊢;clear hW;go_loopg [3] 0 (fun k v wr=>v=.slice (some ⟨w1.heap.size,0,none⟩) 1 1∧wr=W)
 case atStart=>exact ⟨rfl,rfl⟩
 case round=>
  obtain ⟨rfl,rfl⟩:=hrel;go_wp2_with fail;refine (xH (h1.below hbW)).mono ?_;unfold tokV;rintro r w2 ⟨rfl,b2⟩;have ep:peekT begunL 48 23=⟨0,48,[],0⟩:=rfl;rw [ep];have z2:=b2.size;have hA2:=(aside b2 (S:=[])).keep hAW (zC hAW) (by simp);have hN2:=(aside b2 (S:=[])).keep hNW (zC hNW) (by simp);have A2:=(A1.trans (aside hbW) (by omega)).trans (aside b2) (by omega);have b12:Below w1.heap.size w1 w2:=hbW.trans (b2.mono (by omega));have hBg:BegunAt (w.heap.size+1) w2 w1.heap.size:=⟨q,cq,bk,z1,by omega,hq1',by omega,hbk1',by omega,hcq,co hN2 6,(b12.cell (p:=⟨q,4,none⟩) hq2).trans hq4,(b12.cell (p:=⟨bk,1,none⟩) hbz).trans hbc⟩;have ca0:=co hA2 0;have fa0:=fo hA2 0;simp at ca0;clear b2 hAW hNW;go_wp2;refine bodyPost_ret (v:=.agg #[.slice (some ⟨w1.heap.size,0,none⟩) 1 1]) (by simp [results,Tryz.results36,go_sem,ca0]) rfl ⟨w1.heap.size,rfl,hBg.keep (by simp [World.setCell]) (fun k hk _=>Below.heap_setCell _ _ _ _ (by simp;omega)),A2.set (by simp) _⟩
theorem zCk (p q:Addr) (w:World) :
  CallsD Tryz.prog 35 #[.pointer (some p),.pointer (some q)] .returning w fun e u' w'=>e=.returned (.tuple #[])∧u'=.returning∧w'=w:=by
 refine callsD_of_wpS Tryz.func35 rfl fun c₀ cs hu=>?_
 apply wpS_seq
 apply wpS_region
 simp [wpOpsS,go_sem,recoverD,hu,Tryz.ntmps35,Exit.thenS];refine wpS_of_wp ?_;go_wp2
 cases c₀
 simp_all [bodyPostS,results,Tryz.results35]
def prV:Nat→World→Value→List Nd→Prop:=fun B w x l=>∃ a n c,x=.agg #[.slice a n c]∧HNds (fun i=>B≤i) w (.slice a n c) l
theorem node_not {I:Inp} {n:Nat} (h:Ps.sees I [110,111,100,101] n=false):Ps.node I n=.err (Ps.refC I n) (I.pk n).place:=by
 rw [zBZ];unfold Ps.need;rw [h];rfl
theorem zBn {I:Inp} {f:Nat} {acc:List Nd} {n:Nat} (h:(I.pk n).kind≠0):Ps.nodes I (f+1) acc n=(Ps.node I n).bind fun x n1=>Ps.nodes I f (acc++[x]) n1:=by
 simp [Ps.nodes,h]
theorem nodes_stop {I:Inp} {n:Nat} (h:(I.pk n).kind=0):∀ (k:Nat) (acc:List Nd),Ps.nodes I k acc n=.ok acc n
 | 0,acc=>by simp [Ps.nodes,h]
 | k+1,acc=>by simp [Ps.nodes,h]
theorem program_any (hform:FormC) {b g cap:Nat} {I:Inp} (hL:I.L.length≤1099511627776) {w:World} (h:Rd w b g cap I.L I.len 0 0) (hG:GlobB b w) :
  Calls Tryz.prog 36 #[.pointer (some ⟨b,0,none⟩)] w (Post b g cap I 0 prV 0 w (Ps.program I)):=by
 have HN:=node_any hform (b:=b) (g:=g) (cap:=cap) hL;have hb:=h.bb;have hg:=h.gb;go_enter Tryz.func36,Tryz.ntmps36;go_wp2_with fail;refine (HN _ _ (h.alloc _) (hG.alloc _)).mono ?_;rintro e w1 ⟨a1,hres⟩;have z1:w.heap.size+1≤w1.heap.size:=(by simpa using a1.size);have hA1:=a1.keep (zF w _) (by simp) (by simp;omega);have A1:=((Aside.refl (S:=[b]) (B:=w.heap.size) w).alloc nR _).trans a1 (by simp);clear a1
 cases ht:Ps.node I 0 with
 | err c0 a0=>
  rw [ht] at hres;obtain rfl:e=_:=hres;exact ⟨rfl,Post.fail (by unfold Ps.program;rw [ht];rfl) A1⟩
 | ok x0 n1=>
  rw [ht] at hres;obtain ⟨le1,h1,_,rfl,y,rfl,hy⟩:=hres;have hmod:Hid (Ps.program I=Ps.nodes I 9 [x0] n1):=by
   show Ps.program I=_
   unfold Ps.program;rw [ht];rfl
  clear ht;have hE:kNode.E (fun i=>w.heap.size+1≤i) w1 [.string y.name,.int .i64 y.place,.slice y.a2 y.n2 y.c2,.slice y.a3 y.n3 y.c3,.slice y.a4 y.n4 y.c4,.slice y.a5 y.n5 y.c5,.slice y.a6 y.n6 y.c6] x0:=⟨y,rfl,hy.wide (fun i hi _=>by simpa using hi)⟩;have hlit:OwnL kNode (w.heap.size+1) (w1.alloc (.cells #[.string y.name,.int .i64 y.place,.slice y.a2 y.n2 y.c2,.slice y.a3 y.n3 y.c3,.slice y.a4 y.n4 y.c4,.slice y.a5 y.n5 y.c5,.slice y.a6 y.n6 y.c6] 39 (0,0))) (.slice (some ⟨w1.heap.size,0,none⟩) 1 1) [x0]:=OwnL.lit (T:=kNode) (cs:=[.string y.name,.int .i64 y.place,.slice y.a2 y.n2 y.c2,.slice y.a3 y.n3 y.c3,.slice y.a4 y.n4 y.c4,.slice y.a5 y.n5 y.c5,.slice y.a6 y.n6 y.c6]) z1 hE;clear hy hE;go_wp2;go_loopg [3] 9 (fun k v wr=>∃ (m:Nat) (acc:List Nd),k+acc.length=10∧OwnL kNode (w.heap.size+1) wr v acc∧Rd wr b g cap I.L I.len m 0∧Aside [b] w.heap.size w wr∧wr.heap[w.heap.size]?=some (.cells #[.slice none 0 0] 25 (0,0))∧w.heap.size+1≤wr.heap.size∧Hid (Ps.program I=Ps.nodes I k acc m))
  case atStart=>exact ⟨n1,[x0],rfl,hlit,h1.alloc _,A1.alloc (by omega) _,kA hA1 _,by simp;omega,hmod⟩
  case round=>
   clear hmod hlit h1 A1 hA1;obtain ⟨m,acc,hk,hown,hr,hA,hN,zr,hmod⟩:=hrel;obtain ⟨aa,cc,rfl,hc1,hc2⟩:=hown.form;unfold maxLen at hc2;have hp:=@xH _ _ _ _ _ _ _ _ hr;obtain ⟨t,ht⟩:=nm (I.pk m);have hpk:peekT I.L I.len m=t:=ht.symm;rw [hpk] at hp;unfold tokV at hp;have hf:=fun x w=>tokF0 t x w;have HT:=zD ht;clear hpk ht;go_wp2_with fail;refine hp.mono ?_;rintro e w2 ⟨rfl,b2⟩;have z2:=b2.size;have h2:=hr.below b2;have A2:=hA.trans (aside b2) hA.size;have hN2:=(aside b2 (S:=[])).keep hN (zC hN) (by simp);have own2:=hown.below b2;clear hp hr hA hN hown b2;by_cases hk0:t.kind=0
   ·have hkb:(t.kind==0)=true:=beq_iff_eq.2 hk0
    have HK0:=zD hk0;clear hk0;have c0:=co hN2 0;have f0:=fo hN2 0;simp at c0;have rN:=own2.row.wide (ok':=fun i=>w.heap.size<i) (fun i hi _=>by omega);go_wp2;refine bodyPost_ret (v:=.agg #[.slice aa acc.length cc]) (by simp [results,Tryz.results36,go_sem,c0]) rfl ?_;exact Post.good (by rw [hmod.out];exact nodes_stop (by rw [←HT.out];exact HK0.out) gk acc) (A2.set (by simp) _) (Nat.zero_le _) (h2.set (by simp;omega) (by simp;omega) _) ⟨_,_,_,rfl,vX ((rN.set (by simp) _).wide (fun i hi _=>Nat.le_of_lt hi))⟩
   ·have hkb:(t.kind==0)=false:=beq_eq_false_iff_ne.2 hk0
    have hkp:(I.pk m).kind≠0:=(by rw [←HT.out];exact hk0);go_wp2_with fail;refine (zBH h2 ⟨#[110,111,100,101]⟩).mono ?_;rintro e w3 ⟨rfl,b3⟩;have es:(⟨#[110,111,100,101]⟩:ByteArray).data.toList=[110,111,100,101]:=rfl;simp only [es];clear es;have z3:=b3.size;have h3:=h2.below b3;have A3:=A2.trans (aside b3) A2.size;have hN3:=(aside b3 (S:=[])).keep hN2 (zC hN2) (by simp);have own3:=own2.below b3;clear h2 A2 hN2 own2 b3
    cases hq:Ps.sees I [110,111,100,101] m with
    | false=>
     go_wp2_with fail;refine (HN _ _ h3 (hG.far A3)).mono ?_;rintro e w4 ⟨a4,hres⟩;rw [node_not hq] at hres;obtain rfl:e=_:=hres;refine ⟨rfl,Post.fail ?_ (A3.trans a4 A3.size)⟩;rw [hmod.out]
     cases gk with
     | zero=>simp [Ps.nodes,hkp,hq];rfl
     | succ f=>rw [zBn hkp,node_not hq];rfl
    | true=>
     by_cases hz:gk=0
     ·subst hz
      go_wp2_with fail;refine (jC h3 _ _ (by omega)).mono ?_;rintro e w4 ⟨rfl,b4⟩;exact ⟨rfl,Post.fail (by rw [hmod.out];simp [Ps.nodes,hkp,hq]) (A3.trans (aside b4) A3.size)⟩
     ·obtain ⟨f,rfl⟩:∃ f,gk=f+1:=⟨gk-1,by omega⟩
      go_wp2_with fail;refine (qF _ _ _ (by omega) _).mono ?_;rintro e w3 ⟨rfl,rfl⟩;go_wp2_with fail;refine (HN _ _ h3 (hG.far A3)).mono ?_;rintro e w4 ⟨a4,hres⟩;have z4:=a4.size;have A4:=A3.trans a4 A3.size;have hN4:=a4.keep hN3 (zC hN3) (by simp;omega);have own4:=own3.past a4 (by simp;omega)
      cases ht:Ps.node I m with
      | err c0 a0=>
       rw [ht] at hres;obtain rfl:e=_:=hres;exact ⟨rfl,Post.fail (by rw [hmod.out,zBn hkp,ht];rfl) A4⟩
      | ok x4 n4=>
       rw [ht] at hres;obtain ⟨le4,h4,_,rfl,y,rfl,hy⟩:=hres;have hmod2:Hid (Ps.program I=Ps.nodes I f (acc++[x4]) n4):=by
        show Ps.program I=_
        rw [hmod.out,zBn hkp,ht];rfl
       have hNb:=fun k hk=>(own3.lt k hk).2;have q1:kNode.E (fun i=>w3.heap.size≤i) w4 [.string y.name,.int .i64 y.place,.slice y.a2 y.n2 y.c2,.slice y.a3 y.n3 y.c3,.slice y.a4 y.n4 y.c4,.slice y.a5 y.n5 y.c5,.slice y.a6 y.n6 y.c6] x4:=⟨y,rfl,hy⟩;have q2:(acc.length+1)*kNode.bytes≤140737488355328:=(by show (acc.length+1)*144≤_;omega);have q3:acc.length+1≤maxLen:=(by unfold maxLen;omega);have zz3:w.heap.size+1≤w3.heap.size:=(by omega);have zz4:w.heap.size+1≤w4.heap.size:=(by omega);clear ht hmod a4 own3 h3 hN3 A3 hy
       go_wp2_with (at_builtin;refine xD kNode rfl _ _ 23 39 rfl Tryz.underlying23 (w.heap.size+1) w3.heap.size _ acc (by rfl) own4 [.string y.name,.int .i64 y.place,.slice y.a2 y.n2 y.c2,.slice y.a3 y.n3 y.c3,.slice y.a4 y.n4 y.c4,.slice y.a5 y.n5 y.c5,.slice y.a6 y.n6 y.c6] x4 q1 (by rfl) hNb zz3 zz4 q2 q3 ?_;intro v8 w8 own8 b8 _ _)
       go_wp2;go_roundg f
       case measure=>omega
       case rel=>exact ⟨n4,acc++[x4],by simp;omega,own8,h4.under b8 (by omega) (by omega),A4.trans (aside (b8.mono (Nat.le_succ _))) nR,(b8.block _ (Nat.lt_succ_self _)).trans hN4,by have:=b8.size;omega,hmod2⟩
theorem asserts75 (c a:Int) (w:World):(Instr.typeAssert (.iface 75 (.agg #[.int .i64 c,.int .i64 a])) 20 75 true).run Tryz.prog w=.ok (.tuple #[.agg #[.int .i64 c,.int .i64 a],.bool true]) w:=by kernel_rfl
theorem caught_up (pb qb:Nat) (c a:Int) (vp v0 v1:Value) (w:World) (hP:w.heap[pb]?=some (.cells #[vp] 25 (0,0))) (hQ:w.heap[qb]?=some (.cells #[v0,v1] 27 (0,0))) (hpq:pb≠qb) :
  CallsD Tryz.prog 35 #[.pointer (some ⟨pb,0,none⟩),.pointer (some ⟨qb,0,none⟩)] (.panicking [{ v:=upV c a,recovered:=false }]) w fun e u' w'=>
   e=.returned (.tuple #[])∧u'=.panicking [{ v:=upV c a,recovered:=true }]∧w'.heap[pb]?=some (.cells #[.slice none 0 0] 25 (0,0))∧w'.heap[qb]?=some (.cells #[.int .i64 c,.int .i64 a] 27 (0,0))∧Aside [pb,qb] w.heap.size w w':=by
 have zP:=zC hP;have zQ:=zC hQ;refine callsD_of_wpS Tryz.func35 rfl fun c₀ cs hu=>?_
 apply wpS_seq
 apply wpS_region
 simp [wpOpsS,go_sem,recoverD,hu,Tryz.ntmps35,Exit.thenS,upV];refine wpS_of_wp ?_;have ef:(#[Value.pointer (some ⟨pb,0,none⟩),Value.pointer (some ⟨qb,0,none⟩)]++(Array.replicate 12 undef).setIfInBounds 3 (Value.iface 75 (.agg #[.int .i64 c,.int .i64 a])))=#[Value.pointer (some ⟨pb,0,none⟩),Value.pointer (some ⟨qb,0,none⟩),undef,undef,undef,Value.iface 75 (.agg #[.int .i64 c,.int .i64 a]),undef,undef,undef,undef,undef,undef,undef,undef]:=rfl;rw [ef];clear ef;have hta:=asserts75;go_wp2_with fail;have hP1:(w.alloc (.cells #[.int .i64 c,.int .i64 a] 75 (0,0))).drew.heap[pb]?=some (.cells #[vp] 25 (0,0)):=kA hP _;have hQ1:(w.alloc (.cells #[.int .i64 c,.int .i64 a] 75 (0,0))).drew.heap[qb]?=some (.cells #[v0,v1] 27 (0,0)):=kA hQ _;have hT1:(w.alloc (.cells #[.int .i64 c,.int .i64 a] 75 (0,0))).drew.heap[w.heap.size]?=some (.cells #[.int .i64 c,.int .i64 a] 75 (0,0)):=zF w _;have A1:Aside [pb,qb] w.heap.size w (w.alloc (.cells #[.int .i64 c,.int .i64 a] 75 (0,0))).drew:=((Aside.refl w).alloc nR _).drew;refine zL (fun w'=>w'.cell? ⟨w.heap.size,0,none⟩=some (.int .i64 c)∧w'.cell? ⟨w.heap.size,1,none⟩=some (.int .i64 a)) (fun j=>decide (j=4)) (by kernel_rfl) ?_;generalize (w.alloc (.cells #[.int .i64 c,.int .i64 a] 75 (0,0))).drew=w1 at hP1 hQ1 hT1 A1 ⊢;obtain ⟨t0,t1⟩:=cells2 hT1;have hH:=And.intro t0 t1;have p0:=co hP1 0;have q0:=co hQ1 0;have q1:=co hQ1 1;have fP:=fun o=>fo hP1 o;have fQ:=fun o=>fo hQ1 o;simp at p0 q0 q1;have hT2:=co (zK hT1 (p:=⟨pb,0,none⟩) (by simp;omega) (.slice none 0 0)) 0;have hT3:=co (zK hT1 (p:=⟨pb,0,none⟩) (by simp;omega) (.slice none 0 0)) 1;simp only [gT,gZ,gS] at hT2 hT3;have H2:=zD (And.intro hT2 hT3);clear hT2 hT3;have nQ:qb≠pb:=hpq.symm;refine' zE (i:=0) (v:=_) rfl (by kernel_rfl) (by kernel_rfl) (by kernel_rfl) (by kernel_rfl) (fun _ _ _ h=>h) hH (by rfl) ?hyv ?o1
 case hyv=>
  intro wz hSw;obtain ⟨c0,c1⟩:=hSw;go_simp
  try rfl
 try simp only [Act.put,sT,sZ,sS]
 refine' zE (i:=1) (v:=_) rfl (by kernel_rfl) (by kernel_rfl) (by kernel_rfl) (by kernel_rfl) (fun _ _ _ h=>h) hH (by rfl) ?hyv ?o2
 case hyv=>
  intro wz hSw;obtain ⟨c0,c1⟩:=hSw;go_simp
  try rfl
 try simp only [Act.put,sT,sZ,sS]
 refine' zE (i:=2) (v:=_) rfl (by kernel_rfl) (by kernel_rfl) (by kernel_rfl) (by kernel_rfl) (fun _ _ _ h=>h) hH (by rfl) ?hyv ?o3
 case hyv=>
  intro wz hSw;obtain ⟨c0,c1⟩:=hSw;go_simp
  try rfl
 try simp only [Act.put,sT,sZ,sS]
 refine zG (i:=3) rfl (by kernel_rfl) (by rfl) (fun K hK=>?_);go_simp;refine hK.out _ _ (fun _=>H2.out) ?_;clear hK K
 try simp only [Act.put,sT,sZ,sS]
 have hP2:=zJ hP1 0 (.slice none 0 0);have hQ2:=zK hQ1 (p:=⟨pb,0,none⟩) (by simpa using hpq) (.slice none 0 0);have A2:Aside [pb,qb] w.heap.size w (w1.setCell ⟨pb,0,none⟩ (.slice none 0 0)):=A1.trans (Aside.setCell (by simp) _) nR;simp at hP2;generalize w1.setCell ⟨pb,0,none⟩ (.slice none 0 0)=w2 at hP2 hQ2 A2 ⊢;have q2:=co hQ2 0;have q3:=co hQ2 1;have fQ2:=fun o=>fo hQ2 o;simp at q2 q3;clear hH t0 t1 p0 q0 q1 fP fQ H2 hT1 A1 hP1 hQ1;refine zG (i:=4) rfl (by kernel_rfl) (by rfl) (fun K hK=>?_);go_simp;refine hK.out _ _ (fun h=>by cases h) ?_;clear hK K
 try simp only [Act.put,sT,sZ,sS]
 refine zR (by kernel_rfl) ?_ _;have hP3:=zK (zK hP2 (p:=⟨qb,0,none⟩) (by simpa using nQ) (.int .i64 c)) (p:=⟨qb,1,none⟩) (by simpa using nQ) (.int .i64 a);have hQ3:=zJ (zJ hQ2 0 (.int .i64 c)) 1 (.int .i64 a);have A3:Aside [pb,qb] w.heap.size w ((w2.setCell ⟨qb,0,none⟩ (.int .i64 c)).setCell ⟨qb,1,none⟩ (.int .i64 a)):=(A2.trans (Aside.setCell (by simp) _) nR).trans (Aside.setCell (by simp) _) nR;simp at hQ3;generalize (w2.setCell ⟨qb,0,none⟩ (.int .i64 c)).setCell ⟨qb,1,none⟩ (.int .i64 a)=w3 at hP3 hQ3 A3 ⊢;go_wp2
 cases c₀
 simp_all [Exit.inBlock,bodyPostS,results,Tryz.results35,upV]
theorem keepB {w:World} {k:Nat} (o:Obj) (h:k<w.heap.size):(w.alloc o).heap[k]?=w.heap[k]?:=Below.heap_alloc _ _ _ h
theorem zCI {w:World} {g cap:Nat} (ht:HoldsToks w g begunL) (hg:g<w.heap.size) (hc:begunL.length≤cap) (hm:cap≤maxLen) :
  Calls Tryz.prog 13 #[.slice (some ⟨g,0,none⟩) begunL.length cap,.int .i64 48] w fun r w'=>∃ nb,r=.returned (.tuple #[.agg #[.slice (some ⟨nb,0,none⟩) 1 1],.agg #[.int .i64 0,.int .i64 0]])∧BegunAt w.heap.size w' nb∧Below w.heap.size w w':=by
 have hmf:=vM;obtain ⟨W1,hW1⟩:∃ W,W=w.alloc (.cells #[.slice none 0 0] 25 (0,0)):=⟨_,rfl⟩;obtain ⟨W2,hW2⟩:∃ W,W=W1.alloc (.cells #[.int .i64 0,.int .i64 0] 27 (0,0)):=⟨_,rfl⟩;obtain ⟨W3,hW3⟩:∃ W,W=W2.alloc (.cells #[.slice (some ⟨g,0,none⟩) begunL.length cap,.int .i64 0,.int .i64 48,.int .i64 0] 78 (0,0)):=⟨_,rfl⟩;have y1:=xU hW1;have y2:W2.heap.size=w.heap.size+1+1:=(by rw [hW2];simp [y1]);have y3:W3.heap.size=w.heap.size+1+1+1:=(by rw [hW3];simp [y2]);have bW:Below w.heap.size w W3:=(by rw [hW3,hW2,hW1];exact (((Below.refl _ w).alloc nR _).alloc (by simp) _).alloc (by simp;omega) _);have hP:W3.heap[w.heap.size]?=some (.cells #[.slice none 0 0] 25 (0,0)):=(by rw [hW3,hW2,hW1];exact kA (kA (zF w _) _) _);have hF:W3.heap[w.heap.size+1]?=some (.cells #[.int .i64 0,.int .i64 0] 27 (0,0)):=(by rw [hW3,hW2,←y1];exact kA (zF W1 _) _);have hB:W3.heap[w.heap.size+1+1]?=some (.cells #[.slice (some ⟨g,0,none⟩) begunL.length cap,.int .i64 0,.int .i64 48,.int .i64 0] 78 (0,0)):=(by rw [hW3,←y2];exact zF W2 _);have hR:Rd W3 (w.heap.size+1+1) g cap begunL 48 0 0:=⟨hB,ht.keep (bW.block g hg),by omega,by omega,by decide,hc,hm⟩
 go_enter_defers Tryz.func13,Tryz.ntmps13
 go_wp2_with fail;rw [←hW1,←hW2,←hW3];refine (zDm hR).mono ?_;rintro r w4 ⟨nb,rfl,hbg,a4⟩;have z4:=a4.size;have hP4:=a4.keep hP (by omega) (by simp;omega);have hF4:=a4.keep hF (by omega) (by simp);have A4:Below w.heap.size w w4:=bW.trans ((a4.mono (B':=w.heap.size) (by omega)).below (by simp;omega));have cp0:=co hP4 0;have fp0:=fo hP4 0;have cf0:=co hF4 0;have ff0:=fo hF4 0;have cf1:=co hF4 1;have ff1:=fo hF4 1;simp at cp0 cf0 cf1;clear hR hB hP hF bW a4 hW1 hW2 hW3;go_wp2;refine leaves_cons (f:=35) (args:=#[.pointer (some ⟨w.heap.size,0,none⟩),.pointer (some ⟨w.heap.size+1,0,none⟩)]) (by simp) (by simp [go_sem]) ?_;refine (zCk ⟨w.heap.size,0,none⟩ ⟨w.heap.size+1,0,none⟩ _).mono ?_;rintro e u' w'' ⟨rfl,rfl,rfl⟩;have hbg':BegunAt w.heap.size (((w4.setCell ⟨w.heap.size,0,none⟩ (.slice (some ⟨nb,0,none⟩) 1 1)).setCell ⟨w.heap.size+1,0,none⟩ (.int .i64 0)).setCell ⟨w.heap.size+1,1,none⟩ (.int .i64 0)) nb:=by
  have h0:=hbg.keep (w':=(((w4.setCell ⟨w.heap.size,0,none⟩ (.slice (some ⟨nb,0,none⟩) 1 1)).setCell ⟨w.heap.size+1,0,none⟩ (.int .i64 0)).setCell ⟨w.heap.size+1,1,none⟩ (.int .i64 0))) (by simp [World.setCell]) (fun k hk _=>by
   rw [Below.heap_setCell _ _ _ _ (by simp;omega),Below.heap_setCell _ _ _ _ (by simp;omega),Below.heap_setCell _ _ _ _ (by simp;omega)])
  obtain ⟨q,cq,bk,h1,h2,h3,h4,h5,h6,h7⟩:=h0;exact ⟨q,cq,bk,by omega,h2,by omega,h4,by omega,h6,h7⟩
 have A5:=((A4.setCell (p:=⟨w.heap.size,0,none⟩) nR (.slice (some ⟨nb,0,none⟩) 1 1)).setCell (p:=⟨w.heap.size+1,0,none⟩) (Nat.le_succ _) (.int .i64 0)).setCell (p:=⟨w.heap.size+1,1,none⟩) (Nat.le_succ _) (.int .i64 0);simp [Leaves,settle,results,Tryz.results13,go_sem,cp0,cf0,cf1];exact ⟨hbg',A5⟩
theorem parse_begun (w:World):Calls Tryz.prog 6 #[.string ⟨#[110,111,100,101,32,109,97,105,110,40,120,58,32,105,110,116,41,32,45,62,32,40,121,58,32,105,110,116,41,32,123,32,121,32,61,32,120,32,45,32,49,32,45,32,50,59,32,125]⟩] w fun r w'=>∃ nb,r=.returned (.tuple #[.agg #[.slice (some ⟨nb,0,none⟩) 1 1],.agg #[.int .i64 0,.int .i64 0]])∧BegunAt w.heap.size w' nb∧Below w.heap.size w w':=by
 go_enter Tryz.func6,Tryz.ntmps6;go_wp2_with fail;refine (scan_any ⟨#[110,111,100,101,32,109,97,105,110,40,120,58,32,105,110,116,41,32,45,62,32,40,121,58,32,105,110,116,41,32,123,32,121,32,61,32,120,32,45,32,49,32,45,32,50,59,32,125]⟩ _ (by decide)).mono ?_;rintro r w1 ⟨v,he,hown,b1⟩;have hs:Tk.scan (⟨#[110,111,100,101,32,109,97,105,110,40,120,58,32,105,110,116,41,32,45,62,32,40,121,58,32,105,110,116,41,32,123,32,121,32,61,32,120,32,45,32,49,32,45,32,50,59,32,125]⟩:ByteArray).data.toList=(begunL,0,0):=scan_begun;rw [hs] at he hown;subst he;obtain ⟨ao,g,cap,rfl,hc1,hc2,hT⟩:=zBr hown;obtain ⟨rfl,hg1,hg2,hTk⟩:=hT (by decide);clear hT hown;go_wp2_with fail;refine (zCI (hTk.keep (keepB _ hg2)) (by simp;omega) hc1 hc2).mono ?_;rintro r w3 ⟨nb,rfl,hbg,b3⟩;have z1:w.heap.size+1+1≤w1.heap.size:=(by simpa using b1.size);have z3:w1.heap.size+1≤w3.heap.size:=(by simpa using b3.size);have hP:=(aside b3 (S:=[])).keep (kA ((aside b1 (S:=[])).keep (kA (zF w _) _) (by simp;omega) (by simp)) _) (by simp;omega) (by simp);have hF0:=zF (w.alloc (.cells #[.slice none 0 0] 25 (0,0))) (.cells #[.int .i64 0,.int .i64 0] 27 (0,0));have e1:(w.alloc (.cells #[.slice none 0 0] 25 (0,0))).heap.size=w.heap.size+1:=(by simp);rw [e1] at hF0;have hF:=(aside b3 (S:=[])).keep (kA ((aside b1 (S:=[])).keep hF0 (by simp) (by simp)) (.cells #[.int .i64 0,.int .i64 0] 27 (0,0))) (by simp;omega) (by simp);have B3:Below w.heap.size w w3:=((((Below.refl _ w).alloc nR _).alloc (by simp) _).trans (b1.mono (by simp;omega))).alloc (by omega) _ |>.trans (b3.mono (by simp;omega))
 have cp0:=co hP 0;have fp0:=fo hP 0;have cf0:=co hF 0;have ff0:=fo hF 0;have cf1:=co hF 1;have ff1:=fo hF 1;simp at cp0 cf0 cf1;go_wp2;have hbg':BegunAt w.heap.size (((w3.setCell ⟨w.heap.size,0,none⟩ (.slice (some ⟨nb,0,none⟩) 1 1)).setCell ⟨w.heap.size+1,0,none⟩ (.int .i64 0)).setCell ⟨w.heap.size+1,1,none⟩ (.int .i64 0)) nb:=by
  have h0:=hbg.keep (w':=(((w3.setCell ⟨w.heap.size,0,none⟩ (.slice (some ⟨nb,0,none⟩) 1 1)).setCell ⟨w.heap.size+1,0,none⟩ (.int .i64 0)).setCell ⟨w.heap.size+1,1,none⟩ (.int .i64 0))) (by simp [World.setCell]) (fun k hk _=>by
   simp at hk;rw [Below.heap_setCell _ _ _ _ (by simp;omega),Below.heap_setCell _ _ _ _ (by simp;omega),Below.heap_setCell _ _ _ _ (by simp;omega)])
  obtain ⟨q,cq,bk,h1,h2,h3,h4,h5,h6,h7⟩:=h0;simp at h1 h3 h5;exact ⟨q,cq,bk,by omega,h2,by omega,h4,by omega,h6,h7⟩
 exact bodyPost_ret (v:=.tuple #[.agg #[.slice (some ⟨nb,0,none⟩) 1 1],.agg #[.int .i64 0,.int .i64 0]]) (by simp [results,Tryz.results6,go_sem,cp0,cf0,cf1]) rfl ⟨nb,rfl,hbg',((B3.setCell (p:=⟨w.heap.size,0,none⟩) nR _).setCell (p:=⟨w.heap.size+1,0,none⟩) (Nat.le_succ _) _).setCell (p:=⟨w.heap.size+1,1,none⟩) (Nat.le_succ _) _⟩
theorem begun_any (w:World):Calls Tryz.prog 5 #[] w fun e w'=>e=.returned (.bool true)∧Below w.heap.size w w':=by
 go_enter Tryz.func5,Tryz.ntmps5;go_wp2_with fail;refine (parse_begun _).mono ?_;rintro r w1 ⟨nb,rfl,⟨q,cq,bk,h1,h2,h3,h4,h5,h6,h7,h8,h9,h10⟩,b1⟩;have c1:=fun o o'=>(((Below.refl w1.heap.size w1).alloc nR o).alloc (by simp) o').cell (p:=⟨nb,6,none⟩) h2 |>.trans h8
 have c2:=fun o o'=>(((Below.refl w1.heap.size w1).alloc nR o).alloc (by simp) o').cell (p:=⟨q,4,none⟩) h4 |>.trans h9
 have c3:=fun o o'=>(((Below.refl w1.heap.size w1).alloc nR o).alloc (by simp) o').cell (p:=⟨bk,1,none⟩) h6 |>.trans h10
 go_wp2;go_ret;exact ⟨rfl,(b1.alloc b1.size _).alloc (by have:=b1.size;simp;omega) _⟩
theorem nodes_of {ok:Nat→Prop} {w:World} {v:Value} {l:List Nd} (h:HNds ok w v l):HRow kNode ok w v l:=h
theorem HNds.wide' {ok ok':Nat→Prop} {w:World} {v:Value} {l:List Nd} (h:HNds ok w v l) (hk:∀ i,ok i→i<w.heap.size→ok' i):HNds ok' w v l:=HRow.wide (T:=kNode) h hk
def RPost (w:World) (res:Res (List Nd)) (r:Ending) (w':World):Prop :=
 Below w.heap.size w w' ∧
 match res with
 | .ok l _=>∃ a n c,r=.returned (.tuple #[.agg #[.slice a n c],.agg #[.int .i64 0,.int .i64 0]])∧HNds (fun i=>w.heap.size≤i) w' (.slice a n c) l
 | .err c a=>r=.returned (.tuple #[.agg #[.slice none 0 0],.agg #[.int .i64 (c:Int),.int .i64 (a:Int)]])
theorem zCp (hform:FormC) {I:Inp} (hL:I.L.length≤1099511627776) {w:World} {g cap:Nat} (ht:HoldsToks w g I.L) (hg:g<w.heap.size) (hc:I.L.length≤cap) (hm:cap≤maxLen) (hG:GlobT w) :
  Calls Tryz.prog 13 #[.slice (some ⟨g,0,none⟩) I.L.length cap,.int .i64 (I.len:Int)] w (RPost w (Ps.program I)):=by
 have hmf:=vM;obtain ⟨W1,hW1⟩:∃ W,W=w.alloc (.cells #[.slice none 0 0] 25 (0,0)):=⟨_,rfl⟩;obtain ⟨W2,hW2⟩:∃ W,W=W1.alloc (.cells #[.int .i64 0,.int .i64 0] 27 (0,0)):=⟨_,rfl⟩;obtain ⟨W3,hW3⟩:∃ W,W=W2.alloc (.cells #[.slice (some ⟨g,0,none⟩) I.L.length cap,.int .i64 0,.int .i64 (I.len:Int),.int .i64 0] 78 (0,0)):=⟨_,rfl⟩;have y1:=xU hW1;have y2:W2.heap.size=w.heap.size+1+1:=(by rw [hW2];simp [y1]);have y3:W3.heap.size=w.heap.size+1+1+1:=(by rw [hW3];simp [y2]);have bW:Below w.heap.size w W3:=(by rw [hW3,hW2,hW1];exact (((Below.refl _ w).alloc nR _).alloc (by simp) _).alloc (by simp;omega) _);have hP:W3.heap[w.heap.size]?=some (.cells #[.slice none 0 0] 25 (0,0)):=(by rw [hW3,hW2,hW1];exact kA (kA (zF w _) _) _);have hF:W3.heap[w.heap.size+1]?=some (.cells #[.int .i64 0,.int .i64 0] 27 (0,0)):=(by rw [hW3,hW2,←y1];exact kA (zF W1 _) _);have hB:W3.heap[w.heap.size+1+1]?=some (.cells #[.slice (some ⟨g,0,none⟩) I.L.length cap,.int .i64 0,.int .i64 (I.len:Int),.int .i64 0] 78 (0,0)):=(by rw [hW3,←y2];exact zF W2 _);have hR:Rd W3 (w.heap.size+1+1) g cap I.L I.len 0 0:=⟨hB,ht.keep (bW.block g hg),by omega,by omega,Nat.zero_le _,hc,hm⟩
 go_enter_defers Tryz.func13,Tryz.ntmps13
 go_wp2_with fail;rw [←hW1,←hW2,←hW3];refine (program_any hform hL hR ⟨by have:=hG.1;omega,hG.keep bW.size (bW.block 1 hG.1)⟩).mono ?_;rintro r w4 ⟨a4,hres⟩;have z4:=a4.size;have hP4:=a4.keep hP (by omega) (by simp;omega);have hF4:=a4.keep hF (by omega) (by simp);have A4:Below w.heap.size w w4:=bW.trans ((a4.mono (B':=w.heap.size) (by omega)).below (by simp;omega));have cp0:=co hP4 0;have fp0:=fo hP4 0;have cf0:=co hF4 0;have ff0:=fo hF4 0;have cf1:=co hF4 1;have ff1:=fo hF4 1;simp at cp0 cf0 cf1;clear hR hB hP hF bW a4 hW1 hW2 hW3
 cases hp:Ps.program I with
 | ok l n=>
  rw [hp] at hres;obtain ⟨_,h4,_,rfl,a,n',c,rfl,hN⟩:=hres;clear h4;go_wp2;refine leaves_cons (f:=35) (args:=#[.pointer (some ⟨w.heap.size,0,none⟩),.pointer (some ⟨w.heap.size+1,0,none⟩)]) (by simp) (by simp [go_sem]) ?_;refine (zCk ⟨w.heap.size,0,none⟩ ⟨w.heap.size+1,0,none⟩ _).mono ?_;rintro e u' w'' ⟨rfl,rfl,rfl⟩;have A5:=((A4.setCell (p:=⟨w.heap.size,0,none⟩) nR (.slice a n' c)).setCell (p:=⟨w.heap.size+1,0,none⟩) (Nat.le_succ _) (.int .i64 0)).setCell (p:=⟨w.heap.size+1,1,none⟩) (Nat.le_succ _) (.int .i64 0);have hN5:=((nodes_of (hN.wide' (ok':=fun i=>w.heap.size+1<i) (fun i hi _=>by omega))).set (p:=⟨w.heap.size,0,none⟩) (by simp) (.slice a n' c) |>.set (p:=⟨w.heap.size+1,0,none⟩) (by simp) (.int .i64 0) |>.set (p:=⟨w.heap.size+1,1,none⟩) (by simp) (.int .i64 0)).wide (ok':=fun i=>w.heap.size≤i) (fun i hi _=>by omega);simp [Leaves,settle,results,Tryz.results13,go_sem,cp0,cf0,cf1];refine ⟨A5,?_⟩;rw [hp];exact ⟨a,n',c,rfl,vX hN5⟩
 | err c a=>
  rw [hp] at hres;obtain rfl:r=_:=hres;unfold upE;refine leaves_cons (f:=35) (args:=#[.pointer (some ⟨w.heap.size,0,none⟩),.pointer (some ⟨w.heap.size+1,0,none⟩)]) (by simp) (by simp [go_sem]) ?_;refine (caught_up w.heap.size (w.heap.size+1) c a _ _ _ _ hP4 hF4 (by omega)).mono ?_;rintro e u' w5 ⟨rfl,rfl,hP5,hF5,a5⟩;have p0:=co hP5 0;have f0:=co hF5 0;have f1:=co hF5 1;simp at p0 f0 f1;have A5:Below w.heap.size w w5:=A4.trans ((a5.mono (B':=w.heap.size) (by have:=A4.size;omega)).below (by simp));simp [Leaves,settle,results,Tryz.results13,go_sem,p0,f0,f1,upV];exact ⟨A5,rfl⟩
def RdE (w:World) (b:Nat) (ao:Option Addr) (cap len:Nat):Prop:=w.heap[b]?=some (.cells #[.slice ao 0 cap,.int .i64 0,.int .i64 (len:Int),.int .i64 0] 78 (0,0))
theorem RdE.below {w w':World} {b:Nat} {ao:Option Addr} {cap len:Nat} (h:RdE w b ao cap len) (hb:Below w.heap.size w w'):RdE w' b ao cap len:=(hb.block b (zC h)).trans h
theorem RdE.alloc {w:World} {b:Nat} {ao:Option Addr} {cap len:Nat} (h:RdE w b ao cap len) (o:Obj):RdE (w.alloc o) b ao cap len:=kA h o
theorem peekE {w:World} {b:Nat} {ao:Option Addr} {cap len:Nat} (h:RdE w b ao cap len) :
  Calls Tryz.prog 63 #[.pointer (some ⟨b,0,none⟩)] w fun e w'=>e=.returned (tokV ⟨0,len,[],0⟩)∧Below w.heap.size w w':=by
 have hb:=zC h;obtain ⟨c0,c1,c2,c3⟩:=cells4 h;go_enter Tryz.func63,Tryz.ntmps63;go_wp2
 go_region
 go_wp2;exact bodyPost_ret (v:=tokV ⟨0,len,[],0⟩) (by simp [tokV,str,results,Tryz.results63,go_sem]) rfl ⟨rfl,((Below.refl _ w).alloc nR _).drew⟩
theorem seesE {w:World} {b:Nat} {ao:Option Addr} {cap len:Nat} (h:RdE w b ao cap len) (s:ByteArray) (hs:(([]:List UInt8)==s.data.toList)=false) :
  Calls Tryz.prog 64 #[.pointer (some ⟨b,0,none⟩),.string s] w fun e w'=>e=.returned (.bool false)∧Below w.heap.size w w':=by
 have hp:=peekE h;obtain ⟨t,ht⟩:∃ t:Tk.Tok,t=⟨0,len,[],0⟩:=⟨_,rfl⟩;rw [←ht] at hp;unfold tokV at hp;have hf:=fun x w=>zBg t x w;have HT:=zD ht;clear ht;go_enter Tryz.func64,Tryz.ntmps64
 go_wp2_with (go_at_call 63;refine hp.mono ?_;rintro e w' ⟨rfl,hb⟩)
 go_ret;refine ⟨zV ?_,hb⟩;have:=HT.out;subst this
 simpa [str,Lib.toList_data] using hs
theorem needE {w:World} {b:Nat} {ao:Option Addr} {cap len:Nat} (h:RdE w b ao cap len) (s:ByteArray) (hs:(([]:List UInt8)==s.data.toList)=false) :
  Calls Tryz.prog 78 #[.pointer (some ⟨b,0,none⟩),.string s] w fun e w'=>e=upE 5 len∧Below w.heap.size w w':=by
 have htake:∀ w,RdE w b ao cap len→Calls Tryz.prog 80 #[.pointer (some ⟨b,0,none⟩),.string s] w fun e w'=>e=.returned (.bool false)∧Below w.heap.size w w':=fun w h=>by
  have hp:=seesE h s hs;go_enter Tryz.func80,Tryz.ntmps80
  go_wp2_with (go_at_call 64;refine hp.mono ?_;rintro e w1 ⟨rfl,hb⟩)
  go_ret;exact ⟨rfl,hb⟩
 have href:∀ w,RdE w b ao cap len→Calls Tryz.prog 92 #[.pointer (some ⟨b,0,none⟩)] w fun e w'=>e=upE 5 len∧Below w.heap.size w w':=fun w h=>by
  have hp:=peekE h;unfold tokV at hp;go_enter Tryz.func92,Tryz.ntmps92;go_wp2_with fail;refine hp.mono ?_;rintro e w1 ⟨rfl,hb⟩;go_wp2_with fail;refine (jF _ _ _).mono ?_;rintro e w2 ⟨rfl,rfl⟩;exact ⟨rfl,rfl,hb.alloc hb.size _⟩
 have hp:=htake w h;go_enter Tryz.func78,Tryz.ntmps78;go_wp2_with fail;refine hp.mono ?_;rintro e w1 ⟨rfl,hb⟩;go_wp2_with fail;refine (href _ (h.below hb)).mono ?_;rintro e w2 ⟨rfl,ha⟩;exact ⟨rfl,rfl,hb.trans (ha.mono hb.size)⟩
theorem nodeE {w:World} {b:Nat} {ao:Option Addr} {cap len:Nat} (h:RdE w b ao cap len) :
  Calls Tryz.prog 62 #[.pointer (some ⟨b,0,none⟩)] w fun e w'=>e=upE 5 len∧Below w.heap.size w w':=by
 obtain ⟨t,ht⟩:∃ t:Tk.Tok,t=⟨0,len,[],0⟩:=⟨_,rfl⟩;have hp:=peekE (h.alloc (.cells #[.string ⟨#[]⟩,.int .i64 0,.slice none 0 0,.slice none 0 0,.slice none 0 0,.slice none 0 0,.slice none 0 0] 39 (0,0)));rw [←ht] at hp;unfold tokV at hp;have hf:=fun x w=>tokF1 t x w;clear ht;go_enter Tryz.func62,Tryz.ntmps62;go_wp2_with fail;refine hp.mono ?_;rintro e w1 ⟨rfl,b1⟩;have z1:w.heap.size+1≤w1.heap.size:=(by simpa using b1.size);have B1:Below w.heap.size w w1:=((Below.refl _ w).alloc nR _).trans (b1.mono (by simp));go_wp2_with fail;refine (needE (((h.alloc _).below b1).alloc _) ⟨#[110,111,100,101]⟩ rfl).mono ?_;rintro e w2 ⟨rfl,b2⟩;exact ⟨rfl,rfl,(B1.alloc (by omega) _).trans (b2.mono (by simp;omega))⟩
theorem programE {w:World} {b:Nat} {ao:Option Addr} {cap len:Nat} (h:RdE w b ao cap len) :
  Calls Tryz.prog 36 #[.pointer (some ⟨b,0,none⟩)] w fun e w'=>e=upE 5 len∧Below w.heap.size w w':=by
 go_enter Tryz.func36,Tryz.ntmps36;go_wp2_with fail;refine (nodeE (h.alloc _)).mono ?_;rintro e w1 ⟨rfl,b1⟩;exact ⟨rfl,rfl,((Below.refl _ w).alloc nR _).trans (b1.mono (by simp))⟩
theorem readProgramE {w:World} {ao:Option Addr} {cap len:Nat} (hm:cap≤maxLen) :
  Calls Tryz.prog 13 #[.slice ao 0 cap,.int .i64 (len:Int)] w (RPost w (.err 5 len)):=by
 have hmf:=vM;obtain ⟨W1,hW1⟩:∃ W,W=w.alloc (.cells #[.slice none 0 0] 25 (0,0)):=⟨_,rfl⟩;obtain ⟨W2,hW2⟩:∃ W,W=W1.alloc (.cells #[.int .i64 0,.int .i64 0] 27 (0,0)):=⟨_,rfl⟩;obtain ⟨W3,hW3⟩:∃ W,W=W2.alloc (.cells #[.slice ao 0 cap,.int .i64 0,.int .i64 (len:Int),.int .i64 0] 78 (0,0)):=⟨_,rfl⟩;have y1:=xU hW1;have y2:W2.heap.size=w.heap.size+1+1:=(by rw [hW2];simp [y1]);have y3:W3.heap.size=w.heap.size+1+1+1:=(by rw [hW3];simp [y2]);have bW:Below w.heap.size w W3:=(by rw [hW3,hW2,hW1];exact (((Below.refl _ w).alloc nR _).alloc (by simp) _).alloc (by simp;omega) _);have hP:W3.heap[w.heap.size]?=some (.cells #[.slice none 0 0] 25 (0,0)):=(by rw [hW3,hW2,hW1];exact kA (kA (zF w _) _) _);have hF:W3.heap[w.heap.size+1]?=some (.cells #[.int .i64 0,.int .i64 0] 27 (0,0)):=(by rw [hW3,hW2,←y1];exact kA (zF W1 _) _);have hB:RdE W3 (w.heap.size+1+1) ao cap len:=(by unfold RdE;rw [hW3,←y2];exact zF W2 _)
 go_enter_defers Tryz.func13,Tryz.ntmps13
 go_wp2_with fail;rw [←hW1,←hW2,←hW3];refine (programE hB).mono ?_;rintro r w4 ⟨rfl,b4⟩;have z4:=b4.size;have hP4:=(aside b4 (S:=[])).keep hP (by omega) (by simp);have hF4:=(aside b4 (S:=[])).keep hF (by omega) (by simp);have A4:Below w.heap.size w w4:=bW.trans (b4.mono (by omega));unfold upE;refine leaves_cons (f:=35) (args:=#[.pointer (some ⟨w.heap.size,0,none⟩),.pointer (some ⟨w.heap.size+1,0,none⟩)]) (by simp) (by simp [go_sem]) ?_;refine (caught_up w.heap.size (w.heap.size+1) 5 len _ _ _ _ hP4 hF4 (by omega)).mono ?_;rintro e u' w5 ⟨rfl,rfl,hP5,hF5,a5⟩;have p0:=co hP5 0;have f0:=co hF5 0;have f1:=co hF5 1;simp at p0 f0 f1;have A5:Below w.heap.size w w5:=A4.trans ((a5.mono (B':=w.heap.size) (by omega)).below (by simp));simp [Leaves,settle,results,Tryz.results13,go_sem,p0,f0,f1,upV];exact ⟨A5,rfl⟩
theorem program_none (len:Nat):Ps.program ⟨[],len⟩=.err 5 len:=rfl
theorem scanR_len:∀ (f:Nat) (l:List UInt8) (p:Nat),(Tk.scanR f l p).1.length≤f
 | 0,_,_=>by simp [Tk.scanR]
 | _+1,[],_=>by simp [Tk.scanR]
 | f+1,c :: l,p=>by
  unfold Tk.scanR
  split
  ·simp
  ·have:=scanR_len f ((((c :: l).drop (Tk.read (c :: l)).text.length)).drop (Tk.blankLen false ((c :: l).drop (Tk.read (c :: l)).text.length))) (p+(Tk.read (c :: l)).text.length+Tk.blankLen false ((c :: l).drop (Tk.read (c :: l)).text.length))
   simp only []
   split
   ·simp
   ·simp only [List.length_cons]
    omega
theorem scan_len (l:List UInt8):(Tk.scan l).1.length≤l.length:=by
 unfold Tk.scan
 split
 ·simp
 ·exact scanR_len _ _ _
theorem zCV (hform:FormC) {I:Inp} (hL:I.L.length≤1099511627776) {w:World} {ao:Option Addr} {g cap:Nat} (hc:I.L.length≤cap) (hm:cap≤maxLen) (hT:0<I.L.length→ao=some ⟨g,0,none⟩∧g<w.heap.size∧HoldsToks w g I.L) (hG:GlobT w) :
  Calls Tryz.prog 13 #[.slice ao I.L.length cap,.int .i64 (I.len:Int)] w (RPost w (Ps.program I)):=by
 by_cases h0:0<I.L.length
 ·obtain ⟨rfl,hg,ht⟩:=hT h0
  exact zCp hform hL ht hg hc hm hG
 ·obtain ⟨L,len⟩:=I
  have hL0:L=[]:=List.eq_nil_of_length_eq_zero (by simpa using h0);subst hL0;rw [program_none];exact readProgramE hm
def PPost (w:World) (t:List UInt8) (r:Ending) (w':World):Prop :=
 Below w.heap.size w w'∧∃ a n c,r=.returned (.tuple #[.agg #[.slice a n c],.agg #[.int .i64 (parseT t).2.1,.int .i64 (parseT t).2.2]])∧HNds (fun i=>w.heap.size≤i) w' (.slice a n c) (parseT t).1
theorem parse_any (hform:FormC) (s:ByteArray) (w:World) (hs:s.size≤1000000) (hG:GlobT w):Calls Tryz.prog 6 #[.string s] w (PPost w s.data.toList):=by
 have hsz:s.data.toList.length=s.size:=Array.length_toList;have hL:(Tk.scan s.data.toList).1.length≤1099511627776:=by
  have:=scan_len s.data.toList;omega
 obtain ⟨W,hW⟩:=nm ((w.alloc (.cells #[.slice none 0 0] 25 (0,0))).alloc (.cells #[.int .i64 0,.int .i64 0] 27 (0,0)));have zW:W.heap.size=w.heap.size+1+1:=(by rw [hW];simp);have bW:Below w.heap.size w W:=(by rw [hW];exact ((Below.refl _ w).alloc nR _).alloc (by simp) _);have hP:W.heap[w.heap.size]?=some (.cells #[.slice none 0 0] 25 (0,0)):=(by rw [hW];exact kA (zF w _) _);have hF:W.heap[w.heap.size+1]?=some (.cells #[.int .i64 0,.int .i64 0] 27 (0,0)):=by
  have:=zF (w.alloc (.cells #[.slice none 0 0] 25 (0,0))) (.cells #[.int .i64 0,.int .i64 0] 27 (0,0));have e:(w.alloc (.cells #[.slice none 0 0] 25 (0,0))).heap.size=w.heap.size+1:=(by simp);rw [e] at this;rw [hW];exact this
 go_enter Tryz.func6,Tryz.ntmps6;go_wp2_with fail;rw [←hW];clear hW;refine (scan_any s _ (by omega)).mono ?_;rintro r w1 ⟨v,rfl,hown,b1⟩;obtain ⟨L,hLd⟩:=nm ((Tk.scan s.data.toList).1);obtain ⟨c,hcd⟩:=nm ((Tk.scan s.data.toList).2.1);obtain ⟨a,had⟩:=nm ((Tk.scan s.data.toList).2.2);rw [←hLd] at hown hL;rw [←hcd,←had];obtain ⟨ao,g,cap,rfl,hc1,hc2,hT⟩:=zBr hown;have hpT:Hid (parseT s.data.toList=if c=0 then match Ps.program ⟨L,s.data.toList.length⟩ with | .ok l _=>(l,0,0) | .err c a=>([],(c:Int),(a:Int)) else ([],c,a)):=by
  show parseT s.data.toList=_
  unfold parseT;rw [hLd,hcd,had];rfl
 clear hLd hcd had hown;have z1:=b1.size;have B1:Below w.heap.size w w1:=bW.trans (b1.mono (by omega));have hP1:=(aside b1 (S:=[])).keep hP (by omega) (by simp);have hF1:=(aside b1 (S:=[])).keep hF (by omega) (by simp);have cm:=hc2;unfold maxLen at cm;clear hP hF b1;by_cases hc0:c=0
 ·have hk:(c==0)=true:=beq_iff_eq.2 hc0
  have HP:=hpT.out;rw [if_pos hc0] at HP;have HPH:=zD HP;clear HP;subst hc0;go_wp2_with fail;have hT2:0<L.length→ao=some ⟨g,0,none⟩∧g<(w1.alloc (.cells #[.int .i64 0,.int .i64 a] 27 (0,0))).heap.size∧HoldsToks (w1.alloc (.cells #[.int .i64 0,.int .i64 a] 27 (0,0))) g L:=fun h0=>by
   obtain ⟨e1,_,e3,e4⟩:=hT h0;exact ⟨e1,by simp;omega,e4.keep (keepB _ e3)⟩
  have hcall:=zCV hform (I:=⟨L,s.data.toList.length⟩) hL hc1 hc2 hT2 (hG.keep (Nat.le_trans B1.size (by simp)) ((Below.heap_alloc _ _ _ (Nat.lt_of_lt_of_le hG.1 B1.size)).trans (B1.block 1 hG.1)));rw [hsz] at hcall HPH;refine hcall.mono ?_;rintro r w3 ⟨b3,hres⟩;have z3:w1.heap.size+1≤w3.heap.size:=(by simpa using b3.size);have hP3:=(aside b3 (S:=[])).keep (kA hP1 _) (by simp;omega) (by simp);have hF3:=(aside b3 (S:=[])).keep (kA hF1 _) (by simp;omega) (by simp);have B3:Below w.heap.size w w3:=(B1.alloc (by omega) _).trans (b3.mono (by simp;omega));have p0:=co hP3 0;have f0:=co hF3 0;have f1:=co hF3 1;have fP:=fun o=>fo hP3 o;have fF:=fun o=>fo hF3 o;simp at p0 f0 f1;clear hcall hT hT2 hP1 hF1 b3
  cases hp:Ps.program ⟨L,s.size⟩ with
  | ok l n=>
   rw [hp] at hres;obtain ⟨a',n',c',rfl,hN⟩:=hres;have HE:Hid (parseT s.data.toList=(l,0,0)):=by
    show parseT s.data.toList=_
    rw [HPH.out,hp]
   clear hp HPH hpT;have hN2:=(nodes_of (hN.wide' (ok':=fun i=>w.heap.size+1<i) (fun i hi _=>by simp at hi;omega)));go_wp2;refine bodyPost_ret (v:=.tuple #[.agg #[.slice a' n' c'],.agg #[.int .i64 0,.int .i64 0]]) (by simp [results,Tryz.results6,go_sem,p0,f0,f1]) rfl ?_;refine ⟨((B3.setCell (p:=⟨w.heap.size,0,none⟩) nR _).setCell (p:=⟨w.heap.size+1,0,none⟩) (Nat.le_succ _) _).setCell (p:=⟨w.heap.size+1,1,none⟩) (Nat.le_succ _) _,a',n',c',by rw [HE.out],?_⟩;rw [HE.out];exact vX ((((hN2.set (p:=⟨w.heap.size,0,none⟩) (by simp) _).set (p:=⟨w.heap.size+1,0,none⟩) (by simp) _).set (p:=⟨w.heap.size+1,1,none⟩) (by simp) _).wide (fun i hi _=>by omega))
  | err c' a'=>
   rw [hp] at hres;obtain rfl:r=_:=hres;have HE:Hid (parseT s.data.toList=([],(c':Int),(a':Int))):=by
    show parseT s.data.toList=_
    rw [HPH.out,hp]
   clear hp HPH hpT;go_wp2;refine bodyPost_ret (v:=.tuple #[.agg #[.slice none 0 0],.agg #[.int .i64 (c':Int),.int .i64 (a':Int)]]) (by simp [results,Tryz.results6,go_sem,p0,f0,f1]) rfl ?_;refine ⟨((B3.setCell (p:=⟨w.heap.size,0,none⟩) nR _).setCell (p:=⟨w.heap.size+1,0,none⟩) (Nat.le_succ _) _).setCell (p:=⟨w.heap.size+1,1,none⟩) (Nat.le_succ _) _,none,0,0,by rw [HE.out],?_⟩;rw [HE.out];exact vX HRow.nil
 ·have hk:(c==0)=false:=beq_eq_false_iff_ne.2 hc0
  have HE:Hid (parseT s.data.toList=([],c,a)):=by
   show parseT s.data.toList=_
   rw [hpT.out,if_neg hc0]
  clear hpT hT;have p0:=co hP1 0;have f0:=co hF1 0;have f1:=co hF1 1;have fP:=fun o=>fo hP1 o;have fF:=fun o=>fo hF1 o;simp at p0 f0 f1;have zp:w.heap.size<w1.heap.size:=(by omega);have zf:w.heap.size+1<w1.heap.size:=(by omega);go_wp2
  go_region
  all_goals
   go_wp2;refine bodyPost_ret (v:=.tuple #[.agg #[.slice none 0 0],.agg #[.int .i64 c,.int .i64 a]]) (by simp [results,Tryz.results6,go_sem,p0,f0,f1,zp,zf]) rfl ?_;refine ⟨((((B1.setCell (p:=⟨w.heap.size,0,none⟩) nR _).setCell (p:=⟨w.heap.size+1,0,none⟩) (Nat.le_succ _) _).setCell (p:=⟨w.heap.size+1,1,none⟩) (Nat.le_succ _) _).alloc (by simp [World.setCell];omega) _).drew,none,0,0,by rw [HE.out],?_⟩;rw [HE.out];exact vX HRow.nil
def nodesX (I:Inp) (acc:List Nd) (n:Nat):Res (List Nd):=if acc.length=0 then (Ps.node I n).bind fun x n1=>Ps.nodes I 9 [x] n1 else Ps.nodes I (10-acc.length) acc n
def NdsAt (M:Res (List Nd)) (I:Inp) (acc:List Nd) (s:Res Unit):Prop :=
 match s with
 | .ok _ n=>acc.length≤10∧M=nodesX I acc n
 | .err c a=>M=.err c a
def contU (I:Inp) (acc:List Nd):Res Unit→Bool
 | .ok _ n=>decide (n<I.L.length∨acc.length=0)
 | .err _ _=>false
theorem pk_end {I:Inp} {n:Nat} (h:¬n<I.L.length):(I.pk n).kind=0:=by unfold Inp.pk peekT;rw [dif_neg h]
theorem nodesX_end {I:Inp} {f n:Nat} {acc:List Nd} (h:(I.pk n).kind=0):Ps.nodes I f acc n=.ok acc n:=by
 cases f<;>(unfold Ps.nodes;rw [if_pos h])
theorem nds_out {M:Res (List Nd)} {I:Inp} {acc:List Nd} {s:Res Unit} (h:NdsAt M I acc s) (hu:contU I acc s=false):M=s.bind fun _ n=>.ok acc n:=by
 cases s with
 | ok u n=>
  obtain ⟨h1,h2⟩:=h;have hu:decide (n<I.L.length∨acc.length=0)=false:=hu;have hu2:¬(n<I.L.length∨acc.length=0):=of_decide_eq_false hu;rw [h2,nodesX,if_neg (fun q=>hu2 (.inr q)),nodesX_end (pk_end (fun q=>hu2 (.inl q)))];rfl
 | err c a=>exact h
theorem need_not {I:Inp} {x:List UInt8} {n:Nat} (h:Ps.sees I x n=false):Ps.need I x n=Ps.refuse I n:=by unfold Ps.need;rw [h];rfl
theorem nds_many {M:Res (List Nd)} {I:Inp} (hS:Sure I) {acc:List Nd} {n:Nat} (h:NdsAt M I acc (.ok () n)) (hu:contU I acc (.ok () n)=true) (hq:Ps.sees I [110,111,100,101] n=true∧10≤acc.length):M=.err 7 (I.pk n).place:=by
 obtain ⟨h1,h2⟩:=h;have hu2:n<I.L.length∨acc.length=0:=of_decide_eq_true hu;have hn:n<I.L.length:=hu2.elim id (fun q=>by omega);rw [h2,nodesX,if_neg (by omega),show 10-acc.length=0 by omega,Ps.nodes,if_neg (hS.kind n hn),if_pos hq.1]
theorem nds_more {M:Res (List Nd)} {I:Inp} (hS:Sure I) {acc:List Nd} {n:Nat} (h:NdsAt M I acc (.ok () n)) (hu:contU I acc (.ok () n)=true) (hq:¬(Ps.sees I [110,111,100,101] n=true∧10≤acc.length)):acc.length≤10∧M=(Res.ok () n).bind fun _ n=>(Ps.node I n).bind fun x n1=>if acc.length=10 then .err 0 0 else nodesX I (acc++[x]) n1:=by
 obtain ⟨h1,h2⟩:=h;refine ⟨h1,?_⟩;have hu2:n<I.L.length∨acc.length=0:=of_decide_eq_true hu;rw [h2,Res.ok_bind];by_cases h0:acc.length=0
 ·obtain rfl:acc=[]:=List.length_eq_zero_iff.1 h0
  rfl
 ·have hn:n<I.L.length:=hu2.elim id (fun q=>absurd q h0)
  by_cases h10:acc.length=10
  ·have hs:Ps.sees I [110,111,100,101] n=false:=by
    cases hs:Ps.sees I [110,111,100,101] n with
    | false=>rfl
    | true=>exact absurd ⟨hs,by omega⟩ hq
   rw [nodesX,if_neg h0,show 10-acc.length=0 by omega,Ps.nodes,if_neg (hS.kind n hn),hs,if_neg (by decide),zBZ,need_not hs];unfold Ps.refuse;simp only [Res.err_bind]
  ·obtain ⟨f,hf⟩:∃ f,10-acc.length=f+1:=⟨9-acc.length,by omega⟩
   rw [nodesX,if_neg h0,hf,Ps.nodes,if_neg (hS.kind n hn)]
   congr 1
   funext x n1
   rw [if_neg h10,nodesX,if_neg (by simp),show 10-(acc++[x]).length=f by simp;omega]
theorem nds_next {M:Res (List Nd)} {I:Inp} {acc:List Nd} {x:Nd} {s:Res Unit} (hl:acc.length≤10) (h:M=s.bind fun _ n1=>if acc.length=10 then .err 0 0 else nodesX I (acc++[x]) n1) (h10:acc.length=10→∀ n,s≠.ok () n):NdsAt M I (acc++[x]) s:=by
 cases s with
 | ok u n=>
  have h9:¬acc.length=10:=fun q=>h10 q n rfl;rw [Res.ok_bind,if_neg h9] at h;exact ⟨by simp;omega,h⟩
 | err c a=>exact h
theorem node_notX {I:Inp} {n:Nat} (h:Ps.sees I [110,111,100,101] n=false):∀ m,goS (Ps.node I) (.ok () n)≠.ok () m:=by
 intro m e;have e:(Ps.node I n).bind _=Res.ok () m:=e;rw [zBZ,need_not h] at e
 cases e
theorem nd_cells {B:Nat} {w:World} {v:Value} {q:Nd} (h:ndV B w v q):∃ y:NdV,v=.agg #[.string y.name,.int .i64 y.place,.slice y.a2 y.n2 y.c2,.slice y.a3 y.n3 y.c3,.slice y.a4 y.n4 y.c4,.slice y.a5 y.n5 y.c5,.slice y.a6 y.n6 y.c6]∧kNode.E (fun i=>B≤i) w [.string y.name,.int .i64 y.place,.slice y.a2 y.n2 y.c2,.slice y.a3 y.n3 y.c3,.slice y.a4 y.n4 y.c4,.slice y.a5 y.n5 y.c5,.slice y.a6 y.n6 y.c6] q:=by
 obtain ⟨y,e,hq⟩:=h;exact ⟨y,e,y,rfl,hq⟩
theorem parseT_ok {t:List UInt8} {l:List Nd} {n:Nat} (h:(Tk.scan t).2.1=0) (hp:Ps.program ⟨(Tk.scan t).1,t.length⟩=.ok l n):parseT t=(l,0,0):=by
 unfold parseT
 cases hs:Tk.scan t with
 | mk L ca=>
  obtain ⟨c,a⟩:=ca;rw [hs] at h hp;simp only at h hp ⊢;rw [if_pos h,hp]
theorem parseT_err {t:List UInt8} {c a:Nat} (h:(Tk.scan t).2.1=0) (hp:Ps.program ⟨(Tk.scan t).1,t.length⟩=.err c a):parseT t=([],(c:Int),(a:Int)):=by
 unfold parseT
 cases hs:Tk.scan t with
 | mk L ca=>
  obtain ⟨c2,a2⟩:=ca;rw [hs] at h hp;simp only at h hp ⊢;rw [if_pos h,hp]
theorem parseT_scan {t:List UInt8} (h:(Tk.scan t).2.1≠0):parseT t=([],(Tk.scan t).2.1,(Tk.scan t).2.2):=by
 unfold parseT
 cases hs:Tk.scan t with
 | mk L ca=>
  obtain ⟨c2,a2⟩:=ca;rw [hs] at h;simp only at h ⊢;rw [if_neg h]
theorem refParse_any (s:ByteArray) (w0:World) (hs:s.size≤1000000):Calls Tryz.prog 7 #[.string s] w0 (PPost w0 s.data.toList):=by
 obtain ⟨w1,hw1⟩:=nW ((w0.alloc (.cells #[.slice none 0 0] 25 (0,0))).alloc (.cells #[.int .i64 0,.int .i64 0] 27 (0,0)));have z1:w1.heap.size=w0.heap.size+1+1:=(by rw [hw1];simp);have b1:Below w0.heap.size w0 w1:=(by rw [hw1];exact ((Below.refl _ w0).alloc nR _).alloc (by simp) _);have P_w1:w1.heap[w0.heap.size]?=some (.cells #[.slice none 0 0] 25 (0,0)):=(by rw [hw1];exact kA (zF w0 _) _);have F_w1:w1.heap[w0.heap.size+1]?=some (.cells #[.int .i64 0,.int .i64 0] 27 (0,0)):=by
  have h9:=zF (w0.alloc (.cells #[.slice none 0 0] 25 (0,0))) (.cells #[.int .i64 0,.int .i64 0] 27 (0,0));rw [show (w0.alloc (.cells #[.slice none 0 0] 25 (0,0))).heap.size=w0.heap.size+1 by simp] at h9;rw [hw1];exact h9
 have hlen:s.data.toList.length=s.size:=(by rw [Lib.size_eq]);have hLL:=scan_len s.data.toList;obtain ⟨L,hL⟩:=nW ((Tk.scan s.data.toList).1);obtain ⟨c,hc⟩:=nW ((Tk.scan s.data.toList).2.1);obtain ⟨a,ha⟩:=nW ((Tk.scan s.data.toList).2.2);have hscan:=refScan_any s w1 (by omega);rw [←hL,←hc,←ha] at hscan;rw [←hL] at hLL;have HL:=zD hL;have HC:=zD hc;have HA:=zD ha;clear hL hc ha;go_enter Tryz.func7,Tryz.ntmps7;go_wp2_with fail;rw [←hw1];clear hw1;refine hscan.mono ?_;rintro r w2 ⟨v,rfl,hown,b2⟩;clear hscan;obtain ⟨ao,g0,cap,rfl,hlc,hcm,htk⟩:=zBr hown;have P_w2:=(b2.block _ (zC P_w1)).trans P_w1;have F_w2:=(b2.block _ (zC F_w1)).trans F_w1;have B2:=b1.trans (b2.mono b1.size);have y2:=b2.size;clear hown b1 b2 P_w1 F_w1;obtain ⟨w3,hw3⟩:=nW (w2.alloc (.cells #[.int .i64 c,.int .i64 a] 27 (0,0)));have b3:=xA hw3;have G_w3:=xE hw3;have z3:=xU hw3;have P_w3:=(b3.block _ (zC P_w2)).trans P_w2;have F_w3:=(b3.block _ (zC F_w2)).trans F_w2;have B3:=B2.trans (b3.mono (by omega));go_upto_region 2 with fail;rw [←hw3];by_cases hc0:c=0
 case neg=>
  have hk:(c==0)=false:=beq_eq_false_iff_ne.2 hc0;have HE:Hid (parseT s.data.toList=([],c,a)):=by
   show parseT s.data.toList=_
   rw [HC.out,HA.out];exact parseT_scan (by rw [←HC.out];exact hc0)
  have p0:=co P_w3 0;have f0:=co F_w3 0;have f1:=co F_w3 1;have g0:=co G_w3 0;have g1:=co G_w3 1;have fP:=fun o=>fo P_w3 o;have fF:=fun o=>fo F_w3 o;simp at p0 f0 f1 g0 g1;have zp:w0.heap.size<w3.heap.size:=(by omega);have zf:w0.heap.size+1<w3.heap.size:=(by omega);clear hw3 P_w2 F_w2 B2 htk P_w3 F_w3 G_w3 b3;go_wp2
  go_region
  all_goals
   go_wp2;refine bodyPost_ret (v:=.tuple #[.agg #[.slice none 0 0],.agg #[.int .i64 c,.int .i64 a]]) (by simp [results,Tryz.results7,go_sem,p0,f0,f1,zp,zf]) rfl ?_;refine ⟨?_,none,0,0,by rw [HE.out],?_⟩
   ·exact (((B3.drew).setCell (p:=⟨w0.heap.size,0,none⟩) nR _).setCell (p:=⟨w0.heap.size+1,0,none⟩) (Nat.le_succ _) _).setCell (p:=⟨w0.heap.size+1,1,none⟩) (Nat.le_succ _) _
   ·rw [HE.out]
    exact vX HRow.nil
 case pos=>
  subst hc0;have cg:=co G_w3 0;simp at cg;clear hw3 P_w2 F_w2 B2 G_w3;obtain ⟨I,hI⟩:∃ I:Inp,I=⟨L,s.data.toList.length⟩:=⟨_,rfl⟩;have hIL:I.L=L:=(by rw [hI]);have hIn:I.len=s.size:=(by rw [hI];exact hlen);have hsc:(Tk.scan s.data.toList).2.1=0:=HC.out.symm;have hS:Sure I:=(by rw [hI,HL.out];exact sure_scan _ hsc);have hpr:∀ X,Ps.program I=X→Ps.program ⟨(Tk.scan s.data.toList).1,s.data.toList.length⟩=X:=fun X e=>by rw [←e,hI,HL.out]
  have HPR:=zD hpr;have HSC:=zD hsc;have HII:=zD hIL;clear hpr hsc hI HL HC HA;obtain ⟨g,hg2,htk2⟩:∃ g,g<w2.heap.size∧(0<L.length→ao=some ⟨g,0,none⟩∧HoldsToks w2 g L):=by
   by_cases h0:0<L.length
   ·exact ⟨g0,(htk h0).2.2.1,fun _=>⟨(htk h0).1,(htk h0).2.2.2⟩⟩
   ·exact ⟨0,by omega,fun h=>absurd h h0⟩
  clear htk;have hLI:I.L.length=L.length:=(by rw [hIL]);obtain ⟨b,hbe⟩:=nW (w3.heap.size);obtain ⟨w,hw⟩:=nW (w3.alloc (.cells #[.slice ao L.length cap,.int .i64 0,.int .i64 (s.size:Int),.int .i64 0,.int .i64 0,.int .i64 0] 52 (0,0)));have bw:=xA hw;have zw:=xU hw;have R_w:Rr w b g cap ao I 0 0 0 0:=by
   refine ⟨?_,fun h0=>⟨(htk2 (by omega)).1,by omega,?_⟩,by omega,by omega,by omega,hcm⟩
   ·rw [hbe,hw,zF,hIL,hIn]
    rfl
   ·have h1:=(htk2 (by omega)).2
    rw [hIL];exact (h1.keep (b3.block g hg2)).keep (bw.block g (by omega))
  have P_w:=(bw.block _ (zC P_w3)).trans P_w3;have F_w:=(bw.block _ (zC F_w3)).trans F_w3;have B_w:=B3.trans (bw.mono (by omega));clear P_w3 F_w3 B3 b3 htk2;obtain ⟨w5,hw5⟩:=nW (w.alloc (.cells #[.slice none 0 0] 25 (0,0)));have bw5:=xA hw5;have X_w5:=xE hw5;have A_w5:Aside [b] w.heap.size w w5:=aside bw5;have n_w5:An w5 b g cap ao I (.ok () 0):=⟨0,R_w.past bw5⟩;have K_w5:=(bw5.block _ (zC P_w)).trans P_w;have y_w5:=A_w5.size;have hbb:b<w.heap.size:=(by omega);have hgb:g<w.heap.size:=(by omega);have knode:=zD (hS.known [110,111,100,101] (.inl (by decide)) (by decide));obtain ⟨M,hM⟩:=nW (Ps.program I);have HM0:=zD hM;clear hM;go_upto_block 0 with fail;rw [←z3,←zw,←hbe,←hw,←hw5];have hwb:w0.heap.size+1<b:=(by omega);have hLb:I.L.length≤1099511627776:=(by omega);have HLI:=zD hLI;clear hw hw5 bw bw5 R_w cg z1 z3 zw hbe y2 hLI hIL hIn hlen hg2
  have hstart:NdsAt M I [] (.ok () 0):=⟨by simp,by rw [HM0.out];rfl⟩;have HNs:=zD hstart;clear hstart;go_cut [] (fun wc=>∃ (acc:List Nd) (aa:Option Addr) (cc:Nat) (s:Res Unit),wc.heap[w.heap.size]?=some (.cells #[.slice aa acc.length cc] 25 (0,0))∧HRow kNode (fun i=>w.heap.size<i) wc (.slice aa acc.length cc) acc∧An wc b g cap ao I s∧Aside [b] w.heap.size w wc∧wc.heap[w0.heap.size]?=some (.cells #[.slice none 0 0] 25 (0,0))∧Hid (M=s.bind fun _ n=>.ok acc n))
  case first=>
   go_wp2_with fail;obtain ⟨okN,hokN⟩:∃ okN:Nat→Prop,okN=fun i=>w.heap.size<i:=⟨_,rfl⟩;have oN:∀ i,okN i→w.heap.size<i∧i≠w.heap.size:=fun i hi=>by rw [hokN] at hi;have h9:w.heap.size<i:=hi;omega
   have uN:∀ i,w.heap.size<i→okN i:=fun i hi=>by rw [hokN];exact hi
   clear hokN;go_loopg [] 11 (fun k wr=>∃ (acc:List Nd) (aa:Option Addr) (cc:Nat) (s:Res Unit),k+acc.length=11∧wr.heap[w.heap.size]?=some (.cells #[.slice aa acc.length cc] 25 (0,0))∧OwnX kNode okN wr (.slice aa acc.length cc) acc∧An wr b g cap ao I s∧Aside [b] w.heap.size w wr∧wr.heap[w0.heap.size]?=some (.cells #[.slice none 0 0] 25 (0,0))∧Hid (NdsAt M I acc s))
   case atStart=>exact ⟨[],none,0,.ok () 0,by simp,X_w5,OwnX.nil,n_w5,A_w5,K_w5,HNs⟩
   case round=>
    clear X_w5 n_w5 A_w5 K_w5 HNs y_w5;obtain ⟨acc,aa,cc,s,hk,X_wr,N_wr,n_wr,A_wr,K_wr,HNs⟩:=hrel;have y_wr:=A_wr.size;go_upto_region 6 with fail;go_cut [40] (fun v wc=>v=.bool (contU I acc s)∧Below wr.heap.size wr wc)
    case first=>
     have cX:=co X_wr 0;simp only [gT,gZ,gS] at cX
     cases hsv:s with
     | err c0 a0=>
      rw [hsv] at n_wr;have hbad:=badEn n_wr;clear n_wr X_wr;go_wp2_with fail;refine hbad.mono ?_;rintro r w7 ⟨rfl,b7⟩;clear hbad;go_wp2_with fail;go_meet
      case rel=>exact ⟨by rw [hsv];rfl,b7⟩
     | ok u0 n0=>
      rw [hsv] at n_wr;have hbad:=badOn n_wr;go_wp2_with fail;refine hbad.mono ?_;rintro r w7 ⟨rfl,b7⟩;obtain ⟨pt,hr⟩:=n_wr.past b7;obtain ⟨d0,d1,d2,d3,d4,d5,hd⟩:=hr.cells;have cX7:=zBm b7 cX;have HSV:=zD hsv;clear hbad n_wr X_wr cX hsv;by_cases hn:n0<I.L.length
      ·have hni:(n0:Int)<(L.length:Int):=by have h9:=HLI.out;omega
       have HN:=zD hn;clear hn;go_wp2_with fail;go_meet
       case rel=>exact ⟨by rw [HSV.out];exact congrArg Value.bool (decide_eq_true (.inl HN.out)).symm,b7⟩
      ·have hni:¬(n0:Int)<(L.length:Int):=by have h9:=HLI.out;omega
       have HN:=zD hn;clear hn;by_cases h0:acc.length=0
       ·have h0b:((acc.length:Int)==0)=true:=by simp [h0]
        have H0:=zD h0;clear h0;go_wp2_with fail;go_meet
        case rel=>exact ⟨by rw [HSV.out];exact congrArg Value.bool (decide_eq_true (.inr H0.out)).symm,b7⟩
       ·have h0b:((acc.length:Int)==0)=false:=beq_eq_false_iff_ne.2 (by omega)
        have H0:=zD h0;clear h0;go_wp2_with fail;go_meet
        case rel=>
         refine ⟨?_,b7⟩;rw [HSV.out];refine congrArg Value.bool ?_;have h1:=HN.out;have h2:=H0.out;have h3:=HLI.out
         show _=decide (n0<I.L.length∨acc.length=0)
         rw [decide_eq_false (fun q:n0<I.L.length∨acc.length=0=>q.elim h1 h2)]
         first | rfl | exact decide_eq_false (by omega)
    case rest=>
     obtain ⟨rfl,bl⟩:=hcut;obtain ⟨wa,hwa⟩:=nW (wc);subst hwa;have K_wa:=(bl.block _ (zC K_wr)).trans K_wr;have X_wa:=(bl.block _ (zC X_wr)).trans X_wr;have N_wa:=N_wr.under bl;have n_wa:=n_wr.past bl;have A_wa:=A_wr.trans (aside bl) A_wr.size;have y_wa:=A_wa.size;clear K_wr X_wr N_wr A_wr bl y_wr n_wr;obtain ⟨u,hu⟩:=nW (contU I acc s);rw [←hu]
     cases u with
     | false=>
      have HM2:=zD (nds_out HNs.out hu.symm);clear HNs hu;go_wp2_with fail;go_meet
      case rel=>exact ⟨acc,aa,cc,s,X_wa,N_wa.row.wide (fun i hi _=>(oN i hi).1),n_wa,A_wa,K_wa,HM2⟩
     | true=>
      cases s with
      | err c0 a0=>cases hu
      | ok u0 n0=>
       cases u0
       have HU:=zD hu.symm;clear hu;go_upto_region 7 with fail;go_cut [48] (fun v wc=>v=.bool (decide (Ps.sees I [110,111,100,101] n0=true∧10≤acc.length))∧Below wa.heap.size wa wc)
       case first=>
        have cX:=co X_wa 0;simp only [gT,gZ,gS] at cX;have hsee:=zBJ n_wa [110,111,100,101] knode.out;clear X_wa N_wa n_wa A_wa K_wa;go_wp2_with fail;refine hsee.mono ?_;rintro r w8 ⟨rfl,b8⟩;have cX8:=zBm b8 cX;clear hsee
        cases hse:Ps.sees I [110,111,100,101] n0 with
        | false=>
         go_wp2_with fail;go_meet
         case rel=>exact ⟨by rw [decide_eq_false (fun q=>by rw [hse] at q;cases q.1)],b8⟩
        | true=>
         by_cases h1:10≤acc.length
         ·have h1b:(10:Int)≤(acc.length:Int):=by omega
          have H1:=zD h1;clear h1;go_wp2_with fail;go_meet
          case rel=>exact ⟨by rw [decide_eq_true ⟨hse,H1.out⟩],b8⟩
         ·have h1b:¬(10:Int)≤(acc.length:Int):=by omega
          have H1:=zD h1;clear h1;go_wp2_with fail;go_meet
          case rel=>
           refine ⟨congrArg Value.bool ?_,b8⟩;have h1:=H1.out;rw [show decide (Ps.sees I [110,111,100,101] n0=true∧10≤acc.length)=false from decide_eq_false (fun q=>h1 q.2)]
           first | rfl | exact decide_eq_false (by omega)
       case rest=>
        obtain ⟨rfl,bl⟩:=hcut;obtain ⟨wb,hwb⟩:=nW (wc);subst hwb;have K_wb:=(bl.block _ (zC K_wa)).trans K_wa;have X_wb:=(bl.block _ (zC X_wa)).trans X_wa;have N_wb:=N_wa.under bl;have n_wb:=n_wa.past bl;have A_wb:=A_wa.trans (aside bl) A_wa.size;have y_wb:=A_wb.size;clear K_wa X_wa N_wa A_wa bl y_wa n_wa;by_cases hq:Ps.sees I [110,111,100,101] n0=true∧10≤acc.length
        case pos=>
         rw [decide_eq_true hq];have HM2:=zD (nds_many hS HNs.out HU.out hq);clear hq HNs HU;go_wp2_with fail;refine (wrong_n n_wb).mono ?_;rintro r wd ⟨rfl,n_wd,a⟩;have K_wd:=a.keep K_wb (zC K_wb) (by simp;omega);have X_wd:=a.keep X_wb (zC X_wb) (by simp;omega);have N_wd:=N_wb.past a (fun i hi=>by have h9:=oN i hi;simp;omega);have A_wd:=A_wb.trans a A_wb.size;have y_wd:=A_wd.size;clear K_wb X_wb N_wb A_wb a y_wb;go_wp2_with fail;go_meet
         case rel=>exact ⟨acc,aa,cc,.err 7 (I.pk n0).place,X_wd,N_wd.row.wide (fun i hi _=>(oN i hi).1),n_wd,A_wd,K_wd,HM2⟩
        case neg=>
         rw [decide_eq_false hq];obtain ⟨hl10,hMore⟩:=nds_more hS HNs.out HU.out hq;have HM:=zD hMore;have HQ:=zD hq;clear hq HNs HU hMore;go_wp2_with fail;have bd:Below wb.heap.size wb wb.drew:=(Below.refl _ wb).drew;have n5:=n_wb.past bd;have hb5:=(bd.block _ (zC X_wb)).trans X_wb;have A5:=A_wb.trans (aside bd) A_wb.size;have z5:wb.drew.heap.size=wb.heap.size:=rfl;have om5:=(N_wb.under bd).wide (ok':=fun i=>okN i∧i<wb.heap.size) (fun i hi hl=>⟨hi,hl⟩);have bo5:∀ i,i<wb.heap.size→wb.drew.heap[i]?=wb.heap[i]?:=fun i hi=>bd.block i hi;have xlt:=zC X_wb;refine zL (fun w'=>w'.cell? ⟨w.heap.size,0,none⟩=some (.slice aa acc.length cc)) (fun j=>decide (j=7)) (by kernel_rfl) ?_;generalize wb.drew=wd at n5 hb5 A5 z5 om5 bo5 ⊢;have Z5:=zD z5;have BO5:=zD bo5;clear bd z5 bo5 n_wb A_wb N_wb X_wb;have yz:=zC hb5;have c5:=co hb5 0;simp only [gT,gZ,gS] at c5;have hH:=c5;refine' zE (i:=0) (v:=_) rfl (by kernel_rfl) (by kernel_rfl) (by kernel_rfl) (by kernel_rfl) (fun _ _ _ h=>h) hH (by rfl) ?hyv ?o1
         case hyv=>
          intro wz k0;go_simp
          try rfl
         try simp only [Act.put,sT,sZ,sS]
         refine' zE (i:=1) (v:=_) rfl (by kernel_rfl) (by kernel_rfl) (by kernel_rfl) (by kernel_rfl) (fun _ _ _ h=>h) hH (by rfl) ?hyv ?o2
         case hyv=>
          intro wz k0;go_simp
          try rfl
         try simp only [Act.put,sT,sZ,sS]
         refine' zE (i:=2) (v:=_) rfl (by kernel_rfl) (by kernel_rfl) (by kernel_rfl) (by kernel_rfl) (fun _ _ _ h=>h) hH (by rfl) ?hyv ?o3
         case hyv=>
          intro wz k0;go_simp
          try rfl
         try simp only [Act.put,sT,sZ,sS]
         refine zG (i:=3) rfl (by kernel_rfl) (by rfl) (fun K hK=>?_);go_simp;refine Calls.mono (node_t hS hLb _ _ n5 (by have:=Z5.out;omega)) ?_;rintro r w6 ⟨v6,x,rfl,hx,a6,n6,got6⟩;have G6:=zD got6;obtain ⟨y,rfl,hx3⟩:=nd_cells hx;have z6:=a6.size;have A6:=A5.trans a6 A5.size;have hb6:=a6.keep hb5 (zC hb5) (by simp;omega);have om6:=om5.past a6 (fun i hi=>by have:=oN i hi.1;simp;omega);have bo6:Hid (∀ i,i<wb.heap.size→i≠b→w6.heap[i]?=wb.heap[i]?):=zD (fun i hi hb=>(a6.block i (by have:=Z5.out;omega) (by simpa using hb)).trans (BO5.out i hi));clear n5 hb5 A5 om5 hH c5 a6 got6 BO5;have c5:=co hb6 0;simp only [gT,gZ,gS] at c5;refine hK.out _ _ (fun _=>c5) ?_;clear hK K
         try simp only [Act.put,sT,sZ,sS]
         have H7a:=co (kA hb6 (.cells #[.string y.name,.int .i64 y.place,.slice y.a2 y.n2 y.c2,.slice y.a3 y.n3 y.c3,.slice y.a4 y.n4 y.c4,.slice y.a5 y.n5 y.c5,.slice y.a6 y.n6 y.c6] 39 (0,0))) 0;simp only [gT,gZ,gS] at H7a;have H7h:=zD H7a;clear H7a;have q1:kNode.E (fun i=>wd.heap.size≤i) w6 [.string y.name,.int .i64 y.place,.slice y.a2 y.n2 y.c2,.slice y.a3 y.n3 y.c3,.slice y.a4 y.n4 y.c4,.slice y.a5 y.n5 y.c5,.slice y.a6 y.n6 y.c6] x:=hx3;have q2:(acc.length+1)*kNode.bytes≤140737488355328:=(by show (acc.length+1)*144≤_;omega);have q3:acc.length+1≤maxLen:=(by unfold maxLen;omega)
         refine zG (i:=4) rfl (by kernel_rfl) (by rfl) (fun K hK=>?_);go_simp;refine hK.out _ _ (fun _=>H7h.out) ?_;clear hK K
         try simp only [Act.put,sT,sZ,sS]
         refine zG (i:=5) rfl (by kernel_rfl) (by rfl) (fun K hK=>?_);refine xK kNode _ _ 23 39 rfl Tryz.underlying23 wd.heap.size _ _ acc (by rfl) om6 [.string y.name,.int .i64 y.place,.slice y.a2 y.n2 y.c2,.slice y.a3 y.n3 y.c3,.slice y.a4 y.n4 y.c4,.slice y.a5 y.n5 y.c5,.slice y.a6 y.n6 y.c6] x q1 (by rfl) (fun i hi=>by have:=Z5.out;omega) z6 q2 q3 ?_;intro v8 w8 om8 g8;have hvb:=fun k hk=>(om6.lt k hk).1;obtain ⟨z8,hoth⟩:=xC (ok:=fun i=>okN i∧i<wb.heap.size) g8 hvb;have A8:Aside [b] w.heap.size w w8:=A6.trans (xF (S:=[b]) g8 hvb (fun i hi=>by have:=oN i hi.1;omega) A6.size) nR;have hb8:=(hoth _ (zC hb6) (fun hh=>by have:=oN _ hh.1;omega)).trans hb6;have bo8:Hid (∀ i,i<wb.heap.size→i≠b→¬okN i→w8.heap[i]?=wb.heap[i]?):=zD (fun i hi hb hk=>(hoth i (by have:=Z5.out;omega) (fun hh=>hk hh.1)).trans (bo6.out i hi hb));have n8:=n6.same (hoth b n6.lt (fun hh=>by have:=oN b hh.1;omega)) (hoth g (by have:=Z5.out;omega) (fun hh=>by have:=oN g hh.1;omega)) z8;clear A6 hb6 om6 n6 q1 c5 H7h g8 hoth hvb hx bo6;have c5:=co hb8 0;simp only [gT,gZ,gS] at c5;refine hK.out _ _ (fun _=>c5) ?_;clear hK K
         try simp only [Act.put,sT,sZ,sS]
         obtain ⟨a8v,c8v,hv8,_,_⟩:=om8.form;rw [List.length_append,List.length_singleton] at hv8;subst hv8;have f8:=fun o=>fo hb8 o;refine zG (i:=6) rfl (by kernel_rfl) (by rfl) (fun K hK=>?_);go_simp;refine hK.out _ _ (fun _=>c5) ?_;clear hK K
         try simp only [Act.put,sT,sZ,sS]
         refine zG (i:=7) rfl (by kernel_rfl) (by rfl) (fun K hK=>?_);go_simp;refine hK.out _ _ (fun h=>by cases h) ?_;clear hK K
         try simp only [Act.put,sT,sZ,sS]
         refine zR (by kernel_rfl) ?_ _;have hb9:=zJ hb8 0 (.slice a8v (acc.length+1) c8v);simp only [sT,sZ,sS] at hb9;have n9:=n8.set (p:=⟨w.heap.size,0,none⟩) (by simp;omega) (by simp;omega) (.slice a8v (acc.length+1) c8v);have A9:=A8.set (p:=⟨w.heap.size,0,none⟩) (by simp<;>omega) (.slice a8v (acc.length+1) c8v);have om9:=om8.set (p:=⟨w.heap.size,0,none⟩) (by intro hh;have hh2:(okN (w.heap.size)∧w.heap.size<wb.heap.size)∨wd.heap.size≤w.heap.size:=hh;rcases hh2 with q | q;exact absurd (oN _ q.1) (by omega);have:=Z5.out;omega) (.slice a8v (acc.length+1) c8v);have bo9:∀ i,i<wb.heap.size→i≠b→i≠w.heap.size→¬okN i→(w8.setCell ⟨w.heap.size,0,none⟩ (.slice a8v (acc.length+1) c8v)).heap[i]?=wb.heap[i]?:=fun i hi hb hk ho=>(Below.heap_setCell _ _ _ _ hk).trans (bo8.out i hi hb ho);have z9:wb.heap.size≤(w8.setCell ⟨w.heap.size,0,none⟩ (.slice a8v (acc.length+1) c8v)).heap.size:=(by have:=Z5.out;simp [World.setCell];omega);generalize hwz:w8.setCell ⟨w.heap.size,0,none⟩ (.slice a8v (acc.length+1) c8v)=wz at hb9 n9 A9 om9 bo9 z9 ⊢;have X_wz:=hb9;have n_wz:=n9;have A_wz:=A9;have K_wz:=(bo9 _ (zC K_wb) (by omega) (by omega) (fun hh=>by have:=oN _ hh;omega)).trans K_wb;have N_wz:OwnX kNode (fun i=>(okN i∧i<wb.heap.size)∨wb.heap.size≤i) wz (.slice a8v (acc.length+1) c8v) (acc++[x]):=om9.wide (fun i hi _=>hi.elim .inl (fun hh=>.inr (by have:=Z5.out;omega)));have y_wz:=A_wz.size;clear hb9 n9 A9 om9 bo9 hb8 om8 n8 A8 bo8 c5 f8 hwz K_wb y_wb;have N_wz2:OwnX kNode okN wz _ (acc++[x]):=N_wz.wide (fun i hi _=>hi.elim (fun q=>q.1) (fun q=>uN i (by omega)));have HM2:=xI HM.out G6.out;have HX:=zD (nds_next hl10 HM2 (fun e10 m=>by
          have hse:Ps.sees I [110,111,100,101] n0=false:=by
           cases hse:Ps.sees I [110,111,100,101] n0 with
           | false=>rfl
           | true=>exact absurd ⟨hse,by omega⟩ HQ.out
          exact node_notX hse m))
         clear HM HM2 G6 HQ;go_wp2_with fail;go_roundg (10-acc.length)
         case measure=>omega
         case rel=>exact ⟨acc++[x],a8v,c8v,_,by simp;omega,by simpa using X_wz,by simpa using N_wz2,n_wz,A_wz,K_wz,HX⟩
  case rest=>
   obtain ⟨acc,aa,cc,sE,X_wE,N_wE,n_wE,A_wE,K_wE,HM⟩:=hcut;obtain ⟨wE,hwE⟩:=nW (wc);subst hwE;clear X_w5 n_w5 A_w5 K_w5 y_w5 HNs;have F_wE:=A_wE.keep F_w (zC F_w) (by simp;omega);have hPl:=zC P_w;clear P_w F_w
   cases sE with
   | err c0 a0=>
    have hbad:=badEn n_wE;go_wp2_with fail;refine hbad.mono ?_;rintro r wF ⟨rfl,b7⟩;have n_wF:=n_wE.past b7;have K_wF:=(b7.block _ (zC K_wE)).trans K_wE;have F_wF:=(b7.block _ (zC F_wE)).trans F_wE;have A_wF:=A_wE.trans (aside b7) A_wE.size;have y_wF:=A_wF.size;clear hbad n_wE K_wE F_wE A_wE b7 X_wE N_wE;have HE:Hid (parseT s.data.toList=([],(c0:Int),(a0:Int))):=zD (parseT_err HSC.out (HPR.out _ (HM0.out.symm.trans HM.out)));have B_wF:Below w0.heap.size w0 wF:=B_w.trans ((A_wF.mono (show w0.heap.size≤w.heap.size by omega)).below (by simp;omega));obtain ⟨h4,nn,pt,hr⟩:=n_wF;obtain ⟨d0,d1,d2,d3,d4,d5,hd⟩:=hr.cells;have p0:=co K_wF 0;have f0:=co F_wF 0;have f1:=co F_wF 1;have fP:=fun o=>fo K_wF o;have fF:=fun o=>fo F_wF o;simp at p0 f0 f1;have zp:w0.heap.size<wF.heap.size:=(by omega);have zf:w0.heap.size+1<wF.heap.size:=(by omega);clear hr K_wF F_wF A_wF;go_wp2
    go_region
    all_goals
     go_wp2;refine bodyPost_ret (v:=.tuple #[.agg #[.slice none 0 0],.agg #[.int .i64 (c0:Int),.int .i64 (a0:Int)]]) (by simp [results,Tryz.results7,go_sem,p0,f0,f1,zp,zf]) rfl ?_;refine ⟨?_,none,0,0,by rw [HE.out],?_⟩
     ·exact (((B_wF.drew).setCell (p:=⟨w0.heap.size,0,none⟩) nR _).setCell (p:=⟨w0.heap.size+1,0,none⟩) (Nat.le_succ _) _).setCell (p:=⟨w0.heap.size+1,1,none⟩) (Nat.le_succ _) _
     ·rw [HE.out]
      exact vX HRow.nil
   | ok u0 n0=>
    have hbad:=badOn n_wE;go_wp2_with fail;refine hbad.mono ?_;rintro r wF ⟨rfl,b7⟩;have K_wF:=(b7.block _ (zC K_wE)).trans K_wE;have F_wF:=(b7.block _ (zC F_wE)).trans F_wE;have X_wF:=(b7.block _ (zC X_wE)).trans X_wE;have N_wF:=N_wE.keep b7.size (fun i hi hl=>b7.block i hl);have A_wF:=A_wE.trans (aside b7) A_wE.size;have y_wF:=A_wF.size;clear hbad n_wE K_wE F_wE A_wE b7 X_wE N_wE;have HE:Hid (parseT s.data.toList=(acc,0,0)):=zD (parseT_ok HSC.out (HPR.out _ (HM0.out.symm.trans HM.out)));have B_wF:Below w0.heap.size w0 wF:=B_w.trans ((A_wF.mono (show w0.heap.size≤w.heap.size by omega)).below (by simp;omega));have p0:=co K_wF 0;have f0:=co F_wF 0;have f1:=co F_wF 1;have x0:=co X_wF 0;have fP:=fun o=>fo K_wF o;have fF:=fun o=>fo F_wF o;simp at p0 f0 f1 x0;have zp:w0.heap.size<wF.heap.size:=(by omega);have zf:w0.heap.size+1<wF.heap.size:=(by omega);clear K_wF F_wF A_wF X_wF;go_wp2;refine bodyPost_ret (v:=.tuple #[.agg #[.slice aa acc.length cc],.agg #[.int .i64 0,.int .i64 0]]) (by simp [results,Tryz.results7,go_sem,p0,f0,f1,zp,zf]) rfl ?_;refine ⟨((B_wF.setCell (p:=⟨w0.heap.size,0,none⟩) nR _).setCell (p:=⟨w0.heap.size+1,0,none⟩) (Nat.le_succ _) _).setCell (p:=⟨w0.heap.size+1,1,none⟩) (Nat.le_succ _) _,aa,acc.length,cc,by rw [HE.out],?_⟩;rw [HE.out];have N2:=N_wF.wide (ok':=fun i=>w.heap.size<i∧w0.heap.size≤i) (fun i hi _=>⟨hi,by have h9:w.heap.size<i:=hi;omega⟩);refine vX ((N2.keep (by simp [World.setCell]) (fun i hi _=>?_)).wide (fun i hi _=>hi.2));have h9:=hi.1;rw [Below.heap_setCell _ _ _ _ (by simp;omega),Below.heap_setCell _ _ _ _ (by simp;omega),Below.heap_setCell _ _ _ _ (by simp;omega)]
end Go.Proofs.YthkpanbgkimhoaaGreatDoor
