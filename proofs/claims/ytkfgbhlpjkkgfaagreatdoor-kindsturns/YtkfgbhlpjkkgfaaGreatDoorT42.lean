import Derived.Test.YtkfgbhlpjkkgfaaGreatDoorT03
import Derived.Deep.RegionLawGrows
import Derived.Defers
import Derived.Recover
import Derived.Test.YtkfgbhlpjkkgfaaGreatDoorT41
import Derived.Test.YtkfgbhlpjkkgfaaGreatDoorT37
import Derived.Test.YtkfgbhlpjkkgfaaGreatDoorT06
import Derived.Test.YtkfgbhlpjkkgfaaGreatDoorT38
set_option linter.unusedVariables false
set_option linter.unusedSimpArgs false
set_option maxHeartbeats 64000000
set_option maxRecDepth 100000
namespace Go.Proofs.YtkfgbhlpjkkgfaaGreatDoor
open Go.RowKit Go.IntWalk
def BegunAt (B:Nat) (w:World) (nb:Nat):Prop:=∃ q cq bk:Nat,B<=nb/\nb<w.heap.size/\B<=q/\q<w.heap.size/\B<=bk/\bk<w.heap.size/\1<=cq /\
 w.cell? ⟨nb,6,none⟩=some (.slice (some ⟨q,0,none⟩) 1 cq)/\w.cell? ⟨q,4,none⟩=some (.slice (some ⟨bk,0,none⟩) 1 1)/\w.cell? ⟨bk,1,none⟩=some (.int .i64 2)
theorem BegunAt.keep {B:Nat} {w w':World} {nb:Nat} (h:BegunAt B w nb) (hz:w.heap.size<=w'.heap.size) (hk:∀ k,B<=k->k<w.heap.size->w'.heap[k]?=w.heap[k]?):BegunAt B w' nb:=by
 obtain ⟨q,cq,bk,h1,h2,h3,h4,h5,h6,h7,h8,h9,cQ⟩:=h;exact ⟨q,cq,bk,h1,by omega,h3,by omega,h5,by omega,h7,(World.cell?_of_block (w:=w) (a:=⟨nb,6,none⟩) (hk nb h1 h2)).trans h8,(World.cell?_of_block (w:=w) (a:=⟨q,4,none⟩) (hk q h3 h4)).trans h9,(World.cell?_of_block (w:=w) (a:=⟨bk,1,none⟩) (hk bk h5 h6)).trans cQ⟩
theorem caught_idle (p q:Addr) (w:World) :
  CallsD Tryz.prog 76 #[.pointer (some p),.pointer (some q)] .returning w fun e u' w'=>e=.returned (.tuple #[])/\u'=.returning/\w'=w:=by
 refine callsD_of_wpS Tryz.func76 rfl fun c₀ cs hu=>?_
 apply wpS_seq
 apply wpS_region
 simp [wpOpsS,go_sem,recoverD,hu,Tryz.ntmps76,Exit.thenS];refine wpS_of_wp ?_;go_wp2
 cases c₀
 simp_all [bodyPostS,results,Tryz.results76]
def prV:Nat->World->Value->List Nd->Prop:=fun B w x l=>∃ a n c,x=.agg #[.slice a n c]/\HNds (fun i=>B<=i) w (.slice a n c) l
theorem node_not {I:Inp} {n:Nat} (h:Ps.sees I [110,111,100,101] n=false):Ps.node I n=.err (Ps.refC I n) (I.pk n).place:=by
 rw [node_eq];unfold Ps.need;rw [h];rfl
theorem zDN {I:Inp} {f:Nat} {acc:List Nd} {n:Nat} (h:(I.pk n).kind≠0):Ps.nodes I (f+1) acc n=(Ps.node I n).bind fun x n1=>Ps.nodes I f (acc++[x]) n1:=by
 simp [Ps.nodes,h]
theorem nodes_stop {I:Inp} {n:Nat} (h:(I.pk n).kind=0):∀ (k:Nat) (acc:List Nd),Ps.nodes I k acc n=.ok acc n
 | 0,acc=>by simp [Ps.nodes,h]
 | k+1,acc=>by simp [Ps.nodes,h]
theorem program_any (aV:FormC) {b g cap:Nat} {I:Inp} (hL:I.L.length<=1099511627776) {w:World} (h:Rd w b g cap I.L I.len 0 0) (hG:GlobB b w) :
  Calls Tryz.prog 77 #[.pointer (some ⟨b,0,none⟩)] w (Post b g cap I 0 prV 0 w (Ps.program I)):=by
 have HN:=node_any aV (b:=b) (g:=g) (cap:=cap) hL;have hb:=h.bb;have hg:=h.gb;go_enter Tryz.func77,Tryz.ntmps77;go_wp2_with fail;refine (HN _ _ (h.alloc _) (hG.alloc _)).mono ?_;rintro e w1 ⟨a1,hres⟩;have z1:w.heap.size+1<=w1.heap.size:=(by simpa using a1.size);have cJ:=a1.keep (zAC w _) (by simp) (by simp;omega);have A1:=((Aside.refl (S:=[b]) (B:=w.heap.size) w).alloc nR _).trans a1 (by simp);clear a1
 cases ht:Ps.node I 0 with
 | err c0 a0=>
  rw [ht] at hres;obtain rfl:e=_:=hres;exact ⟨rfl,Post.fail (by unfold Ps.program;rw [ht];rfl) A1⟩
 | ok x0 n1=>
  rw [ht] at hres;obtain ⟨dx,h1,_,rfl,y,rfl,hy⟩:=hres;have aw:Hid (Ps.program I=Ps.nodes I 9 [x0] n1):=by
   show Ps.program I=_
   unfold Ps.program;rw [ht];rfl
  clear ht;have hE:kNode.E (fun i=>w.heap.size+1<=i) w1 [.string y.name,.int .i64 y.place,.slice y.a2 y.n2 y.c2,.slice y.a3 y.n3 y.c3,.slice y.a4 y.n4 y.c4,.slice y.a5 y.n5 y.c5,.slice y.a6 y.n6 y.c6] x0:=⟨y,rfl,hy.wide (fun i hi _=>by simpa using hi)⟩;have dI:OwnL kNode (w.heap.size+1) (w1.alloc (.cells #[.string y.name,.int .i64 y.place,.slice y.a2 y.n2 y.c2,.slice y.a3 y.n3 y.c3,.slice y.a4 y.n4 y.c4,.slice y.a5 y.n5 y.c5,.slice y.a6 y.n6 y.c6] 47 (0,0))) (.slice (some ⟨w1.heap.size,0,none⟩) 1 1) [x0]:=OwnL.lit (T:=kNode) (cs:=[.string y.name,.int .i64 y.place,.slice y.a2 y.n2 y.c2,.slice y.a3 y.n3 y.c3,.slice y.a4 y.n4 y.c4,.slice y.a5 y.n5 y.c5,.slice y.a6 y.n6 y.c6]) z1 hE;clear hy hE;go_wp2;go_loopg [3] 9 (fun k v wr=>∃ (m:Nat) (acc:List Nd),k+acc.length=10/\OwnL kNode (w.heap.size+1) wr v acc/\Rd wr b g cap I.L I.len m 0/\Aside [b] w.heap.size w wr/\wr.heap[w.heap.size]?=some (.cells #[.slice none 0 0] 24 (0,0))/\w.heap.size+1<=wr.heap.size/\Hid (Ps.program I=Ps.nodes I k acc m))
  case atStart=>exact ⟨n1,[x0],rfl,dI,h1.alloc _,A1.alloc (by omega) _,kA cJ _,by simp;omega,aw⟩
  case round=>
   clear aw dI h1 A1 cJ;obtain ⟨m,acc,hk,ah,hr,hA,hN,zr,aw⟩:=hrel;obtain ⟨aa,cc,rfl,aC,av⟩:=ah.form;unfold maxLen at av;have hp:=@zAT _ _ _ _ _ _ _ _ hr;obtain ⟨t,ht⟩:=nmQ (I.pk m);have jH:peekT I.L I.len m=t:=ht.symm;rw [jH] at hp;unfold tokV at hp;have hf:=fun x w=>tokF0 t x w;have HT:=zAA ht;clear jH ht;go_wp2_with fail;refine hp.mono ?_;rintro e w2 ⟨rfl,b2⟩;have z2:=b2.size;have h2:=hr.below b2;have A2:=hA.trans (aside b2) hA.size;have gH:=(aside b2 (S:=[])).keep hN (zAB hN) (by simp);have mS:=ah.below b2;clear hp hr hA hN ah b2;by_cases gm:t.kind=0
   ·have pJ:(t.kind==0)=true:=beq_iff_eq.2 gm
    have Oe:=zAA gm;clear gm;have c0:=co gH 0;have f0:=fo gH 0;simp at c0;have rN:=mS.row.wide (ok':=fun i=>w.heap.size<i) (fun i hi _=>by omega);go_wp2;refine bodyPost_ret (v:=.agg #[.slice aa acc.length cc]) (by simp [results,Tryz.results77,go_sem,c0]) rfl ?_;exact Post.good (by rw [aw.out];exact nodes_stop (by rw [<-HT.out];exact Oe.out) gk acc) (A2.set (by simp) _) (Nat.zero_le _) (h2.set (by simp;omega) (by simp;omega) _) ⟨_,_,_,rfl,zBm ((rN.set (by simp) _).wide (fun i hi _=>Nat.le_of_lt hi))⟩
   ·have pJ:(t.kind==0)=false:=beq_eq_false_iff_ne.2 gm
    have rB:(I.pk m).kind≠0:=(by rw [<-HT.out];exact gm);go_wp2_with fail;refine (zCa h2 ⟨#[110,111,100,101]⟩).mono ?_;rintro e w3 ⟨rfl,b3⟩;have es:(⟨#[110,111,100,101]⟩:ByteArray).data.toList=[110,111,100,101]:=rfl;simp only [es];clear es;have z3:=b3.size;have h3:=h2.below b3;have A3:=A2.trans (aside b3) A2.size;have eC:=(aside b3 (S:=[])).keep gH (zAB gH) (by simp);have io:=mS.below b3;clear h2 A2 gH mS b3
    cases hq:Ps.sees I [110,111,100,101] m with
    | false=>
     go_wp2_with fail;refine (HN _ _ h3 (hG.far A3)).mono ?_;rintro e w4 ⟨a4,hres⟩;rw [node_not hq] at hres;obtain rfl:e=_:=hres;refine ⟨rfl,Post.fail ?_ (A3.trans a4 A3.size)⟩;rw [aw.out]
     cases gk with
     | zero=>simp [Ps.nodes,rB,hq];rfl
     | succ f=>rw [zDN rB,node_not hq];rfl
    | true=>
     by_cases hz:gk=0
     ·subst hz
      go_wp2_with fail;refine (zAy h3 _ _ (by omega)).mono ?_;rintro e w4 ⟨rfl,b4⟩;exact ⟨rfl,Post.fail (by rw [aw.out];simp [Ps.nodes,rB,hq]) (A3.trans (aside b4) A3.size)⟩
     ·obtain ⟨f,rfl⟩:∃ f,gk=f+1:=⟨gk-1,by omega⟩
      go_wp2_with fail;refine (zAl _ _ _ (by omega) _).mono ?_;rintro e w3 ⟨rfl,rfl⟩;go_wp2_with fail;refine (HN _ _ h3 (hG.far A3)).mono ?_;rintro e w4 ⟨a4,hres⟩;have z4:=a4.size;have A4:=A3.trans a4 A3.size;have dy:=a4.keep eC (zAB eC) (by simp;omega);have kj:=io.past a4 (by simp;omega)
      cases ht:Ps.node I m with
      | err c0 a0=>
       rw [ht] at hres;obtain rfl:e=_:=hres;exact ⟨rfl,Post.fail (by rw [aw.out,zDN rB,ht];rfl) A4⟩
      | ok x4 n4=>
       rw [ht] at hres;obtain ⟨CB,h4,_,rfl,y,rfl,hy⟩:=hres;have bj:Hid (Ps.program I=Ps.nodes I f (acc++[x4]) n4):=by
        show Ps.program I=_
        rw [aw.out,zDN rB,ht];rfl
       have ja:=fun k hk=>(io.lt k hk).2;have q1:kNode.E (fun i=>w3.heap.size<=i) w4 [.string y.name,.int .i64 y.place,.slice y.a2 y.n2 y.c2,.slice y.a3 y.n3 y.c3,.slice y.a4 y.n4 y.c4,.slice y.a5 y.n5 y.c5,.slice y.a6 y.n6 y.c6] x4:=⟨y,rfl,hy⟩;have q2:(acc.length+1)*kNode.bytes<=140737488355328:=(by show (acc.length+1)*144<=_;omega);have q3:acc.length+1<=maxLen:=(by unfold maxLen;omega);have GH:w.heap.size+1<=w3.heap.size:=(by omega);have M5:w.heap.size+1<=w4.heap.size:=(by omega);clear ht aw a4 io h3 eC A3 hy
       go_wp2_with (at_builtin;refine zAV kNode rfl _ _ 22 47 rfl Tryz.underlying22 (w.heap.size+1) w3.heap.size _ acc (by rfl) kj [.string y.name,.int .i64 y.place,.slice y.a2 y.n2 y.c2,.slice y.a3 y.n3 y.c3,.slice y.a4 y.n4 y.c4,.slice y.a5 y.n5 y.c5,.slice y.a6 y.n6 y.c6] x4 q1 (by rfl) ja GH M5 q2 q3 ?_;intro v8 w8 cU b8 _ _)
       go_wp2;go_roundg f
       case measure=>omega
       case rel=>exact ⟨n4,acc++[x4],by simp;omega,cU,h4.under b8 (by omega) (by omega),A4.trans (aside (b8.mono (Nat.le_succ _))) nR,(b8.block _ (Nat.lt_succ_self _)).trans dy,by have:=b8.size;omega,bj⟩
theorem asserts75 (c a:Int) (w:World):(Instr.typeAssert (.iface 123 (.agg #[.int .i64 c,.int .i64 a])) 20 123 true).run Tryz.prog w=.ok (.tuple #[.agg #[.int .i64 c,.int .i64 a],.bool true]) w:=by kernel_rfl
theorem caught_up (pb qb:Nat) (c a:Int) (vp v0 v1:Value) (w:World) (hP:w.heap[pb]?=some (.cells #[vp] 24 (0,0))) (hQ:w.heap[qb]?=some (.cells #[v0,v1] 29 (0,0))) (DH:pb≠qb) :
  CallsD Tryz.prog 76 #[.pointer (some ⟨pb,0,none⟩),.pointer (some ⟨qb,0,none⟩)] (.panicking [{ v:=upV c a,recovered:=false }]) w fun e u' w'=>
   e=.returned (.tuple #[])/\u'=.panicking [{ v:=upV c a,recovered:=true }]/\w'.heap[pb]?=some (.cells #[.slice none 0 0] 24 (0,0))/\w'.heap[qb]?=some (.cells #[.int .i64 c,.int .i64 a] 29 (0,0))/\Aside [pb,qb] w.heap.size w w':=by
 have zP:=zAB hP;have zQ:=zAB hQ;refine callsD_of_wpS Tryz.func76 rfl fun c₀ cs hu=>?_
 apply wpS_seq
 apply wpS_region
 simp [wpOpsS,go_sem,recoverD,hu,Tryz.ntmps76,Exit.thenS,upV];refine wpS_of_wp ?_;have ef:(#[Value.pointer (some ⟨pb,0,none⟩),Value.pointer (some ⟨qb,0,none⟩)]++(Array.replicate 12 undef).setIfInBounds 3 (Value.iface 123 (.agg #[.int .i64 c,.int .i64 a])))=#[Value.pointer (some ⟨pb,0,none⟩),Value.pointer (some ⟨qb,0,none⟩),undef,undef,undef,Value.iface 123 (.agg #[.int .i64 c,.int .i64 a]),undef,undef,undef,undef,undef,undef,undef,undef]:=rfl;rw [ef];clear ef;have dl:=asserts75;go_wp2_with fail;have p7:(w.alloc (.cells #[.int .i64 c,.int .i64 a] 123 (0,0))).drew.heap[pb]?=some (.cells #[vp] 24 (0,0)):=kA hP _;have wV:(w.alloc (.cells #[.int .i64 c,.int .i64 a] 123 (0,0))).drew.heap[qb]?=some (.cells #[v0,v1] 29 (0,0)):=kA hQ _;have iu:(w.alloc (.cells #[.int .i64 c,.int .i64 a] 123 (0,0))).drew.heap[w.heap.size]?=some (.cells #[.int .i64 c,.int .i64 a] 123 (0,0)):=zAC w _;have A1:Aside [pb,qb] w.heap.size w (w.alloc (.cells #[.int .i64 c,.int .i64 a] 123 (0,0))).drew:=((Aside.refl w).alloc nR _).drew;refine zAE (fun w'=>w'.cell? ⟨w.heap.size,0,none⟩=some (.int .i64 c)/\w'.cell? ⟨w.heap.size,1,none⟩=some (.int .i64 a)) (fun j=>decide (j=4)) (by kernel_rfl) ?_;generalize (w.alloc (.cells #[.int .i64 c,.int .i64 a] 123 (0,0))).drew=w1 at p7 wV iu A1 ⊢;have t0:=co iu 0;have t1:=co iu 1;simp at t0 t1;have hH:=And.intro t0 t1;have p0:=co p7 0;have q0:=co wV 0;have q1:=co wV 1;have fP:=fun o=>fo p7 o;have fQ:=fun o=>fo wV o;simp at p0 q0 q1;have et:=co (zAI iu (p:=⟨pb,0,none⟩) (by simp;omega) (.slice none 0 0)) 0;have gU:=co (zAI iu (p:=⟨pb,0,none⟩) (by simp;omega) (.slice none 0 0)) 1;simp only [gT,gZ,gS] at et gU;have H2:=zAA (And.intro et gU);clear et gU;have nQ:qb≠pb:=DH.symm;refine' tjQ 0 hH ?hyv ?o1
 case hyv=>
  intro wz ae;obtain ⟨c0,c1⟩:=ae;go_simp
  try rfl
 try simp only [Act.put,sT,sZ,sS]
 refine' tjQ 1 hH ?hyv ?o2
 case hyv=>
  intro wz ae;obtain ⟨c0,c1⟩:=ae;go_simp
  try rfl
 try simp only [Act.put,sT,sZ,sS]
 refine' tjQ 2 hH ?hyv ?o3
 case hyv=>
  intro wz ae;obtain ⟨c0,c1⟩:=ae;go_simp
  try rfl
 try simp only [Act.put,sT,sZ,sS]
 refine tnQ 3 (fun K hK=>?_);go_simp;refine hK.out _ _ (fun _=>H2.out) ?_;clear hK K
 try simp only [Act.put,sT,sZ,sS]
 have Fh:=zAD p7 0 (.slice none 0 0);have An:=zAI wV (p:=⟨pb,0,none⟩) (by simpa using DH) (.slice none 0 0);have A2:Aside [pb,qb] w.heap.size w (w1.setCell ⟨pb,0,none⟩ (.slice none 0 0)):=A1.trans (Aside.setCell (by simp) _) nR;simp at Fh;generalize w1.setCell ⟨pb,0,none⟩ (.slice none 0 0)=w2 at Fh An A2 ⊢;have q2:=co An 0;have q3:=co An 1;have Qb:=fun o=>fo An o;simp at q2 q3;clear hH t0 t1 p0 q0 q1 fP fQ H2 iu A1 p7 wV;refine tnQ 4 (fun K hK=>?_);go_simp;refine hK.out _ _ (fun h=>by cases h) ?_;clear hK K
 try simp only [Act.put,sT,sZ,sS]
 refine zAF (by kernel_rfl) ?_ _;have CU:=zAI (zAI Fh (p:=⟨qb,0,none⟩) (by simpa using nQ) (.int .i64 c)) (p:=⟨qb,1,none⟩) (by simpa using nQ) (.int .i64 a);have Lq:=zAD (zAD An 0 (.int .i64 c)) 1 (.int .i64 a);have A3:Aside [pb,qb] w.heap.size w ((w2.setCell ⟨qb,0,none⟩ (.int .i64 c)).setCell ⟨qb,1,none⟩ (.int .i64 a)):=(A2.trans (Aside.setCell (by simp) _) nR).trans (Aside.setCell (by simp) _) nR;simp at Lq;generalize (w2.setCell ⟨qb,0,none⟩ (.int .i64 c)).setCell ⟨qb,1,none⟩ (.int .i64 a)=w3 at CU Lq A3 ⊢;go_wp2
 cases c₀
 simp_all [Exit.inBlock,bodyPostS,results,Tryz.results76,upV]
theorem keepB {w:World} {k:Nat} (o:Obj) (h:k<w.heap.size):(w.alloc o).heap[k]?=w.heap[k]?:=Below.heap_alloc _ _ _ h
theorem nodes_of {ok:Nat->Prop} {w:World} {v:Value} {l:List Nd} (h:HNds ok w v l):HRow kNode ok w v l:=h
theorem HNds.wide' {ok ok':Nat->Prop} {w:World} {v:Value} {l:List Nd} (h:HNds ok w v l) (hk:∀ i,ok i->i<w.heap.size->ok' i):HNds ok' w v l:=HRow.wide (T:=kNode) h hk
def RPost (w:World) (res:Res (List Nd)) (r:Ending) (w':World):Prop :=
 Below w.heap.size w w' /\
 match res with
 | .ok l _=>∃ a n c,r=.returned (.tuple #[.agg #[.slice a n c],.agg #[.int .i64 0,.int .i64 0]])/\HNds (fun i=>w.heap.size<=i) w' (.slice a n c) l
 | .err c a=>r=.returned (.tuple #[.agg #[.slice none 0 0],.agg #[.int .i64 (c:Int),.int .i64 (a:Int)]])
theorem zEd (aV:FormC) {I:Inp} (hL:I.L.length<=1099511627776) {w:World} {g cap:Nat} (ht:HoldsToks w g I.L) (hg:g<w.heap.size) (hc:I.L.length<=cap) (hm:cap<=maxLen) (hG:GlobT w) :
  Calls Tryz.prog 50 #[.slice (some ⟨g,0,none⟩) I.L.length cap,.int .i64 (I.len:Int)] w (RPost w (Ps.program I)):=by
 have oc:=zBi;obtain ⟨W1,jn⟩:∃ W,W=w.alloc (.cells #[.slice none 0 0] 24 (0,0)):=⟨_,rfl⟩;obtain ⟨W2,kK⟩:∃ W,W=W1.alloc (.cells #[.int .i64 0,.int .i64 0] 29 (0,0)):=⟨_,rfl⟩;obtain ⟨W3,jN⟩:∃ W,W=W2.alloc (.cells #[.slice (some ⟨g,0,none⟩) I.L.length cap,.int .i64 0,.int .i64 (I.len:Int),.int .i64 0] 126 (0,0)):=⟨_,rfl⟩;have y1:=newZ jn;have y2:W2.heap.size=w.heap.size+1+1:=(by rw [kK];simp [y1]);have y3:W3.heap.size=w.heap.size+1+1+1:=(by rw [jN];simp [y2]);have bW:Below w.heap.size w W3:=(by rw [jN,kK,jn];exact (((Below.refl _ w).alloc nR _).alloc (by simp) _).alloc (by simp;omega) _);have hP:W3.heap[w.heap.size]?=some (.cells #[.slice none 0 0] 24 (0,0)):=(by rw [jN,kK,jn];exact kA (kA (zAC w _) _) _);have hF:W3.heap[w.heap.size+1]?=some (.cells #[.int .i64 0,.int .i64 0] 29 (0,0)):=(by rw [jN,kK,<-y1];exact kA (zAC W1 _) _);have hB:W3.heap[w.heap.size+1+1]?=some (.cells #[.slice (some ⟨g,0,none⟩) I.L.length cap,.int .i64 0,.int .i64 (I.len:Int),.int .i64 0] 126 (0,0)):=(by rw [jN,<-y2];exact zAC W2 _);have hR:Rd W3 (w.heap.size+1+1) g cap I.L I.len 0 0:=⟨hB,ht.keep (bW.block g hg),by omega,by omega,Nat.zero_le _,hc,hm⟩
 go_enter_defers Tryz.func50,Tryz.ntmps50
 go_wp2_with fail;rw [<-jn,<-kK,<-jN];refine (program_any aV hL hR ⟨by have:=hG.1;omega,hG.keep bW.size (bW.block 7 hG.1)⟩).mono ?_;rintro r w4 ⟨a4,hres⟩;have z4:=a4.size;have yU:=a4.keep hP (by omega) (by simp;omega);have nh:=a4.keep hF (by omega) (by simp);have A4:Below w.heap.size w w4:=bW.trans ((a4.mono (B':=w.heap.size) (by omega)).below (by simp;omega));have JO:=co yU 0;have PU:=fo yU 0;have Jb:=co nh 0;have P4:=fo nh 0;have I5:=co nh 1;have PP:=fo nh 1;simp at JO Jb I5;clear hR hB hP hF bW a4 jn kK jN
 cases hp:Ps.program I with
 | ok l n=>
  rw [hp] at hres;obtain ⟨_,h4,_,rfl,a,n',c,rfl,hN⟩:=hres;clear h4;go_wp2;refine leaves_cons (f:=76) (args:=#[.pointer (some ⟨w.heap.size,0,none⟩),.pointer (some ⟨w.heap.size+1,0,none⟩)]) (by simp) (by simp [go_sem]) ?_;refine (caught_idle ⟨w.heap.size,0,none⟩ ⟨w.heap.size+1,0,none⟩ _).mono ?_;rintro e u' LO ⟨rfl,rfl,rfl⟩;have A5:=((A4.setCell (p:=⟨w.heap.size,0,none⟩) nR (.slice a n' c)).setCell (p:=⟨w.heap.size+1,0,none⟩) (Nat.le_succ _) (.int .i64 0)).setCell (p:=⟨w.heap.size+1,1,none⟩) (Nat.le_succ _) (.int .i64 0);have gY:=((nodes_of (hN.wide' (ok':=fun i=>w.heap.size+1<i) (fun i hi _=>by omega))).set (p:=⟨w.heap.size,0,none⟩) (by simp) (.slice a n' c) |>.set (p:=⟨w.heap.size+1,0,none⟩) (by simp) (.int .i64 0) |>.set (p:=⟨w.heap.size+1,1,none⟩) (by simp) (.int .i64 0)).wide (ok':=fun i=>w.heap.size<=i) (fun i hi _=>by omega);simp [Leaves,settle,results,Tryz.results50,go_sem,JO,Jb,I5];refine ⟨A5,?_⟩;rw [hp];exact ⟨a,n',c,rfl,zBm gY⟩
 | err c a=>
  rw [hp] at hres;obtain rfl:r=_:=hres;unfold upE;refine leaves_cons (f:=76) (args:=#[.pointer (some ⟨w.heap.size,0,none⟩),.pointer (some ⟨w.heap.size+1,0,none⟩)]) (by simp) (by simp [go_sem]) ?_;refine (caught_up w.heap.size (w.heap.size+1) c a _ _ _ _ yU nh (by omega)).mono ?_;rintro e u' w5 ⟨rfl,rfl,FF,rR,a5⟩;have p0:=co FF 0;have f0:=co rR 0;have f1:=co rR 1;simp at p0 f0 f1;have A5:Below w.heap.size w w5:=A4.trans ((a5.mono (B':=w.heap.size) (by have:=A4.size;omega)).below (by simp));simp [Leaves,settle,results,Tryz.results50,go_sem,p0,f0,f1,upV];exact ⟨A5,rfl⟩
def RdE (w:World) (b:Nat) (ao:Option Addr) (cap len:Nat):Prop:=w.heap[b]?=some (.cells #[.slice ao 0 cap,.int .i64 0,.int .i64 (len:Int),.int .i64 0] 126 (0,0))
theorem RdE.below {w w':World} {b:Nat} {ao:Option Addr} {cap len:Nat} (h:RdE w b ao cap len) (hb:Below w.heap.size w w'):RdE w' b ao cap len:=(hb.block b (zAB h)).trans h
theorem RdE.alloc {w:World} {b:Nat} {ao:Option Addr} {cap len:Nat} (h:RdE w b ao cap len) (o:Obj):RdE (w.alloc o) b ao cap len:=kA h o
theorem peekE {w:World} {b:Nat} {ao:Option Addr} {cap len:Nat} (h:RdE w b ao cap len) :
  Calls Tryz.prog 108 #[.pointer (some ⟨b,0,none⟩)] w fun e w'=>e=.returned (tokV ⟨0,len,[],0⟩)/\Below w.heap.size w w':=by
 have hb:=zAB h;have c0:=co h 0;have c1:=co h 1;have c2:=co h 2;simp at c0 c1 c2;go_enter Tryz.func108,Tryz.ntmps108;go_wp2
 go_region
 go_wp2;exact bodyPost_ret (v:=tokV ⟨0,len,[],0⟩) (by simp [tokV,str,results,Tryz.results108,go_sem]) rfl ⟨rfl,((Below.refl _ w).alloc nR _).drew⟩
theorem seesE {w:World} {b:Nat} {ao:Option Addr} {cap len:Nat} (h:RdE w b ao cap len) (s:ByteArray) (hs:(([]:List UInt8)==s.data.toList)=false) :
  Calls Tryz.prog 109 #[.pointer (some ⟨b,0,none⟩),.string s] w fun e w'=>e=.returned (.bool false)/\Below w.heap.size w w':=by
 have hp:=peekE h;obtain ⟨t,ht⟩:∃ t:Tk.Tok,t=⟨0,len,[],0⟩:=⟨_,rfl⟩;rw [<-ht] at hp;unfold tokV at hp;have hf:=fun x w=>zDI t x w;have HT:=zAA ht;clear ht;go_enter Tryz.func109,Tryz.ntmps109
 go_wp2_with (go_at_call 108;refine hp.mono ?_;rintro e w' ⟨rfl,hb⟩)
 go_ret;refine ⟨zAf ?_,hb⟩;have:=HT.out;subst this
 simpa [str,Lib.toList_data] using hs
theorem needE {w:World} {b:Nat} {ao:Option Addr} {cap len:Nat} (h:RdE w b ao cap len) (s:ByteArray) (hs:(([]:List UInt8)==s.data.toList)=false) :
  Calls Tryz.prog 139 #[.pointer (some ⟨b,0,none⟩),.string s] w fun e w'=>e=upE 5 len/\Below w.heap.size w w':=by
 have gP:∀ w,RdE w b ao cap len->Calls Tryz.prog 141 #[.pointer (some ⟨b,0,none⟩),.string s] w fun e w'=>e=.returned (.bool false)/\Below w.heap.size w w':=fun w h=>by
  have hp:=seesE h s hs;go_enter Tryz.func141,Tryz.ntmps141
  go_wp2_with (go_at_call 109;refine hp.mono ?_;rintro e w1 ⟨rfl,hb⟩)
  go_ret;exact ⟨rfl,hb⟩
 have FY:∀ w,RdE w b ao cap len->Calls Tryz.prog 182 #[.pointer (some ⟨b,0,none⟩)] w fun e w'=>e=upE 5 len/\Below w.heap.size w w':=fun w h=>by
  have hp:=peekE h;unfold tokV at hp;go_enter Tryz.func182,Tryz.ntmps182;go_wp2_with fail;refine hp.mono ?_;rintro e w1 ⟨rfl,hb⟩;go_wp2_with fail;refine (zBC _ _ _).mono ?_;rintro e w2 ⟨rfl,rfl⟩;exact ⟨rfl,rfl,hb.alloc hb.size _⟩
 have hp:=gP w h;go_enter Tryz.func139,Tryz.ntmps139;go_wp2_with fail;refine hp.mono ?_;rintro e w1 ⟨rfl,hb⟩;go_wp2_with fail;refine (FY _ (h.below hb)).mono ?_;rintro e w2 ⟨rfl,ha⟩;exact ⟨rfl,rfl,hb.trans (ha.mono hb.size)⟩
theorem nodeE {w:World} {b:Nat} {ao:Option Addr} {cap len:Nat} (h:RdE w b ao cap len) :
  Calls Tryz.prog 107 #[.pointer (some ⟨b,0,none⟩)] w fun e w'=>e=upE 5 len/\Below w.heap.size w w':=by
 obtain ⟨t,ht⟩:∃ t:Tk.Tok,t=⟨0,len,[],0⟩:=⟨_,rfl⟩;have hp:=peekE (h.alloc (.cells #[.string ⟨#[]⟩,.int .i64 0,.slice none 0 0,.slice none 0 0,.slice none 0 0,.slice none 0 0,.slice none 0 0] 47 (0,0)));rw [<-ht] at hp;unfold tokV at hp;have hf:=fun x w=>tokF1 t x w;clear ht;go_enter Tryz.func107,Tryz.ntmps107;go_wp2_with fail;refine hp.mono ?_;rintro e w1 ⟨rfl,b1⟩;have z1:w.heap.size+1<=w1.heap.size:=(by simpa using b1.size);have B1:Below w.heap.size w w1:=((Below.refl _ w).alloc nR _).trans (b1.mono (by simp));go_wp2_with fail;refine (needE (((h.alloc _).below b1).alloc _) ⟨#[110,111,100,101]⟩ rfl).mono ?_;rintro e w2 ⟨rfl,b2⟩;exact ⟨rfl,rfl,(B1.alloc (by omega) _).trans (b2.mono (by simp;omega))⟩
theorem programE {w:World} {b:Nat} {ao:Option Addr} {cap len:Nat} (h:RdE w b ao cap len) :
  Calls Tryz.prog 77 #[.pointer (some ⟨b,0,none⟩)] w fun e w'=>e=upE 5 len/\Below w.heap.size w w':=by
 go_enter Tryz.func77,Tryz.ntmps77;go_wp2_with fail;refine (nodeE (h.alloc _)).mono ?_;rintro e w1 ⟨rfl,b1⟩;exact ⟨rfl,rfl,((Below.refl _ w).alloc nR _).trans (b1.mono (by simp))⟩
theorem readProgramE {w:World} {ao:Option Addr} {cap len:Nat} (hm:cap<=maxLen) :
  Calls Tryz.prog 50 #[.slice ao 0 cap,.int .i64 (len:Int)] w (RPost w (.err 5 len)):=by
 have oc:=zBi;obtain ⟨W1,jn⟩:∃ W,W=w.alloc (.cells #[.slice none 0 0] 24 (0,0)):=⟨_,rfl⟩;obtain ⟨W2,kK⟩:∃ W,W=W1.alloc (.cells #[.int .i64 0,.int .i64 0] 29 (0,0)):=⟨_,rfl⟩;obtain ⟨W3,jN⟩:∃ W,W=W2.alloc (.cells #[.slice ao 0 cap,.int .i64 0,.int .i64 (len:Int),.int .i64 0] 126 (0,0)):=⟨_,rfl⟩;have y1:=newZ jn;have y2:W2.heap.size=w.heap.size+1+1:=(by rw [kK];simp [y1]);have y3:W3.heap.size=w.heap.size+1+1+1:=(by rw [jN];simp [y2]);have bW:Below w.heap.size w W3:=(by rw [jN,kK,jn];exact (((Below.refl _ w).alloc nR _).alloc (by simp) _).alloc (by simp;omega) _);have hP:W3.heap[w.heap.size]?=some (.cells #[.slice none 0 0] 24 (0,0)):=(by rw [jN,kK,jn];exact kA (kA (zAC w _) _) _);have hF:W3.heap[w.heap.size+1]?=some (.cells #[.int .i64 0,.int .i64 0] 29 (0,0)):=(by rw [jN,kK,<-y1];exact kA (zAC W1 _) _);have hB:RdE W3 (w.heap.size+1+1) ao cap len:=(by unfold RdE;rw [jN,<-y2];exact zAC W2 _)
 go_enter_defers Tryz.func50,Tryz.ntmps50
 go_wp2_with fail;rw [<-jn,<-kK,<-jN];refine (programE hB).mono ?_;rintro r w4 ⟨rfl,b4⟩;have z4:=b4.size;have yU:=(aside b4 (S:=[])).keep hP (by omega) (by simp);have nh:=(aside b4 (S:=[])).keep hF (by omega) (by simp);have A4:Below w.heap.size w w4:=bW.trans (b4.mono (by omega));unfold upE;refine leaves_cons (f:=76) (args:=#[.pointer (some ⟨w.heap.size,0,none⟩),.pointer (some ⟨w.heap.size+1,0,none⟩)]) (by simp) (by simp [go_sem]) ?_;refine (caught_up w.heap.size (w.heap.size+1) 5 len _ _ _ _ yU nh (by omega)).mono ?_;rintro e u' w5 ⟨rfl,rfl,FF,rR,a5⟩;have p0:=co FF 0;have f0:=co rR 0;have f1:=co rR 1;simp at p0 f0 f1;have A5:Below w.heap.size w w5:=A4.trans ((a5.mono (B':=w.heap.size) (by omega)).below (by simp));simp [Leaves,settle,results,Tryz.results50,go_sem,p0,f0,f1,upV];exact ⟨A5,rfl⟩
theorem program_none (len:Nat):Ps.program ⟨[],len⟩=.err 5 len:=rfl
theorem scanR_len:∀ (f:Nat) (l:List UInt8) (p:Nat),(Tk.scanR f l p).1.length<=f
 | 0,_,_=>by simp [Tk.scanR]
 | _+1,[],_=>by simp [Tk.scanR]
 | f+1,c :: l,p=>by
  unfold Tk.scanR
  split
  ·simp
  ·have:=scanR_len f ((((c :: l).drop (Tk.read (c :: l)).text.length)).drop (Tk.blankLen false ((c :: l).drop (Tk.read (c :: l)).text.length))) (p+(Tk.read (c :: l)).text.length+Tk.blankLen false ((c :: l).drop (Tk.read (c :: l)).text.length))
   simp only []
   split
   ·simp
   ·simp only [List.length_cons]
    omega
theorem scan_len (l:List UInt8):(Tk.scan l).1.length<=l.length:=by
 unfold Tk.scan
 split
 ·simp
 ·exact scanR_len _ _ _
theorem zDz (aV:FormC) {I:Inp} (hL:I.L.length<=1099511627776) {w:World} {ao:Option Addr} {g cap:Nat} (hc:I.L.length<=cap) (hm:cap<=maxLen) (hT:0<I.L.length->ao=some ⟨g,0,none⟩/\g<w.heap.size/\HoldsToks w g I.L) (hG:GlobT w) :
  Calls Tryz.prog 50 #[.slice ao I.L.length cap,.int .i64 (I.len:Int)] w (RPost w (Ps.program I)):=by
 by_cases h0:0<I.L.length
 ·obtain ⟨rfl,hg,ht⟩:=hT h0
  exact zEd aV hL ht hg hc hm hG
 ·obtain ⟨L,len⟩:=I
  have NM:L=[]:=List.eq_nil_of_length_eq_zero (by simpa using h0);subst NM;rw [program_none];exact readProgramE hm
def PPost (w:World) (t:List UInt8) (r:Ending) (w':World):Prop :=
 Below w.heap.size w w'/\∃ a n c,r=.returned (.tuple #[.agg #[.slice a n c],.agg #[.int .i64 (parseT t).2.1,.int .i64 (parseT t).2.2]])/\HNds (fun i=>w.heap.size<=i) w' (.slice a n c) (parseT t).1
theorem parse_any (aV:FormC) (s:ByteArray) (w:World) (hs:s.size<=1000000) (hG:GlobT w):Calls Tryz.prog 21 #[.string s] w (PPost w s.data.toList):=by
 have bo:s.data.toList.length=s.size:=Array.length_toList;have hL:(Tk.scan s.data.toList).1.length<=1099511627776:=by
  have:=scan_len s.data.toList;omega
 obtain ⟨W,hW⟩:=nmQ ((w.alloc (.cells #[.slice none 0 0] 24 (0,0))).alloc (.cells #[.int .i64 0,.int .i64 0] 29 (0,0)));have zW:W.heap.size=w.heap.size+1+1:=(by rw [hW];simp);have bW:Below w.heap.size w W:=(by rw [hW];exact ((Below.refl _ w).alloc nR _).alloc (by simp) _);have hP:W.heap[w.heap.size]?=some (.cells #[.slice none 0 0] 24 (0,0)):=(by rw [hW];exact kA (zAC w _) _);have hF:W.heap[w.heap.size+1]?=some (.cells #[.int .i64 0,.int .i64 0] 29 (0,0)):=by
  have:=zAC (w.alloc (.cells #[.slice none 0 0] 24 (0,0))) (.cells #[.int .i64 0,.int .i64 0] 29 (0,0));have e:(w.alloc (.cells #[.slice none 0 0] 24 (0,0))).heap.size=w.heap.size+1:=(by simp);rw [e] at this;rw [hW];exact this
 go_enter Tryz.func21,Tryz.ntmps21;go_wp2_with fail;rw [<-hW];clear hW;refine (scan_any s _ (by omega)).mono ?_;rintro r w1 ⟨v,rfl,ah,b1⟩;obtain ⟨L,GJ⟩:=nmQ ((Tk.scan s.data.toList).1);obtain ⟨c,Ek⟩:=nmQ ((Tk.scan s.data.toList).2.1);obtain ⟨a,had⟩:=nmQ ((Tk.scan s.data.toList).2.2);rw [<-GJ] at ah hL;rw [<-Ek,<-had];obtain ⟨ao,g,cap,rfl,aC,av,hT⟩:=toks_slice ah;have xR:Hid (parseT s.data.toList=if c=0 then match Ps.program ⟨L,s.data.toList.length⟩ with | .ok l _=>(l,0,0) | .err c a=>([],(c:Int),(a:Int)) else ([],c,a)):=by
  show parseT s.data.toList=_
  unfold parseT;rw [GJ,Ek,had];rfl
 clear GJ Ek had ah;have z1:=b1.size;have B1:Below w.heap.size w w1:=bW.trans (b1.mono (by omega));have p7:=(aside b1 (S:=[])).keep hP (by omega) (by simp);have nU:=(aside b1 (S:=[])).keep hF (by omega) (by simp);have cm:=av;unfold maxLen at cm;clear hP hF b1;by_cases eQ:c=0
 ·have hk:(c==0)=true:=beq_iff_eq.2 eQ
  have HP:=xR.out;rw [if_pos eQ] at HP;have Al:=zAA HP;clear HP;subst eQ;go_wp2_with fail;have et:0<L.length->ao=some ⟨g,0,none⟩/\g<(w1.alloc (.cells #[.int .i64 0,.int .i64 a] 29 (0,0))).heap.size/\HoldsToks (w1.alloc (.cells #[.int .i64 0,.int .i64 a] 29 (0,0))) g L:=fun h0=>by
   obtain ⟨e1,_,e3,e4⟩:=hT h0;exact ⟨e1,by simp;omega,e4.keep (keepB _ e3)⟩
  have ag:=zDz aV (I:=⟨L,s.data.toList.length⟩) hL aC av et (hG.keep (Nat.le_trans B1.size (by simp)) ((Below.heap_alloc _ _ _ (Nat.lt_of_lt_of_le hG.1 B1.size)).trans (B1.block 7 hG.1)));rw [bo] at ag Al;refine ag.mono ?_;rintro r w3 ⟨b3,hres⟩;have z3:w1.heap.size+1<=w3.heap.size:=(by simpa using b3.size);have CU:=(aside b3 (S:=[])).keep (kA p7 _) (by simp;omega) (by simp);have rl:=(aside b3 (S:=[])).keep (kA nU _) (by simp;omega) (by simp);have B3:Below w.heap.size w w3:=(B1.alloc (by omega) _).trans (b3.mono (by simp;omega));have p0:=co CU 0;have f0:=co rl 0;have f1:=co rl 1;have fP:=fun o=>fo CU o;have fF:=fun o=>fo rl o;simp at p0 f0 f1;clear ag hT et p7 nU b3
  cases hp:Ps.program ⟨L,s.size⟩ with
  | ok l n=>
   rw [hp] at hres;obtain ⟨a',n',c',rfl,hN⟩:=hres;have HE:Hid (parseT s.data.toList=(l,0,0)):=by
    show parseT s.data.toList=_
    rw [Al.out,hp]
   clear hp Al xR;have gH:=(nodes_of (hN.wide' (ok':=fun i=>w.heap.size+1<i) (fun i hi _=>by simp at hi;omega)));go_wp2;refine bodyPost_ret (v:=.tuple #[.agg #[.slice a' n' c'],.agg #[.int .i64 0,.int .i64 0]]) (by simp [results,Tryz.results21,go_sem,p0,f0,f1]) rfl ?_;refine ⟨((B3.setCell (p:=⟨w.heap.size,0,none⟩) nR _).setCell (p:=⟨w.heap.size+1,0,none⟩) (Nat.le_succ _) _).setCell (p:=⟨w.heap.size+1,1,none⟩) (Nat.le_succ _) _,a',n',c',by rw [HE.out],?_⟩;rw [HE.out];exact zBm ((((gH.set (p:=⟨w.heap.size,0,none⟩) (by simp) _).set (p:=⟨w.heap.size+1,0,none⟩) (by simp) _).set (p:=⟨w.heap.size+1,1,none⟩) (by simp) _).wide (fun i hi _=>by omega))
  | err c' a'=>
   rw [hp] at hres;obtain rfl:r=_:=hres;have HE:Hid (parseT s.data.toList=([],(c':Int),(a':Int))):=by
    show parseT s.data.toList=_
    rw [Al.out,hp]
   clear hp Al xR;go_wp2;refine bodyPost_ret (v:=.tuple #[.agg #[.slice none 0 0],.agg #[.int .i64 (c':Int),.int .i64 (a':Int)]]) (by simp [results,Tryz.results21,go_sem,p0,f0,f1]) rfl ?_;refine ⟨((B3.setCell (p:=⟨w.heap.size,0,none⟩) nR _).setCell (p:=⟨w.heap.size+1,0,none⟩) (Nat.le_succ _) _).setCell (p:=⟨w.heap.size+1,1,none⟩) (Nat.le_succ _) _,none,0,0,by rw [HE.out],?_⟩;rw [HE.out];exact zBm HRow.nil
 ·have hk:(c==0)=false:=beq_eq_false_iff_ne.2 eQ
  have HE:Hid (parseT s.data.toList=([],c,a)):=by
   show parseT s.data.toList=_
   rw [xR.out,if_neg eQ]
  clear xR hT;have p0:=co p7 0;have f0:=co nU 0;have f1:=co nU 1;have fP:=fun o=>fo p7 o;have fF:=fun o=>fo nU o;simp at p0 f0 f1;have zp:w.heap.size<w1.heap.size:=(by omega);have zf:w.heap.size+1<w1.heap.size:=(by omega);go_wp2
  go_region
  all_goals
   go_wp2;refine bodyPost_ret (v:=.tuple #[.agg #[.slice none 0 0],.agg #[.int .i64 c,.int .i64 a]]) (by simp [results,Tryz.results21,go_sem,p0,f0,f1,zp,zf]) rfl ?_;refine ⟨((((B1.setCell (p:=⟨w.heap.size,0,none⟩) nR _).setCell (p:=⟨w.heap.size+1,0,none⟩) (Nat.le_succ _) _).setCell (p:=⟨w.heap.size+1,1,none⟩) (Nat.le_succ _) _).alloc (by simp [World.setCell];omega) _).drew,none,0,0,by rw [HE.out],?_⟩;rw [HE.out];exact zBm HRow.nil
def ExSt (N0 eb:Nat) (w:World) (e:Ex):Prop :=
 ∃ (vS vL:Value) (okS okL:Nat->Prop),w.heap[eb]?=some (.cells #[.int .i64 e.op,.int .i64 e.k,.int .i64 e.n,.string e.name,vS,vL] 54 (0,0))/\OwnX kSize okS w vS e.S/\OwnX kExpr okL w vL e.L/\(∀ i,okS i->N0<=i)/\(∀ i,okL i->N0<=i)/\∀ i,okS i->¬okL i
structure Env (b g rb eb N0:Nat):Prop where
 b0:b<N0
 g0:g<N0
 r0:rb<N0
 e0:eb<N0
 nr:rb≠b
 ne:eb≠b
 ng:eb≠g
 nx:rb≠eb
def PostE (b g cap eb N0:Nat) (I:Inp) (op nx:Nat) (w:World) (res:Res Ex) (r:Ending) (w':World):Prop :=
 Aside [b,eb] N0 w w' /\
 match res with
 | .ok e n1=>nx<=n1/\Rd w' b g cap I.L I.len n1 op/\r=.returned (.tuple #[])/\ExSt N0 eb w' e
 | .err c a=>r=upE c a
theorem PostE.fail {b g cap eb N0:Nat} {I:Inp} {op nx:Nat} {w:World} {res:Res Ex} {w':World} {c a:Nat} (h:res=.err c a) (hA:Aside [b,eb] N0 w w'):PostE b g cap eb N0 I op nx w res (upE c a) w':=by
 subst h;exact ⟨hA,rfl⟩
theorem PostE.good {b g cap eb N0:Nat} {I:Inp} {op nx:Nat} {w:World} {res:Res Ex} {w':World} {e:Ex} {n1:Nat} (h:res=.ok e n1) (hA:Aside [b,eb] N0 w w') (hn:nx<=n1) (hR:Rd w' b g cap I.L I.len n1 op) (hS:ExSt N0 eb w' e):PostE b g cap eb N0 I op nx w res (.returned (.tuple #[])) w':=by
 subst h;exact ⟨hA,hn,hR,rfl,hS⟩
theorem zBg {b eb B:Nat} {w w':World} (h:Aside [b] B w w'):Aside [b,eb] B w w':=h.wide fun k _ hk hm=>hk (by simp at hm ⊢;exact .inl hm)
theorem sizeC_any {b g cap rb eb N0:Nat} {I:Inp} {op nx:Nat} {E:Nat->Res Ex} {e:Ex} {w:World} (hv:Env b g rb eb N0) (h:Rd w b g cap I.L I.len nx op) (dO:N0<=w.heap.size) (hrb:w.heap[rb]?=some (.cells #[.pointer (some ⟨b,0,none⟩)] 124 (0,0))) (hS:ExSt N0 eb w e) (aP:e.S.length<=1000) :
  Calls Tryz.prog 280 #[.pointer (some ⟨eb,0,none⟩),.pointer (some ⟨rb,0,none⟩)] w (PostE b g cap eb N0 I op nx w (Ps.part I E .size e nx)):=by
 obtain ⟨vS,vL,okS,okL,jL,lK,lu,dd,aM,cY⟩:=hS;obtain ⟨v0,v1,v2,v3,v4,v5,v6,v7⟩:=hv;obtain ⟨aS,cS,rfl,fp,fc⟩:=lK.form;obtain ⟨aL,cL,rfl,ry,mx⟩:=lu.form;have iB:Rd w.drew b g cap I.L I.len nx op:=h.drew;have eP:w.drew.heap[eb]?=some (.cells #[.int .i64 e.op,.int .i64 e.k,.int .i64 e.n,.string e.name,.slice aS e.S.length cS,.slice aL e.L.length cL] 54 (0,0)):=jL;have li:w.drew.heap[rb]?=some (.cells #[.pointer (some ⟨b,0,none⟩)] 124 (0,0)):=hrb;have gJ:Aside [b,eb] N0 w w.drew:=(Aside.refl w).drew;have qx:w.drew.heap.size=w.heap.size:=rfl;have iR:=(lK.under (Below.refl _ w).drew).wide (ok':=fun i=>okS i/\i<w.heap.size) (fun i hi hl=>⟨hi,hl⟩);have iL:=(lu.under (Below.refl _ w).drew).wide (ok':=fun i=>okL i/\i<w.heap.size) (fun i hi hl=>⟨hi,hl⟩);go_enter Tryz.func280,Tryz.ntmps280;go_wp2_with fail;refine zAE (fun w'=>w'.cell? ⟨eb,4,none⟩=some (.slice aS e.S.length cS)/\w'.cell? ⟨rb,0,none⟩=some (.pointer (some ⟨b,0,none⟩))) (fun j=>decide (j=7)) (by kernel_rfl) ?_;generalize w.drew=wd at iB eP li gJ qx iR iL ⊢;clear h jL hrb lK lu;have c4:=co eP 4;have cr:=co li 0;simp only [gT,gZ,gS] at c4 cr;have hH:=And.intro c4 cr;refine' tjQ 0 hH ?hyv ?o1
 case hyv=>
  intro wz ae;obtain ⟨k0,k1⟩:=ae;go_simp
  try rfl
 try simp only [Act.put,sT,sZ,sS]
 refine' tjQ 1 hH ?hyv ?o2
 case hyv=>
  intro wz ae;obtain ⟨k0,k1⟩:=ae;go_simp
  try rfl
 try simp only [Act.put,sT,sZ,sS]
 refine' tjQ 2 hH ?hyv ?o3
 case hyv=>
  intro wz ae;obtain ⟨k0,k1⟩:=ae;go_simp
  try rfl
 try simp only [Act.put,sT,sZ,sS]
 refine tnQ 3 (fun K hK=>?_);go_simp;refine (zCb iB).mono ?_;rintro r w6 ⟨a6,hres⟩;have z6:=a6.size;have A6:Aside [b,eb] N0 w w6:=gJ.trans (zBg a6) (by omega);have dN:=a6.keep eP (by omega) (by simp;omega);have j8:=a6.keep li (by omega) (by simp;omega);have iy:=iR.past a6 (fun i hi=>by have:=dd i hi.1;simp;omega);have jJ:=iL.past a6 (fun i hi=>by have:=aM i hi.1;simp;omega);clear iB eP li gJ iR iL hH c4 cr a6
 cases ht:Ps.size I nx with
 | err c0 a0=>
  rw [ht] at hres;obtain rfl:r=_:=hres;exact ⟨rfl,PostE.fail (by unfold Ps.part;simp only [];rw [ht];rfl) A6⟩
 | ok y n2=>
  rw [ht] at hres;obtain ⟨od,h6,_,rfl,hV⟩:=hres;obtain ⟨ad,nd,cd,rfl⟩:=HTerms.slice hV;have m6:Hid (Ps.part I E .size e nx=.ok (Ps.Ex.addS e y) n2):=by
   show Ps.part I E .size e nx=_
   unfold Ps.part;simp only [];rw [ht];rfl
  clear ht;have c4:=co dN 4;have cr:=co j8 0;simp only [gT,gZ,gS] at c4 cr;refine hK.out _ _ (fun _=>And.intro c4 cr) ?_;clear hK K
  try simp only [Act.put,sT,sZ,sS]
  have pn:=co (kA dN (.cells #[.slice ad nd cd] 33 (0,0))) 4;have pe:=co (kA j8 (.cells #[.slice ad nd cd] 33 (0,0))) 0;simp only [gT,gZ,gS] at pn pe;have mB:=zAA (And.intro pn pe);clear pn pe;have q1:kSize.E (fun i=>wd.heap.size<=i) w6 [.slice ad nd cd] y:=⟨_,rfl,hV⟩;have q2:(e.S.length+1)*kSize.bytes<=140737488355328:=(by show (e.S.length+1)*24<=_;omega);have q3:e.S.length+1<=maxLen:=(by unfold maxLen;omega);refine tnQ 4 (fun K hK=>?_);go_simp;refine hK.out _ _ (fun _=>mB.out) ?_;clear hK K
  try simp only [Act.put,sT,sZ,sS]
  refine tnQ 5 (fun K hK=>?_);refine zBx kSize _ _ 51 33 rfl Tryz.underlying51 wd.heap.size _ _ e.S (by rfl) iy [.slice ad nd cd] y q1 (by rfl) (fun i hi=>by omega) z6 q2 q3 ?_;intro v8 w8 i7 g8;have eL:=fun k hk=>(iy.lt k hk).1;obtain ⟨z8,bf⟩:=zAu (ok:=fun i=>okS i/\i<w.heap.size) g8 eL;have A8:Aside [b,eb] N0 w w8:=A6.trans (zBb (S:=[b,eb]) g8 eL (fun i hi=>dd i hi.1) (by omega)) nR;have ik:=(bf eb (zAB dN) (fun hh=>by have:=dd eb hh.1;omega)).trans dN;have yO:=(bf rb (zAB j8) (fun hh=>by have:=dd rb hh.1;omega)).trans j8;have mX:=jJ.keep z8 (fun i hi hl=>bf i hl (fun hh=>cY i hh.1 hi.1));have h8:Rd w8 b g cap I.L I.len n2 op:=⟨(bf b h6.bb (fun hh=>by have:=dd b hh.1;omega)).trans h6.here,h6.toks.keep (bf g h6.gb (fun hh=>by have:=dd g hh.1;omega)),h6.apart,Nat.lt_of_lt_of_le h6.gb z8,h6.le,h6.lc,h6.cm⟩;clear A6 dN j8 iy jJ h6 q1 c4 cr mB g8 bf eL;have c4:=co ik 4;have cr:=co yO 0;simp only [gT,gZ,gS] at c4 cr;refine hK.out _ _ (fun _=>And.intro c4 cr) ?_;clear hK K
  try simp only [Act.put,sT,sZ,sS]
  obtain ⟨gQ,gO,km,_,_⟩:=i7.form;rw [List.length_append,List.length_singleton] at km;subst km;have f8:=fun o=>fo ik o;refine tnQ 6 (fun K hK=>?_);go_simp;refine hK.out _ _ (fun _=>And.intro c4 cr) ?_;clear hK K
  try simp only [Act.put,sT,sZ,sS]
  refine tnQ 7 (fun K hK=>?_);go_simp;refine hK.out _ _ (fun h=>by cases h) ?_;clear hK K
  try simp only [Act.put,sT,sZ,sS]
  refine zAF (by kernel_rfl) ?_ _;have eo:=zAD ik 4 (.slice gQ (e.S.length+1) gO);have h9:=h8.set (p:=⟨eb,4,none⟩) (by simp;omega) (by simp;omega) (.slice gQ (e.S.length+1) gO);have A9:Aside [b,eb] N0 w (w8.setCell ⟨eb,4,none⟩ (.slice gQ (e.S.length+1) gO)):=A8.trans (Aside.setCell (by simp) _) nR;have iM:=i7.set (p:=⟨eb,4,none⟩) (by intro hh;have eY:(okS eb/\eb<w.heap.size)\/wd.heap.size<=eb:=hh;rcases eY with q | q;exact absurd (dd eb q.1) (by omega);omega) (.slice gQ (e.S.length+1) gO);have jq:=mX.set (p:=⟨eb,4,none⟩) (by intro hh;have eY:okL eb/\eb<w.heap.size:=hh;have:=aM eb eY.1;omega) (.slice gQ (e.S.length+1) gO);simp only [sT,sZ,sS] at eo;go_wp2;go_end0;exact PostE.good m6.out A9 od h9 ⟨_,_,fun i=>(okS i/\i<w.heap.size)\/wd.heap.size<=i,fun i=>okL i/\i<w.heap.size,eo,iM,jq,fun i hi=>hi.elim (fun q=>dd i q.1) (fun q=>by omega),fun i hi=>aM i hi.1,fun i hi hj=>hi.elim (fun q=>cY i q.1 hj.1) (fun q=>by omega)⟩
end Go.Proofs.YtkfgbhlpjkkgfaaGreatDoor
