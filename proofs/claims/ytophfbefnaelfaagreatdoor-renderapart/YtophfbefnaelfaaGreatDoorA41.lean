import Derived.Test.YtophfbefnaelfaaGreatDoorA30
import Derived.Test.YtophfbefnaelfaaGreatDoorA40
import Derived.Test.YtophfbefnaelfaaGreatDoorA09
import Derived.Test.YtophfbefnaelfaaGreatDoorA39
set_option linter.unusedVariables false
set_option linter.unusedSimpArgs false
set_option maxHeartbeats 64000000
set_option maxRecDepth 100000
namespace Go.Proofs.YtophfbefnaelfaaGreatDoor
open Go.RowKit Go.IntWalk
def begT:ByteArray:=⟨#[110,111,100,101,32,97,40,41,32,45,62,32,40,121,58,32,105,110,116,94,50,41,32,123,32,121,32,61,32,102,105,108,108,40,45,40,49,32,43,32,50,41,44,32,50,41,59,32,125]⟩
def begN:List Nd:=[⟨⟨#[97]⟩,0,[],[],[⟨⟨#[121]⟩,105,[(2,⟨#[]⟩)]⟩],[],[⟨25,[⟨#[121]⟩],⟨#[]⟩,[],[(.mk 10 0 0 ⟨#[]⟩ [[(2,⟨#[]⟩)]] [.mk 4 13 0 ⟨#[]⟩ [] [.mk 5 1 0 ⟨#[]⟩ [] [(.mk 1 0 1 ⟨#[]⟩ [] []),(.mk 1 0 2 ⟨#[]⟩ [] [])]]])]⟩]⟩]
theorem beg_parse:parseT begT.data.toList=(begN,0,0):=by kernel_rfl
theorem beg_num1:Tx.num 1=⟨#[49]⟩:=by
 unfold Tx.num Lib.itoa;rw [if_neg (by decide),Lib.decDigits,dif_pos (by decide)];rfl
theorem beg_num2:Tx.num 2=⟨#[50]⟩:=by
 unfold Tx.num Lib.itoa;rw [if_neg (by decide),Lib.decDigits,dif_pos (by decide)];rfl
theorem beg_pieces:Tx.progP begN=[⟨#[110,111,100,101,32]⟩,⟨#[97]⟩,⟨#[40]⟩,⟨#[41,32,45,62,32,40]⟩,⟨#[121]⟩,⟨#[58,32]⟩,⟨#[105,110,116]⟩,⟨#[94]⟩,⟨#[]⟩,Tx.num 2,⟨#[41,32,123,10]⟩,⟨#[9]⟩,⟨#[121]⟩,⟨#[32,61,32]⟩,⟨#[102,105,108,108]⟩,⟨#[40]⟩,⟨#[45]⟩,⟨#[40]⟩,Tx.num 1,⟨#[32,43,32]⟩,Tx.num 2,⟨#[41]⟩,⟨#[44,32]⟩,⟨#[]⟩,Tx.num 2,⟨#[41]⟩,⟨#[59,10]⟩,⟨#[125,10]⟩]:=by kernel_rfl
theorem beg_cat:Tx.cat (Tx.progP begN)=⟨#[110,111,100,101,32,97,40,41,32,45,62,32,40,121,58,32,105,110,116,94,50,41,32,123,10,9,121,32,61,32,102,105,108,108,40,45,40,49,32,43,32,50,41,44,32,50,41,59,10,125,10]⟩:=by
 rw [beg_pieces,beg_num1,beg_num2];rfl
theorem beg_nodes:Rn.nodesC begN=(0,0):=by kernel_rfl
theorem beg_printC:Tx.printC begN=(0,0):=by
 unfold Tx.printC;rw [beg_nodes,if_neg (by simp),beg_cat];rfl
theorem beg_printT:Tx.printT begN=⟨#[110,111,100,101,32,97,40,41,32,45,62,32,40,121,58,32,105,110,116,94,50,41,32,123,10,9,121,32,61,32,102,105,108,108,40,45,40,49,32,43,32,50,41,44,32,50,41,59,10,125,10]⟩:=by
 unfold Tx.printT;rw [beg_printC,if_neg (by simp),beg_cat]
theorem beg_nsF:Rn.nsF begN:=by
 have hs:∀ s:ByteArray,s.size≤100→Rn.nmF s:=fun s h=>by unfold Rn.nmF maxLen;omega
 intro n hn;simp only [begN,List.mem_singleton] at hn;subst hn;refine ⟨⟨hs _ (by decide),fun s hs=>by simp at hs,fun d hd=>by simp at hd,fun d hd=>?_,fun d hd=>by simp at hd⟩,by decide,fun q hq=>?_⟩
 ·simp only [List.mem_singleton] at hd
  subst hd;refine ⟨hs _ (by decide),fun t ht=>?_⟩;simp only [List.mem_singleton] at ht;subst ht;exact hs _ (by decide)
 ·simp only [List.mem_singleton] at hq
  subst hq;refine ⟨fun s hs'=>?_,hs _ (by decide),fun s hs'=>by simp at hs',fun e he=>?_⟩
  ·simp only [List.mem_singleton] at hs'
   subst hs';exact hs _ (by decide)
  ·simp only [List.mem_singleton] at he
   subst he;have h0:Rn.nmF ⟨#[]⟩:=hs _ (by decide);have hsz:∀ s ∈ [[((2:Int),(⟨#[]⟩:ByteArray))]],Rn.szF s:=fun s hs' t ht=>by
    simp only [List.mem_singleton] at hs';subst hs';simp only [List.mem_singleton] at ht;subst ht;exact h0
   have hno:∀ s ∈ ([]:List (List Tm)),Rn.szF s:=fun s hs'=>by simp at hs'
   simp only [Rn.exF,Rn.exsF];exact ⟨h0,hsz,⟨h0,hno,⟨h0,hno,⟨h0,hno,True.intro⟩,⟨h0,hno,True.intro⟩,True.intro⟩,True.intro⟩,True.intro⟩
theorem begun_any (w:World) (hT:GlobT w) (hg:Gl (fun i=>i<w.heap.size) w):Calls Tryz.prog 8 #[] w fun e w'=>e=.returned (.bool true)∧Below w.heap.size w w':=by
 have hp:=parse_all begT w (by decide) hT;unfold PPost at hp;rw [beg_parse] at hp
 dsimp only at hp
 unfold begT at hp;go_enter Tryz.func8,Tryz.ntmps8;go_wp2_with fail;refine hp.mono ?_;rintro e w1 ⟨b1,a,n,c,rfl,hN⟩;clear hp;have bA:Below w1.heap.size w1 ((w1.alloc (.cells #[.slice a n c] 24 (0,0))).alloc (.cells #[.int .i64 0,.int .i64 0] 28 (0,0))):=((Below.refl _ _).alloc nR _).alloc (by simp) _;have BA:=b1.trans (bA.mono b1.size);have kP:((w1.alloc (.cells #[.slice a n c] 24 (0,0))).alloc (.cells #[.int .i64 0,.int .i64 0] 28 (0,0))).heap[w1.heap.size]?=some (.cells #[.slice a n c] 24 (0,0)):=(Below.heap_alloc _ _ _ (by simp)).trans (heap_new w1 _);have kZ:((w1.alloc (.cells #[.slice a n c] 24 (0,0))).alloc (.cells #[.int .i64 0,.int .i64 0] 28 (0,0))).heap[w1.heap.size+1]?=some (.cells #[.int .i64 0,.int .i64 0] 28 (0,0)):=by
  have:=heap_new (w1.alloc (.cells #[.slice a n c] 24 (0,0))) (.cells #[.int .i64 0,.int .i64 0] 28 (0,0))
  simpa using this
 go_upto_region 2 with fail;generalize ((w1.alloc (.cells #[.slice a n c] 24 (0,0))).alloc (.cells #[.int .i64 0,.int .i64 0] 28 (0,0)))=W at bA BA kP kZ ⊢;have hgW:Gl (fun i=>i<W.heap.size) W:=by
  have g:=hg.keep (Keep.ofBelow BA);have:=BA.size;exact ⟨g.s,g.o,g.t,Nat.lt_of_lt_of_le hg.k0 this,Nat.lt_of_lt_of_le hg.k1 this,Nat.lt_of_lt_of_le hg.k2 this⟩
 have hpr:=print_any (hN.under bA) hgW beg_nsF;rw [beg_printT,beg_printC] at hpr
 dsimp only at hpr
 have p0:=co kP 0;simp at p0;go_wp2_with fail;refine hpr.mono ?_;rintro e w2 ⟨rfl,b2⟩;have kZ2:=(b2.block _ (lt_of kZ)).trans kZ;have B2:=BA.trans (b2.mono BA.size);have bF:Below w2.heap.size w2 (w2.alloc (.cells #[.int .i64 0,.int .i64 0] 28 (0,0))):=(Below.refl _ _).alloc nR _;have kZ3:=(bF.block _ (lt_of kZ2)).trans kZ2;have kF:=heap_new w2 (.cells #[.int .i64 0,.int .i64 0] 28 (0,0));go_upto_region 3 with fail;generalize (w2.alloc (.cells #[.int .i64 0,.int .i64 0] 28 (0,0)))=V at bF kZ3 kF ⊢;have z0:=co kZ3 0;have f0:=co kF 0;simp at z0 f0;go_wp2;go_ret;exact ⟨rfl,B2.trans (bF.mono B2.size)⟩
theorem weighN_any {ok:Nat→Prop} {w:World} {v:Value} {l:List ByteArray} (hl:HNames ok w v l) (z:Int) (hz0 : -1000000000000000≤z) (hz1:z≤10000) :
  Calls Tryz.prog 18 #[v,.int .i64 z] w fun e w'=>(∃ y,e=.returned (.int .i64 y)∧((0≤y→(∀ s ∈ l,s.size≤100)∧y≤z)∧(z-2000≤y∨y = -1)))∧w'=w:=by
 obtain ⟨ao,cap,rfl,hc1,hc2,hat⟩:=hl.at;unfold maxLen at hc2;obtain ⟨n,hn⟩:=nmQ (l.length);rw [←hn] at hc1 ⊢;have HN:=hide hn;clear hn;by_cases hbig:2000<n
 ·have hd:decide ((2000:Int)<(n:Int))=true:=by simp;omega
  clear hat;go_enter Tryz.func18,Tryz.ntmps18;go_wp2;go_ret;exact ⟨⟨_,rfl,fun h=>absurd h (by decide),.inr rfl⟩,rfl⟩
 ·have hd:decide ((2000:Int)<(n:Int))=false:=by simp;omega
  go_enter Tryz.func18,Tryz.ntmps18;go_wp2;go_loopg [5] n (fun k v wr=>∃ i,i≤n∧k=n-i∧v=.int .i64 (i:Nat)∧Hid (∀ j (h:j<l.length),j<i→l[j].size≤100)∧wr=w)
  case atStart=>exact ⟨0,Nat.zero_le _,rfl,rfl,hide (fun j _ h=>absurd h (Nat.not_lt_zero _)),rfl⟩
  case round=>
   obtain ⟨i,hi,rfl,rfl,H,rfl⟩:=hrel;by_cases hlt:i<n
   ·have hil:i<l.length:=by have:=HN.out;omega
    obtain ⟨b,o,rfl,hb,hc⟩:=hat i hil;obtain ⟨x,hx⟩:=nmQ (l[i]);rw [←hx] at hc;have HX:=hide hx;clear hat hx;by_cases h100:100<x.size
    ·have hd2:decide ((100:Int)<(x.size:Int))=true:=by simp;omega
     go_wp2;go_ret;exact ⟨⟨_,rfl,fun h=>absurd h (by decide),.inr rfl⟩,rfl⟩
    ·have hd2:decide ((100:Int)<(x.size:Int))=false:=by simp;omega
     go_wp2;go_roundg (n-(i+1))
     case measure=>omega
     case rel=>exact ⟨i+1,by omega,rfl,by go_num,hide (fun j hj hji=>by
      by_cases e:j=i
      ·subst e;rw [←HX.out];omega
      ·exact H.out j hj (by omega)),rfl⟩
   ·have hie:i=n:=by omega
    subst hie;clear hat;go_wp2;go_ret;refine ⟨⟨_,rfl,fun _=>⟨fun s hs=>?_,by omega⟩,.inl (by omega)⟩,rfl⟩;obtain ⟨j,hj,rfl⟩:=List.getElem_of_mem hs;exact H.out j hj (by have:=HN.out;omega)
theorem weighS_any {ok:Nat→Prop} {w:World} {v:Value} {l:List (List Tm)} (hl:HSizes ok w v l) (z:Int) (hn13:l.length≤10000000000000) (hz0 : -1000000000000000≤z) (hz1:z≤10000) :
  Calls Tryz.prog 20 #[v,.int .i64 z] w fun e w'=>(∃ y,e=.returned (.int .i64 y)∧((0≤y→(∀ s ∈ l,∀ t ∈ s,t.2.size≤100)∧y≤z)∧(z-10000000000000≤y ∨ -2000≤y)))∧w'=w:=by
 obtain ⟨ao,cap,rfl,hc1,hc2,hat⟩:=hl.at;unfold maxLen at hc2;obtain ⟨n,hn⟩:=nmQ (l.length);rw [←hn] at hc1 hn13 ⊢;have HN:=hide hn;clear hn;obtain ⟨zz,hzz⟩:=nmQ (z);have HZZ:=hide hzz;clear hzz;go_enter Tryz.func20,Tryz.ntmps20;go_wp2;go_loopg [1,5] n (fun k v1 v wr=>∃ i y,i≤n∧k=n-i∧v=.int .i64 (i:Nat)∧v1=.int .i64 y∧Hid (∀ j (h:j<l.length),j<i→∀ t ∈ l[j],t.2.size≤100)∧Hid (y≤z∧(z-10000000000000≤y ∨ -2000≤y))∧wr=w)
 case atStart=>exact ⟨0,_,Nat.zero_le _,rfl,rfl,rfl,hide (fun j _ h=>absurd h (Nat.not_lt_zero _)),hide ⟨by omega,.inl (by omega)⟩,rfl⟩
 case round=>
  obtain ⟨i,y,hi,rfl,rfl,rfl,H,HB,rfl⟩:=hrel;by_cases hlt:i<n
  ·by_cases hz:0≤y
   ·have hdz:decide ((0:Int)≤y)=true:=by simp [hz]
    have hil:i<l.length:=(by have:=HN.out;omega);obtain ⟨b,o,au,nu,cu,rfl,hb,hc,ht⟩:=hat i hil;obtain ⟨ao',cap',hv,hd1,hd2,hat'⟩:=ht.at;injection hv with q1 q2 q3;subst q1 q2 q3;unfold maxLen at hd2;obtain ⟨m,hm⟩:=nmQ ((l[i]).length);rw [←hm] at hc hd1;have HM:=hide hm;clear hat hm;by_cases h2:2000<m
    ·have hd3:decide ((2000:Int)<(m:Int))=true:=by simp;omega
     go_wp2;go_ret;exact ⟨⟨_,rfl,fun h=>absurd h (by decide),.inr (by decide)⟩,rfl⟩
    ·have hd3:decide ((2000:Int)<(m:Int))=false:=by simp;omega
     go_wp2;go_loopg [6] m (fun k v wr'=>∃ j,j≤m∧k=m-j∧v=.int .i64 (j:Nat)∧Hid (∀ q (h:q<(l[i]).length),q<j→((l[i])[q]).2.size≤100)∧wr'=wr)
     case atStart=>exact ⟨0,Nat.zero_le _,rfl,rfl,hide (fun j _ h=>absurd h (Nat.not_lt_zero _)),rfl⟩
     case round=>
      obtain ⟨j,hj,rfl,rfl,HJ,rfl⟩:=hrel;by_cases hjt:j<m
      ·have hjl:j<(l[i]).length:=by have:=HM.out;omega
       obtain ⟨b',o',rfl,hb',hc',hd'⟩:=hat' j hjl;obtain ⟨x,hx⟩:=nmQ (((l[i])[j]).2);rw [←hx] at hd';have HX:=hide hx;clear hat' hc' hx;by_cases h100:100<x.size
       ·have hd2:decide ((100:Int)<(x.size:Int))=true:=by simp;omega
        go_wp2;go_ret;exact ⟨⟨_,rfl,fun h=>absurd h (by decide),.inr (by decide)⟩,rfl⟩
       ·have hd2:decide ((100:Int)<(x.size:Int))=false:=by simp;omega
        go_wp2;go_roundg (m-(j+1))
        case measure=>omega
        case rel=>exact ⟨j+1,by omega,rfl,by go_num,hide (fun q hq hqj=>by
         by_cases e:q=j
         ·subst e;rw [←HX.out];omega
         ·exact HJ.out q hq (by omega)),rfl⟩
      ·have hje:j=m:=by omega
       subst hje;clear hat';go_wp2;go_roundg (n-(i+1))
       case measure=>omega
       case rel=>exact ⟨i+1,y-(j:Int),by omega,rfl,by go_num,by rw [wrap64_in _ (by have:=HB.out;omega)],hide (fun q hq hqi t hmem=>by
        by_cases e:q=i
        ·subst e
         obtain ⟨r,hr,rfl⟩:=List.getElem_of_mem hmem;exact HJ.out r hr (by have:=HM.out;omega)
        ·exact H.out q hq (by omega) t hmem),hide (by have:=HB.out;omega),rfl⟩
   ·have hdz:decide ((0:Int)≤y)=false:=by simp;omega
    clear hat;go_wp2;go_ret;exact ⟨⟨_,rfl,fun h=>absurd h (by omega),HB.out.2⟩,rfl⟩
  ·have hie:i=n:=by omega
   subst hie;clear hat;go_wp2;go_ret;refine ⟨⟨_,rfl,fun _=>⟨fun s hs=>?_,HB.out.1⟩,HB.out.2⟩,rfl⟩;obtain ⟨j,hj,rfl⟩:=List.getElem_of_mem hs;exact H.out j hj (by have:=HN.out;omega)
theorem nmF_of {s:ByteArray} (h:s.size≤100):Rn.nmF s:=by unfold Rn.nmF maxLen;omega
theorem exsF_of:∀ {l:List Ex},(∀ e ∈ l,Rn.exF e)→Rn.exsF l
 | [],_=>by rw [Rn.exsF];trivial
 | x :: l,h=>by rw [Rn.exsF];exact ⟨h x (by simp),exsF_of fun e he=>h e (by simp [he])⟩
theorem exF_mk {e:Ex} (h1:e.name.size≤100) (h2:∀ s ∈ e.S,∀ t ∈ s,t.2.size≤100) (h3:∀ x ∈ e.L,Rn.exF x):Rn.exF e:=by
 obtain ⟨o,k,n,s,S,L⟩:=e;rw [Rn.exF];exact ⟨nmF_of h1,fun s hs t ht=>nmF_of (h2 s hs t ht),exsF_of h3⟩
def Wt (z y:Int):Prop:=z-10000000000000≤y ∨ -10000000000000≤y
def Weighs (q:Nat):Prop:=∀ (ok:Nat→Prop) (w:World) (v:Value) (l:List Ex) (z:Int),partsL l<q→HExs ok w v l→FitXs l → -1000000000000000≤z→z≤10000 →
 Calls Tryz.prog 21 #[v,.int .i64 z] w fun e w'=>(∃ y,e=.returned (.int .i64 y)∧(0≤y→(∀ e ∈ l,Rn.exF e)∧y+(partsL l:Nat)≤z)∧Wt z y)∧w'=w
theorem weighExprs_step (q:Nat) (HI:Weighs q):Weighs (q+1):=by
 intro ok w v l z hqq hl hfx hz0 hz1;have HQ:=hide hqq;have HFX:=hide hfx;clear hqq;obtain ⟨ao,cap,rfl,hc1,hc2,hat⟩:=hl.at;unfold maxLen at hc2;obtain ⟨n,hn⟩:=nmQ (l.length);have hn13:n≤10000000000000:=(by have:=hfx.1;omega);rw [←hn] at hc1 ⊢;have HN:=hide hn;clear hn hfx;go_enter Tryz.func21,Tryz.ntmps21;go_wp2;go_loopg [1,5] n (fun k v1 v wr=>∃ i y,i≤n∧k=n-i∧v=.int .i64 (i:Nat)∧v1=.int .i64 y∧Hid (0≤y→(∀ j (h:j<l.length),j<i→Rn.exF l[j])∧y+(partsL (l.take i):Nat)+((n-i:Nat):Int)≤z)∧Hid (Wt z y)∧wr=w)
 case atStart=>
  refine ⟨0,z-(n:Int),Nat.zero_le _,rfl,rfl,rfl,hide (fun _=>⟨fun j _ h=>absurd h (Nat.not_lt_zero _),?_⟩),hide (.inl (by omega)),rfl⟩;simp [partsL]
 case round=>
  obtain ⟨i,y0,hi,rfl,rfl,rfl,H,HB,rfl⟩:=hrel;by_cases hlt:i<n
  ·by_cases hz:0≤y0
   ·have hdz:decide ((0:Int)≤y0)=true:=by simp [hz]
    have hil:i<l.length:=(by have:=HN.out;omega);have hy0:y0≤10000:=(by have:=(H.out hz).2;omega);obtain ⟨b,o,y,rfl,_,hb,⟨c0,c1,c2,c3,c4,c5⟩,hy⟩:=hat i hil;obtain ⟨g1,g2,g3,g4,yS,yL⟩:=hy.parts;have G4:=hide g4;clear g1 g2 g3 g4;have hqi:partsL (l[i]).L<q:=by
     have h1:=Nat.lt_of_le_of_lt (parts_mem l i hil) HQ.out;obtain ⟨p,hp⟩:=nmQ (l[i]);rw [←hp] at h1 ⊢;obtain ⟨p1,p2,p3,p4,p5,p6⟩:=p;rw [parts] at h1;simp only [Ex.L];omega
    have hfi:=(HFX.out.2 i hil).parts;have hSl:(l[i]).S.length≤10000000000000:=(by have:=hfi.1.1;omega);have HFL:=hide hfi.2;clear hat hy hfi;by_cases h100:100<y.name.size
    ·have hd2:decide ((100:Int)<(y.name.size:Int))=true:=by simp;omega
     go_wp2;go_ret;exact ⟨⟨_,rfl,fun h=>absurd h (by decide),.inr (by decide)⟩,rfl⟩
    ·have hd2:decide ((100:Int)<(y.name.size:Int))=false:=by simp;omega
     go_wp2_with fail;refine (weighS_any yS y0 hSl (by omega) hy0).mono ?_;rintro e w1 ⟨⟨z1,rfl,hs1,hs2⟩,rfl⟩;have HS1:=hide hs1;have hz1l : -10000000000000≤z1:=(by omega);clear hs1 hs2;by_cases hz1:0≤z1
     ·have hdz1:decide ((0:Int)≤z1)=true:=by simp [hz1]
      have hz1u:z1≤y0:=(HS1.out hz1).2;go_wp2_with fail;refine (HI _ _ _ _ z1 hqi yL HFL.out (by omega) (by omega)).mono ?_;rintro e w2 ⟨⟨z2,rfl,ht1,ht2⟩,rfl⟩;have HT1:=hide ht1;have hz2l : -10000000000000≤z2:=(by unfold Wt at ht2;omega);clear ht1 ht2;go_wp2;go_roundg (n-(i+1))
      case measure=>omega
      case rel=>
       refine ⟨i+1,z2,by omega,rfl,by go_num,rfl,hide (fun h2=>⟨fun j hj hji=>?_,?_⟩),hide (.inr hz2l),rfl⟩
       ·by_cases e:j=i
        ·subst e
         exact exF_mk (by rw [←G4.out];omega) (HS1.out hz1).1 (HT1.out h2).1
        ·exact (H.out hz).1 j hj (by omega)
       ·have a1:=(H.out hz).2
        have a2:=(HT1.out h2).2;have a3:=partsL_take l i hil;have a4:parts l[i]=1+partsL (l[i]).L:=by
         obtain ⟨p,hp⟩:=nmQ (l[i]);rw [←hp];obtain ⟨p1,p2,p3,p4,p5,p6⟩:=p;rw [parts];rfl
        omega
     ·have hdz1:decide ((0:Int)≤z1)=false:=by simp;omega
      go_wp2;go_roundg (n-(i+1))
      case measure=>omega
      case rel=>exact ⟨i+1,z1,by omega,rfl,by go_num,rfl,hide (fun h=>absurd h (by omega)),hide (.inr hz1l),rfl⟩
   ·have hdz:decide ((0:Int)≤y0)=false:=by simp;omega
    clear hat;go_wp2;go_ret;exact ⟨⟨_,rfl,fun h=>absurd h (by omega),HB.out⟩,rfl⟩
  ·have hie:i=n:=by omega
   subst hie;clear hat;go_wp2;go_ret;refine ⟨⟨_,rfl,fun h=>⟨fun e he=>?_,?_⟩,HB.out⟩,rfl⟩
   ·obtain ⟨j,hj,rfl⟩:=List.getElem_of_mem he
    exact (H.out h).1 j hj (by have:=HN.out;omega)
   ·have a1:=(H.out h).2
    rw [List.take_of_length_le (by have:=HN.out;omega)] at a1;omega
theorem weighs:∀ q,Weighs q
 | 0=>fun _ _ _ _ _ h=>absurd h (Nat.not_lt_zero _)
 | q+1=>weighExprs_step q (weighs q)
theorem weighE_any {ok:Nat→Prop} {w:World} {v:Value} {l:List Ex} (hl:HExs ok w v l) (z:Int) (hf:FitXs l) (hz0 : -1000000000000000≤z) (hz1:z≤10000) :
  Calls Tryz.prog 21 #[v,.int .i64 z] w fun e w'=>(∃ y,e=.returned (.int .i64 y)∧(0≤y→(∀ e ∈ l,Rn.exF e)∧y+(partsL l:Nat)≤z)∧Wt z y)∧w'=w:=weighs (partsL l+1) _ _ _ _ _ (Nat.lt_succ_self _) hl hf hz0 hz1
theorem HSizes.one {ok:Nat→Prop} {w:World} {a:Option Addr} {n c:Nat} {l:List Tm} (h:HTerms ok w (.slice a n c) l) (t:TypeId) :
  HSizes (fun i=>ok i∨i=w.heap.size) (w.alloc (.cells #[.slice a n c] t (0,0))) (.slice (some ⟨w.heap.size,0,none⟩) 1 1) [l]:=by
 have hn:=heap_new w (.cells #[.slice a n c] t (0,0));refine ⟨fun _=>[.slice a n c],⟨_,1,rfl,Nat.le_refl _,by decide,fun _=>⟨_,0,rfl,.inr rfl,lt_of hn,fun i hi=>⟨rfl,fun j hj=>?_⟩⟩⟩,fun i hi=>⟨_,rfl,?_⟩⟩
 ·have e1:i=0:=by simpa using hi
  have e2:j=0:=(by omega);subst e1 e2;rw [co hn];rfl
 ·have e1:i=0:=by simpa using hi
  subst e1;exact (h.under ((Below.refl _ w).alloc nR _)).wide (fun i hi _=>.inl hi)
theorem weighD_any {ok:Nat→Prop} {w:World} {v:Value} {l:List De} (hl:HDes ok w v l) (z:Int) (hf:FitD l) (hz0 : -1000000000000000≤z) (hz1:z≤10000) :
  Calls Tryz.prog 19 #[v,.int .i64 z] w fun e w'=>(∃ y,e=.returned (.int .i64 y)∧(0≤y→(∀ d ∈ l,Rn.deF d)∧y≤z)∧Wt z y)∧Below w.heap.size w w':=by
 obtain ⟨ao,cap,rfl,hc1,hc2,hat⟩:=hl.at;unfold maxLen at hc2;obtain ⟨n,hn⟩:=nmQ (l.length);have hn13:n≤10000000000000:=(by have:=hf.1;omega);rw [←hn] at hc1 ⊢;have HN:=hide hn;clear hn hf;go_enter Tryz.func19,Tryz.ntmps19;go_wp2;go_loopg [1,5] n (fun k v1 v wr=>∃ i y,i≤n∧k=n-i∧v=.int .i64 (i:Nat)∧v1=.int .i64 y∧Hid (0≤y→(∀ j (h:j<l.length),j<i→Rn.deF l[j])∧y≤z)∧Hid (Wt z y)∧Below w.heap.size w wr)
 case atStart=>exact ⟨0,z-(n:Int),Nat.zero_le _,rfl,rfl,rfl,hide (fun _=>⟨fun j _ h=>absurd h (Nat.not_lt_zero _),by omega⟩),hide (.inl (by omega)),Below.refl _ _⟩
 case round=>
  obtain ⟨i,y0,hi,rfl,rfl,rfl,H,HB,hbr⟩:=hrel;by_cases hlt:i<n
  ·by_cases hz:0≤y0
   ·have hdz:decide ((0:Int)≤y0)=true:=by simp [hz]
    have hil:i<l.length:=(by have:=HN.out;omega);have hy0:y0≤10000:=(by have:=(H.out hz).2;omega);obtain ⟨b,o,au,nu,cu,rfl,hb,hc,hd,he,ht⟩:=hat i hil;have e1:=(hbr.cell (p:=⟨b,o+i*3,none⟩) hb).trans hc;have e5:=(hbr.cell (p:=⟨b,o+i*3+2,none⟩) hb).trans he;obtain ⟨x,hx⟩:=nmQ ((l[i]).name);rw [←hx] at e1;have HX:=hide hx;have hS:=HSizes.one (ht.under hbr) 73;clear hat hc hd he ht hx;by_cases h100:100<x.size
    ·have hd2:decide ((100:Int)<(x.size:Int))=true:=by simp;omega
     go_wp2;go_ret;exact ⟨⟨_,rfl,fun h=>absurd h (by decide),.inr (by decide)⟩,hbr⟩
    ·have hd2:decide ((100:Int)<(x.size:Int))=false:=by simp;omega
     go_wp2_with fail;refine (weighS_any hS y0 (by simp) (by omega) hy0).mono ?_;rintro e w1 ⟨⟨z1,rfl,hs1,hs2⟩,rfl⟩;have HS1:=hide hs1;have hz1l : -10000000000000≤z1:=(by omega);clear hs1 hs2;go_wp2;go_roundg (n-(i+1))
     case measure=>omega
     case rel=>
      refine ⟨i+1,z1,by omega,rfl,by go_num,rfl,hide (fun h2=>⟨fun j hj hji=>?_,?_⟩),hide (.inr hz1l),hbr.alloc hbr.size _⟩
      ·by_cases e:j=i
       ·subst e
        exact ⟨nmF_of (by rw [←HX.out];omega),fun t ht=>nmF_of ((HS1.out h2).1 _ (by simp) t ht)⟩
       ·exact (H.out hz).1 j hj (by omega)
      ·have:=(HS1.out h2).2
       have:=(H.out hz).2;omega
   ·have hdz:decide ((0:Int)≤y0)=false:=by simp;omega
    clear hat;go_wp2;go_ret;exact ⟨⟨_,rfl,fun h=>absurd h (by omega),HB.out⟩,hbr⟩
  ·have hie:i=n:=by omega
   subst hie;clear hat;go_wp2;go_ret;refine ⟨⟨_,rfl,fun h=>⟨fun d hd=>?_,(H.out h).2⟩,HB.out⟩,hbr⟩;obtain ⟨j,hj,rfl⟩:=List.getElem_of_mem hd;exact (H.out h).1 j hj (by have:=HN.out;omega)
end Go.Proofs.YtophfbefnaelfaaGreatDoor
