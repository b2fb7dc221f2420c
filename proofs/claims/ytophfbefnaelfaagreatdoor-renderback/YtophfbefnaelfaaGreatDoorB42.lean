import Derived.Test.YtophfbefnaelfaaGreatDoorB41
import Derived.Test.YtophfbefnaelfaaGreatDoorB10
import Derived.Test.YtophfbefnaelfaaGreatDoorB33
import Derived.Test.YtophfbefnaelfaaGreatDoorB39
import Derived.Deep.CutBlock
import Derived.Deep.QuietTactic
import Derived.BigQuiet
import Derived.Test.YtophfbefnaelfaaGreatDoorB36
import Derived.Test.YtophfbefnaelfaaGreatDoorB37
import Derived.Test.YtophfbefnaelfaaGreatDoorB24
import Derived.Test.YtophfbefnaelfaaGreatDoorB40
set_option linter.unusedVariables false
set_option linter.unusedSimpArgs false
set_option maxHeartbeats 64000000
set_option maxRecDepth 100000
namespace Go.Proofs.YtophfbefnaelfaaGreatDoor
open Go.RowKit Go.IntWalk
theorem weighN_b {ok:Nat→Prop} {w:World} {v:Value} {l:List ByteArray} (hl:HNames ok w v l) (z:Int) (hz0 : -1000000000000000≤z) (hz1:z≤10000) :
  Calls Tryz.prog 18 #[v,.int .i64 z] w fun e w'=>(∃ y,e=.returned (.int .i64 y)∧(0≤y→(∀ s ∈ l,Rn.nmF s)∧y≤z)∧Wt z y)∧Below w.heap.size w w':=
 (weighN_any hl z hz0 hz1).mono fun _ _ ⟨⟨y,h1,h2,h3⟩,h4⟩=>⟨⟨y,h1,fun h=>⟨fun s hs=>nmF_of ((h2 h).1 s hs),(h2 h).2⟩,by unfold Wt;omega⟩,h4 ▸ Below.refl _ _⟩
theorem weighS_b {ok:Nat→Prop} {w:World} {v:Value} {l:List (List Tm)} (hl:HSizes ok w v l) (z:Int) (hf:FitS l) (hz0 : -1000000000000000≤z) (hz1:z≤10000) :
  Calls Tryz.prog 20 #[v,.int .i64 z] w fun e w'=>(∃ y,e=.returned (.int .i64 y)∧(0≤y→(∀ s ∈ l,Rn.szF s)∧y≤z)∧Wt z y)∧Below w.heap.size w w':=
 (weighS_any hl z (by have:=hf.1;omega) hz0 hz1).mono fun _ _ ⟨⟨y,h1,h2,h3⟩,h4⟩=>⟨⟨y,h1,fun h=>⟨fun s hs t ht=>nmF_of ((h2 h).1 s hs t ht),(h2 h).2⟩,by unfold Wt;omega⟩,h4 ▸ Below.refl _ _⟩
theorem weighE_b {ok:Nat→Prop} {w:World} {v:Value} {l:List Ex} (hl:HExs ok w v l) (z:Int) (hf:FitXs l) (hz0 : -1000000000000000≤z) (hz1:z≤10000) :
  Calls Tryz.prog 21 #[v,.int .i64 z] w fun e w'=>(∃ y,e=.returned (.int .i64 y)∧(0≤y→((∀ e ∈ l,Rn.exF e)∧partsL l≤10000)∧y≤z)∧Wt z y)∧Below w.heap.size w w':=
 (weighE_any hl z hf hz0 hz1).mono fun _ _ ⟨⟨y,h1,h2,h3⟩,h4⟩=>⟨⟨y,h1,fun h=>⟨⟨(h2 h).1,by have:=(h2 h).2;omega⟩,by have:=(h2 h).2;omega⟩,h3⟩,h4 ▸ Below.refl _ _⟩
def GQ (q:Eqn):Prop:=Rn.eqF q∧partsL q.E≤10000
def GN (n:Nd):Prop:=Rn.ndF n∧n.eqs.length≤1000∧∀ q ∈ n.eqs,GQ q
def IsSmall (l:List Nd) (e:Ending):Prop:=∃ y,e=.returned (.bool y)∧(y=false→∀ n ∈ l,GN n)
theorem isSmall_great (l:List Nd):IsSmall l (.returned (.bool true)):=⟨true,rfl,fun h=>by cases h⟩
theorem wt_low {z y:Int} (h:Wt z y) (k:Int) (hk:k≤0) (hz:k≤z):k-10000000000000≤y:=by unfold Wt at h;omega
theorem great_small {ok:Nat→Prop} {w:World} {ao:Option Addr} {n cap:Nat} {l:List Nd} (hl:HNds ok w (.slice ao n cap) l) (hfit:FitP l) :
  Calls Tryz.prog 9 #[.agg #[.slice ao n cap]] w fun e w'=>IsSmall l e∧Below w.heap.size w w':=by
 obtain ⟨ao',cap',hv,hc1,hc2,hat⟩:=hl.at;injection hv with q1 q2 q3;have HN:=hide q2;have HF:=hide hfit;clear hfit;rw [←q1] at hat;rw [←q2,←q3] at hc1;rw [←q3] at hc2;clear q1 q2 q3 hl;unfold maxLen at hc2;by_cases hbig:100<n
 ·have hd:decide ((100:Int)<(n:Int))=true:=by simp;omega
  clear hat;go_enter Tryz.func9,Tryz.ntmps9;go_wp2;go_ret;exact ⟨isSmall_great _,(Below.refl _ w).alloc nR _⟩
 ·have hd:decide ((100:Int)<(n:Int))=false:=by simp;omega
  obtain ⟨W,hW⟩:=nmQ (w.alloc (.cells #[.slice ao n cap] 24 (0,0)));have zW:=newZ hW;have bW:=newB hW;have pW:W.heap[w.heap.size]?=some (.cells #[.slice ao n cap] 24 (0,0)):=(by rw [hW];exact heap_new w _);go_enter Tryz.func9,Tryz.ntmps9;go_wp2;rw [←hW];clear hW;go_loopg [3,4] n (fun k v3 v wr=>∃ i z,i≤n∧k=n-i∧v=.int .i64 (i:Nat)∧v3=.int .i64 z∧Hid (0≤z→∀ j (h:j<l.length),j<i→GN l[j])∧Hid (z≤10000 ∧ -100000000000000≤z)∧Below W.heap.size W wr)
  case atStart=>exact ⟨0,_,Nat.zero_le _,rfl,rfl,rfl,hide (fun _ j _ h=>absurd h (Nat.not_lt_zero _)),hide ⟨by decide,by decide⟩,Below.refl _ _⟩
  case round=>
   obtain ⟨i,z,hi,rfl,rfl,rfl,H,HB,hbr⟩:=hrel;have hbw:Below w.heap.size w wr:=bW.trans (hbr.mono (by omega));have zr:=hbr.size;have pr:=co ((aside hbr (S:=[])).keep pW (lt_of pW) (by simp)) 0;simp at pr;by_cases hlt:i<n
   ·by_cases hz:0≤z
    ·have hdz:decide ((0:Int)≤z)=true:=by simp [hz]
     have hil:i<l.length:=(by have:=HN.out;omega);obtain ⟨b,o,x,rfl,hb,hxa,hx⟩:=hat i hil;obtain ⟨c0,c1,c2,c3,c4,c5,c6⟩:=hxa.keep (hbw.block b hb);have hX:=hx.under hbw;obtain ⟨g1,g2,n2,n3,n4,n5,n6⟩:=hX;have G1:=hide g1;have FN:=hide (HF.out.2 i hil);have hzu:z≤10000:=HB.out.1;clear hxa hx g1 g2;by_cases h100:100<x.name.size
     ·have hd2:decide ((100:Int)<(x.name.size:Int))=true:=by simp;omega
      clear hat;go_wp2;go_ret;exact ⟨isSmall_great _,hbw.alloc hbw.size _⟩
     ·have hd2:decide ((100:Int)<(x.name.size:Int))=false:=by simp;omega
      by_cases h1000:1000<x.n6
      ·have hd3:decide ((1000:Int)<(x.n6:Int))=true:=by simp;omega
       clear hat;go_wp2;go_ret;exact ⟨isSmall_great _,hbw.alloc hbw.size _⟩
      ·have hd3:decide ((1000:Int)<(x.n6:Int))=false:=by simp;omega
       have B0:Below wr.heap.size wr (wr.alloc (.cells #[.string x.name,.int .i64 x.place,.slice x.a2 x.n2 x.c2,.slice x.a3 x.n3 x.c3,.slice x.a4 x.n4 x.c4,.slice x.a5 x.n5 x.c5,.slice x.a6 x.n6 x.c6] 43 (0,0))):=(Below.refl _ wr).alloc nR _;have K0:=heap_new wr (.cells #[.string x.name,.int .i64 x.place,.slice x.a2 x.n2 x.c2,.slice x.a3 x.n3 x.c3,.slice x.a4 x.n4 x.c4,.slice x.a5 x.n5 x.c5,.slice x.a6 x.n6 x.c6] 43 (0,0));go_wp2_with fail;refine (weighN_b (n2.under B0) _ (by omega) hzu).mono ?_;rintro e w1 ⟨⟨z1,rfl,j1,k1⟩,b1⟩;have J1:=hide j1;have l1 : -10000000000000≤z1:=wt_low k1 0 (by decide) hz;have u1:z1≤10000:=(by by_cases h:0≤z1;have:=(j1 h).2;omega;omega);clear j1 k1;have B1:=B0.trans (b1.mono B0.size);have K1:=(aside b1 (S:=[])).keep K0 (lt_of K0) (by simp);have Z1:wr.heap.size+1≤w1.heap.size:=(by simpa using b1.size);clear b1 K0 B0 c0 c1 c2 c3 c4 c5 c6;have p3:=co K1 3;simp at p3;go_wp2_with fail;refine (weighD_any (n3.under B1) _ FN.out.inn (by omega) u1).mono ?_;rintro e w2 ⟨⟨z2,rfl,j2,k2⟩,b2⟩;have J2:=hide j2;have l2 : -20000000000000≤z2:=wt_low k2 (-10000000000000) (by decide) l1;have u2:z2≤10000:=(by by_cases h:0≤z2;have:=(j2 h).2;omega;omega);clear j2 k2;have B2:=B1.trans (b2.mono B1.size);have K2:=(aside b2 (S:=[])).keep K1 (lt_of K1) (by simp);have Z2:=b2.size;clear b2 p3 K1 B1;have p4:=co K2 4;simp at p4;go_wp2_with fail;refine (weighD_any (n4.under B2) _ FN.out.out (by omega) u2).mono ?_;rintro e w3 ⟨⟨z3,rfl,j3,k3⟩,b3⟩;have J3:=hide j3;have l3 : -30000000000000≤z3:=wt_low k3 (-20000000000000) (by decide) l2;have u3:z3≤10000:=(by by_cases h:0≤z3;have:=(j3 h).2;omega;omega);clear j3 k3;have B3:=B2.trans (b3.mono B2.size);have K3:=(aside b3 (S:=[])).keep K2 (lt_of K2) (by simp);have Z3:=b3.size;clear b3 p4 K2 B2;have p5:=co K3 5;simp at p5;go_wp2_with fail;refine (weighD_any (n5.under B3) _ FN.out.loc (by omega) u3).mono ?_;rintro e w4 ⟨⟨z4,rfl,j4,k4⟩,b4⟩;have J4:=hide j4;have l4 : -40000000000000≤z4:=wt_low k4 (-30000000000000) (by decide) l3;have u4:z4≤10000:=(by by_cases h:0≤z4;have:=(j4 h).2;omega;omega);clear j4 k4;have B4:=B3.trans (b4.mono B3.size);have K4:=(aside b4 (S:=[])).keep K3 (lt_of K3) (by simp);have Z4:=b4.size;clear b4 p5 K3 B3;obtain ⟨qo,qc,hqv,he1,he2,heat⟩:=n6.at;injection hqv with r1 r2 r3;have HE:=hide r2;rw [←r1] at heat;rw [←r2,←r3] at he1;rw [←r3] at he2;clear r1 r2 r3 n2 n3 n4 n5 n6 hat;unfold maxLen at he2;obtain ⟨m,hm⟩:=nmQ (x.n6);rw [←hm] at HE he1 hd3 K4 h1000;have zK:wr.heap.size<w4.heap.size:=(by omega);clear hm;go_wp2;go_loopg [3,6] m (fun k v3 v wk=>∃ j z,j≤m∧k=m-j∧v=.int .i64 (j:Nat)∧v3=.int .i64 z∧Hid (0≤z→(∀ k (h:k<(l[i]).eqs.length),k<j→GQ (l[i]).eqs[k])∧z≤z4)∧Hid (z≤10000 ∧ -100000000000000≤z)∧Below w4.heap.size w4 wk)
       case atStart=>exact ⟨0,_,Nat.zero_le _,rfl,rfl,rfl,hide (fun _=>⟨fun k _ h=>absurd h (Nat.not_lt_zero _),Int.le_refl _⟩),hide ⟨u4,by omega⟩,Below.refl _ _⟩
       case round=>
        obtain ⟨j,u,hj,rfl,rfl,rfl,HJ,HU,hbk⟩:=hrel;have Bk:=B4.trans (hbk.mono B4.size);have Kk:=(aside hbk (S:=[])).keep K4 (lt_of K4) (by simp);have zk:=hbk.size;have pk:=co Kk 6;simp at pk;have hbe:Below w.heap.size w wr:=hbw.trans (Bk.mono hbw.size);by_cases hjt:j<m
        ·by_cases hu:0≤u
         ·have hdu:decide ((0:Int)≤u)=true:=by simp [hu]
          have hjl:j<(l[i]).eqs.length:=(by have:=HE.out;omega);obtain ⟨b',o',y,hxe,hb',hya,hy⟩:=heat j hjl;rw [hxe] at pk;clear hxe;obtain ⟨d0,d1,d2,d3,d4⟩:=hya.keep (Bk.block b' hb');obtain ⟨g1,y1,g2,y3,y4⟩:=hy.under Bk;have G2:=hide g2;have FQ:=hide (FN.out.each j hjl);have huu:u≤10000:=HU.out.1;clear heat hya hy g1 g2;have E0:Below wr.heap.size wr (wr.alloc (.cells #[.int .i64 y.place,.slice y.aN y.nN y.cN,.string y.node,.slice y.aS y.nS y.cS,.slice y.aE y.nE y.cE] 49 (0,0))):=(Below.refl _ wr).alloc nR _;have F0:=heap_new wr (.cells #[.int .i64 y.place,.slice y.aN y.nN y.cN,.string y.node,.slice y.aS y.nS y.cS,.slice y.aE y.nE y.cE] 49 (0,0));by_cases h100':100<y.node.size
          ·have hd4:decide ((100:Int)<(y.node.size:Int))=true:=by simp;omega
           go_wp2;go_ret;exact ⟨isSmall_great _,hbe.alloc hbe.size _⟩
          ·have hd4:decide ((100:Int)<(y.node.size:Int))=false:=by simp;omega
           go_wp2_with fail;refine (weighN_b (y1.under E0) _ (by omega) huu).mono ?_;rintro e v1 ⟨⟨s1,rfl,p1,o1⟩,f1⟩;have P1:=hide p1;have sl1 : -10000000000000≤s1:=wt_low o1 0 (by decide) hu;have su1:s1≤10000:=(by by_cases h:0≤s1;have:=(p1 h).2;omega;omega);clear p1 o1;have E1:=E0.trans (f1.mono E0.size);have F1:=(aside f1 (S:=[])).keep F0 (lt_of F0) (by simp);clear f1 F0 E0 d0 d1 d2 d3 d4;have r3:=co F1 3;have r4:=co F1 4;simp at r3 r4;by_cases hs1:0≤s1
           ·have hds1:decide ((0:Int)≤s1)=true:=by simp [hs1]
            go_wp2_with fail;refine (weighS_b (y3.under E1) _ FQ.out.S (by omega) su1).mono ?_;rintro e v2 ⟨⟨s2,rfl,p2,o2⟩,f2⟩;have P2:=hide p2;have sl2 : -10000000000000≤s2:=wt_low o2 0 (by decide) hs1;have su2:s2≤10000:=(by by_cases h:0≤s2;have:=(p2 h).2;omega;omega);clear p2 o2;have E2:=E1.trans (f2.mono E1.size);have F2:=(aside f2 (S:=[])).keep F1 (lt_of F1) (by simp);clear f2 F1 E1 r3 r4;have r4:=co F2 4;simp at r4;by_cases hs2:0≤s2
            ·have hds2:decide ((0:Int)≤s2)=true:=by simp [hs2]
             go_wp2_with fail;refine (weighE_b (y4.under E2) _ FQ.out.E (by omega) su2).mono ?_;rintro e v3 ⟨⟨s3,rfl,p3,o3⟩,f3⟩;have P3:=hide p3;have sl3 : -10000000000000≤s3:=wt_low o3 0 (by decide) hs2;have su3:s3≤10000:=(by by_cases h:0≤s3;have:=(p3 h).2;omega;omega);clear p3 o3;have E3:=E2.trans (f3.mono E2.size);go_wp2;go_roundg (m-(j+1))
             case measure=>omega
             case rel=>
              refine ⟨j+1,s3,by omega,rfl,by go_num,rfl,hide (fun h3=>⟨fun k hk hkj=>?_,?_⟩),hide ⟨su3,by omega⟩,hbk.trans (E3.mono hbk.size)⟩
              ·by_cases e:k=j
               ·subst e
                exact ⟨⟨(P1.out hs1).1,nmF_of (by rw [←G2.out];omega),(P2.out hs2).1,(P3.out h3).1.1⟩,(P3.out h3).1.2⟩
               ·exact (HJ.out hu).1 k hk (by omega)
              ·have:=(HJ.out hu).2
               have:=(P1.out hs1).2;have:=(P2.out hs2).2;have:=(P3.out h3).2;omega
            ·have hds2:decide ((0:Int)≤s2)=false:=by simp;omega
             go_wp2;go_roundg (m-(j+1))
             case measure=>omega
             case rel=>exact ⟨j+1,s2,by omega,rfl,by go_num,rfl,hide (fun h=>absurd h (by omega)),hide ⟨su2,by omega⟩,hbk.trans (E2.mono hbk.size)⟩
           ·have hds1:decide ((0:Int)≤s1)=false:=by simp;omega
            go_wp2;go_roundg (m-(j+1))
            case measure=>omega
            case rel=>exact ⟨j+1,s1,by omega,rfl,by go_num,rfl,hide (fun h=>absurd h (by omega)),hide ⟨su1,by omega⟩,hbk.trans (E1.mono hbk.size)⟩
         ·have hdu:decide ((0:Int)≤u)=false:=by simp;omega
          clear heat;go_wp2;go_roundg (n-(i+1))
          case measure=>omega
          case rel=>exact ⟨i+1,u,by omega,rfl,by go_num,rfl,hide (fun h=>absurd h (by omega)),hide HU.out,hbr.trans (Bk.mono hbr.size)⟩
        ·have hje:j=m:=by omega
         subst hje;clear heat;go_wp2;go_roundg (n-(i+1))
         case measure=>omega
         case rel=>
          refine ⟨i+1,u,by omega,rfl,by go_num,rfl,hide (fun hu k hk hki=>?_),hide HU.out,hbr.trans (Bk.mono hbr.size)⟩;by_cases e:k=i
          ·subst e
           have a5:=HJ.out hu;have a4:=J4.out (by omega);have a3:=J3.out (by omega);have a2:=J2.out (by omega);have a1:=J1.out (by omega);refine ⟨⟨nmF_of (by rw [←G1.out];omega),a1.1,a2.1,a3.1,a4.1⟩,by have:=HE.out;omega,fun q hq=>?_⟩;obtain ⟨r,hr,rfl⟩:=List.getElem_of_mem hq;exact a5.1 r hr (by have:=HE.out;omega)
          ·exact H.out hz k hk (by omega)
    ·have hdz:decide ((0:Int)≤z)=false:=by simp;omega
     clear hat;go_wp2;go_ret;exact ⟨⟨_,rfl,fun h=>absurd h (by simp)⟩,hbw⟩
   ·have hie:i=n:=by omega
    subst hie;clear hat;go_wp2;go_ret;refine ⟨⟨_,rfl,fun h m hm=>?_⟩,hbw⟩;obtain ⟨k,hk,rfl⟩:=List.getElem_of_mem hm;exact H.out (by simpa using h) k hk (by have:=HN.out;omega)
theorem nsF_of {l:List Nd} (h:∀ n ∈ l,GN n):Rn.nsF l:=fun n hn=>⟨(h n hn).1,by have:=(h n hn).2.1;omega,fun q hq=>((h n hn).2.2 q hq).1⟩
end Go.Proofs.YtophfbefnaelfaaGreatDoor
namespace Go.Proofs.YtophfbefnaelfaaGreatDoor
open Go.RowKit Go.IntWalk
namespace Tx
end Tx
theorem TabN.under {w w':World} (h:TabN w) (b:Below w.heap.size w w'):TabN w':=h.keep (b.block 1 h.lt)
end Go.Proofs.YtophfbefnaelfaaGreatDoor
namespace Go.Proofs.YtophfbefnaelfaaGreatDoor
open Go.RowKit Go.IntWalk
theorem GlobT.under {w w':World} (h:GlobT w) (b:Below w.heap.size w w'):GlobT w':=h.keep b.size (b.block 6 h.1)
theorem Gl.under {w w':World} (h:Gl (fun i=>i<w.heap.size) w) (b:Below w.heap.size w w'):Gl (fun i=>i<w'.heap.size) w':=by
 have g:=h.keep (Keep.ofBelow b);have:=b.size;exact ⟨g.s,g.o,g.t,Nat.lt_of_lt_of_le h.k0 this,Nat.lt_of_lt_of_le h.k1 this,Nat.lt_of_lt_of_le h.k2 this⟩
end Go.Proofs.YtophfbefnaelfaaGreatDoor
