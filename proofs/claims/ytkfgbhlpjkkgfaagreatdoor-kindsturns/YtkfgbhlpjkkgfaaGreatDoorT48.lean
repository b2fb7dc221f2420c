import Derived.Test.YtkfgbhlpjkkgfaaGreatDoorT03
import Derived.Test.YtkfgbhlpjkkgfaaGreatDoorT19
import Derived.Test.YtkfgbhlpjkkgfaaGreatDoorT05
set_option linter.unusedVariables false
set_option linter.unusedSimpArgs false
set_option maxHeartbeats 64000000
set_option maxRecDepth 100000
namespace Go.Proofs.YtkfgbhlpjkkgfaaGreatDoor
open Go.RowKit Go.IntWalk
theorem weighN_any {ok:Nat->Prop} {w:World} {v:Value} {l:List ByteArray} (hl:HNames ok w v l) (z:Int) (db : -1000000000000000<=z) (bP:z<=10000) :
  Calls Tryz.prog 22 #[v,.int .i64 z] w fun e w'=>(∃ y,e=.returned (.int .i64 y)/\((0<=y->(∀ s ∈ l,s.size<=100)/\y<=z)/\(z-2000<=y\/y = -1)))/\w'=w:=by
 obtain ⟨ao,cap,rfl,aC,av,ai⟩:=hl.at;unfold maxLen at av;obtain ⟨n,hn⟩:=nmQ (l.length);rw [<-hn] at aC ⊢;have HN:=zAA hn;clear hn;by_cases hbig:2000<n
 ·have hd:decide ((2000:Int)<(n:Int))=true:=by simp;omega
  clear ai;go_enter Tryz.func22,Tryz.ntmps22;go_wp2;go_ret;exact ⟨⟨_,rfl,fun h=>absurd h (by decide),.inr rfl⟩,rfl⟩
 ·have hd:decide ((2000:Int)<(n:Int))=false:=by simp;omega
  go_enter Tryz.func22,Tryz.ntmps22;go_wp2;go_loopg [5] n (fun k v wr=>∃ i,i<=n/\k=n-i/\v=.int .i64 (i:Nat)/\Hid (∀ j (h:j<l.length),j<i->l[j].size<=100)/\wr=w)
  case atStart=>exact ⟨0,Nat.zero_le _,rfl,rfl,zAA (fun j _ h=>absurd h (Nat.not_lt_zero _)),rfl⟩
  case round=>
   obtain ⟨i,hi,rfl,rfl,H,rfl⟩:=hrel;by_cases ak:i<n
   ·have ap:i<l.length:=by have:=HN.out;omega
    obtain ⟨b,o,rfl,hb,hc⟩:=ai i ap;obtain ⟨x,hx⟩:=nmQ (l[i]);rw [<-hx] at hc;have HX:=zAA hx;clear ai hx;by_cases h100:100<x.size
    ·have jz:decide ((100:Int)<(x.size:Int))=true:=by simp;omega
     go_wp2;go_ret;exact ⟨⟨_,rfl,fun h=>absurd h (by decide),.inr rfl⟩,rfl⟩
    ·have jz:decide ((100:Int)<(x.size:Int))=false:=by simp;omega
     go_wp2;go_roundg (n-(i+1))
     case measure=>omega
     case rel=>exact ⟨i+1,by omega,rfl,by go_num,zAA (fun j hj bJ=>by
      by_cases e:j=i
      ·subst e;rw [<-HX.out];omega
      ·exact H.out j hj (by omega)),rfl⟩
   ·have eH:i=n:=by omega
    subst eH;clear ai;go_wp2;go_ret;refine ⟨⟨_,rfl,fun _=>⟨fun s hs=>?_,by omega⟩,.inl (by omega)⟩,rfl⟩;obtain ⟨j,hj,rfl⟩:=List.getElem_of_mem hs;exact H.out j hj (by have:=HN.out;omega)
theorem zDF {ok:Nat->Prop} {w:World} {v:Value} {l:List (List Tm)} (hl:HSizes ok w v l) (z:Int) (ve:l.length<=10000000000000) (db : -1000000000000000<=z) (bP:z<=10000) :
  Calls Tryz.prog 24 #[v,.int .i64 z] w fun e w'=>(∃ y,e=.returned (.int .i64 y)/\((0<=y->(∀ s ∈ l,∀ t ∈ s,t.2.size<=100)/\y<=z)/\(z-10000000000000<=y \/ -2000<=y)))/\w'=w:=by
 obtain ⟨ao,cap,rfl,aC,av,ai⟩:=hl.at;unfold maxLen at av;obtain ⟨n,hn⟩:=nmQ (l.length);rw [<-hn] at aC ve ⊢;have HN:=zAA hn;clear hn;obtain ⟨zz,Jk⟩:=nmQ (z);have QH:=zAA Jk;clear Jk;go_enter Tryz.func24,Tryz.ntmps24;go_wp2;go_loopg [1,5] n (fun k v1 v wr=>∃ i y,i<=n/\k=n-i/\v=.int .i64 (i:Nat)/\v1=.int .i64 y/\Hid (∀ j (h:j<l.length),j<i->∀ t ∈ l[j],t.2.size<=100)/\Hid (y<=z/\(z-10000000000000<=y \/ -2000<=y))/\wr=w)
 case atStart=>exact ⟨0,_,Nat.zero_le _,rfl,rfl,rfl,zAA (fun j _ h=>absurd h (Nat.not_lt_zero _)),zAA ⟨by omega,.inl (by omega)⟩,rfl⟩
 case round=>
  obtain ⟨i,y,hi,rfl,rfl,rfl,H,HB,rfl⟩:=hrel;by_cases ak:i<n
  ·by_cases hz:0<=y
   ·have uD:decide ((0:Int)<=y)=true:=by simp [hz]
    have ap:i<l.length:=(by have:=HN.out;omega);obtain ⟨b,o,au,nu,cu,rfl,hb,hc,ht⟩:=ai i ap;obtain ⟨fj,bE,hv,nJ,jz,ia⟩:=ht.at;injection hv with q1 q2 q3;subst q1 q2 q3;unfold maxLen at jz;obtain ⟨m,hm⟩:=nmQ ((l[i]).length);rw [<-hm] at hc nJ;have HM:=zAA hm;clear ai hm;by_cases h2:2000<m
    ·have nM:decide ((2000:Int)<(m:Int))=true:=by simp;omega
     go_wp2;go_ret;exact ⟨⟨_,rfl,fun h=>absurd h (by decide),.inr (by decide)⟩,rfl⟩
    ·have nM:decide ((2000:Int)<(m:Int))=false:=by simp;omega
     go_wp2;go_loopg [6] m (fun k v NQ=>∃ j,j<=m/\k=m-j/\v=.int .i64 (j:Nat)/\Hid (∀ q (h:q<(l[i]).length),q<j->((l[i])[q]).2.size<=100)/\NQ=wr)
     case atStart=>exact ⟨0,Nat.zero_le _,rfl,rfl,zAA (fun j _ h=>absurd h (Nat.not_lt_zero _)),rfl⟩
     case round=>
      obtain ⟨j,hj,rfl,rfl,HJ,rfl⟩:=hrel;by_cases hjt:j<m
      ·have cM:j<(l[i]).length:=by have:=HM.out;omega
       obtain ⟨b',o',rfl,jS,mA,C3⟩:=ia j cM;obtain ⟨x,hx⟩:=nmQ (((l[i])[j]).2);rw [<-hx] at C3;have HX:=zAA hx;clear ia mA hx;by_cases h100:100<x.size
       ·have jz:decide ((100:Int)<(x.size:Int))=true:=by simp;omega
        go_wp2;go_ret;exact ⟨⟨_,rfl,fun h=>absurd h (by decide),.inr (by decide)⟩,rfl⟩
       ·have jz:decide ((100:Int)<(x.size:Int))=false:=by simp;omega
        go_wp2;go_roundg (m-(j+1))
        case measure=>omega
        case rel=>exact ⟨j+1,by omega,rfl,by go_num,zAA (fun q hq FB=>by
         by_cases e:q=j
         ·subst e;rw [<-HX.out];omega
         ·exact HJ.out q hq (by omega)),rfl⟩
      ·have pF:j=m:=by omega
       subst pF;clear ia;go_wp2;go_roundg (n-(i+1))
       case measure=>omega
       case rel=>exact ⟨i+1,y-(j:Int),by omega,rfl,by go_num,by rw [wrap64_in _ (by have:=HB.out;omega)],zAA (fun q hq uk t zO=>by
        by_cases e:q=i
        ·subst e
         obtain ⟨r,hr,rfl⟩:=List.getElem_of_mem zO;exact HJ.out r hr (by have:=HM.out;omega)
        ·exact H.out q hq (by omega) t zO),zAA (by have:=HB.out;omega),rfl⟩
   ·have uD:decide ((0:Int)<=y)=false:=by simp;omega
    clear ai;go_wp2;go_ret;exact ⟨⟨_,rfl,fun h=>absurd h (by omega),HB.out.2⟩,rfl⟩
  ·have eH:i=n:=by omega
   subst eH;clear ai;go_wp2;go_ret;refine ⟨⟨_,rfl,fun _=>⟨fun s hs=>?_,HB.out.1⟩,HB.out.2⟩,rfl⟩;obtain ⟨j,hj,rfl⟩:=List.getElem_of_mem hs;exact H.out j hj (by have:=HN.out;omega)
theorem zCQ {s:ByteArray} (h:s.size<=100):Rn.nmF s:=by unfold Rn.nmF maxLen;omega
theorem exsF_of:∀ {l:List Ex},(∀ e ∈ l,Rn.exF e)->Rn.exsF l
 | [],_=>by rw [Rn.exsF];trivial
 | x :: l,h=>by rw [Rn.exsF];exact ⟨h x (by simp),exsF_of fun e he=>h e (by simp [he])⟩
theorem exF_mk {e:Ex} (h1:e.name.size<=100) (h2:∀ s ∈ e.S,∀ t ∈ s,t.2.size<=100) (h3:∀ x ∈ e.L,Rn.exF x):Rn.exF e:=by
 obtain ⟨o,k,n,s,S,L⟩:=e;rw [Rn.exF];exact ⟨zCQ h1,fun s hs t ht=>zCQ (h2 s hs t ht),exsF_of h3⟩
def Wt (z y:Int):Prop:=z-10000000000000<=y \/ -10000000000000<=y
def Weighs (q:Nat):Prop:=∀ (ok:Nat->Prop) (w:World) (v:Value) (l:List Ex) (z:Int),partsL l<q->HExs ok w v l->FitXs l -> -1000000000000000<=z->z<=10000 ->
 Calls Tryz.prog 25 #[v,.int .i64 z] w fun e w'=>(∃ y,e=.returned (.int .i64 y)/\(0<=y->(∀ e ∈ l,Rn.exF e)/\y+(partsL l:Nat)<=z)/\Wt z y)/\w'=w
theorem zEV (q:Nat) (HI:Weighs q):Weighs (q+1):=by
 intro ok w v l z Be hl F4 db bP;have HQ:=zAA Be;have Mw:=zAA F4;clear Be;obtain ⟨ao,cap,rfl,aC,av,ai⟩:=hl.at;unfold maxLen at av;obtain ⟨n,hn⟩:=nmQ (l.length);have ve:n<=10000000000000:=(by have:=F4.1;omega);rw [<-hn] at aC ⊢;have HN:=zAA hn;clear hn F4;go_enter Tryz.func25,Tryz.ntmps25;go_wp2;go_loopg [1,5] n (fun k v1 v wr=>∃ i y,i<=n/\k=n-i/\v=.int .i64 (i:Nat)/\v1=.int .i64 y/\Hid (0<=y->(∀ j (h:j<l.length),j<i->Rn.exF l[j])/\y+(partsL (l.take i):Nat)+((n-i:Nat):Int)<=z)/\Hid (Wt z y)/\wr=w)
 case atStart=>
  refine ⟨0,z-(n:Int),Nat.zero_le _,rfl,rfl,rfl,zAA (fun _=>⟨fun j _ h=>absurd h (Nat.not_lt_zero _),?_⟩),zAA (.inl (by omega)),rfl⟩;simp [partsL]
 case round=>
  obtain ⟨i,y0,hi,rfl,rfl,rfl,H,HB,rfl⟩:=hrel;by_cases ak:i<n
  ·by_cases hz:0<=y0
   ·have uD:decide ((0:Int)<=y0)=true:=by simp [hz]
    have ap:i<l.length:=(by have:=HN.out;omega);have gy:y0<=10000:=(by have:=(H.out hz).2;omega);obtain ⟨b,o,y,rfl,_,hb,⟨c0,c1,c2,c3,c4,c5⟩,hy⟩:=ai i ap;obtain ⟨g1,g2,g3,g4,yS,yL⟩:=hy.parts;have G4:=zAA g4;clear g1 g2 g3 g4;have uk:partsL (l[i]).L<q:=by
     have h1:=Nat.lt_of_le_of_lt (zBU l i ap) HQ.out;obtain ⟨p,hp⟩:=nmQ (l[i]);rw [<-hp] at h1 ⊢;obtain ⟨p1,p2,p3,p4,p5,p6⟩:=p;rw [parts] at h1;simp only [Ex.L];omega
    have cw:=(Mw.out.2 i ap).parts;have Nf:(l[i]).S.length<=10000000000000:=(by have:=cw.1.1;omega);have MH:=zAA cw.2;clear ai hy cw;by_cases h100:100<y.name.size
    ·have jz:decide ((100:Int)<(y.name.size:Int))=true:=by simp;omega
     go_wp2;go_ret;exact ⟨⟨_,rfl,fun h=>absurd h (by decide),.inr (by decide)⟩,rfl⟩
    ·have jz:decide ((100:Int)<(y.name.size:Int))=false:=by simp;omega
     go_wp2_with fail;refine (zDF yS y0 Nf (by omega) gy).mono ?_;rintro e w1 ⟨⟨z1,rfl,dB,jk⟩,rfl⟩;have kX:=zAA dB;have tI : -10000000000000<=z1:=(by omega);clear dB jk;by_cases bP:0<=z1
     ·have DU:decide ((0:Int)<=z1)=true:=by simp [bP]
      have PD:z1<=y0:=(kX.out bP).2;go_wp2_with fail;refine (HI _ _ _ _ z1 uk yL MH.out (by omega) (by omega)).mono ?_;rintro e w2 ⟨⟨z2,rfl,KM,mG⟩,rfl⟩;have CV:=zAA KM;have D4 : -10000000000000<=z2:=(by unfold Wt at mG;omega);clear KM mG;go_wp2;go_roundg (n-(i+1))
      case measure=>omega
      case rel=>
       refine ⟨i+1,z2,by omega,rfl,by go_num,rfl,zAA (fun h2=>⟨fun j hj bJ=>?_,?_⟩),zAA (.inr D4),rfl⟩
       ·by_cases e:j=i
        ·subst e
         exact exF_mk (by rw [<-G4.out];omega) (kX.out bP).1 (CV.out h2).1
        ·exact (H.out hz).1 j hj (by omega)
       ·have a1:=(H.out hz).2
        have a2:=(CV.out h2).2;have a3:=zBM l i ap;have a4:parts l[i]=1+partsL (l[i]).L:=by
         obtain ⟨p,hp⟩:=nmQ (l[i]);rw [<-hp];obtain ⟨p1,p2,p3,p4,p5,p6⟩:=p;rw [parts];rfl
        omega
     ·have DU:decide ((0:Int)<=z1)=false:=by simp;omega
      go_wp2;go_roundg (n-(i+1))
      case measure=>omega
      case rel=>exact ⟨i+1,z1,by omega,rfl,by go_num,rfl,zAA (fun h=>absurd h (by omega)),zAA (.inr tI),rfl⟩
   ·have uD:decide ((0:Int)<=y0)=false:=by simp;omega
    clear ai;go_wp2;go_ret;exact ⟨⟨_,rfl,fun h=>absurd h (by omega),HB.out⟩,rfl⟩
  ·have eH:i=n:=by omega
   subst eH;clear ai;go_wp2;go_ret;refine ⟨⟨_,rfl,fun h=>⟨fun e he=>?_,?_⟩,HB.out⟩,rfl⟩
   ·obtain ⟨j,hj,rfl⟩:=List.getElem_of_mem he
    exact (H.out h).1 j hj (by have:=HN.out;omega)
   ·have a1:=(H.out h).2
    rw [List.take_of_length_le (by have:=HN.out;omega)] at a1;omega
theorem weighs:∀ q,Weighs q
 | 0=>fun _ _ _ _ _ h=>absurd h (Nat.not_lt_zero _)
 | q+1=>zEV q (weighs q)
theorem weighE_any {ok:Nat->Prop} {w:World} {v:Value} {l:List Ex} (hl:HExs ok w v l) (z:Int) (hf:FitXs l) (db : -1000000000000000<=z) (bP:z<=10000) :
  Calls Tryz.prog 25 #[v,.int .i64 z] w fun e w'=>(∃ y,e=.returned (.int .i64 y)/\(0<=y->(∀ e ∈ l,Rn.exF e)/\y+(partsL l:Nat)<=z)/\Wt z y)/\w'=w:=weighs (partsL l+1) _ _ _ _ _ (Nat.lt_succ_self _) hl hf db bP
theorem HSizes.one {ok:Nat->Prop} {w:World} {a:Option Addr} {n c:Nat} {l:List Tm} (h:HTerms ok w (.slice a n c) l) (t:TypeId) :
  HSizes (fun i=>ok i\/i=w.heap.size) (w.alloc (.cells #[.slice a n c] t (0,0))) (.slice (some ⟨w.heap.size,0,none⟩) 1 1) [l]:=by
 have hn:=zAC w (.cells #[.slice a n c] t (0,0));refine ⟨fun _=>[.slice a n c],⟨_,1,rfl,Nat.le_refl _,by decide,fun _=>⟨_,0,rfl,.inr rfl,zAB hn,fun i hi=>⟨rfl,fun j hj=>?_⟩⟩⟩,fun i hi=>⟨_,rfl,?_⟩⟩
 ·have e1:i=0:=by simpa using hi
  have e2:j=0:=(by omega);subst e1 e2;rw [co hn];rfl
 ·have e1:i=0:=by simpa using hi
  subst e1;exact (h.under ((Below.refl _ w).alloc nR _)).wide (fun i hi _=>.inl hi)
theorem zDG {ok:Nat->Prop} {w:World} {v:Value} {l:List De} (hl:HDes ok w v l) (z:Int) (hf:FitD l) (db : -1000000000000000<=z) (bP:z<=10000) :
  Calls Tryz.prog 23 #[v,.int .i64 z] w fun e w'=>(∃ y,e=.returned (.int .i64 y)/\(0<=y->(∀ d ∈ l,Rn.deF d)/\y<=z)/\Wt z y)/\Below w.heap.size w w':=by
 obtain ⟨ao,cap,rfl,aC,av,ai⟩:=hl.at;unfold maxLen at av;obtain ⟨n,hn⟩:=nmQ (l.length);have ve:n<=10000000000000:=(by have:=hf.1;omega);rw [<-hn] at aC ⊢;have HN:=zAA hn;clear hn hf;go_enter Tryz.func23,Tryz.ntmps23;go_wp2;go_loopg [1,5] n (fun k v1 v wr=>∃ i y,i<=n/\k=n-i/\v=.int .i64 (i:Nat)/\v1=.int .i64 y/\Hid (0<=y->(∀ j (h:j<l.length),j<i->Rn.deF l[j])/\y<=z)/\Hid (Wt z y)/\Below w.heap.size w wr)
 case atStart=>exact ⟨0,z-(n:Int),Nat.zero_le _,rfl,rfl,rfl,zAA (fun _=>⟨fun j _ h=>absurd h (Nat.not_lt_zero _),by omega⟩),zAA (.inl (by omega)),Below.refl _ _⟩
 case round=>
  obtain ⟨i,y0,hi,rfl,rfl,rfl,H,HB,aj⟩:=hrel;by_cases ak:i<n
  ·by_cases hz:0<=y0
   ·have uD:decide ((0:Int)<=y0)=true:=by simp [hz]
    have ap:i<l.length:=(by have:=HN.out;omega);have gy:y0<=10000:=(by have:=(H.out hz).2;omega);obtain ⟨b,o,au,nu,cu,rfl,hb,hc,hd,he,ht⟩:=ai i ap;have e1:=(aj.cell (p:=⟨b,o+i*3,none⟩) hb).trans hc;have e5:=(aj.cell (p:=⟨b,o+i*3+2,none⟩) hb).trans he;obtain ⟨x,hx⟩:=nmQ ((l[i]).name);rw [<-hx] at e1;have HX:=zAA hx;have hS:=HSizes.one (ht.under aj) 33;clear ai hc hd he ht hx;by_cases h100:100<x.size
    ·have jz:decide ((100:Int)<(x.size:Int))=true:=by simp;omega
     go_wp2;go_ret;exact ⟨⟨_,rfl,fun h=>absurd h (by decide),.inr (by decide)⟩,aj⟩
    ·have jz:decide ((100:Int)<(x.size:Int))=false:=by simp;omega
     go_wp2_with fail;refine (zDF hS y0 (by simp) (by omega) gy).mono ?_;rintro e w1 ⟨⟨z1,rfl,dB,jk⟩,rfl⟩;have kX:=zAA dB;have tI : -10000000000000<=z1:=(by omega);clear dB jk;go_wp2;go_roundg (n-(i+1))
     case measure=>omega
     case rel=>
      refine ⟨i+1,z1,by omega,rfl,by go_num,rfl,zAA (fun h2=>⟨fun j hj bJ=>?_,?_⟩),zAA (.inr tI),aj.alloc aj.size _⟩
      ·by_cases e:j=i
       ·subst e
        exact ⟨zCQ (by rw [<-HX.out];omega),fun t ht=>zCQ ((kX.out h2).1 _ (by simp) t ht)⟩
       ·exact (H.out hz).1 j hj (by omega)
      ·have:=(kX.out h2).2
       have:=(H.out hz).2;omega
   ·have uD:decide ((0:Int)<=y0)=false:=by simp;omega
    clear ai;go_wp2;go_ret;exact ⟨⟨_,rfl,fun h=>absurd h (by omega),HB.out⟩,aj⟩
  ·have eH:i=n:=by omega
   subst eH;clear ai;go_wp2;go_ret;refine ⟨⟨_,rfl,fun h=>⟨fun d hd=>?_,(H.out h).2⟩,HB.out⟩,aj⟩;obtain ⟨j,hj,rfl⟩:=List.getElem_of_mem hd;exact (H.out h).1 j hj (by have:=HN.out;omega)
theorem weighN_b {ok:Nat->Prop} {w:World} {v:Value} {l:List ByteArray} (hl:HNames ok w v l) (z:Int) (db : -1000000000000000<=z) (bP:z<=10000) :
  Calls Tryz.prog 22 #[v,.int .i64 z] w fun e w'=>(∃ y,e=.returned (.int .i64 y)/\(0<=y->(∀ s ∈ l,Rn.nmF s)/\y<=z)/\Wt z y)/\Below w.heap.size w w':=
 (weighN_any hl z db bP).mono fun _ _ ⟨⟨y,h1,h2,h3⟩,h4⟩=>⟨⟨y,h1,fun h=>⟨fun s hs=>zCQ ((h2 h).1 s hs),(h2 h).2⟩,by unfold Wt;omega⟩,h4 ▸ Below.refl _ _⟩
theorem weighS_b {ok:Nat->Prop} {w:World} {v:Value} {l:List (List Tm)} (hl:HSizes ok w v l) (z:Int) (hf:FitS l) (db : -1000000000000000<=z) (bP:z<=10000) :
  Calls Tryz.prog 24 #[v,.int .i64 z] w fun e w'=>(∃ y,e=.returned (.int .i64 y)/\(0<=y->(∀ s ∈ l,Rn.szF s)/\y<=z)/\Wt z y)/\Below w.heap.size w w':=
 (zDF hl z (by have:=hf.1;omega) db bP).mono fun _ _ ⟨⟨y,h1,h2,h3⟩,h4⟩=>⟨⟨y,h1,fun h=>⟨fun s hs t ht=>zCQ ((h2 h).1 s hs t ht),(h2 h).2⟩,by unfold Wt;omega⟩,h4 ▸ Below.refl _ _⟩
theorem weighE_b {ok:Nat->Prop} {w:World} {v:Value} {l:List Ex} (hl:HExs ok w v l) (z:Int) (hf:FitXs l) (db : -1000000000000000<=z) (bP:z<=10000) :
  Calls Tryz.prog 25 #[v,.int .i64 z] w fun e w'=>(∃ y,e=.returned (.int .i64 y)/\(0<=y->((∀ e ∈ l,Rn.exF e)/\partsL l<=10000)/\y<=z)/\Wt z y)/\Below w.heap.size w w':=
 (weighE_any hl z hf db bP).mono fun _ _ ⟨⟨y,h1,h2,h3⟩,h4⟩=>⟨⟨y,h1,fun h=>⟨⟨(h2 h).1,by have:=(h2 h).2;omega⟩,by have:=(h2 h).2;omega⟩,h3⟩,h4 ▸ Below.refl _ _⟩
def GQ (q:Eqn):Prop:=Rn.eqF q/\partsL q.E<=10000
def GN (n:Nd):Prop:=Rn.ndF n/\n.eqs.length<=1000/\∀ q ∈ n.eqs,GQ q
def IsSmall (l:List Nd) (e:Ending):Prop:=∃ y,e=.returned (.bool y)/\(y=false->∀ n ∈ l,GN n)
theorem zBF (l:List Nd):IsSmall l (.returned (.bool true)):=⟨true,rfl,fun h=>by cases h⟩
theorem zDH {z y:Int} (h:Wt z y) (k:Int) (hk:k<=0) (hz:k<=z):k-10000000000000<=y:=by unfold Wt at h;omega
theorem great_small {ok:Nat->Prop} {w:World} {ao:Option Addr} {n cap:Nat} {l:List Nd} (hl:HNds ok w (.slice ao n cap) l) (jD:FitP l) :
  Calls Tryz.prog 8 #[.agg #[.slice ao n cap]] w fun e w'=>IsSmall l e/\Below w.heap.size w w':=by
 obtain ⟨fj,bE,hv,aC,av,ai⟩:=hl.at;injection hv with q1 q2 q3;have HN:=zAA q2;have HF:=zAA jD;clear jD;rw [<-q1] at ai;rw [<-q2,<-q3] at aC;rw [<-q3] at av;clear q1 q2 q3 hl;unfold maxLen at av;by_cases hbig:100<n
 ·have hd:decide ((100:Int)<(n:Int))=true:=by simp;omega
  clear ai;go_enter Tryz.func8,Tryz.ntmps8;go_wp2;go_ret;exact ⟨zBF _,(Below.refl _ w).alloc nR _⟩
 ·have hd:decide ((100:Int)<(n:Int))=false:=by simp;omega
  obtain ⟨W,hW⟩:=nmQ (w.alloc (.cells #[.slice ao n cap] 24 (0,0)));have zW:=newZ hW;have bW:=zAk hW;have pW:W.heap[w.heap.size]?=some (.cells #[.slice ao n cap] 24 (0,0)):=(by rw [hW];exact zAC w _);go_enter Tryz.func8,Tryz.ntmps8;go_wp2;rw [<-hW];clear hW;go_loopg [3,4] n (fun k v3 v wr=>∃ i z,i<=n/\k=n-i/\v=.int .i64 (i:Nat)/\v3=.int .i64 z/\Hid (0<=z->∀ j (h:j<l.length),j<i->GN l[j])/\Hid (z<=10000 /\ -100000000000000<=z)/\Below W.heap.size W wr)
  case atStart=>exact ⟨0,_,Nat.zero_le _,rfl,rfl,rfl,zAA (fun _ j _ h=>absurd h (Nat.not_lt_zero _)),zAA ⟨by decide,by decide⟩,Below.refl _ _⟩
  case round=>
   obtain ⟨i,z,hi,rfl,rfl,rfl,H,HB,aj⟩:=hrel;have iV:Below w.heap.size w wr:=bW.trans (aj.mono (by omega));have zr:=aj.size;have pr:=co ((aside aj (S:=[])).keep pW (zAB pW) (by simp)) 0;simp at pr;by_cases ak:i<n
   ·by_cases hz:0<=z
    ·have uD:decide ((0:Int)<=z)=true:=by simp [hz]
     have ap:i<l.length:=(by have:=HN.out;omega);obtain ⟨b,o,x,rfl,hb,qB,hx⟩:=ai i ap;obtain ⟨c0,c1,c2,c3,c4,c5,c6⟩:=qB.keep (iV.block b hb);have hX:=hx.under iV;obtain ⟨g1,g2,n2,n3,n4,n5,n6⟩:=hX;have G1:=zAA g1;have FN:=zAA (HF.out.2 i ap);have AV:z<=10000:=HB.out.1;clear qB hx g1 g2;by_cases h100:100<x.name.size
     ·have jz:decide ((100:Int)<(x.name.size:Int))=true:=by simp;omega
      clear ai;go_wp2;go_ret;exact ⟨zBF _,iV.alloc iV.size _⟩
     ·have jz:decide ((100:Int)<(x.name.size:Int))=false:=by simp;omega
      by_cases h1000:1000<x.n6
      ·have nM:decide ((1000:Int)<(x.n6:Int))=true:=by simp;omega
       clear ai;go_wp2;go_ret;exact ⟨zBF _,iV.alloc iV.size _⟩
      ·have nM:decide ((1000:Int)<(x.n6:Int))=false:=by simp;omega
       have B0:Below wr.heap.size wr (wr.alloc (.cells #[.string x.name,.int .i64 x.place,.slice x.a2 x.n2 x.c2,.slice x.a3 x.n3 x.c3,.slice x.a4 x.n4 x.c4,.slice x.a5 x.n5 x.c5,.slice x.a6 x.n6 x.c6] 47 (0,0))):=(Below.refl _ wr).alloc nR _;have K0:=zAC wr (.cells #[.string x.name,.int .i64 x.place,.slice x.a2 x.n2 x.c2,.slice x.a3 x.n3 x.c3,.slice x.a4 x.n4 x.c4,.slice x.a5 x.n5 x.c5,.slice x.a6 x.n6 x.c6] 47 (0,0));go_wp2_with fail;refine (weighN_b (n2.under B0) _ (by omega) AV).mono ?_;rintro e w1 ⟨⟨z1,rfl,j1,k1⟩,b1⟩;have J1:=zAA j1;have l1 : -10000000000000<=z1:=zDH k1 0 (by decide) hz;have u1:z1<=10000:=(by by_cases h:0<=z1;have:=(j1 h).2;omega;omega);clear j1 k1;have B1:=B0.trans (b1.mono B0.size);have K1:=(aside b1 (S:=[])).keep K0 (zAB K0) (by simp);have Z1:wr.heap.size+1<=w1.heap.size:=(by simpa using b1.size);clear b1 K0 B0 c0 c1 c2 c3 c4 c5 c6;have p3:=co K1 3;simp at p3;go_wp2_with fail;refine (zDG (n3.under B1) _ FN.out.inn (by omega) u1).mono ?_;rintro e w2 ⟨⟨z2,rfl,j2,k2⟩,b2⟩;have J2:=zAA j2;have l2 : -20000000000000<=z2:=zDH k2 (-10000000000000) (by decide) l1;have u2:z2<=10000:=(by by_cases h:0<=z2;have:=(j2 h).2;omega;omega);clear j2 k2;have B2:=B1.trans (b2.mono B1.size);have K2:=(aside b2 (S:=[])).keep K1 (zAB K1) (by simp);have Z2:=b2.size;clear b2 p3 K1 B1;have p4:=co K2 4;simp at p4;go_wp2_with fail;refine (zDG (n4.under B2) _ FN.out.out (by omega) u2).mono ?_;rintro e w3 ⟨⟨z3,rfl,j3,k3⟩,b3⟩;have J3:=zAA j3;have l3 : -30000000000000<=z3:=zDH k3 (-20000000000000) (by decide) l2;have u3:z3<=10000:=(by by_cases h:0<=z3;have:=(j3 h).2;omega;omega);clear j3 k3;have B3:=B2.trans (b3.mono B2.size);have K3:=(aside b3 (S:=[])).keep K2 (zAB K2) (by simp);have Z3:=b3.size;clear b3 p4 K2 B2;have p5:=co K3 5;simp at p5;go_wp2_with fail;refine (zDG (n5.under B3) _ FN.out.loc (by omega) u3).mono ?_;rintro e w4 ⟨⟨z4,rfl,j4,k4⟩,b4⟩;have J4:=zAA j4;have l4 : -40000000000000<=z4:=zDH k4 (-30000000000000) (by decide) l3;have u4:z4<=10000:=(by by_cases h:0<=z4;have:=(j4 h).2;omega;omega);clear j4 k4;have B4:=B3.trans (b4.mono B3.size);have K4:=(aside b4 (S:=[])).keep K3 (zAB K3) (by simp);have Z4:=b4.size;clear b4 p5 K3 B3;obtain ⟨qo,qc,Ea,cv,bM,j5⟩:=n6.at;injection Ea with r1 r2 r3;have HE:=zAA r2;rw [<-r1] at j5;rw [<-r2,<-r3] at cv;rw [<-r3] at bM;clear r1 r2 r3 n2 n3 n4 n5 n6 ai;unfold maxLen at bM;obtain ⟨m,hm⟩:=nmQ (x.n6);rw [<-hm] at HE cv nM K4 h1000;have zK:wr.heap.size<w4.heap.size:=(by omega);clear hm;go_wp2;go_loopg [3,6] m (fun k v3 v wk=>∃ j z,j<=m/\k=m-j/\v=.int .i64 (j:Nat)/\v3=.int .i64 z/\Hid (0<=z->(∀ k (h:k<(l[i]).eqs.length),k<j->GQ (l[i]).eqs[k])/\z<=z4)/\Hid (z<=10000 /\ -100000000000000<=z)/\Below w4.heap.size w4 wk)
       case atStart=>exact ⟨0,_,Nat.zero_le _,rfl,rfl,rfl,zAA (fun _=>⟨fun k _ h=>absurd h (Nat.not_lt_zero _),Int.le_refl _⟩),zAA ⟨u4,by omega⟩,Below.refl _ _⟩
       case round=>
        obtain ⟨j,u,hj,rfl,rfl,rfl,HJ,HU,jF⟩:=hrel;have Bk:=B4.trans (jF.mono B4.size);have Kk:=(aside jF (S:=[])).keep K4 (zAB K4) (by simp);have zk:=jF.size;have pk:=co Kk 6;simp at pk;have E8:Below w.heap.size w wr:=iV.trans (Bk.mono iV.size);by_cases hjt:j<m
        ·by_cases hu:0<=u
         ·have OJ:decide ((0:Int)<=u)=true:=by simp [hu]
          have cM:j<(l[i]).eqs.length:=(by have:=HE.out;omega);obtain ⟨b',o',y,BH,jS,xX,hy⟩:=j5 j cM;rw [BH] at pk;clear BH;obtain ⟨d0,d1,d2,d3,d4⟩:=xX.keep (Bk.block b' jS);obtain ⟨g1,y1,g2,y3,y4⟩:=hy.under Bk;have G2:=zAA g2;have FQ:=zAA (FN.out.each j cM);have Nc:u<=10000:=HU.out.1;clear j5 xX hy g1 g2;have E0:Below wr.heap.size wr (wr.alloc (.cells #[.int .i64 y.place,.slice y.aN y.nN y.cN,.string y.node,.slice y.aS y.nS y.cS,.slice y.aE y.nE y.cE] 56 (0,0))):=(Below.refl _ wr).alloc nR _;have F0:=zAC wr (.cells #[.int .i64 y.place,.slice y.aN y.nN y.cN,.string y.node,.slice y.aS y.nS y.cS,.slice y.aE y.nE y.cE] 56 (0,0));by_cases h100':100<y.node.size
          ·have Lb:decide ((100:Int)<(y.node.size:Int))=true:=by simp;omega
           go_wp2;go_ret;exact ⟨zBF _,E8.alloc E8.size _⟩
          ·have Lb:decide ((100:Int)<(y.node.size:Int))=false:=by simp;omega
           go_wp2_with fail;refine (weighN_b (y1.under E0) _ (by omega) Nc).mono ?_;rintro e v1 ⟨⟨s1,rfl,p1,o1⟩,f1⟩;have P1:=zAA p1;have QA : -10000000000000<=s1:=zDH o1 0 (by decide) hu;have Ic:s1<=10000:=(by by_cases h:0<=s1;have:=(p1 h).2;omega;omega);clear p1 o1;have E1:=E0.trans (f1.mono E0.size);have F1:=(aside f1 (S:=[])).keep F0 (zAB F0) (by simp);clear f1 F0 E0 d0 d1 d2 d3 d4;have r3:=co F1 3;have r4:=co F1 4;simp at r3 r4;by_cases dB:0<=s1
           ·have FM:decide ((0:Int)<=s1)=true:=by simp [dB]
            go_wp2_with fail;refine (weighS_b (y3.under E1) _ FQ.out.S (by omega) Ic).mono ?_;rintro e v2 ⟨⟨s2,rfl,p2,o2⟩,f2⟩;have P2:=zAA p2;have PY : -10000000000000<=s2:=zDH o2 0 (by decide) dB;have JS:s2<=10000:=(by by_cases h:0<=s2;have:=(p2 h).2;omega;omega);clear p2 o2;have E2:=E1.trans (f2.mono E1.size);have F2:=(aside f2 (S:=[])).keep F1 (zAB F1) (by simp);clear f2 F1 E1 r3 r4;have r4:=co F2 4;simp at r4;by_cases jk:0<=s2
            ·have FG:decide ((0:Int)<=s2)=true:=by simp [jk]
             go_wp2_with fail;refine (weighE_b (y4.under E2) _ FQ.out.E (by omega) JS).mono ?_;rintro e v3 ⟨⟨s3,rfl,p3,o3⟩,f3⟩;have P3:=zAA p3;have P6 : -10000000000000<=s3:=zDH o3 0 (by decide) jk;have O3:s3<=10000:=(by by_cases h:0<=s3;have:=(p3 h).2;omega;omega);clear p3 o3;have E3:=E2.trans (f3.mono E2.size);go_wp2;go_roundg (m-(j+1))
             case measure=>omega
             case rel=>
              refine ⟨j+1,s3,by omega,rfl,by go_num,rfl,zAA (fun h3=>⟨fun k hk M6=>?_,?_⟩),zAA ⟨O3,by omega⟩,jF.trans (E3.mono jF.size)⟩
              ·by_cases e:k=j
               ·subst e
                exact ⟨⟨(P1.out dB).1,zCQ (by rw [<-G2.out];omega),(P2.out jk).1,(P3.out h3).1.1⟩,(P3.out h3).1.2⟩
               ·exact (HJ.out hu).1 k hk (by omega)
              ·have:=(HJ.out hu).2
               have:=(P1.out dB).2;have:=(P2.out jk).2;have:=(P3.out h3).2;omega
            ·have FG:decide ((0:Int)<=s2)=false:=by simp;omega
             go_wp2;go_roundg (m-(j+1))
             case measure=>omega
             case rel=>exact ⟨j+1,s2,by omega,rfl,by go_num,rfl,zAA (fun h=>absurd h (by omega)),zAA ⟨JS,by omega⟩,jF.trans (E2.mono jF.size)⟩
           ·have FM:decide ((0:Int)<=s1)=false:=by simp;omega
            go_wp2;go_roundg (m-(j+1))
            case measure=>omega
            case rel=>exact ⟨j+1,s1,by omega,rfl,by go_num,rfl,zAA (fun h=>absurd h (by omega)),zAA ⟨Ic,by omega⟩,jF.trans (E1.mono jF.size)⟩
         ·have OJ:decide ((0:Int)<=u)=false:=by simp;omega
          clear j5;go_wp2;go_roundg (n-(i+1))
          case measure=>omega
          case rel=>exact ⟨i+1,u,by omega,rfl,by go_num,rfl,zAA (fun h=>absurd h (by omega)),zAA HU.out,aj.trans (Bk.mono aj.size)⟩
        ·have pF:j=m:=by omega
         subst pF;clear j5;go_wp2;go_roundg (n-(i+1))
         case measure=>omega
         case rel=>
          refine ⟨i+1,u,by omega,rfl,by go_num,rfl,zAA (fun hu k hk st=>?_),zAA HU.out,aj.trans (Bk.mono aj.size)⟩;by_cases e:k=i
          ·subst e
           have a5:=HJ.out hu;have a4:=J4.out (by omega);have a3:=J3.out (by omega);have a2:=J2.out (by omega);have a1:=J1.out (by omega);refine ⟨⟨zCQ (by rw [<-G1.out];omega),a1.1,a2.1,a3.1,a4.1⟩,by have:=HE.out;omega,fun q hq=>?_⟩;obtain ⟨r,hr,rfl⟩:=List.getElem_of_mem hq;exact a5.1 r hr (by have:=HE.out;omega)
          ·exact H.out hz k hk (by omega)
    ·have uD:decide ((0:Int)<=z)=false:=by simp;omega
     clear ai;go_wp2;go_ret;exact ⟨⟨_,rfl,fun h=>absurd h (by simp)⟩,iV⟩
   ·have eH:i=n:=by omega
    subst eH;clear ai;go_wp2;go_ret;refine ⟨⟨_,rfl,fun h m hm=>?_⟩,iV⟩;obtain ⟨k,hk,rfl⟩:=List.getElem_of_mem hm;exact H.out (by simpa using h) k hk (by have:=HN.out;omega)
theorem nsF_of {l:List Nd} (h:∀ n ∈ l,GN n):Rn.nsF l:=fun n hn=>⟨(h n hn).1,by have:=(h n hn).2.1;omega,fun q hq=>((h n hn).2.2 q hq).1⟩
end Go.Proofs.YtkfgbhlpjkkgfaaGreatDoor
