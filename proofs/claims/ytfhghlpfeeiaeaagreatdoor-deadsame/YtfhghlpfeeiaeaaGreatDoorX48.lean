import Derived.Test.YtfhghlpfeeiaeaaGreatDoorX47
set_option linter.unusedVariables false
set_option linter.unusedSimpArgs false
set_option maxHeartbeats 64000000
set_option maxRecDepth 100000
namespace Go.Proofs.YtfhghlpfeeiaeaaGreatDoor
open Go.RowKit Go.IntWalk
theorem zAa {α:Type} (T:Kind α) {ok:Nat->Prop} {w:World} {b:Nat} {cur:Array Value} {ty:TypeId} {l:List α} (k:w.heap[b]?=some (.cells cur ty (0,0))) (D:Nat->List Value) (hD:∀ i,i<l.length->(D i).length=T.k/\∀ j,j<T.k->cur[i*T.k+j]?=(D i)[j]?) (hE:∀ i (h:i<l.length),T.E ok w (D i) l[i]) (gG:ok b) (hm:l.length<=maxLen):HRow T ok w (.slice (some ⟨b,0,none⟩) l.length l.length) l :=
 ⟨D,⟨_,_,rfl,Nat.le_refl _,hm,fun _=>⟨b,0,rfl,gG,zBM k,fun i hi=>⟨(hD i hi).1,fun j hj=>by
  have e:0+i*T.k+j=i*T.k+j:=(by omega);rw [e];exact (coQ k _).trans ((hD i hi).2 j hj)⟩⟩⟩,hE⟩
def allocsO (w:World):List Obj->World
 | []=>w
 | o :: r=>allocsO (w.alloc o) r
theorem zCL (w:World):∀ (l:List Obj) (W:World) (B:Nat),Below B w W->B<=W.heap.size->Below B w (allocsO W l)
 | [],W,B,h,_=>h
 | o :: r,W,B,h,hB=>zCL w r (W.alloc o) B (h.alloc hB o) (by simp;omega)
theorem zCn:∀ (l:List Obj) (w:World),(allocsO w l).heap.size=w.heap.size+l.length
 | [],w=>rfl
 | o :: r,w=>by unfold allocsO;rw [zCn r];simp;omega
theorem zBs:∀ (l:List Obj) (w:World) (i:Nat) (o:Obj),l[i]?=some o->(allocsO w l).heap[w.heap.size+i]?=some o
 | [],w,i,o,h=>by simp at h
 | x :: r,w,0,o,h=>by
  simp at h;subst h;unfold allocsO;have b:=zCL (w.alloc x) r (w.alloc x) (w.alloc x).heap.size (Below.refl _ _) zBR;rw [Nat.add_zero];exact (b.block _ (by simp)).trans (zBO w x)
 | x :: r,w,i+1,o,h=>by
  unfold allocsO;have:=zBs r (w.alloc x) i o (by simpa using h);have e:(w.alloc x).heap.size+i=w.heap.size+(i+1):=(by simp;omega)
  rwa [e] at this
def dgA:Sk.Ru:=⟨1,0,0,1,[],[]⟩
def dgB:Sk.Ru:=⟨2,0,1,0,[0],[]⟩
def dgS:Sk.Sys:=⟨[⟨105,0⟩,⟨105,0⟩],[],[0],[dgA,dgB]⟩
theorem dg_uses {z:Int} (h:z ∈ Sk.uses dgB):z=0:=by
 unfold Sk.uses at h;rw [zBi] at h
 simpa [dgB,Sk.ownE] using h
theorem dg_usesA {z:Int} (h:z ∈ Sk.uses dgA):False:=by
 unfold Sk.uses at h;rw [zBi] at h;simp [dgA,Sk.ownE] at h
theorem dg_okay:Sk.Okay dgS:=by
 refine ⟨by decide,by decide,by decide,by decide,?_,by decide,by decide,by decide,?_,by decide,?_,by decide⟩
 ·intro v hv
  simp [dgS] at hv;subst hv;exact ⟨.inl rfl,by decide⟩
 ·intro r hr
  simp [dgS] at hr;rcases hr with rfl | rfl
  ·refine ⟨by decide,by decide,by decide,fun z hz=>?_,by decide⟩
   rw [zBi] at hz;simp [dgA,Sk.ownE] at hz
  ·refine ⟨by decide,by decide,by decide,fun z hz=>?_,by decide⟩
   rw [zBi] at hz;simp [dgB,Sk.ownE] at hz;subst hz
   decide
 ·intro r hr z hz
  simp [dgS] at hr;rcases hr with rfl | rfl
  ·exact (dg_usesA hz).elim
  ·rw [dg_uses hz]
   decide
theorem dg_not:¬Sk.Reach dgS dgB:=by
 intro h;have key:∀ r,Sk.Reach dgS r->r.out≠1:=by
  intro r hr
  induction hr with
  | @out r h1 h2=>
   simp [dgS] at h2;omega
  | @use r q h1 h2 h3 h4=>
   have hq:q ∈ dgS.R:=h2.mem;simp [dgS] at hq;rcases hq with rfl | rfl
   ·exact (dg_usesA h3).elim
   ·rw [dg_uses h3];decide
 exact key _ h rfl
theorem dg_trim {nd:List Bool} (h:Sk.Signs dgS nd):(Sk.trimS dgS nd).R=[dgA]:=by
 have hl:nd.length=2:=h.len
 match nd,hl,h with
 | [a,b],_,h=>
  have h0:=(h.iff 0 (by decide) (by simp)).2 (.out (by simp [dgS]) (by simp [dgS,dgA]));have h1:b≠true:=fun e=>dg_not ((h.iff 1 (by decide) (by simp)).1 e);simp at h0;subst h0;have hb:b=false:=(by simpa using h1);subst hb;rfl
theorem dgOne {ok:Nat->Prop} {w:World} {b:Nat} {x:Int} {ty:TypeId} (k:w.heap[b]?=some (.cells #[.int .i64 x] ty (0,0))) (gG:ok b):HInts ok w (.slice (some ⟨b,0,none⟩) 1 1) [x] :=
 zBj (zAa kInt (l:=[x]) k (fun _=>[.int .i64 x]) (fun i hi=>by
  have:i=0:=(by simp at hi;omega);subst this;exact ⟨rfl,fun j hj=>by have h0:j=0:=(by have:j<1:=hj;omega);subst h0;rfl⟩) (fun i hi=>by
  have:i=0:=(by simp at hi;omega);subst this;rfl) gG (by simp [maxLen]))
theorem dgNone {ok:Nat->Prop} {w:World}:HInts ok w (.slice none 0 0) []:=⟨fun _=>[],Sl.nil,fun j h=>absurd h (Nat.not_lt_zero _)⟩
theorem dgVars {ok:Nat->Prop} {w:World} {b:Nat} (k:w.heap[b]?=some (.cells #[.int .u8 105,.int .i64 0,.int .u8 105,.int .i64 0] 39 (0,0))) (gG:ok b):HVars ok w (.slice (some ⟨b,0,none⟩) 2 2) dgS.V :=
 vars_row (zAa kVar (l:=dgS.V) k (fun _=>[.int .u8 105,.int .i64 0]) (fun i hi=>by
  have h2:i=0\/i=1:=(by simp [dgS] at hi;omega);rcases h2 with rfl | rfl
  all_goals exact ⟨rfl,fun j hj=>by have h0:j=0\/j=1:=(by have:j<2:=hj;omega);rcases h0 with rfl | rfl<;>rfl⟩) (fun i hi=>by
  have h2:i=0\/i=1:=(by simp [dgS] at hi;omega);rcases h2 with rfl | rfl<;>rfl) gG (by simp [maxLen,dgS]))
theorem dgRules {ok:Nat->Prop} {w:World} {b d:Nat} (k:w.heap[b]?=some (.cells #[.int .i64 1,.int .i64 0,.int .i64 0,.int .i64 1,.slice none 0 0,.slice none 0 0,.int .i64 2,.int .i64 0,.int .i64 1,.int .i64 0,.slice (some ⟨d,0,none⟩) 1 1,.slice none 0 0] 42 (0,0))) (hB:HInts ok w (.slice (some ⟨d,0,none⟩) 1 1) [0]) (gG:ok b):HRus ok w (.slice (some ⟨b,0,none⟩) 2 2) dgS.R:=by
 refine rus_row (zAa kRu (l:=dgS.R) k (fun i=>if i=0 then [.int .i64 1,.int .i64 0,.int .i64 0,.int .i64 1,.slice none 0 0,.slice none 0 0] else [.int .i64 2,.int .i64 0,.int .i64 1,.int .i64 0,.slice (some ⟨d,0,none⟩) 1 1,.slice none 0 0]) (fun i hi=>?_) (fun i hi=>?_) gG (by simp [maxLen,dgS]))
 ·have h2:i=0\/i=1:=by simp [dgS] at hi;omega
  rcases h2 with rfl | rfl
  all_goals exact ⟨rfl,fun j hj=>by have h0:j=0\/j=1\/j=2\/j=3\/j=4\/j=5:=(by have:j<6:=hj;omega);rcases h0 with rfl | rfl | rfl | rfl | rfl | rfl<;>rfl⟩
 ·have hp:HPu ok w (.slice none 0 0) []:=⟨fun _=>[],Sl.nil,fun j h=>absurd h (Nat.not_lt_zero _)⟩
  have h2:i=0\/i=1:=(by simp [dgS] at hi;omega);rcases h2 with rfl | rfl
  ·exact ⟨⟨none,0,0,none,0,0⟩,rfl,⟨dgNone,hp⟩⟩
  ·exact ⟨⟨some ⟨d,0,none⟩,1,1,none,0,0⟩,rfl,⟨hB,hp⟩⟩
theorem zAb {w:World} (hG:GlobK w) (hP:GlobP w):Calls Tryz.prog 4 #[] w fun e w'=>e=.returned (.bool true)/\Below w.heap.size w w':=by
 obtain ⟨W,hW⟩:=nmQ (((((((w.alloc (.cells #[.int .u8 105,.int .i64 0] 39 (0,0))).alloc (.cells #[.int .u8 105,.int .i64 0,.int .u8 105,.int .i64 0] 39 (0,0))).alloc (.cells #[.int .i64 0] 3 (0,0))).alloc (.cells #[.int .i64 0] 3 (0,0))).alloc (.cells #[.int .i64 1,.int .i64 0,.int .i64 0,.int .i64 1,.slice none 0 0,.slice none 0 0,.int .i64 2,.int .i64 0,.int .i64 1,.int .i64 0,.slice (some ⟨w.heap.size+3,0,none⟩) 1 1,.slice none 0 0] 42 (0,0))).alloc (.cells #[.slice (some ⟨w.heap.size+1,0,none⟩) 2 2,.slice none 0 0,.slice (some ⟨w.heap.size+2,0,none⟩) 1 1,.slice (some ⟨w.heap.size+4,0,none⟩) 2 2] 26 (0,0))));have sk:W=allocsO w [(.cells #[.int .u8 105,.int .i64 0] 39 (0,0)),(.cells #[.int .u8 105,.int .i64 0,.int .u8 105,.int .i64 0] 39 (0,0)),(.cells #[.int .i64 0] 3 (0,0)),(.cells #[.int .i64 0] 3 (0,0)),(.cells #[.int .i64 1,.int .i64 0,.int .i64 0,.int .i64 1,.slice none 0 0,.slice none 0 0,.int .i64 2,.int .i64 0,.int .i64 1,.int .i64 0,.slice (some ⟨w.heap.size+3,0,none⟩) 1 1,.slice none 0 0] 42 (0,0)),(.cells #[.slice (some ⟨w.heap.size+1,0,none⟩) 2 2,.slice none 0 0,.slice (some ⟨w.heap.size+2,0,none⟩) 1 1,.slice (some ⟨w.heap.size+4,0,none⟩) 2 2] 26 (0,0))]:=hW;have bW:Below w.heap.size w W:=(by rw [sk];exact zCL w _ w _ (Below.refl _ _) zBR);have zW:W.heap.size=w.heap.size+6:=(by rw [sk,zCn];rfl);have K0:W.heap[w.heap.size+0]?=some (.cells #[.int .u8 105,.int .i64 0] 39 (0,0)):=(by rw [sk];exact zBs _ w 0 _ rfl);have K1:W.heap[w.heap.size+1]?=some (.cells #[.int .u8 105,.int .i64 0,.int .u8 105,.int .i64 0] 39 (0,0)):=(by rw [sk];exact zBs _ w 1 _ rfl);have K2:W.heap[w.heap.size+2]?=some (.cells #[.int .i64 0] 3 (0,0)):=(by rw [sk];exact zBs _ w 2 _ rfl);have K3:W.heap[w.heap.size+3]?=some (.cells #[.int .i64 0] 3 (0,0)):=(by rw [sk];exact zBs _ w 3 _ rfl);have K4:W.heap[w.heap.size+4]?=some (.cells #[.int .i64 1,.int .i64 0,.int .i64 0,.int .i64 1,.slice none 0 0,.slice none 0 0,.int .i64 2,.int .i64 0,.int .i64 1,.int .i64 0,.slice (some ⟨w.heap.size+3,0,none⟩) 1 1,.slice none 0 0] 42 (0,0)):=(by rw [sk];exact zBs _ w 4 _ rfl);have K5:W.heap[w.heap.size+5]?=some (.cells #[.slice (some ⟨w.heap.size+1,0,none⟩) 2 2,.slice none 0 0,.slice (some ⟨w.heap.size+2,0,none⟩) 1 1,.slice (some ⟨w.heap.size+4,0,none⟩) 2 2] 26 (0,0)):=(by rw [sk];exact zBs _ w 5 _ rfl);have hS:HSys (fun i=>i<w.heap.size+6) W (some ⟨w.heap.size+1,0,none⟩) none (some ⟨w.heap.size+2,0,none⟩) (some ⟨w.heap.size+4,0,none⟩) 2 0 1 2 dgS:=⟨dgVars K1 (by show _<_;omega),dgNone,dgOne K2 (by show _<_;omega),dgRules K4 (dgOne K3 (by show _<_;omega)) (by show _<_;omega)⟩;have jR:=zBK (zAC (hG.under bW) (hP.under bW) hS (by decide));have HW:=zBK (And.intro bW zW);have pD:=zBK hW;clear bW zW hS hW sk K0 K1 K2 K3 K4 hG hP;go_enter Tryz.func4,Tryz.ntmps4;go_upto_region 3 with fail;rw [<-pD.out];clear pD;have k0:=coQ K5 0;have k1:=coQ K5 1;have k2:=coQ K5 2;have k3:=coQ K5 3;simp at k0 k1 k2 k3;go_wp2_with fail;refine jR.out.mono ?_;clear jR k0 k1 k2 k3 K5;intro e w2 hp;unfold TrimPost at hp;rcases hp with ⟨hc,-⟩ | ⟨-,nd,T,pV,pI,pO,pR,qV,qI,qO,qR,oM,hT,rfl,Be,b2⟩
 case inl=>exact absurd ((Sk.check_zero dgS).2 dg_okay ▸ rfl) hc
 have wH:T.R=[dgA]:=(by rw [hT];exact dg_trim oM);obtain ⟨om,jI,iQ,jf,fb,bo⟩:=Be.R.at;injection iQ with g1 g2 g3;have Gq:T.R.length=1:=(by rw [wH];rfl);obtain ⟨bR,oR,y,fU,yR,iT,-⟩:=bo 0 (by omega);obtain ⟨-,-,-,d3,-,-⟩:=iT;have jM:(T.R[0]'(by omega)).n=1:=(by simp [wH,dgA]);rw [jM] at d3;rw [fU] at g1;subst g1;rw [Gq];have Hc:1<=qR/\qR<=maxLen:=(by rw [g3,<-Gq];exact ⟨jf,fb⟩);have bm:=Hc.1;have aY:=Hc.2;unfold maxLen at aY;have JT:w2.cell? ⟨bR,oR+3,none⟩=some (.int .i64 1):=(by simpa using d3);clear bo Be oM hT jf fb g2 g3 fU Gq wH jM Hc d3;have b3:Below w2.heap.size w2 ((w2.alloc (.cells #[.slice pV T.V.length qV,.slice pI T.I.length qI,.slice pO T.O.length qO,.slice (some ⟨bR,oR,none⟩) 1 qR] 26 (0,0))).alloc (.cells #[.int .i64 0,.int .i64 0] 32 (0,0))):=((Below.refl _ _).alloc zBR _).alloc (by simp) _;have kT:((w2.alloc (.cells #[.slice pV T.V.length qV,.slice pI T.I.length qI,.slice pO T.O.length qO,.slice (some ⟨bR,oR,none⟩) 1 qR] 26 (0,0))).alloc (.cells #[.int .i64 0,.int .i64 0] 32 (0,0))).heap[w2.heap.size]?=some (.cells #[.slice pV T.V.length qV,.slice pI T.I.length qI,.slice pO T.O.length qO,.slice (some ⟨bR,oR,none⟩) 1 qR] 26 (0,0)):=(Below.heap_alloc _ _ _ (by simp)).trans (zBO w2 _);have kF:((w2.alloc (.cells #[.slice pV T.V.length qV,.slice pI T.I.length qI,.slice pO T.O.length qO,.slice (some ⟨bR,oR,none⟩) 1 qR] 26 (0,0))).alloc (.cells #[.int .i64 0,.int .i64 0] 32 (0,0))).heap[w2.heap.size+1]?=some (.cells #[.int .i64 0,.int .i64 0] 32 (0,0)):=by
  have:=zBO (w2.alloc (.cells #[.slice pV T.V.length qV,.slice pI T.I.length qI,.slice pO T.O.length qO,.slice (some ⟨bR,oR,none⟩) 1 qR] 26 (0,0))) (.cells #[.int .i64 0,.int .i64 0] 32 (0,0))
  simpa using this
 have d4:=(b3.cell (p:=⟨bR,oR+3,none⟩) yR).trans JT;have BE:=HW.out.1.trans ((b2.trans (b3.mono b2.size)).mono HW.out.1.size);clear HW b2 JT;go_upto_region 4 with fail;generalize (w2.alloc (.cells #[.slice pV T.V.length qV,.slice pI T.I.length qI,.slice pO T.O.length qO,.slice (some ⟨bR,oR,none⟩) 1 qR] 26 (0,0))).alloc (.cells #[.int .i64 0,.int .i64 0] 32 (0,0))=w3 at b3 kT kF d4 BE ⊢;have t3:=coQ kT 3;have f0:=coQ kF 0;simp at t3 f0;clear kT kF b3;go_wp2;go_ret;exact ⟨rfl,BE⟩
end Go.Proofs.YtfhghlpfeeiaeaaGreatDoor
namespace Go.Proofs.YtfhghlpfeeiaeaaGreatDoor
open Go.Shelf Go.RowKit Go.Lib Go.IntWalk
def ieq (x y:Int):Bool:=x==y
theorem eqL_ieq:∀ (l r:List Int),eqL ieq l r=true↔l=r
 | [],[]=>by simp [eqL]
 | [],y :: r=>by simp [eqL]
 | x :: l,[]=>by simp [eqL]
 | x :: l,y :: r=>by simp [eqL,ieq,eqL_ieq l r]
theorem zCP {ok ok':Nat->Prop} {w:World} {v u:Value} {l r:List Int} (hl:HInts ok w v l) (hr:HInts ok' w u r) :
  Calls Tryz.prog 16 #[v,u] w fun e w'=>e=.returned (.bool (eqL ieq l r))/\∃ m,w'=w.drewN m:=by
 obtain ⟨ao,cap,rfl,bH,cG,bo⟩:=hl.at;obtain ⟨gw,dk,rfl,Bp,y6,lv⟩:=hr.at;unfold maxLen at cG y6;obtain ⟨R,hR⟩:=nmQ (eqL ieq l r);rw [<-hR];have HR:=zBK hR;clear hR hl hr;obtain ⟨n,hn⟩:=nmQ (l.length);obtain ⟨m,hm⟩:=nmQ (r.length);rw [<-hn] at bH ⊢;rw [<-hm] at Bp ⊢;have HN:=zBK hn;have HM:=zBK hm;by_cases hlen:n=m
 ·subst hlen
  have hq:((n:Int) != (n:Int))=false:=(by simp);clear hn hm;go_enter Tryz.func16,Tryz.ntmps16;go_wp2;go_loopg [5] n (fun k v wr=>∃ i d,i<=n/\k=n-i/\v=.int .i64 (i:Nat)/\Hid (∀ j (h:j<l.length) (h':j<r.length),j<i->ieq l[j] r[j]=true)/\wr=w.drewN d)
  case atStart=>exact ⟨0,0,Nat.zero_le _,rfl,rfl,fun j _ _ h=>absurd h (Nat.not_lt_zero _),rfl⟩
  case round=>
   obtain ⟨i,d,hi,rfl,rfl,H,hW⟩:=hrel;have HW:=zBK hW;clear hW;by_cases bd:i<n
   ·have dj:i<l.length:=by have:=HN.out;omega
    have Lj:i<r.length:=(by have:=HM.out;omega);obtain ⟨b,o,rfl,hb,hc⟩:=bo i dj;obtain ⟨b',o',rfl,sn,K9⟩:=lv i Lj;have e1:wr.cell? ⟨b,o+i,none⟩=some (.int .i64 l[i]):=(by rw [HW.out];exact hc);have e2:wr.cell? ⟨b',o'+i,none⟩=some (.int .i64 r[i]):=(by rw [HW.out];exact K9);obtain ⟨x,hx⟩:=nmQ (l[i]);obtain ⟨y,hy⟩:=nmQ (r[i]);rw [<-hx] at e1;rw [<-hy] at e2;have HX:=zBK hx;have HY:=zBK hy;clear hc K9 hx hy;clear bo lv
    cases h0:(x==y)
    ·have Bj:ieq l[i] r[i]=false:=by rw [<-HX.out,<-HY.out];exact h0
     have h1:(x != y)=true:=(by simp [bne,h0]);have EA:=zBK Bj;clear Bj;go_wp2_with fail;go_quiet (fail);go_wp2;go_ret;exact ⟨zAq (by rw [HR.out,eqL_bad i dj Lj EA.out]),_,by rw [HW.out,World.drewN_drewN]⟩
    ·have ub:ieq l[i] r[i]=true:=by rw [<-HX.out,<-HY.out];exact h0
     have h1:(x != y)=false:=(by simp [bne,h0]);have zV:=zBK ub;clear ub;go_wp2_with fail;go_quiet (fail);go_wp2;go_roundg (n-(i+1))
     case measure=>omega
     case rel=>exact ⟨i+1,_,by omega,rfl,by go_num,zBK (fun j h h' hj=>by
      rcases Nat.lt_or_eq_of_le (Nat.le_of_lt_succ hj) with h2 | h2
      ·exact H.out j h h' h2
      ·subst h2;exact zV.out),by rw [HW.out,World.drewN_drewN]⟩
   ·have qa:i=n:=by omega
    have tZ:¬(i:Int)<(n:Int):=(by omega);go_wp2;go_ret;refine ⟨zAq ?_,d,HW.out⟩;rw [HR.out];exact (eqL_all (by rw [<-HN.out,<-HM.out]) (fun j h h'=>H.out j h h' (by have:=HN.out;omega))).symm
 ·have hq:((n:Int) != (m:Int))=true:=by simp;omega
  clear hn hm;go_enter Tryz.func16,Tryz.ntmps16;go_wp2;go_ret;exact ⟨zAq (by rw [HR.out,eqL_len (by rw [<-HN.out,<-HM.out];exact hlen)]),0,rfl⟩
end Go.Proofs.YtfhghlpfeeiaeaaGreatDoor
namespace Go.Proofs.YtfhghlpfeeiaeaaGreatDoor
open Go.Shelf Go.RowKit Go.Lib Go.IntWalk
theorem belowDr {B:Nat} {w v:World} (h:Below B w v) (m:Nat):Below B w (v.drewN m):=h.trans ⟨rfl,rfl,rfl,Nat.le_refl _,fun _ _=>rfl⟩
theorem zBC {ok ok':Nat->Prop} {w:World} {v u:Value} {l:List Pu} (hl:HPu ok w v l) (hr:HPu ok' w u l) :
  Calls Tryz.prog 30 #[v,u] w fun e w'=>e=.returned (.bool true)/\∃ m,w'=w.drewN m:=by
 obtain ⟨ao,cap,rfl,bH,cG,bo⟩:=hl.at;obtain ⟨gw,dk,rfl,Bp,y6,lv⟩:=hr.at;unfold maxLen at cG y6;clear hl hr;obtain ⟨n,hn⟩:=nmQ (l.length);rw [<-hn] at bH Bp ⊢;have HN:=zBK hn;have hq:((n:Int) != (n:Int))=false:=(by simp);clear hn;go_enter Tryz.func30,Tryz.ntmps30;go_wp2;go_loopg [5] n (fun k v wr=>∃ i d,i<=n/\k=n-i/\v=.int .i64 (i:Nat)/\wr=w.drewN d)
 case atStart=>exact ⟨0,0,Nat.zero_le _,rfl,rfl,rfl⟩
 case round=>
  obtain ⟨i,d,hi,rfl,rfl,hW⟩:=hrel;have HW:=zBK hW;clear hW;by_cases bd:i<n
  ·have dj:i<l.length:=by have:=HN.out;omega
   obtain ⟨b,o,rfl,hb,q0,q1,q2,q3⟩:=bo i dj;obtain ⟨b',o',rfl,sn,r0,r1,r2,r3⟩:=lv i dj;generalize l[i]=p at q0 q1 q2 q3 r0 r1 r2 r3;have e0:wr.cell? ⟨b,o+i*4,none⟩=some (.int .i64 p.op):=(by rw [HW.out];exact q0);have e1:wr.cell? ⟨b,o+i*4+1,none⟩=some (.int .i64 p.k):=(by rw [HW.out];exact q1);have e2:wr.cell? ⟨b,o+i*4+2,none⟩=some (.int .i64 p.v):=(by rw [HW.out];exact q2);have e3:wr.cell? ⟨b,o+i*4+3,none⟩=some (.int .i64 p.n):=(by rw [HW.out];exact q3);have f0:wr.cell? ⟨b',o'+i*4,none⟩=some (.int .i64 p.op):=(by rw [HW.out];exact r0);have f1:wr.cell? ⟨b',o'+i*4+1,none⟩=some (.int .i64 p.k):=(by rw [HW.out];exact r1);have f2:wr.cell? ⟨b',o'+i*4+2,none⟩=some (.int .i64 p.v):=(by rw [HW.out];exact r2);have f3:wr.cell? ⟨b',o'+i*4+3,none⟩=some (.int .i64 p.n):=(by rw [HW.out];exact r3);clear bo lv q0 q1 q2 q3 r0 r1 r2 r3;go_wp2_with fail;go_quiet (fail);go_wp2;go_roundg (n-(i+1))
   case measure=>omega
   case rel=>exact ⟨i+1,_,by omega,rfl,by go_num,by rw [HW.out,World.drewN_drewN]⟩
  ·have qa:i=n:=by omega
   have tZ:¬(i:Int)<(n:Int):=(by omega);go_wp2;go_ret;exact ⟨rfl,d,HW.out⟩
theorem zBD {ok ok':Nat->Prop} {w:World} {va ve ua ue:Value} {A:List Int} {E:List Pu} (op k out n:Int) (hA:HInts ok w va A) (hE:HPu ok w ve E) (Gb:HInts ok' w ua A) (Gf:HPu ok' w ue E) :
  Calls Tryz.prog 17 #[.agg #[.int .i64 op,.int .i64 k,.int .i64 out,.int .i64 n,va,ve],.agg #[.int .i64 op,.int .i64 k,.int .i64 out,.int .i64 n,ua,ue]] w fun e w'=>e=.returned (.bool true)/\Below w.heap.size w w':=by
 obtain ⟨W,hW⟩:=nmQ ((w.alloc (.cells #[.int .i64 op,.int .i64 k,.int .i64 out,.int .i64 n,va,ve] 42 (0,0))).alloc (.cells #[.int .i64 op,.int .i64 k,.int .i64 out,.int .i64 n,ua,ue] 42 (0,0)));have bA:Below w.heap.size w W:=(by rw [hW];exact ((Below.refl _ _).alloc zBR _).alloc (by simp) _);have K1:W.heap[w.heap.size]?=some (.cells #[.int .i64 op,.int .i64 k,.int .i64 out,.int .i64 n,va,ve] 42 (0,0)):=by
  rw [hW];exact (Below.heap_alloc _ _ _ (by simp)).trans (zBO w _)
 have K2:W.heap[w.heap.size+1]?=some (.cells #[.int .i64 op,.int .i64 k,.int .i64 out,.int .i64 n,ua,ue] 42 (0,0)):=by
  rw [hW];have:=zBO (w.alloc (.cells #[.int .i64 op,.int .i64 k,.int .i64 out,.int .i64 n,va,ve] 42 (0,0))) (.cells #[.int .i64 op,.int .i64 k,.int .i64 out,.int .i64 n,ua,ue] 42 (0,0))
  simpa using this
 have h7:=zCP (hA.under bA) (Gb.under bA);rw [(eqL_ieq A A).2 rfl] at h7;have HE:=zBK hE;have MB:=zBK Gf;obtain ⟨a1,c1,rfl,_,_,_⟩:=hA.at;obtain ⟨a2,c2,rfl,_,_,_⟩:=Gb.at;obtain ⟨a3,c3,rfl,_,_,_⟩:=hE.at;obtain ⟨a4,c4,rfl,_,_,_⟩:=Gf.at;clear hA Gb hE Gf;go_enter Tryz.func17,Tryz.ntmps17;go_upto_region 1 with fail;rw [<-hW];clear hW;have d0:=coQ K1 0;have d1:=coQ K1 1;have d2:=coQ K1 2;have d3:=coQ K1 3;have d4:=coQ K1 4;have d5:=coQ K1 5;have g0:=coQ K2 0;have g1:=coQ K2 1;have g2:=coQ K2 2;have g3:=coQ K2 3;have g4:=coQ K2 4;have g5:=coQ K2 5;simp at d0 d1 d2 d3 d4 d5 g0 g1 g2 g3 g4 g5;go_wp2_with fail;refine h7.mono ?_;rintro e w1 ⟨rfl,m1,fM⟩;have b1:Below w.heap.size w w1:=(by rw [fM];exact belowDr bA _);have j5:w1.cell? ⟨w.heap.size,5,none⟩=some (.slice a3 E.length c3):=(by rw [fM];exact d5);have i5:w1.cell? ⟨w.heap.size+1,5,none⟩=some (.slice a4 E.length c4):=(by rw [fM];exact g5);have N9:=zBC (HE.out.under b1) (MB.out.under b1);clear d0 d1 d2 d3 d4 d5 g0 g1 g2 g3 g4 g5 fM;go_wp2_with fail;refine N9.mono ?_;rintro e w2 ⟨rfl,m2,jW⟩;have b2:Below w.heap.size w w2:=(by rw [jW];exact belowDr b1 _);clear jW;go_wp2_with fail;go_ret;exact ⟨rfl,b2⟩
end Go.Proofs.YtfhghlpfeeiaeaaGreatDoor
namespace Go.Proofs.YtfhghlpfeeiaeaaGreatDoor
open Go.RowKit Go.IntWalk
theorem eqL_self (l:List Int):eqL ieq l l=true:=(eqL_ieq l l).2 rfl
theorem zCo {ok ok':Nat->Prop} {w:World} {aV aI aO aR bV bI bO bR:Option Addr} {cV cI cO cR dV dI dO dR:Nat} {S:Sk.Sys} (hS:HSys ok w aV aI aO aR cV cI cO cR S) (hT:HSys ok' w bV bI bO bR dV dI dO dR S) :
  Calls Tryz.prog 8 #[.agg #[.slice aV S.V.length cV,.slice aI S.I.length cI,.slice aO S.O.length cO,.slice aR S.R.length cR],.agg #[.slice bV S.V.length dV,.slice bI S.I.length dI,.slice bO S.O.length dO,.slice bR S.R.length dR]] w fun e w'=>e=.returned (.bool true)/\Below w.heap.size w w':=by
 obtain ⟨Nq,QX,e1,iy,jg,-⟩:=hS.V.at;injection e1 with q1 q2 q3;rw [<-q3] at iy jg;clear q1 q2 q3;obtain ⟨vX,DH,e2,jf,fb,-⟩:=hS.R.at;injection e2 with q1 q2 q3;rw [<-q3] at jf fb;clear q1 q2 q3;unfold maxLen at jg fb;have b0:Below w.heap.size w ((w.alloc (.cells #[.slice aV S.V.length cV,.slice aI S.I.length cI,.slice aO S.O.length cO,.slice aR S.R.length cR] 26 (0,0))).alloc (.cells #[.slice bV S.V.length dV,.slice bI S.I.length dI,.slice bO S.O.length dO,.slice bR S.R.length dR] 26 (0,0))):=((Below.refl _ _).alloc zBR _).alloc (by simp) _;have k1:((w.alloc (.cells #[.slice aV S.V.length cV,.slice aI S.I.length cI,.slice aO S.O.length cO,.slice aR S.R.length cR] 26 (0,0))).alloc (.cells #[.slice bV S.V.length dV,.slice bI S.I.length dI,.slice bO S.O.length dO,.slice bR S.R.length dR] 26 (0,0))).heap[w.heap.size]?=some (.cells #[.slice aV S.V.length cV,.slice aI S.I.length cI,.slice aO S.O.length cO,.slice aR S.R.length cR] 26 (0,0)):=(Below.heap_alloc _ _ _ (by simp)).trans (zBO w _);have k2:((w.alloc (.cells #[.slice aV S.V.length cV,.slice aI S.I.length cI,.slice aO S.O.length cO,.slice aR S.R.length cR] 26 (0,0))).alloc (.cells #[.slice bV S.V.length dV,.slice bI S.I.length dI,.slice bO S.O.length dO,.slice bR S.R.length dR] 26 (0,0))).heap[w.heap.size+1]?=some (.cells #[.slice bV S.V.length dV,.slice bI S.I.length dI,.slice bO S.O.length dO,.slice bR S.R.length dR] 26 (0,0)):=by
  have h7:=zBO (w.alloc (.cells #[.slice aV S.V.length cV,.slice aI S.I.length cI,.slice aO S.O.length cO,.slice aR S.R.length cR] 26 (0,0))) (.cells #[.slice bV S.V.length dV,.slice bI S.I.length dI,.slice bO S.O.length dO,.slice bR S.R.length dR] 26 (0,0));have h8:((w.alloc (.cells #[.slice aV S.V.length cV,.slice aI S.I.length cI,.slice aO S.O.length cO,.slice aR S.R.length cR] 26 (0,0))).alloc (.cells #[.slice bV S.V.length dV,.slice bI S.I.length dI,.slice bO S.O.length dO,.slice bR S.R.length dR] 26 (0,0))).heap[w.heap.size+1]?=some (.cells #[.slice bV S.V.length dV,.slice bI S.I.length dI,.slice bO S.O.length dO,.slice bR S.R.length dR] 26 (0,0)):=(by simpa using h7);exact h8
 have HS:=zBK (fun (W:World) (hb:Below w.heap.size w W)=>And.intro (hS.under hb) (hT.under hb));clear hS hT;go_enter Tryz.func8,Tryz.ntmps8;go_upto_region 1 with fail;generalize (w.alloc (.cells #[.slice aV S.V.length cV,.slice aI S.I.length cI,.slice aO S.O.length cO,.slice aR S.R.length cR] 26 (0,0))).alloc (.cells #[.slice bV S.V.length dV,.slice bI S.I.length dI,.slice bO S.O.length dO,.slice bR S.R.length dR] 26 (0,0))=w1 at b0 k1 k2 ⊢;have y1:=zBM k1;have y2:=zBM k2;have HA:=zBK (zCP (HS.out _ b0).1.I (HS.out _ b0).2.I);rw [eqL_self] at HA;have a0:=coQ k1 0;have a1:=coQ k1 1;have a2:=coQ k1 2;have a3:=coQ k1 3;have c0:=coQ k2 0;have c1:=coQ k2 1;have c2:=coQ k2 2;have c3:=coQ k2 3;simp at a0 a1 a2 a3 c0 c1 c2 c3;obtain ⟨nV,zf⟩:=nmQ (S.V.length);obtain ⟨nR,rq⟩:=nmQ (S.R.length);obtain ⟨nI,ze⟩:=nmQ (S.I.length);obtain ⟨nO,Cd⟩:=nmQ (S.O.length);have Pq:nV<=cV:=(by omega);have Pg:nR<=cR:=(by omega);have rX:=zBK zf;have MW:=zBK rq;rw [<-ze] at HA;rw [<-zf] at a0 c0;rw [<-ze] at a1 c1;rw [<-Cd] at a2 c2;rw [<-rq] at a3 c3;rw [<-zf,<-ze,<-Cd,<-rq] at k1 k2 ⊢;have bQ:=zBK Cd;clear iy jf zf rq ze Cd;go_wp2_with fail;refine HA.out.mono ?_;rintro e w2 ⟨rfl,m2,jW⟩;have b2:Below w1.heap.size w1 w2:=(by rw [jW];exact zBX (Below.refl _ _) _);clear HA jW;have HO:=zBK (zCP (HS.out _ (b0.trans (b2.mono b0.size))).1.O (HS.out _ (b0.trans (b2.mono b0.size))).2.O);rw [eqL_self,<-bQ.out] at HO;have LY:=(b2.block _ y1).trans k1;have LZ:=(b2.block _ y2).trans k2;clear a0 a1 a2 a3 c0 c1 c2 c3;have a2:=coQ LY 2;have c2:=coQ LZ 2;simp at a2 c2;go_wp2_with fail;refine HO.out.mono ?_;rintro e w3 ⟨rfl,m3,qj⟩;have b3:Below w1.heap.size w1 w3:=b2.trans (by rw [qj];exact zBX (Below.refl _ _) _);clear HO qj a2 c2 LY LZ b2;go_wp2_with fail;go_loopg [5] nV (fun kk v5 wr=>∃ (i:Nat),i<=nV/\kk=nV-i/\v5=.int .i64 (i:Nat)/\Below w1.heap.size w1 wr)
 case atStart=>exact ⟨0,Nat.zero_le _,rfl,rfl,b3⟩
 case round=>
  clear b3;obtain ⟨i,hi,rfl,rfl,aH⟩:=hrel;have xP:=(aH.block _ y1).trans k1;have xQ:=(aH.block _ y2).trans k2;have a0:=coQ xP 0;have c0:=coQ xQ 0;simp at a0 c0;by_cases bd:i<nV
  case pos=>
   have dj:i<S.V.length:=(by have:=rX.out;omega);have Br:=b0.trans (aH.mono b0.size);obtain ⟨ao,cp,e1,-,-,bo⟩:=(HS.out _ Br).1.V.at;injection e1 with q1 q2 q3;obtain ⟨bA,oA,jT,yA,x0,x1⟩:=bo i dj;rw [jT] at q1;subst q1;obtain ⟨FO,JS,e4,-,-,ly⟩:=(HS.out _ Br).2.V.at;injection e4 with q4 q5 q6;obtain ⟨bB,oB,Bi,yB,z0,z1⟩:=ly i dj;rw [Bi] at q4;subst q4;generalize S.V[i]=vv at x0 x1 z0 z1;obtain ⟨el,vn⟩:=vv
   dsimp only at x0 x1 z0 z1
   have yS:=zBM xP;have yT:=zBM xQ;clear bo ly q2 q3 q5 q6 jT Bi;go_upto_region 6 with fail;have aM:=zBK (fun (wz:World) (hSw:Below wr.heap.size wr wz)=>And.intro ((hSw.cell (p:=⟨w.heap.size,0,none⟩) yS).trans a0) (And.intro ((hSw.cell (p:=⟨w.heap.size+1,0,none⟩) yT).trans c0) (And.intro ((hSw.cell (p:=⟨bA,oA+i*2,none⟩) yA).trans x0) (And.intro ((hSw.cell (p:=⟨bA,oA+i*2+1,none⟩) yA).trans x1) (And.intro ((hSw.cell (p:=⟨bB,oB+i*2,none⟩) yB).trans z0) ((hSw.cell (p:=⟨bB,oB+i*2+1,none⟩) yB).trans z1))))));refine zBP (fun w'=>Below wr.heap.size wr w') (fun _=>false) (by kernel_rfl) ?_;have ab:Below wr.heap.size wr wr.drew:=(Below.refl _ _).drew;generalize wr.drew=ag at ab ⊢;refine' tkR 0 46 ab ?o1
   refine' tkQ 1 47 ab ?hyv ?o2
   case hyv=>
    intro wz hSw;have bk:=aM.out wz hSw;go_simp
    try rfl
   try simp only [Act.put,sT,sZ,sS]
   refine' tkR 2 48 ab ?o3
   refine' tkR 3 49 ab ?o4
   refine' tkQ 4 50 ab ?hyv ?o5
   case hyv=>
    intro wz hSw;have bk:=aM.out wz hSw;go_simp
    try rfl
   try simp only [Act.put,sT,sZ,sS]
   refine' tkR 5 51 ab ?o6
   refine' tkQ 6 52 ab ?hyv ?o7
   case hyv=>
    intro wz hSw;have bk:=aM.out wz hSw;go_simp
    try rfl
   try simp only [Act.put,sT,sZ,sS]
   refine' tkR 7 53 ab ?o8
   refine' tkR 8 54 ab ?o9
   refine' tkQ 9 55 ab ?hyv ?o10
   case hyv=>
    intro wz hSw;have bk:=aM.out wz hSw;go_simp
    try rfl
   try simp only [Act.put,sT,sZ,sS]
   refine' zBS (i:=10) (oi:=⟨some 56,_,_,_,_,_⟩) (v:=.bool false) rfl (by kernel_rfl) (by kernel_rfl) (by kernel_rfl) (by kernel_rfl) (fun _ _ _ h=>h) ab (by rfl) ?hyv ?o11
   case hyv=>
    intro wz hSw;go_simp
    try simp
    try rfl
   try simp only [Act.put,sT,sZ,sS]
   refine zBN (by kernel_rfl) ?_ _;have BX:=aH.trans (ab.mono aH.size);go_wp2_with fail;go_roundg (nV-(i+1))
   case measure=>omega
   case rel=>exact ⟨i+1,by omega,rfl,by go_num,BX⟩
  case neg=>
   have bp:i=nV:=(by omega);subst bp;clear c0;have a3:=coQ xP 3;have c3:=coQ xQ 3;simp at a3 c3;obtain ⟨wq,nX⟩:=nmQ (wr);subst nX;go_wp2_with fail;clear a0 a3 c3 xP xQ;go_loopg [6] nR (fun kk v6 wr=>∃ (i:Nat),i<=nR/\kk=nR-i/\v6=.int .i64 (i:Nat)/\Below w1.heap.size w1 wr)
   case atStart=>exact ⟨0,Nat.zero_le _,rfl,rfl,aH⟩
   case round=>
    clear aH;obtain ⟨i,hi,rfl,rfl,aH⟩:=hrel;have xP:=(aH.block _ y1).trans k1;have xQ:=(aH.block _ y2).trans k2;have a3:=coQ xP 3;have c3:=coQ xQ 3;simp at a3 c3;by_cases bd:i<nR
    case neg=>
     go_wp2;go_ret;exact ⟨rfl,b0.trans (aH.mono b0.size)⟩
    case pos=>
     have dj:i<S.R.length:=(by have:=MW.out;omega);have Br:=b0.trans (aH.mono b0.size);obtain ⟨ao,cp,e1,-,-,bo⟩:=(HS.out _ Br).1.R.at;injection e1 with q1 q2 q3;obtain ⟨bA,oA,y,jT,yA,iT,dA⟩:=bo i dj;rw [jT] at q1;subst q1;obtain ⟨FO,JS,e4,-,-,ly⟩:=(HS.out _ Br).2.R.at;injection e4 with q4 q5 q6;obtain ⟨bB,oB,y',Bi,yB,uw,sO⟩:=ly i dj;rw [Bi] at q4;subst q4;generalize S.R[i]=r at iT dA uw sO;obtain ⟨op,k,out,n,A,E⟩:=r;obtain ⟨d0,d1,d2,d3,d4,d5⟩:=iT;obtain ⟨f0,f1,f2,f3,f4,f5⟩:=uw
     dsimp only at d0 d1 d2 d3 d4 d5 f0 f1 f2 f3 f4 f5
     have Dd:=zBK (fun (W:World) (hW:Below wr.heap.size wr W)=>zBD op k out n (dA.under hW).A (dA.under hW).E (sO.under hW).A (sO.under hW).E);have yS:=zBM xP;have yT:=zBM xQ;clear bo ly q2 q3 q5 q6 jT Bi dA sO;go_upto_region 11 with fail;have aM:=zBK (fun (wz:World) (hSw:Below wr.heap.size wr wz)=>And.intro ((hSw.cell (p:=⟨w.heap.size,3,none⟩) yS).trans a3) (And.intro ((hSw.cell (p:=⟨w.heap.size+1,3,none⟩) yT).trans c3) (And.intro ((hSw.cell (p:=⟨bA,oA+i*6,none⟩) yA).trans d0) (And.intro ((hSw.cell (p:=⟨bB,oB+i*6,none⟩) yB).trans f0) (And.intro ((hSw.cell (p:=⟨bA,oA+i*6+1,none⟩) yA).trans d1) (And.intro ((hSw.cell (p:=⟨bB,oB+i*6+1,none⟩) yB).trans f1) (And.intro ((hSw.cell (p:=⟨bA,oA+i*6+2,none⟩) yA).trans d2) (And.intro ((hSw.cell (p:=⟨bB,oB+i*6+2,none⟩) yB).trans f2) (And.intro ((hSw.cell (p:=⟨bA,oA+i*6+3,none⟩) yA).trans d3) (And.intro ((hSw.cell (p:=⟨bB,oB+i*6+3,none⟩) yB).trans f3) (And.intro ((hSw.cell (p:=⟨bA,oA+i*6+4,none⟩) yA).trans d4) (And.intro ((hSw.cell (p:=⟨bB,oB+i*6+4,none⟩) yB).trans f4) (And.intro ((hSw.cell (p:=⟨bA,oA+i*6+5,none⟩) yA).trans d5) ((hSw.cell (p:=⟨bB,oB+i*6+5,none⟩) yB).trans f5))))))))))))));refine zBP (fun w'=>Below wr.heap.size wr w') (fun _=>false) (by kernel_rfl) ?_;have ab:Below wr.heap.size wr wr.drew:=(Below.refl _ _).drew;generalize wr.drew=ag at ab ⊢;refine' tkR 0 64 ab ?o12
     refine' tkQ 1 65 ab ?hyv ?o13
     case hyv=>
      intro wz hSw;have bk:=aM.out wz hSw;go_simp
      try rfl
     try simp only [Act.put,sT,sZ,sS]
     refine' tkR 2 66 ab ?o14
     refine' tkR 3 67 ab ?o15
     refine' tkQ 4 68 ab ?hyv ?o16
     case hyv=>
      intro wz hSw;have bk:=aM.out wz hSw;go_simp
      try rfl
     try simp only [Act.put,sT,sZ,sS]
     refine' tkR 5 69 ab ?o17
     refine' tkQ 6 70 ab ?hyv ?o18
     case hyv=>
      intro wz hSw;have bk:=aM.out wz hSw;go_simp
      try rfl
     try simp only [Act.put,sT,sZ,sS]
     refine' tkR 7 71 ab ?o19
     refine' tkR 8 72 ab ?o20
     refine' tkQ 9 73 ab ?hyv ?o21
     case hyv=>
      intro wz hSw;have bk:=aM.out wz hSw;go_simp
      try rfl
     try simp only [Act.put,sT,sZ,sS]
     refine tnQ 10 (fun K hK=>?_);go_simp;refine (Dd.out ag ab).mono ?_;rintro eq aw ⟨rfl,cY⟩;have af:Below wr.heap.size wr aw:=ab.trans (cY.mono ab.size);refine hK.out _ _ (fun _=>af) ?_;clear hK K
     try simp only [Act.put,sT,sZ,sS]
     refine' tkR 11 75 af ?o22
     refine zBN (by kernel_rfl) ?_ _;have BX:=aH.trans (af.mono aH.size);go_wp2_with fail;go_roundg (nR-(i+1))
     case measure=>omega
     case rel=>exact ⟨i+1,by omega,rfl,by go_num,BX⟩
end Go.Proofs.YtfhghlpfeeiaeaaGreatDoor
