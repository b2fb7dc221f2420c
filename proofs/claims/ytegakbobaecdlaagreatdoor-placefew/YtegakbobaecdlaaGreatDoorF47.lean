import Derived.Test.YtegakbobaecdlaaGreatDoorF43
import Derived.Test.YtegakbobaecdlaaGreatDoorF44
import Derived.Test.YtegakbobaecdlaaGreatDoorF46
set_option linter.unusedVariables false
set_option linter.unusedSimpArgs false
set_option maxHeartbeats 64000000
set_option maxRecDepth 100000
namespace Go.Proofs.YtegakbobaecdlaaGreatDoor
open Go.RowKit Go.IntWalk
def pgR:Sk.Ru:=⟨14,0,1,0,[],[⟨3,0,0,0⟩,⟨5,13,0,0⟩]⟩
def pgS:Sk.Sys:=⟨[⟨105,4⟩,⟨105,4⟩],[0],[1],[pgR]⟩
theorem pg_needs:Sk.needs pgR=[0]:=by
 have h:∀ z,z ∈ Sk.needs pgR↔z=0:=fun z=>by
  unfold Sk.needs;rw [if_neg (by decide)];unfold Sk.uses;rw [xJ];simp [pgR,Sk.ownE,nmd]
 have hn:=needs_nodup pgR
 match e:Sk.needs pgR with
 | []=>exact absurd ((h 0).2 rfl) (by rw [e];simp)
 | [y]=>rw [(h y).1 (by rw [e];simp)]
 | y :: z :: r=>
  exfalso
  rw [e,List.nodup_cons] at hn;have h1:=(h y).1 (by rw [e];simp);have h2:=(h z).1 (by rw [e];simp);exact hn.1 (by rw [h1,h2];simp)
theorem pg_spans:Sk.spans pgS=[(-1,0),(0,1)]:=by
 unfold Sk.spans Sk.start pgS;simp only [Sk.needR,Sk.needRu,pg_needs];rfl
theorem jB:Sk.Okay pgS:=by
 refine ⟨by decide,by decide,by decide,by decide,?_,by decide,by decide,by decide,?_,by decide,?_,by decide⟩
 ·intro v hv
  simp [pgS] at hv;subst hv;exact ⟨.inl rfl,by decide⟩
 ·intro r hr
  simp [pgS] at hr;subst hr;refine ⟨by decide,by decide,by decide,fun z hz=>?_,by decide⟩;rw [xJ] at hz;simp [pgR,Sk.ownE,nmd] at hz;subst hz
  decide
 ·intro r hr z hz
  simp [pgS] at hr;subst hr;unfold Sk.uses at hz;rw [xJ] at hz;simp [pgR,Sk.ownE,nmd] at hz;subst hz
  decide
theorem pg_ahead:Sk.Ahead pgS:=by
 intro i hi z hz;have h2:i=0:=(by simp [pgS] at hi;omega);subst h2;have e:Sk.needs pgS.R[0]=[0]:=pg_needs;rw [e] at hz;simp at hz;subst hz;exact .inl (by decide)
theorem jC:Sk.kept pgS pgS.R.length=1:=by decide
theorem pg_first {a:Nat} (hf:Sk.Fit pgS (Sk.spans pgS) (Sk.mayAt pgS (Sk.spans pgS) 0) (Sk.kept pgS pgS.R.length) ⟨List.replicate pgS.V.length (-1),Sk.kept pgS pgS.R.length,[]⟩ (Sk.varAt pgS 0) a):a=1:=by
 have:=hf.first (fun o ho=>by cases ho)
 rw [jC] at this;exact this
theorem pg_second {a:Nat} (hf:Sk.Fit pgS (Sk.spans pgS) (Sk.mayAt pgS (Sk.spans pgS) 1) (Sk.kept pgS pgS.R.length) ⟨[1,-1],5,[0]⟩ (Sk.varAt pgS 1) a):a=1:=by
 have:=hf.first (fun o ho=>by
  simp at ho;subst ho;rw [pg_spans,jC]
  decide)
 rw [jC] at this;exact this
theorem pg_laid {st:Sk.St} (h:Sk.Laid pgS (Sk.spans pgS) 2 st):st.A=[1,1]/\st.c=5:=by
 cases h with
 | step h1 hi1 hf1=>
  cases h1 with
  | step h0 hi0 hf0=>
   cases h0 with
   | start=>
    have e0:=pg_first hf0;subst e0;have e1:=pg_second hf1;subst e1;exact ⟨rfl,rfl⟩
theorem pg_few {i:Nat} {st:Sk.St} (h:Sk.Laid pgS (Sk.spans pgS) i st):st.c<=6000:=by
 obtain ⟨hi,I⟩:=h.inv jB;have hlen:st.L.length=i:=(by rw [I.L];simp);have hin:∀ o ∈ st.L,0<=o/\o<pgS.V.length:=fun o ho=>by
  rw [I.L] at ho;obtain ⟨j,hj,e⟩:=List.mem_map.1 ho;rw [<-e];exact Sk.varAt_in jB (by have:=List.mem_range.1 hj;omega)
 have h1:=Sk.sum_le jB st.L hin;have h3:=I.cells;rw [jC] at h3;have h4:i<=2:=hi;omega
theorem blk_row {α:Type} (T:Kind α) {ok:Nat->Prop} {w:World} {b:Nat} {cur:Array Value} {ty:TypeId} {l:List α} (k:w.heap[b]?=some (.cells cur ty (0,0))) (D:Nat->List Value) (hD:∀ i,i<l.length->(D i).length=T.k/\∀ j,j<T.k->cur[i*T.k+j]?=(D i)[j]?) (hE:∀ i (h:i<l.length),T.E ok w (D i) l[i]) (hob:ok b) (hm:l.length<=maxLen):HRow T ok w (.slice (some ⟨b,0,none⟩) l.length l.length) l :=
 ⟨D,⟨_,_,rfl,Nat.le_refl _,hm,fun _=>⟨b,0,rfl,hob,zH k,fun i hi=>⟨(hD i hi).1,fun j hj=>by
  have e:0+i*T.k+j=i*T.k+j:=(by omega);rw [e];exact (coQ k _).trans ((hD i hi).2 j hj)⟩⟩⟩,hE⟩
theorem pg_one {ok:Nat->Prop} {w:World} {b:Nat} {x:Int} {ty:TypeId} (k:w.heap[b]?=some (.cells #[.int .i64 x] ty (0,0))) (hob:ok b):HInts ok w (.slice (some ⟨b,0,none⟩) 1 1) [x] :=
 zU (blk_row kInt (l:=[x]) k (fun _=>[.int .i64 x]) (fun i hi=>by
  have:i=0:=(by simp at hi;omega);subst this;exact ⟨rfl,fun j hj=>by have h0:j=0:=(by have:j<1:=hj;omega);subst h0;rfl⟩) (fun i hi=>by
  have:i=0:=(by simp at hi;omega);subst this;rfl) hob (by simp [maxLen]))
theorem pg_vars {ok:Nat->Prop} {w:World} {b:Nat} (k:w.heap[b]?=some (.cells #[.int .u8 105,.int .i64 4,.int .u8 105,.int .i64 4] 55 (0,0))) (hob:ok b):HVars ok w (.slice (some ⟨b,0,none⟩) 2 2) pgS.V :=
 vars_row (blk_row kVar (l:=pgS.V) k (fun _=>[.int .u8 105,.int .i64 4]) (fun i hi=>by
  have h2:i=0\/i=1:=(by simp [pgS] at hi;omega);rcases h2 with rfl | rfl
  all_goals exact ⟨rfl,fun j hj=>by have h0:j=0\/j=1:=(by have:j<2:=hj;omega);rcases h0 with rfl | rfl<;>rfl⟩) (fun i hi=>by
  have h2:i=0\/i=1:=(by simp [pgS] at hi;omega);rcases h2 with rfl | rfl<;>rfl) hob (by simp [maxLen,pgS]))
theorem pg_push {ok:Nat->Prop} {w:World} {b:Nat} (k:w.heap[b]?=some (.cells #[.int .i64 3,.int .i64 0,.int .i64 0,.int .i64 0,.int .i64 5,.int .i64 13,.int .i64 0,.int .i64 0] 79 (0,0))) (hob:ok b):HPu ok w (.slice (some ⟨b,0,none⟩) 2 2) pgR.E:=by
 refine ⟨fun i=>if i=0 then [.int .i64 3,.int .i64 0,.int .i64 0,.int .i64 0] else [.int .i64 5,.int .i64 13,.int .i64 0,.int .i64 0],⟨_,_,rfl,Nat.le_refl _,by decide,fun _=>⟨b,0,rfl,hob,zH k,fun i hi=>?_⟩⟩,fun i hi=>?_⟩
 ·have h2:i=0\/i=1:=by simp [pgR] at hi;omega
  rcases h2 with rfl | rfl
  all_goals exact ⟨rfl,fun j hj=>by have h0:j=0\/j=1\/j=2\/j=3:=(by omega);rcases h0 with rfl | rfl | rfl | rfl<;>exact coQ k _⟩
 ·have h2:i=0\/i=1:=by simp [pgR] at hi;omega
  rcases h2 with rfl | rfl<;>rfl
theorem pg_rules {ok:Nat->Prop} {w:World} {b c:Nat} (k:w.heap[b]?=some (.cells #[.int .i64 14,.int .i64 0,.int .i64 1,.int .i64 0,.slice none 0 0,.slice (some ⟨c,0,none⟩) 2 2] 40 (0,0))) (kc:w.heap[c]?=some (.cells #[.int .i64 3,.int .i64 0,.int .i64 0,.int .i64 0,.int .i64 5,.int .i64 13,.int .i64 0,.int .i64 0] 79 (0,0))) (hob:ok b) (hoc:ok c):HRus ok w (.slice (some ⟨b,0,none⟩) 1 1) pgS.R :=
 (blk_row kRu (l:=pgS.R) k (fun i=>[.int .i64 14,.int .i64 0,.int .i64 1,.int .i64 0,.slice none 0 0,.slice (some ⟨c,0,none⟩) 2 2]) (fun i hi=>by
  have h2:i=0:=(by simp [pgS] at hi;omega);subst h2;exact ⟨rfl,fun j hj=>by have h0:j=0\/j=1\/j=2\/j=3\/j=4\/j=5:=(by have:j<6:=hj;omega);rcases h0 with rfl | rfl | rfl | rfl | rfl | rfl<;>rfl⟩) (fun i hi=>by
  have h2:i=0:=(by simp [pgS] at hi;omega);subst h2;have hp:HInts ok w (.slice none 0 0) []:=⟨fun _=>[],Sl.nil,fun j h=>absurd h (Nat.not_lt_zero _)⟩;exact ⟨⟨none,0,0,some ⟨c,0,none⟩,2,2⟩,rfl,⟨hp,pg_push kc hoc⟩⟩) hob (by simp [maxLen,pgS]))
def allocs (w:World):List Obj->World
 | []=>w
 | o :: r=>allocs (w.alloc o) r
theorem xX (w:World):∀ (l:List Obj) (W:World) (B:Nat),Below B w W->B<=W.heap.size->Below B w (allocs W l)
 | [],W,B,h,_=>h
 | o :: r,W,B,h,hB=>xX w r (W.alloc o) B (h.alloc hB o) (by simp;omega)
theorem vP:∀ (l:List Obj) (w:World),(allocs w l).heap.size=w.heap.size+l.length
 | [],w=>rfl
 | o :: r,w=>by unfold allocs;rw [vP r];simp;omega
theorem xE:∀ (l:List Obj) (w:World) (i:Nat) (o:Obj),l[i]?=some o->(allocs w l).heap[w.heap.size+i]?=some o
 | [],w,i,o,h=>by simp at h
 | x :: r,w,0,o,h=>by
  simp at h;subst h;unfold allocs;have b:=xX (w.alloc x) r (w.alloc x) (w.alloc x).heap.size (Below.refl _ _) zL;rw [Nat.add_zero];exact (b.block _ (by simp)).trans (zI w x)
 | x :: r,w,i+1,o,h=>by
  unfold allocs;have:=xE r (w.alloc x) i o (by simpa using h);have e:(w.alloc x).heap.size+i=w.heap.size+(i+1):=(by simp;omega)
  rwa [e] at this
theorem jW {w:World} (hG:GlobK w) (hP:GlobP w):Calls Tryz.prog 18 #[] w fun e w'=>e=.returned (.bool true)/\Below w.heap.size w w':=by
 obtain ⟨W,hW⟩:=nmQ ((((((((w.alloc (.cells #[.int .u8 105,.int .i64 4] 55 (0,0))).alloc (.cells #[.int .u8 105,.int .i64 4,.int .u8 105,.int .i64 4] 55 (0,0))).alloc (.cells #[.int .i64 0] 3 (0,0))).alloc (.cells #[.int .i64 1] 3 (0,0))).alloc (.cells #[.int .i64 3,.int .i64 0,.int .i64 0,.int .i64 0,.int .i64 5,.int .i64 13,.int .i64 0,.int .i64 0] 79 (0,0))).alloc (.cells #[.int .i64 14,.int .i64 0,.int .i64 1,.int .i64 0,.slice none 0 0,.slice (some ⟨w.heap.size+4,0,none⟩) 2 2] 40 (0,0))).alloc (.cells #[.slice (some ⟨w.heap.size+1,0,none⟩) 2 2,.slice (some ⟨w.heap.size+2,0,none⟩) 1 1,.slice (some ⟨w.heap.size+3,0,none⟩) 1 1,.slice (some ⟨w.heap.size+5,0,none⟩) 1 1] 26 (0,0))));have hWL:W=allocs w [.cells #[.int .u8 105,.int .i64 4] 55 (0,0),.cells #[.int .u8 105,.int .i64 4,.int .u8 105,.int .i64 4] 55 (0,0),.cells #[.int .i64 0] 3 (0,0),.cells #[.int .i64 1] 3 (0,0),.cells #[.int .i64 3,.int .i64 0,.int .i64 0,.int .i64 0,.int .i64 5,.int .i64 13,.int .i64 0,.int .i64 0] 79 (0,0),.cells #[.int .i64 14,.int .i64 0,.int .i64 1,.int .i64 0,.slice none 0 0,.slice (some ⟨w.heap.size+4,0,none⟩) 2 2] 40 (0,0),.cells #[.slice (some ⟨w.heap.size+1,0,none⟩) 2 2,.slice (some ⟨w.heap.size+2,0,none⟩) 1 1,.slice (some ⟨w.heap.size+3,0,none⟩) 1 1,.slice (some ⟨w.heap.size+5,0,none⟩) 1 1] 26 (0,0)]:=hW;have bW:Below w.heap.size w W:=(by rw [hWL];exact xX w _ w _ (Below.refl _ _) zL);have zW:W.heap.size=w.heap.size+7:=(by rw [hWL,vP];rfl);have K0:W.heap[w.heap.size+0]?=some (.cells #[.int .u8 105,.int .i64 4] 55 (0,0)):=(by rw [hWL];exact xE _ w 0 _ rfl);have K1:W.heap[w.heap.size+1]?=some (.cells #[.int .u8 105,.int .i64 4,.int .u8 105,.int .i64 4] 55 (0,0)):=(by rw [hWL];exact xE _ w 1 _ rfl);have K2:W.heap[w.heap.size+2]?=some (.cells #[.int .i64 0] 3 (0,0)):=(by rw [hWL];exact xE _ w 2 _ rfl);have K3:W.heap[w.heap.size+3]?=some (.cells #[.int .i64 1] 3 (0,0)):=(by rw [hWL];exact xE _ w 3 _ rfl);have K4:W.heap[w.heap.size+4]?=some (.cells #[.int .i64 3,.int .i64 0,.int .i64 0,.int .i64 0,.int .i64 5,.int .i64 13,.int .i64 0,.int .i64 0] 79 (0,0)):=(by rw [hWL];exact xE _ w 4 _ rfl);have K5:W.heap[w.heap.size+5]?=some (.cells #[.int .i64 14,.int .i64 0,.int .i64 1,.int .i64 0,.slice none 0 0,.slice (some ⟨w.heap.size+4,0,none⟩) 2 2] 40 (0,0)):=(by rw [hWL];exact xE _ w 5 _ rfl);have K6:W.heap[w.heap.size+6]?=some (.cells #[.slice (some ⟨w.heap.size+1,0,none⟩) 2 2,.slice (some ⟨w.heap.size+2,0,none⟩) 1 1,.slice (some ⟨w.heap.size+3,0,none⟩) 1 1,.slice (some ⟨w.heap.size+5,0,none⟩) 1 1] 26 (0,0)):=(by rw [hWL];exact xE _ w 6 _ rfl);have hS:HSys (fun i=>i<w.heap.size+7) W (some ⟨w.heap.size+1,0,none⟩) (some ⟨w.heap.size+2,0,none⟩) (some ⟨w.heap.size+3,0,none⟩) (some ⟨w.heap.size+5,0,none⟩) 2 1 1 1 pgS:=⟨pg_vars K1 (by show _<_;omega),pg_one K2 (by show _<_;omega),pg_one K3 (by show _<_;omega),pg_rules K5 K4 (by show _<_;omega) (by show _<_;omega)⟩;have hmk:=make_any (hG.under bW) (hP.under bW) hS (by decide);have HMK:=zG hmk;have HW:=zG (And.intro bW zW);have HW2:=zG hW;clear hmk bW zW hS hW hWL K0 K1 K2 K3 K4 K5 hG hP;go_enter Tryz.func18,Tryz.ntmps18;go_upto_region 3 with fail;rw [<-HW2.out];clear HW2;have k0:=coQ K6 0;have k1:=coQ K6 1;have k2:=coQ K6 2;have k3:=coQ K6 3;simp at k0 k1 k2 k3;go_wp2_with fail;refine HMK.out.mono ?_;intro e w2 hp;clear HMK k0 k1 k2 k3 K6;unfold MakePost at hp;rcases hp with ⟨c,a,hc,hwhy,-⟩ | ⟨-,-,ga,gk,K,st,rfl,-,-,hld,-,hia,-,b2⟩
 case inl=>
  rcases hwhy with q | ⟨i,st,q1,q2⟩
  ·exact absurd (q.det (.inr (.inr ⟨jB,pg_ahead,rfl,rfl⟩))).1 hc
  ·have:=pg_few q1
   omega
 have hl:=pg_laid hld;rw [hl.1] at hia;have hcc:((st.c:Nat):Int)=5:=(by rw [hl.2];rfl);rw [hcc,show pgS.V.length=2 from rfl,show pgS.R.length=1 from rfl];have B2:=HW.out.1.trans (b2.mono HW.out.1.size);have b3:Below w2.heap.size w2 (w2.alloc (.cells #[.slice (some ⟨ga,0,none⟩) 2 2,.slice (some ⟨gk,0,none⟩) 1 1,.int .i64 5] 48 (0,0))):=(Below.refl _ _).alloc zL _;have b4:=b3.alloc b3.size (.cells #[.int .i64 0,.int .i64 0] 30 (0,0));have kP:((w2.alloc (.cells #[.slice (some ⟨ga,0,none⟩) 2 2,.slice (some ⟨gk,0,none⟩) 1 1,.int .i64 5] 48 (0,0))).alloc (.cells #[.int .i64 0,.int .i64 0] 30 (0,0))).heap[w2.heap.size]?=some (.cells #[.slice (some ⟨ga,0,none⟩) 2 2,.slice (some ⟨gk,0,none⟩) 1 1,.int .i64 5] 48 (0,0)):=(Below.heap_alloc _ _ _ (by simp)).trans (zI w2 _);have kF:((w2.alloc (.cells #[.slice (some ⟨ga,0,none⟩) 2 2,.slice (some ⟨gk,0,none⟩) 1 1,.int .i64 5] 48 (0,0))).alloc (.cells #[.int .i64 0,.int .i64 0] 30 (0,0))).heap[w2.heap.size+1]?=some (.cells #[.int .i64 0,.int .i64 0] 30 (0,0)):=by
  have:=zI (w2.alloc (.cells #[.slice (some ⟨ga,0,none⟩) 2 2,.slice (some ⟨gk,0,none⟩) 1 1,.int .i64 5] 48 (0,0))) (.cells #[.int .i64 0,.int .i64 0] 30 (0,0))
  simpa using this
 have hia4:=hia.under b4;have B4:=B2.trans (b4.mono B2.size);clear HW b2 b3 hia hl hcc hld;go_upto_region 4 with fail;have hrw:∀ n:Nat,True:=fun _=>trivial;clear hrw;generalize (w2.alloc (.cells #[.slice (some ⟨ga,0,none⟩) 2 2,.slice (some ⟨gk,0,none⟩) 1 1,.int .i64 5] 48 (0,0))).alloc (.cells #[.int .i64 0,.int .i64 0] 30 (0,0))=w3 at b4 kP kF hia4 B4 ⊢;have p0:=coQ kP 0;have p2:=coQ kP 2;have f0:=coQ kF 0;simp at p0 p2 f0;have b5:Below w3.heap.size w3 (w3.alloc (.cells #[.int .i64 1,.int .i64 1] 3 (0,0))):=(Below.refl _ _).alloc zL _;have k5:=zI w3 (.cells #[.int .i64 1,.int .i64 1] 3 (0,0));have hsi:=sameInts_any ((hia4.under b5).ints (ok:=fun _=>True) (by decide) trivial) (IB.ints (l:=[1,1]) (show IB _ _ [1,1] from k5) (ok:=fun _=>True) (by decide) trivial);have eqt:eqL ieq [1,1] [1,1]=true:=(by decide);rw [eqt] at hsi;have B5:=B4.trans (b5.mono B4.size);have HB5:=zG B5;clear hia4 kP kF k5 b5 B5;go_wp2_with fail;refine hsi.mono ?_;rintro e w6 ⟨rfl,m,rfl⟩;clear hsi;go_wp2;go_ret;exact ⟨rfl,vO HB5.out _⟩
end Go.Proofs.YtegakbobaecdlaaGreatDoor
