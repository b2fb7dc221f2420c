import Derived.Test.YtoldepieaafakaaGreatDoorC46
set_option linter.unusedVariables false
set_option linter.unusedSimpArgs false
set_option maxHeartbeats 64000000
set_option maxRecDepth 100000
namespace Go.Proofs.YtoldepieaafakaaGreatDoor
open Go.RowKit Go.IntWalk
def lgS:Sk.Sys:=⟨[⟨105,0⟩,⟨105,0⟩,⟨105,0⟩],[0],[2],[⟨3,13,1,0,[0],[]⟩,⟨2,0,2,0,[1],[]⟩]⟩
theorem uses_one (x:Int):usesT [x] []=[x]:=by
 have h:∀ z,z ∈ usesT [x] []↔z=x:=fun z=>by rw [xK];simp
 have hn:=vV [x] []
 match e:usesT [x] [] with
 | []=>exact absurd ((h x).2 rfl) (by rw [e];simp)
 | [y]=>rw [(h y).1 (by rw [e];simp)]
 | y :: z :: r=>
  exfalso
  rw [e,List.nodup_cons] at hn;have h1:=(h y).1 (by rw [e];simp);have h2:=(h z).1 (by rw [e];simp);exact hn.1 (by rw [h1,h2];simp)
theorem lg_need0:Sk.needs ⟨3,13,1,0,[0],[]⟩=[0]:=by simp [Sk.needs,Sk.uses,Sk.ownE,uses_one]
theorem lg_need1:Sk.needs ⟨2,0,2,0,[1],[]⟩=[1]:=by simp [Sk.needs,Sk.uses,Sk.ownE,uses_one]
theorem lg_spans:Sk.spans lgS=[(-1,0),(0,1),(1,2)]:=by
 unfold Sk.spans Sk.start lgS;simp only [Sk.needR,Sk.needRu,lg_need0,lg_need1];rfl
theorem lg_okay:Sk.Okay lgS:=by
 refine ⟨by decide,by decide,by decide,by decide,?_,by decide,by decide,by decide,?_,by decide,?_,by decide⟩
 ·intro v hv
  simp [lgS] at hv;subst hv;exact ⟨.inl rfl,by decide⟩
 ·intro r hr
  simp [lgS] at hr;rcases hr with rfl | rfl
  ·refine ⟨by decide,by decide,by decide,fun z hz=>?_,by decide⟩
   rw [xK] at hz;simp [Sk.ownE] at hz;rcases hz with rfl | rfl<;>decide
  ·refine ⟨by decide,by decide,by decide,fun z hz=>?_,by decide⟩
   rw [xK] at hz;simp [Sk.ownE] at hz;rcases hz with rfl | rfl<;>decide
 ·intro r hr z hz
  unfold Sk.uses at hz;simp [lgS] at hr;rcases hr with rfl | rfl
  ·rw [xK] at hz
   simp [Sk.ownE] at hz;rcases hz with rfl | rfl<;>decide
  ·rw [xK] at hz
   simp [Sk.ownE] at hz;rcases hz with rfl | rfl<;>decide
theorem lg_ahead:Sk.Ahead lgS:=by
 intro i hi z hz;have h2:i=0\/i=1:=(by simp [lgS] at hi;omega);rcases h2 with rfl | rfl
 ·have e:Sk.needs lgS.R[0]=[0]:=lg_need0
  rw [e] at hz;simp at hz;subst hz;exact .inl (by decide)
 ·have e:Sk.needs lgS.R[1]=[1]:=lg_need1
  rw [e] at hz;simp at hz;subst hz;exact .inr (by decide)
theorem lg_fault {c a:Int} (h:FaultIs lgS c a):c=0:=(h.det (.inr (.inr ⟨lg_okay,lg_ahead,rfl,rfl⟩))).1
theorem Tryz.infoLn:(Tryz.prog.info? 3).map (fun i=>(i.zero,i.size,i.bytes))=some (some (.int .i64 0),1,8):=by kernel_rfl
def kLong:Kind Int where
 ty:=3
 k:=1
 bytes:=8
 zero:=.int .i64 0
 E:=fun _ _ cs x=>cs=[.int .i64 x]
 pos:=by decide
 zs:=rfl
 info:=Tryz.infoLn
 len:=by rintro _ _ _ _ rfl;rfl
 one:=by rintro _ _ _ _ rfl;simp;rfl
 keep:=by rintro _ _ _ _ _ rfl _ _;rfl
 wide:=by rintro _ _ _ _ _ rfl _;rfl
theorem xP {ok:Nat->Prop} {w:World} {v:Value} {l:List Int} (h:HRow kLong ok w v l):HInts ok w v l:=h
theorem Tryz.infoRu:(Tryz.prog.info? 39).map (fun i=>(i.zero,i.size,i.bytes))=some (some (.agg #[.int .i64 0,.int .i64 0,.int .i64 0,.int .i64 0,.slice none 0 0,.slice none 0 0]),6,80):=by kernel_rfl
def kRu:Kind Sk.Ru where
 ty:=39
 k:=6
 bytes:=80
 zero:=.agg #[.int .i64 0,.int .i64 0,.int .i64 0,.int .i64 0,.slice none 0 0,.slice none 0 0]
 E:=fun ok w cs r=>∃ y,cs=rcs r y/\HRu ok w y r
 pos:=by decide
 zs:=rfl
 info:=Tryz.infoRu
 len:=by rintro _ _ _ _ ⟨y,rfl,_⟩;rfl
 one:=by
  rintro _ _ _ _ ⟨y,rfl,_⟩ u hu;simp [rcs] at hu;rcases hu with rfl | rfl | rfl | rfl | rfl | rfl<;>rfl
 keep:=by rintro _ _ _ _ _ ⟨y,rfl,h⟩ hs hk;exact ⟨y,rfl,h.keep hs hk⟩
 wide:=by rintro _ _ _ _ _ ⟨y,rfl,h⟩ hk;exact ⟨y,rfl,h.wide hk⟩
theorem zAN {ok:Nat->Prop} {w:World} {v:Value} {l:List Sk.Ru} (h:HRow kRu ok w v l):HRus ok w v l:=h
theorem zAO {α:Type} (T:Kind α) {ok:Nat->Prop} {w:World} {b:Nat} {cur:Array Value} {ty:TypeId} {l:List α} (k:w.heap[b]?=some (.cells cur ty (0,0))) (D:Nat->List Value) (hD:∀ i,i<l.length->(D i).length=T.k/\∀ j,j<T.k->cur[i*T.k+j]?=(D i)[j]?) (hE:∀ i (h:i<l.length),T.E ok w (D i) l[i]) (hob:ok b) (hm:l.length<=maxLen):HRow T ok w (.slice (some ⟨b,0,none⟩) l.length l.length) l :=
 ⟨D,⟨_,_,rfl,Nat.le_refl _,hm,fun _=>⟨b,0,rfl,hob,zG k,fun i hi=>⟨(hD i hi).1,fun j hj=>by
  have e:0+i*T.k+j=i*T.k+j:=(by omega);rw [e];exact (coQ k _).trans ((hD i hi).2 j hj)⟩⟩⟩,hE⟩
theorem vJ {ok:Nat->Prop} {w:World} {b:Nat} {x:Int} {ty:TypeId} (k:w.heap[b]?=some (.cells #[.int .i64 x] ty (0,0))) (hob:ok b):HInts ok w (.slice (some ⟨b,0,none⟩) 1 1) [x] :=
 xP (zAO kLong (l:=[x]) k (fun _=>[.int .i64 x]) (fun i hi=>by
  have:i=0:=(by simp at hi;omega);subst this;exact ⟨rfl,fun j hj=>by have h0:j=0:=(by have:j<1:=hj;omega);subst h0;rfl⟩) (fun i hi=>by
  have:i=0:=(by simp at hi;omega);subst this;rfl) hob (by simp [maxLen]))
theorem lg_vars {ok:Nat->Prop} {w:World} {b:Nat} (k:w.heap[b]?=some (.cells #[.int .u8 105,.int .i64 0,.int .u8 105,.int .i64 0,.int .u8 105,.int .i64 0] 42 (0,0))) (hob:ok b):HVars ok w (.slice (some ⟨b,0,none⟩) 3 3) lgS.V :=
 vars_row (zAO kVar (l:=lgS.V) k (fun _=>[.int .u8 105,.int .i64 0]) (fun i hi=>by
  have h2:i=0\/i=1\/i=2:=(by simp [lgS] at hi;omega);rcases h2 with rfl | rfl | rfl
  all_goals exact ⟨rfl,fun j hj=>by have h0:j=0\/j=1:=(by have:j<2:=hj;omega);rcases h0 with rfl | rfl<;>rfl⟩) (fun i hi=>by
  have h2:i=0\/i=1\/i=2:=(by simp [lgS] at hi;omega);rcases h2 with rfl | rfl | rfl<;>rfl) hob (by simp [maxLen,lgS]))
theorem lg_rules {ok:Nat->Prop} {w:World} {b c d:Nat} (k:w.heap[b]?=some (.cells #[.int .i64 3,.int .i64 13,.int .i64 1,.int .i64 0,.slice (some ⟨c,0,none⟩) 1 1,.slice none 0 0,.int .i64 2,.int .i64 0,.int .i64 2,.int .i64 0,.slice (some ⟨d,0,none⟩) 1 1,.slice none 0 0] 39 (0,0))) (kc:w.heap[c]?=some (.cells #[.int .i64 0] 3 (0,0))) (kd:w.heap[d]?=some (.cells #[.int .i64 1] 3 (0,0))) (hob:ok b) (hoc:ok c) (hod:ok d):HRus ok w (.slice (some ⟨b,0,none⟩) 2 2) lgS.R :=
 zAN (zAO kRu (l:=lgS.R) k (fun i=>if i=0 then [.int .i64 3,.int .i64 13,.int .i64 1,.int .i64 0,.slice (some ⟨c,0,none⟩) 1 1,.slice none 0 0] else [.int .i64 2,.int .i64 0,.int .i64 2,.int .i64 0,.slice (some ⟨d,0,none⟩) 1 1,.slice none 0 0]) (fun i hi=>by
  have h2:i=0\/i=1:=(by simp [lgS] at hi;omega);rcases h2 with rfl | rfl
  all_goals exact ⟨rfl,fun j hj=>by have h0:j=0\/j=1\/j=2\/j=3\/j=4\/j=5:=(by have:j<6:=hj;omega);rcases h0 with rfl | rfl | rfl | rfl | rfl | rfl<;>rfl⟩) (fun i hi=>by
  have h2:i=0\/i=1:=(by simp [lgS] at hi;omega);have hp:HPu ok w (.slice none 0 0) []:=⟨fun _=>[],Sl.nil,fun j h=>absurd h (Nat.not_lt_zero _)⟩;rcases h2 with rfl | rfl
  ·exact ⟨⟨some ⟨c,0,none⟩,1,1,none,0,0⟩,rfl,⟨vJ kc hoc,hp⟩⟩
  ·exact ⟨⟨some ⟨d,0,none⟩,1,1,none,0,0⟩,rfl,⟨vJ kd hod,hp⟩⟩) hob (by simp [maxLen,lgS]))
def allocs (w:World):List Obj->World
 | []=>w
 | o :: r=>allocs (w.alloc o) r
theorem qV (w:World):∀ (l:List Obj) (W:World) (B:Nat),Below B w W->B<=W.heap.size->Below B w (allocs W l)
 | [],W,B,h,_=>h
 | o :: r,W,B,h,hB=>qV w r (W.alloc o) B (h.alloc hB o) (by simp;omega)
theorem zAA:∀ (l:List Obj) (w:World),(allocs w l).heap.size=w.heap.size+l.length
 | [],w=>rfl
 | o :: r,w=>by unfold allocs;rw [zAA r];simp;omega
theorem xR:∀ (l:List Obj) (w:World) (i:Nat) (o:Obj),l[i]?=some o->(allocs w l).heap[w.heap.size+i]?=some o
 | [],w,i,o,h=>by simp at h
 | x :: r,w,0,o,h=>by
  simp at h;subst h;unfold allocs;have b:=qV (w.alloc x) r (w.alloc x) (w.alloc x).heap.size (Below.refl _ _) zL;rw [Nat.add_zero];exact (b.block _ (by simp)).trans (zH w x)
 | x :: r,w,i+1,o,h=>by
  unfold allocs;have:=xR r (w.alloc x) i o (by simpa using h);have e:(w.alloc x).heap.size+i=w.heap.size+(i+1):=(by simp;omega)
  rwa [e] at this
theorem zBH {w:World} (hG:GlobK w) (hP:GlobP w):Calls Tryz.prog 4 #[] w fun e w'=>e=.returned (.bool true)/\Below w.heap.size w w':=by
 obtain ⟨W,hW⟩:=nmQ (((((((((w.alloc (.cells #[.int .u8 105,.int .i64 0] 42 (0,0))).alloc (.cells #[.int .u8 105,.int .i64 0,.int .u8 105,.int .i64 0,.int .u8 105,.int .i64 0] 42 (0,0))).alloc (.cells #[.int .i64 0] 3 (0,0))).alloc (.cells #[.int .i64 2] 3 (0,0))).alloc (.cells #[.int .i64 0] 3 (0,0))).alloc (.cells #[.int .i64 1] 3 (0,0))).alloc (.cells #[.int .i64 3,.int .i64 13,.int .i64 1,.int .i64 0,.slice (some ⟨w.heap.size+4,0,none⟩) 1 1,.slice none 0 0,.int .i64 2,.int .i64 0,.int .i64 2,.int .i64 0,.slice (some ⟨w.heap.size+5,0,none⟩) 1 1,.slice none 0 0] 39 (0,0))).alloc (.cells #[.slice (some ⟨w.heap.size+1,0,none⟩) 3 3,.slice (some ⟨w.heap.size+2,0,none⟩) 1 1,.slice (some ⟨w.heap.size+3,0,none⟩) 1 1,.slice (some ⟨w.heap.size+6,0,none⟩) 2 2] 26 (0,0))));have hWL:W=allocs w [.cells #[.int .u8 105,.int .i64 0] 42 (0,0),.cells #[.int .u8 105,.int .i64 0,.int .u8 105,.int .i64 0,.int .u8 105,.int .i64 0] 42 (0,0),.cells #[.int .i64 0] 3 (0,0),.cells #[.int .i64 2] 3 (0,0),.cells #[.int .i64 0] 3 (0,0),.cells #[.int .i64 1] 3 (0,0),.cells #[.int .i64 3,.int .i64 13,.int .i64 1,.int .i64 0,.slice (some ⟨w.heap.size+4,0,none⟩) 1 1,.slice none 0 0,.int .i64 2,.int .i64 0,.int .i64 2,.int .i64 0,.slice (some ⟨w.heap.size+5,0,none⟩) 1 1,.slice none 0 0] 39 (0,0),.cells #[.slice (some ⟨w.heap.size+1,0,none⟩) 3 3,.slice (some ⟨w.heap.size+2,0,none⟩) 1 1,.slice (some ⟨w.heap.size+3,0,none⟩) 1 1,.slice (some ⟨w.heap.size+6,0,none⟩) 2 2] 26 (0,0)]:=hW;have bW:Below w.heap.size w W:=(by rw [hWL];exact qV w _ w _ (Below.refl _ _) zL);have zW:W.heap.size=w.heap.size+8:=(by rw [hWL,zAA];rfl);have K0:W.heap[w.heap.size+0]?=some (.cells #[.int .u8 105,.int .i64 0] 42 (0,0)):=(by rw [hWL];exact xR _ w 0 _ rfl);have K1:W.heap[w.heap.size+1]?=some (.cells #[.int .u8 105,.int .i64 0,.int .u8 105,.int .i64 0,.int .u8 105,.int .i64 0] 42 (0,0)):=(by rw [hWL];exact xR _ w 1 _ rfl);have K2:W.heap[w.heap.size+2]?=some (.cells #[.int .i64 0] 3 (0,0)):=(by rw [hWL];exact xR _ w 2 _ rfl);have K3:W.heap[w.heap.size+3]?=some (.cells #[.int .i64 2] 3 (0,0)):=(by rw [hWL];exact xR _ w 3 _ rfl);have K4:W.heap[w.heap.size+4]?=some (.cells #[.int .i64 0] 3 (0,0)):=(by rw [hWL];exact xR _ w 4 _ rfl);have K5:W.heap[w.heap.size+5]?=some (.cells #[.int .i64 1] 3 (0,0)):=(by rw [hWL];exact xR _ w 5 _ rfl);have K6:W.heap[w.heap.size+6]?=some (.cells #[.int .i64 3,.int .i64 13,.int .i64 1,.int .i64 0,.slice (some ⟨w.heap.size+4,0,none⟩) 1 1,.slice none 0 0,.int .i64 2,.int .i64 0,.int .i64 2,.int .i64 0,.slice (some ⟨w.heap.size+5,0,none⟩) 1 1,.slice none 0 0] 39 (0,0)):=(by rw [hWL];exact xR _ w 6 _ rfl);have K7:W.heap[w.heap.size+7]?=some (.cells #[.slice (some ⟨w.heap.size+1,0,none⟩) 3 3,.slice (some ⟨w.heap.size+2,0,none⟩) 1 1,.slice (some ⟨w.heap.size+3,0,none⟩) 1 1,.slice (some ⟨w.heap.size+6,0,none⟩) 2 2] 26 (0,0)):=(by rw [hWL];exact xR _ w 7 _ rfl);have hS:HSys (fun i=>i<w.heap.size+8) W (some ⟨w.heap.size+1,0,none⟩) (some ⟨w.heap.size+2,0,none⟩) (some ⟨w.heap.size+3,0,none⟩) (some ⟨w.heap.size+6,0,none⟩) 3 1 1 2 lgS:=⟨lg_vars K1 (by show _<_;omega),vJ K2 (by show _<_;omega),vJ K3 (by show _<_;omega),lg_rules K6 K4 K5 (by show _<_;omega) (by show _<_;omega) (by show _<_;omega)⟩;have hspn:=zR (hG.under bW) (hP.under bW) hS (by decide);have HSP:=zD hspn;have HW:=zD (And.intro bW zW);have HW2:=zD hW;clear hspn bW zW hS hW hWL K0 K1 K2 K3 K4 K5 K6 hG hP;go_enter Tryz.func4,Tryz.ntmps4;go_upto_region 3 with fail;rw [<-HW2.out];clear HW2;have k0:=coQ K7 0;have k1:=coQ K7 1;have k2:=coQ K7 2;have k3:=coQ K7 3;simp at k0 k1 k2 k3;go_wp2_with fail;refine HSP.out.mono ?_;intro e w2 hp;clear HSP k0 k1 k2 k3 K7;unfold SpansPost at hp;rcases hp with ⟨c,a,hf,hc,-⟩ | ⟨-,-,g,rfl,hB,hg,b2⟩
 case inl=>exact absurd (lg_fault hf) hc
 rw [lg_spans] at hB;have B2:=zD (HW.out.1.trans (b2.mono HW.out.1.size));have hB3:=hB.under ((Below.refl w2.heap.size w2).alloc zL (.cells #[.int .i64 0,.int .i64 0] 31 (0,0)));have HE:=zD (B2.out.trans (((Below.refl w2.heap.size w2).alloc zL (.cells #[.int .i64 0,.int .i64 0] 31 (0,0))).mono B2.out.size));have F3:=zH w2 (.cells #[.int .i64 0,.int .i64 0] 31 (0,0));clear HW b2 hB;go_upto_region 4 with fail;generalize w2.alloc (.cells #[.int .i64 0,.int .i64 0] 31 (0,0))=w3 at hB3 HE F3 ⊢;have g4:=coQ F3 0;simp at g4;have s0:=hB3.at (i:=0) (by simp);have s2:=hB3.at (i:=2) (by simp);simp at s0 s2;obtain ⟨s00,s01⟩:=s0;obtain ⟨s20,s21⟩:=s2;clear F3 hB3 B2;go_wp2;go_ret;exact ⟨rfl,HE.out⟩
end Go.Proofs.YtoldepieaafakaaGreatDoor
