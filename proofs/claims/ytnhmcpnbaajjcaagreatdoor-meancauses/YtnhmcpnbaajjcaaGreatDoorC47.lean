import Derived.Test.YtnhmcpnbaajjcaaGreatDoorC46
set_option linter.unusedVariables false
set_option linter.unusedSimpArgs false
set_option maxHeartbeats 64000000
set_option maxRecDepth 100000
namespace Go.Proofs.YtnhmcpnbaajjcaaGreatDoor
open Go.RowKit Go.IntWalk
def bgS:Sk.Sys:=⟨[⟨105,0⟩,⟨105,0⟩,⟨105,0⟩],[0],[2],[⟨1,0,1,5,[],[]⟩,⟨13,0,2,0,[1,0],[]⟩]⟩
theorem bg_okay:Sk.Okay bgS:=by
 refine ⟨by decide,by decide,by decide,by decide,?_,by decide,by decide,by decide,?_,by decide,?_,by decide⟩
 ·intro v hv
  simp [bgS] at hv;subst hv;exact ⟨.inl rfl,by decide⟩
 ·intro r hr
  simp [bgS] at hr;rcases hr with rfl | rfl
  ·refine ⟨by decide,by decide,by decide,fun z hz=>?_,by decide⟩
   rw [mem_usesT] at hz;simp [Sk.ownE] at hz
  ·refine ⟨by decide,by decide,by decide,fun z hz=>?_,by decide⟩
   rw [mem_usesT] at hz;simp [Sk.ownE] at hz;rcases hz with rfl | rfl<;>decide
 ·intro r hr z hz
  unfold Sk.uses at hz;simp [bgS] at hr;rcases hr with rfl | rfl
  ·rw [mem_usesT] at hz
   simp [Sk.ownE] at hz
  ·rw [mem_usesT] at hz
   simp [Sk.ownE] at hz;rcases hz with rfl | rfl<;>decide
theorem bg_needs:bgS.R.map Sk.needs=[[],[1]]:=by
 have h0:usesT [] []=[]:=(by simp [usesT,usesL,Lib.compact];rfl);simp [bgS,Sk.needs,Sk.uses,Sk.ownE,h0]
theorem bg_turns:Sk.turns bgS=([0,1],[true,true,true],[]):=by
 unfold Sk.turns;rw [bg_needs];rfl
theorem bg_sort:Sk.sortF bgS=(0,0)∧Sk.sortS bgS=bgS:=by
 refine ⟨?_,?_⟩
 ·unfold Sk.sortF
  rw [(Sk.check_zero bgS).2 bg_okay,bg_turns];rfl
 ·unfold Sk.sortS
  rw [bg_turns];rfl
theorem bg_row1:(Sk.rowT bgS (fun _=>none) [1]).1=([5],(0,0)):=by rfl
theorem bg_row2:(Sk.rowT bgS (Sk.rowT bgS (fun _=>none) [1]).2 [2]).1=([1],(0,0)):=by rfl
theorem bg_width:Sk.width bgS.V [0,1]=2:=by rfl
theorem blk_row {α:Type} (T:Kind α) {ok:Nat→Prop} {w:World} {b:Nat} {cur:Array Value} {ty:TypeId} {l:List α} (k:w.heap[b]?=some (.cells cur ty (0,0))) (D:Nat→List Value) (hD:∀ i,i<l.length→(D i).length=T.k∧∀ j,j<T.k→cur[i*T.k+j]?=(D i)[j]?) (hE:∀ i (h:i<l.length),T.E ok w (D i) l[i]) (hob:ok b) (hm:l.length≤maxLen):HRow T ok w (.slice (some ⟨b,0,none⟩) l.length l.length) l :=
 ⟨D,⟨_,_,rfl,Nat.le_refl _,hm,fun _=>⟨b,0,rfl,hob,lt_of k,fun i hi=>⟨(hD i hi).1,fun j hj=>by
  have e:0+i*T.k+j=i*T.k+j:=(by omega);rw [e];exact (co k _).trans ((hD i hi).2 j hj)⟩⟩⟩,hE⟩
theorem blk_one {ok:Nat→Prop} {w:World} {b:Nat} {x:Int} {ty:TypeId} (k:w.heap[b]?=some (.cells #[.int .i64 x] ty (0,0))) (hob:ok b):HInts ok w (.slice (some ⟨b,0,none⟩) 1 1) [x]:=
  longs_row (blk_row kLong (l:=[x]) k (fun _=>[.int .i64 x]) (fun i hi=>by
    have:i=0:=by simp at hi;omega
    subst this
    exact ⟨rfl,fun j hj=>by have h0:j=0:=(by have:j<1:=hj;omega);subst h0;rfl⟩) (fun i hi=>by
    have:i=0:=by simp at hi;omega
    subst this
    rfl) hob (by simp [maxLen,bgS]))
theorem blk_two {ok:Nat→Prop} {w:World} {b:Nat} {x y:Int} {ty:TypeId} (k:w.heap[b]?=some (.cells #[.int .i64 x,.int .i64 y] ty (0,0))) (hob:ok b):HInts ok w (.slice (some ⟨b,0,none⟩) 2 2) [x,y]:=
  longs_row (blk_row kLong (l:=[x,y]) k (fun i=>[.int .i64 (if i=0 then x else y)]) (fun i hi=>by
    have h2:i=0∨i=1:=by simp at hi;omega
    rcases h2 with rfl | rfl
    · exact ⟨rfl,fun j hj=>by have h0:j=0:=(by have:j<1:=hj;omega);subst h0;rfl⟩
    · exact ⟨rfl,fun j hj=>by have h0:j=0:=(by have:j<1:=hj;omega);subst h0;rfl⟩) (fun i hi=>by
    have h2:i=0∨i=1:=by simp at hi;omega
    rcases h2 with rfl | rfl<;>rfl) hob (by simp [maxLen,bgS]))
theorem bg_vars {ok:Nat→Prop} {w:World} {b:Nat} (k:w.heap[b]?=some (.cells #[.int .u8 105,.int .i64 0,.int .u8 105,.int .i64 0,.int .u8 105,.int .i64 0] 61 (0,0))) (hob:ok b):HVars ok w (.slice (some ⟨b,0,none⟩) 3 3) bgS.V:=
  vars_row (blk_row kVar (l:=bgS.V) k (fun _=>[.int .u8 105,.int .i64 0]) (fun i hi=>by
    have h2:i=0∨i=1∨i=2:=by simp [bgS] at hi;omega
    rcases h2 with rfl | rfl | rfl
    all_goals exact ⟨rfl,fun j hj=>by have h0:j=0∨j=1:=(by have:j<2:=hj;omega);rcases h0 with rfl | rfl<;>rfl⟩) (fun i hi=>by
    have h2:i=0∨i=1∨i=2:=by simp [bgS] at hi;omega
    rcases h2 with rfl | rfl | rfl<;>rfl) hob (by simp [maxLen,bgS]))
theorem bg_rules {ok:Nat→Prop} {w:World} {b c:Nat} (k:w.heap[b]?=some (.cells #[.int .i64 1,.int .i64 0,.int .i64 1,.int .i64 5,.slice none 0 0,.slice none 0 0,.int .i64 13,.int .i64 0,.int .i64 2,.int .i64 0,.slice (some ⟨c,0,none⟩) 2 2,.slice none 0 0] 40 (0,0))) (kc:w.heap[c]?=some (.cells #[.int .i64 1,.int .i64 0] 3 (0,0))) (hob:ok b) (hoc:ok c):HRus ok w (.slice (some ⟨b,0,none⟩) 2 2) bgS.R:=
  rus_row (blk_row kRu (l:=bgS.R) k (fun i=>if i=0 then [.int .i64 1,.int .i64 0,.int .i64 1,.int .i64 5,.slice none 0 0,.slice none 0 0] else [.int .i64 13,.int .i64 0,.int .i64 2,.int .i64 0,.slice (some ⟨c,0,none⟩) 2 2,.slice none 0 0]) (fun i hi=>by
    have h2:i=0∨i=1:=by simp [bgS] at hi;omega
    rcases h2 with rfl | rfl
    all_goals exact ⟨rfl,fun j hj=>by have h0:j=0∨j=1∨j=2∨j=3∨j=4∨j=5:=(by have:j<6:=hj;omega);rcases h0 with rfl | rfl | rfl | rfl | rfl | rfl<;>rfl⟩) (fun i hi=>by
    have h2:i=0∨i=1:=by simp [bgS] at hi;omega
    have hn:∀ v:List Int,v=[]→HInts ok w (.slice none 0 0) v:=fun v e=>by subst e;exact ⟨fun _=>[],Sl.nil,fun j h=>absurd h (Nat.not_lt_zero _)⟩
    have hp:HPu ok w (.slice none 0 0) []:=⟨fun _=>[],Sl.nil,fun j h=>absurd h (Nat.not_lt_zero _)⟩
    rcases h2 with rfl | rfl
    · exact ⟨⟨none,0,0,none,0,0⟩,rfl,⟨hn _ rfl,hp⟩⟩
    · exact ⟨⟨some ⟨c,0,none⟩,2,2,none,0,0⟩,rfl,⟨blk_two kc hoc,hp⟩⟩) hob (by simp [maxLen,bgS]))
def allocs (w:World):List Obj→World
 | []=>w
 | o :: r=>allocs (w.alloc o) r
theorem allocs_below (w:World):∀ (l:List Obj) (W:World) (B:Nat),Below B w W→B≤W.heap.size→Below B w (allocs W l)
 | [],W,B,h,_=>h
 | o :: r,W,B,h,hB=>allocs_below w r (W.alloc o) B (h.alloc hB o) (by simp;omega)
theorem allocs_size:∀ (l:List Obj) (w:World),(allocs w l).heap.size=w.heap.size+l.length
 | [],w=>rfl
 | o :: r,w=>by unfold allocs;rw [allocs_size r];simp;omega
theorem allocs_at:∀ (l:List Obj) (w:World) (i:Nat) (o:Obj),l[i]?=some o→(allocs w l).heap[w.heap.size+i]?=some o
 | [],w,i,o,h=>by simp at h
 | x :: r,w,0,o,h=>by
  simp at h;subst h;unfold allocs;have b:=allocs_below (w.alloc x) r (w.alloc x) (w.alloc x).heap.size (Below.refl _ _) (Nat.le_refl _);rw [Nat.add_zero];exact (b.block _ (by simp)).trans (heap_new w x)
 | x :: r,w,i+1,o,h=>by
  unfold allocs;have:=allocs_at r (w.alloc x) i o (by simpa using h);have e:(w.alloc x).heap.size+i=w.heap.size+(i+1):=(by simp;omega)
  rwa [e] at this
theorem bg_ahead:Sk.Ahead bgS:=by
 intro i hi z hz;have h0:usesT [] []=[]:=(by simp [usesT,usesL,Lib.compact];rfl);have h2:i=0∨i=1:=(by simp [bgS] at hi;omega);rcases h2 with rfl | rfl
 ·simp [bgS,Sk.needs,Sk.uses,Sk.ownE,h0] at hz
 ·simp [bgS,Sk.needs] at hz
  subst hz;exact .inr (by decide)
theorem meanBegun_any {w:World} (hG:GlobK w) (hP:GlobP w):Calls Tryz.prog 18 #[] w fun e w'=>e=.returned (.bool true)∧Below w.heap.size w w':=by
 obtain ⟨W,hW⟩:=nmQ ((((((((w.alloc (.cells #[.int .u8 105,.int .i64 0] 61 (0,0))).alloc (.cells #[.int .u8 105,.int .i64 0,.int .u8 105,.int .i64 0,.int .u8 105,.int .i64 0] 61 (0,0))).alloc (.cells #[.int .i64 0] 3 (0,0))).alloc (.cells #[.int .i64 2] 3 (0,0))).alloc (.cells #[.int .i64 1,.int .i64 0] 3 (0,0))).alloc (.cells #[.int .i64 1,.int .i64 0,.int .i64 1,.int .i64 5,.slice none 0 0,.slice none 0 0,.int .i64 13,.int .i64 0,.int .i64 2,.int .i64 0,.slice (some ⟨w.heap.size+4,0,none⟩) 2 2,.slice none 0 0] 40 (0,0))).alloc (.cells #[.slice (some ⟨w.heap.size+1,0,none⟩) 3 3,.slice (some ⟨w.heap.size+2,0,none⟩) 1 1,.slice (some ⟨w.heap.size+3,0,none⟩) 1 1,.slice (some ⟨w.heap.size+5,0,none⟩) 2 2] 26 (0,0))));have hWL:W=allocs w [.cells #[.int .u8 105,.int .i64 0] 61 (0,0),.cells #[.int .u8 105,.int .i64 0,.int .u8 105,.int .i64 0,.int .u8 105,.int .i64 0] 61 (0,0),.cells #[.int .i64 0] 3 (0,0),.cells #[.int .i64 2] 3 (0,0),.cells #[.int .i64 1,.int .i64 0] 3 (0,0),.cells #[.int .i64 1,.int .i64 0,.int .i64 1,.int .i64 5,.slice none 0 0,.slice none 0 0,.int .i64 13,.int .i64 0,.int .i64 2,.int .i64 0,.slice (some ⟨w.heap.size+4,0,none⟩) 2 2,.slice none 0 0] 40 (0,0),.cells #[.slice (some ⟨w.heap.size+1,0,none⟩) 3 3,.slice (some ⟨w.heap.size+2,0,none⟩) 1 1,.slice (some ⟨w.heap.size+3,0,none⟩) 1 1,.slice (some ⟨w.heap.size+5,0,none⟩) 2 2] 26 (0,0)]:=hW;have bW:Below w.heap.size w W:=(by rw [hWL];exact allocs_below w _ w _ (Below.refl _ _) (Nat.le_refl _));have zW:W.heap.size=w.heap.size+7:=(by rw [hWL,allocs_size];rfl);have K0:W.heap[w.heap.size+0]?=some (.cells #[.int .u8 105,.int .i64 0] 61 (0,0)):=(by rw [hWL];exact allocs_at _ w 0 _ rfl);have K1:W.heap[w.heap.size+1]?=some (.cells #[.int .u8 105,.int .i64 0,.int .u8 105,.int .i64 0,.int .u8 105,.int .i64 0] 61 (0,0)):=(by rw [hWL];exact allocs_at _ w 1 _ rfl);have K2:W.heap[w.heap.size+2]?=some (.cells #[.int .i64 0] 3 (0,0)):=(by rw [hWL];exact allocs_at _ w 2 _ rfl);have K3:W.heap[w.heap.size+3]?=some (.cells #[.int .i64 2] 3 (0,0)):=(by rw [hWL];exact allocs_at _ w 3 _ rfl);have K4:W.heap[w.heap.size+4]?=some (.cells #[.int .i64 1,.int .i64 0] 3 (0,0)):=(by rw [hWL];exact allocs_at _ w 4 _ rfl);have K5:W.heap[w.heap.size+5]?=some (.cells #[.int .i64 1,.int .i64 0,.int .i64 1,.int .i64 5,.slice none 0 0,.slice none 0 0,.int .i64 13,.int .i64 0,.int .i64 2,.int .i64 0,.slice (some ⟨w.heap.size+4,0,none⟩) 2 2,.slice none 0 0] 40 (0,0)):=(by rw [hWL];exact allocs_at _ w 5 _ rfl);have K6:W.heap[w.heap.size+6]?=some (.cells #[.slice (some ⟨w.heap.size+1,0,none⟩) 3 3,.slice (some ⟨w.heap.size+2,0,none⟩) 1 1,.slice (some ⟨w.heap.size+3,0,none⟩) 1 1,.slice (some ⟨w.heap.size+5,0,none⟩) 2 2] 26 (0,0)):=(by rw [hWL];exact allocs_at _ w 6 _ rfl);have hS:HSys (fun i=>i<w.heap.size+7) W (some ⟨w.heap.size+1,0,none⟩) (some ⟨w.heap.size+2,0,none⟩) (some ⟨w.heap.size+3,0,none⟩) (some ⟨w.heap.size+5,0,none⟩) 3 1 1 2 bgS:=⟨bg_vars K1 (by show _<_;omega),blk_one K2 (by show _<_;omega),blk_one K3 (by show _<_;omega),bg_rules K5 K4 (by show _<_;omega) (by show _<_;omega)⟩;have hnew:=new_any (hG.under bW) (hP.under bW) hS (by decide);have HNEW:=hide hnew;have HW:=hide (And.intro bW zW);have HS:=hide hS;have HW2:=hide hW;clear hnew bW zW hS hW hWL K0 K1 K2 K3 K4 K5 hG hP;go_enter Tryz.func18,Tryz.ntmps18;go_upto_region 3 with fail;rw [←HW2.out];clear HW2;have k0:=co K6 0;have k1:=co K6 1;have k2:=co K6 2;have k3:=co K6 3;simp at k0 k1 k2 k3;go_wp2_with fail;refine HNEW.out.mono ?_;intro e w2 hp;clear HNEW k0 k1 k2 k3;unfold NewPost at hp;rcases hp with ⟨hc,-,-⟩ | ⟨-,-,-,mb,rfl,hM,hmb,b2⟩
 case inl=>exact absurd (by rw [bg_sort.1]) hc
 replace hM:=hM [] (by simp)
 rw [bg_sort.2] at hM;have B2:Below w.heap.size w w2:=HW.out.1.trans (b2.mono HW.out.1.size);have HS2:=hide (HS.out.under b2);have K62:=hide ((b2.block _ (lt_of K6)).trans K6);have ymb:=hM.mem.2 mb (by simp);have hmb2:w.heap.size+7≤mb:=(by rw [←HW.out.2];exact hmb);have HM:=hide hM;clear hM b2 K6 hmb HS HW;go_wp2_with fail;obtain ⟨w3,hw3⟩:=nmQ ((w2.alloc (.cells #[.int .i64 0,.int .i64 0] 30 (0,0))).alloc (.cells #[.int .i64 1] 2 (0,0)));have b3:Below w2.heap.size w2 w3:=(by rw [hw3];exact ((Below.refl _ _).alloc (Nat.le_refl _) _).alloc (by simp) _);have f3:w3.heap[w2.heap.size]?=some (.cells #[.int .i64 0,.int .i64 0] 30 (0,0)):=(by rw [hw3];exact (Below.heap_alloc _ _ _ (by simp)).trans (heap_new w2 _));have l3:w3.heap[w2.heap.size+1]?=some (.cells #[.int .i64 1] 2 (0,0)):=by
  rw [hw3];have:=heap_new (w2.alloc (.cells #[.int .i64 0,.int .i64 0] 30 (0,0))) (.cells #[.int .i64 1] 2 (0,0))
  simpa using this
 have hz3:w3.heap.size=w2.heap.size+2:=(by rw [hw3];simp);rw [←hw3];clear hw3;have B3:=B2.trans (b3.mono B2.size);have HM3:=hide (HM.out.under b3);have hr1:Calls Tryz.prog 21 #[.pointer (some ⟨mb,0,none⟩),.slice (some ⟨w2.heap.size+1,0,none⟩) 1 1] w3 fun e w'=>∃ v,e=.returned (.tuple #[v,.agg #[.int .i64 0,.int .i64 0]])∧HInts (fun i=>w3.heap.size≤i) w' v [5]∧MeanAt [mb] w' mb bgS (Sk.rowT bgS (fun _=>none) [1]).2∧Aside [mb] w3.heap.size w3 w':=(row_any HM3.out bg_okay bg_ahead (fun x l h=>by cases h) (blk_one (ok:=fun _=>True) l3 trivial)).mono fun e w' h=>by
  unfold RowPost at h;rw [bg_row1] at h;exact h
 have HR1:=hide hr1;have HF3:=hide f3;clear hr1 f3 l3 HM;refine HR1.out.mono ?_;rintro e w4 ⟨v1,rfl,hv1,hM4,a4⟩;obtain ⟨p1,c1,rfl,-,-,-⟩:=hv1.at;have B4:Below w.heap.size w w4:=B3.trans ((a4.mono B3.size).below (by intro q hq;simp at hq;omega));have HM4:=hide hM4;have HV1:=hide hv1;have HA4:=hide a4;clear hM4 hv1 a4 HR1 HM3;go_wp2_with fail;obtain ⟨w5,hw5⟩:=nmQ ((w4.alloc (.cells #[.int .i64 0,.int .i64 0] 30 (0,0))).alloc (.cells #[.int .i64 2] 2 (0,0)));have b5:Below w4.heap.size w4 w5:=(by rw [hw5];exact ((Below.refl _ _).alloc (Nat.le_refl _) _).alloc (by simp) _);have f5:w5.heap[w4.heap.size]?=some (.cells #[.int .i64 0,.int .i64 0] 30 (0,0)):=(by rw [hw5];exact (Below.heap_alloc _ _ _ (by simp)).trans (heap_new w4 _));have l5:w5.heap[w4.heap.size+1]?=some (.cells #[.int .i64 2] 2 (0,0)):=by
  rw [hw5];have:=heap_new (w4.alloc (.cells #[.int .i64 0,.int .i64 0] 30 (0,0))) (.cells #[.int .i64 2] 2 (0,0))
  simpa using this
 have hz5:w5.heap.size=w4.heap.size+2:=(by rw [hw5];simp);rw [←hw5];clear hw5;have B5:=B4.trans (b5.mono B4.size);have HM5:=hide (HM4.out.under b5);have hr2:Calls Tryz.prog 21 #[.pointer (some ⟨mb,0,none⟩),.slice (some ⟨w4.heap.size+1,0,none⟩) 1 1] w5 fun e w'=>∃ v,e=.returned (.tuple #[v,.agg #[.int .i64 0,.int .i64 0]])∧HInts (fun i=>w5.heap.size≤i) w' v [1]∧Aside [mb] w5.heap.size w5 w':=(row_any HM5.out bg_okay bg_ahead (Sk.rowT_fine bg_okay (fun x l h=>by cases h) [1]) (blk_one (ok:=fun _=>True) l5 trivial)).mono fun e w' h=>by
  unfold RowPost at h;rw [bg_row2] at h;obtain ⟨v,h1,h2,-,h4⟩:=h;exact ⟨v,h1,h2,h4⟩
 have HR2:=hide hr2;have HF5:=hide f5;clear hr2 f5 l5 HM4;refine HR2.out.mono ?_;rintro e w6 ⟨v2,rfl,hv2,a6⟩;obtain ⟨p2,c2,rfl,-,-,-⟩:=hv2.at;have y34:=HA4.out.size;have y56:=a6.size;have B6:Below w.heap.size w w6:=B5.trans ((a6.mono B5.size).below (by intro q hq;simp at hq;omega));have F6:=a6.keep HF5.out (lt_of HF5.out) (by simp;omega);have K66:=hide (a6.keep ((b5.block _ (lt_of (HA4.out.keep ((b3.block _ (lt_of K62.out)).trans K62.out) (lt_of ((b3.block _ (lt_of K62.out)).trans K62.out)) (by simp;omega)))).trans (HA4.out.keep ((b3.block _ (lt_of K62.out)).trans K62.out) (lt_of ((b3.block _ (lt_of K62.out)).trans K62.out)) (by simp;omega))) (lt_of ((b5.block _ (lt_of (HA4.out.keep ((b3.block _ (lt_of K62.out)).trans K62.out) (lt_of ((b3.block _ (lt_of K62.out)).trans K62.out)) (by simp;omega)))).trans (HA4.out.keep ((b3.block _ (lt_of K62.out)).trans K62.out) (lt_of ((b3.block _ (lt_of K62.out)).trans K62.out)) (by simp;omega)))) (by simp;omega));have HV16:=hide (show HInts (fun i=>w3.heap.size≤i) w6 (.slice p1 [(5:Int)].length c1) [5] from (HV1.out.under b5).keep a6.size (fun i hi hl=>a6.block i hl (by simp;have h1:w3.heap.size≤i:=hi;omega)));have HV26:=hide hv2;have HSV:=hide (show HVars (fun i=>i<w.heap.size+7) w6 (.slice (some ⟨w.heap.size+1,0,none⟩) 3 3) bgS.V from ((((HS2.out.V.under b3).keep HA4.out.size (fun i hi hl=>HA4.out.block i hl (by simp;omega))).under b5).keep a6.size (fun i hi hl=>a6.block i hl (by simp;omega))));clear hv2 HV1 HR2 HM5 a6 HA4 b3 b5 HF3 HF5 K62 HS2;have F7:=(Below.heap_alloc w6 (.cells #[.int .i64 0,.int .i64 0] 30 (0,0)) _ (lt_of F6)).trans F6;have G7:=heap_new w6 (.cells #[.int .i64 0,.int .i64 0] 30 (0,0));have b7:Below w6.heap.size w6 (w6.alloc (.cells #[.int .i64 0,.int .i64 0] 30 (0,0))):=(Below.refl _ _).alloc (Nat.le_refl _) _;go_upto_region 8 with fail;generalize w6.alloc (.cells #[.int .i64 0,.int .i64 0] 30 (0,0))=w7 at F7 G7 b7 ⊢;have g4:=co F7 0;have g6:=co G7 0;simp at g4 g6;clear F6 F7 G7;go_wp2_with fail;obtain ⟨w8,hw8⟩:=nmQ (w7.alloc (.cells #[.int .i64 5] 2 (0,0)));have b8:=newB hw8;have l8:=newK hw8;rw [←hw8];clear hw8;have HB8:=hide (b7.trans (b8.mono b7.size));refine (sameLongs_same (HV16.out.under HB8.out) (blk_one (ok:=fun _=>True) l8 trivial)).mono ?_;rintro e w9 ⟨rfl,b9⟩;have HB9:=hide (HB8.out.trans (b9.mono HB8.out.size));clear g4 g6 l8;go_wp2_with fail;obtain ⟨w10,hw10⟩:=nmQ (w9.alloc (.cells #[.int .i64 1] 2 (0,0)));have b10:=newB hw10;have l10:=newK hw10;rw [←hw10];clear hw10;have HB10:=hide (HB9.out.trans (b10.mono HB9.out.size));refine (sameLongs_same (HV26.out.under HB10.out) (blk_one (ok:=fun _=>True) l10 trivial)).mono ?_;rintro e w11 ⟨rfl,b11⟩;have HB11:=hide (HB10.out.trans (b11.mono HB10.out.size));have K11:=(HB11.out.block _ (lt_of K66.out)).trans K66.out;have k0:=co K11 0;have k1:=co K11 1;have k2:=co K11 2;have k3:=co K11 3;simp at k0 k1 k2 k3;clear l10 K11;go_wp2_with fail;obtain ⟨w12,hw12⟩:=nmQ (w11.alloc (.cells #[.int .i64 0,.int .i64 1] 3 (0,0)));have b12:=newB hw12;have l12:=newK hw12;rw [←hw12];clear hw12;have HB12:=hide (HB11.out.trans (b12.mono HB11.out.size));have hwid:=width_any (aI:=some ⟨w.heap.size+2,0,none⟩) (aO:=some ⟨w.heap.size+3,0,none⟩) (aR:=some ⟨w.heap.size+5,0,none⟩) (nI:=1) (cI:=1) (nO:=1) (cO:=1) (nR:=2) (cR:=2) (HSV.out.under HB12.out) (blk_two (ok:=fun _=>True) l12 trivial) (fun x h0 h1=>Sk.cnt_le (Sk.vAt_ok bg_okay.vars ⟨h0,h1⟩)) (by simp);rw [bg_width] at hwid;refine hwid.mono ?_;rintro e w13 ⟨rfl,b13⟩;have HE:=hide (B6.trans ((HB12.out.trans (b13.mono HB12.out.size)).mono B6.size));clear hwid k0 k1 k2 k3 l12;go_wp2;go_ret;exact ⟨rfl,HE.out⟩
end Go.Proofs.YtnhmcpnbaajjcaaGreatDoor
namespace Go.Proofs.YtnhmcpnbaajjcaaGreatDoor
open Go.RowKit Go.IntWalk
namespace Sk
def ahS (S:Sys) (rows:List (List Int)):Nat→Int→Option (List Int)
 | 0=>fun _=>none
 | i+1=>(rowT S (ahS S rows i) (rows.getD i [])).2
def tdS (S:Sys) (rows:List (List Int)) (i:Nat):List Int:=(rowT S (ahS S rows i) (rows.getD i [])).1.1
theorem ahS_fine {S:Sys} (ok:Okay S) (rows:List (List Int)):∀ i,AhFine S.V (ahS S rows i)
 | 0=>fun x l h=>by cases h
 | i+1=>rowT_fine ok (ahS_fine ok rows i) _
theorem rowT_fault {S:Sys} {ah:Int→Option (List Int)} {inp:List Int} (h:(rowT S ah inp).1.2.1≠0):(rowT S ah inp).2=ah:=by
 rw [rowT_take] at h ⊢
 split
 ·rfl
 ·rename_i hz
  rw [if_neg hz] at h;exact absurd rfl h
theorem okay_needs {S:Sys} (ok:Okay S):∀ r ∈ S.R,∀ z ∈ needs r,0≤z∧z<S.V.length:=by
 intro r hr z hz;have h:=(ok.rules r hr).2.uses;unfold needs at hz
 split at hz
 ·rename_i e
  simp at hz;subst hz;have hl:0<r.A.length:=(by omega);refine h _ (mem_usesT.2 (.inl ?_));have:=aN_mem (r:=r) hl;unfold aN at this
  simpa using this
 ·exact h z hz
end Sk
theorem MeanAt.more2 {L:List Nat} {w w':World} {mb q:Nat} {S:Sk.Sys} {ah:Int→Option (List Int)} (h:MeanAt L w mb S ah) (h0:w'.heap[mb]?=w.heap[mb]?) (h1:w.heap.size≤w'.heap.size) (h2:∀ i,i ∉ L→i<w.heap.size→w'.heap[i]?=w.heap[i]?) (hq:w.heap.size≤q) (hq2:q<w'.heap.size):MeanAt (q :: L) w' mb S ah:=by
 obtain ⟨aV,aI,aO,aR,cV,cI,cO,cR,oA,f,k,hS,hM,hR,hL,hl⟩:=h;have hw:∀ i,i ∉ L→i<w.heap.size→i ∉ q :: L:=fun i h1 h2=>by simp;exact ⟨by omega,h1⟩
 have hk:∀ i,i ∉ q :: L→i<w.heap.size→w'.heap[i]?=w.heap[i]?:=fun i h3 h4=>h2 i (by simp at h3;exact h3.2) h4;exact ⟨aV,aI,aO,aR,cV,cI,cO,cR,oA,f,h0.trans k,(hS.wide hw).keep h1 hk,(hM.wide hw).keep hk,(hR.wide hw).keep h1 hk,by simp [hL],fun z hz=>by
  rcases List.mem_cons.1 hz with e | e
  ·rw [e];exact hq2
  ·exact Nat.lt_of_lt_of_le (hl z e) h1⟩
theorem MeanAt.grown {L:List Nat} {w w':World} {mb:Nat} {S:Sk.Sys} {ah:Int→Option (List Int)} {v:Value} (h:MeanAt L w mb S ah) (g:w.grownBy w' v.ownBlock) (hv:∀ k,v.ownBlock=some k→k ∈ L∧k≠mb):MeanAt L w' mb S ah :=
 h.keep (g.block _ (h.mem.2 _ h.mem.1) (fun e=>(hv _ e.symm).2 rfl)) g.size (fun i hi hl=>g.block i hl (fun e=>hi (hv _ e.symm).1))
theorem MeanAt.grownMore {L:List Nat} {w w':World} {mb q:Nat} {S:Sk.Sys} {ah:Int→Option (List Int)} {v:Value} (h:MeanAt L w mb S ah) (g:w.grownBy w' v.ownBlock) (hv:∀ k,v.ownBlock=some k→k ∈ L∧k≠mb) (hq:w.heap.size≤q) (hq2:q<w'.heap.size):MeanAt (q :: L) w' mb S ah :=
 h.more2 (g.block _ (h.mem.2 _ h.mem.1) (fun e=>(hv _ e.symm).2 rfl)) g.size (fun i hi hl=>g.block i hl (fun e=>hi (hv _ e.symm).1)) hq hq2
def RowPost2 (L:List Nat) (w:World) (mb:Nat) (S:Sk.Sys) (T:(List Int × (Int × Int)) × (Int→Option (List Int))) (e:Ending) (w':World):Prop:=∃ (p:Option Addr) (s:Nat),e=.returned (.tuple #[.slice p T.1.1.length s,.agg #[.int .i64 T.1.2.1,.int .i64 T.1.2.2]])∧HInts (fun i=>w.heap.size≤i∧i<w'.heap.size) w' (.slice p T.1.1.length s) T.1.1∧MeanAt L w' mb S T.2∧Aside [mb] w.heap.size w w'
theorem row_any2 {L:List Nat} {w:World} {mb:Nat} {S:Sk.Sys} {ah:Int→Option (List Int)} {okI:Nat→Prop} {u:Value} {inp:List Int} {X:(List Int × (Int × Int)) × (Int→Option (List Int))} (hX:X=Sk.rowT S ah inp) (hM:MeanAt L w mb S ah) (okay:Sk.Okay S) (had:Sk.Ahead S) (hAF:Sk.AhFine S.V ah) (hin:HInts okI w u inp) :
  Calls Tryz.prog 21 #[.pointer (some ⟨mb,0,none⟩),u] w (RowPost2 L w mb S X):=by
 subst hX;refine (row_any hM okay had hAF hin).mono ?_;rintro e w' ⟨v,rfl,hv,h2,h3⟩;obtain ⟨p,s,rfl,-,-,-⟩:=hv.at;exact ⟨p,s,rfl,hv.wide fun i h hl=>⟨h,hl⟩,h2,h3⟩
theorem means_grown {L:List Nat} {w w':World} {v v':Value} (g:w.grownBy w' v.ownBlock) (mv:v'.ownBlock=v.ownBlock∨∃ k,v'.ownBlock=some k∧w.heap.size≤k) (hv:∀ k,v.ownBlock=some k→k ∈ L) (lt':∀ k,v'.ownBlock=some k→k<w'.heap.size):∃ L',(∀ k,v'.ownBlock=some k→k ∈ L')∧(∀ k ∈ L,k ∈ L')∧∀ m S ah,MeanAt L w m S ah→(∀ k,v.ownBlock=some k→k≠m)→MeanAt L' w' m S ah:=by
 rcases mv with e | ⟨q,e,hq⟩
 ·exact ⟨L,fun k hk=>hv k (by rw [←e];exact hk),fun k hk=>hk,fun m S ah h hne=>h.grown g fun k hk=>⟨hv k hk,hne k hk⟩⟩
 ·exact ⟨q :: L,fun k hk=>by rw [e] at hk;injection hk with hk;simp [hk],fun k hk=>by simp [hk],fun m S ah h hne=>h.grownMore g (fun k hk=>⟨hv k hk,hne k hk⟩) hq (lt' q e)⟩
theorem row_one {okr:Nat→Prop} {w:World} {p:Option Addr} {n c:Nat} {l:List Int} (h:HInts okr w (.slice p n c) l):HRow kLL (fun k=>k=w.heap.size∨okr k) (w.alloc (.cells #[.slice p n c] 52 (0,0))) (.slice (some ⟨w.heap.size,0,none⟩) 1 1) [l]:=by
  have b:Below w.heap.size w (w.alloc (.cells #[.slice p n c] 52 (0,0))):=(Below.refl _ _).alloc nR _
  refine blk_row kLL (l:=[l]) (heap_new w _) (fun _=>[.slice p n c]) (fun i hi=>?_) (fun i hi=>?_) (.inl rfl) (by simp [maxLen])
  · have:i=0:=by simp at hi;omega
    subst this
    exact ⟨rfl,fun j hj=>by have h0:j=0:=(by have:j<1:=hj;omega);subst h0;rfl⟩
  · have:i=0:=by simp at hi;omega
    subst this
    exact ⟨_,rfl,(h.under b).wide fun k hk _=>.inr hk⟩
end Go.Proofs.YtnhmcpnbaajjcaaGreatDoor
