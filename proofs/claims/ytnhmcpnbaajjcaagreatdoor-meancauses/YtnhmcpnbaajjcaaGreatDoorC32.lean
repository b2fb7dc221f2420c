import Derived.Test.YtnhmcpnbaajjcaaGreatDoorC27
set_option linter.unusedVariables false
set_option linter.unusedSimpArgs false
set_option maxHeartbeats 64000000
set_option maxRecDepth 100000
namespace Go.Proofs.YtnhmcpnbaajjcaaGreatDoor
open Go.RowKit Go.IntWalk
theorem Tryz.infoLL:(Tryz.prog.info? 52).map (fun i=>(i.zero,i.size,i.bytes))=some (some (.slice none 0 0),1,24):=by kernel_rfl
def kLL:Kind (List Int) where
 ty:=52
 k:=1
 bytes:=24
 zero:=.slice none 0 0
 E:=fun ok w cs l=>∃ u,cs=[u]∧HInts ok w u l
 pos:=by decide
 zs:=rfl
 info:=Tryz.infoLL
 len:=by rintro _ _ _ _ ⟨u,rfl,_⟩;rfl
 one:=by
  rintro _ _ _ _ ⟨u,rfl,h⟩ v hv;simp at hv;subst hv;obtain ⟨ao,cap,rfl,_⟩:=h.at;rfl
 keep:=by rintro _ _ _ _ _ ⟨u,rfl,h⟩ hs hk;exact ⟨u,rfl,h.keep hs hk⟩
 wide:=by rintro _ _ _ _ _ ⟨u,rfl,h⟩ hk;exact ⟨u,rfl,h.wide hk⟩
theorem HRow.llAt {ok:Nat→Prop} {w:World} {v:Value} {l:List (List Int)} (h:HRow kLL ok w v l) :
  ∃ ao cap,v=.slice ao l.length cap∧l.length≤cap∧cap≤maxLen∧∀ i (h:i<l.length),∃ b o u,ao=some ⟨b,o,none⟩∧b<w.heap.size∧w.cell? ⟨b,o+i,none⟩=some u∧HInts ok w u l[i]:=by
 obtain ⟨C,⟨ao,cap,hv,h1,h2,h3⟩,hC⟩:=h;refine ⟨ao,cap,hv,h1,h2,fun i hi=>?_⟩;obtain ⟨b,o,ha,hob,hb,hc⟩:=h3 (by omega);obtain ⟨u,e,hu⟩:=hC i hi;have:=(hc i hi).2 0 (by decide);rw [e] at this;exact ⟨b,o,u,ha,hb,by simpa [kLL] using this,hu⟩
def RowAt (w:World) (rb:Nat) (x:WkV) (vC vA:Value):Prop:=w.heap[rb]?=some (.cells #[.slice x.aV x.nV x.cV,.slice x.aI x.nI x.cI,.slice x.aO x.nO x.cO,.slice x.aR x.nR x.cR,vC,vA] 85 (0,0))
theorem RowAt.under {w w':World} {rb:Nat} {x:WkV} {vC vA:Value} (h:RowAt w rb x vC vA) (a:Below w.heap.size w w'):RowAt w' rb x vC vA:=(a.block _ (lt_of h)).trans h
theorem isNoTruth_any (n:Int) (w:World):Calls Tryz.prog 68 #[.int .i64 n] w fun e w'=>e=.returned (.bool (Sk.noTruth n))∧Below w.heap.size w w':=by
 unfold Sk.noTruth
 cases h0:(n != 0)
 ·go_enter Tryz.func68,Tryz.ntmps68
  go_wp2;go_ret;exact ⟨rfl,Below.refl _ _⟩
 ·go_enter Tryz.func68,Tryz.ntmps68
  go_wp2;go_ret;exact ⟨by rw [Bool.true_and];rfl,Below.refl _ _⟩
theorem eg68:∀ args w,(callFunc 68 args).run Tryz.prog w=.ok (.enter 68 args) w:=enters_of Tryz.func68 (by kernel_rfl) rfl
theorem cellCount_any (v:Sk.Vr) (w:World):Calls Tryz.prog 65 #[vv v] w fun e w'=>e=.returned (.int .i64 (Sk.cnt v:Nat))∧Below w.heap.size w w':=by
 have e:((Sk.cnt v:Nat):Int)=max 1 v.n:=(by unfold Sk.cnt;omega);rw [e];go_enter Tryz.func65,Tryz.ntmps65;go_wp2;go_ret;exact ⟨rfl,(Below.refl _ _).alloc (Nat.le_refl _) _⟩
theorem always1_any {w:World} {nb:Nat} {n:Int} (hn:w.heap[nb]?=some (.cells #[.int .i64 n] 2 (0,0))) (k:Int):Calls Tryz.prog 126 #[.int .i64 k,.pointer (some ⟨nb,0,none⟩)] w fun e w'=>e=.returned (.int .i64 n)∧Below w.heap.size w w':=by
 have c0:=co hn 0;simp at c0;clear hn;go_enter Tryz.func126,Tryz.ntmps126;go_wp2;go_ret;exact ⟨rfl,Below.refl _ _⟩
theorem always_any (n:Int) (w:World):Calls Tryz.prog 98 #[.int .i64 n] w fun e w'=>e=.returned (.func (.func 126) #[] #[.pointer (some ⟨w.heap.size,0,none⟩)])∧w'=w.alloc (.cells #[.int .i64 n] 2 (0,0)):=by
 go_enter Tryz.func98,Tryz.ntmps98;go_wp2;go_ret;exact ⟨rfl,rfl⟩
theorem cellOf1_any {ok:Nat→Prop} {w:World} {nb:Nat} {u:Value} {l:List Int} (hn:w.heap[nb]?=some (.cells #[u] 52 (0,0))) (hu:HInts ok w u l) (k:Nat) (hk:k<l.length):Calls Tryz.prog 127 #[.int .i64 (k:Int),.pointer (some ⟨nb,0,none⟩)] w fun e w'=>e=.returned (.int .i64 (l.getD k 0))∧Below w.heap.size w w':=by
 obtain ⟨ao,cap,rfl,h1,h2,hat⟩:=hu.at;obtain ⟨b,o,rfl,hb,hc⟩:=hat k hk;have c0:=co hn 0;simp at c0;have e:l.getD k 0=l[k]:=(by simp [List.getD_eq_getElem?_getD,hk]);rw [e];generalize l[k]=x at hc ⊢;unfold maxLen at h2;obtain ⟨L,hL⟩:=nmQ (l.length);rw [←hL] at c0 h1 hk;clear hn hu hat e hL;go_enter Tryz.func127,Tryz.ntmps127;go_wp2;go_ret;exact ⟨rfl,Below.refl _ _⟩
theorem cellOf_any (a:Option Addr) (n c:Nat) (w:World):Calls Tryz.prog 99 #[.slice a n c] w fun e w'=>e=.returned (.func (.func 127) #[] #[.pointer (some ⟨w.heap.size,0,none⟩)])∧w'=w.alloc (.cells #[.slice a n c] 52 (0,0)):=by
 go_enter Tryz.func99,Tryz.ntmps99;go_wp2;go_ret;exact ⟨rfl,rfl⟩
theorem cellAt_any {ok:Nat→Prop} {w:World} {u:Value} {l:List Int} (hu:HInts ok w u l) (p o:Int):Calls Tryz.prog 105 #[u,.int .i64 p,.int .i64 o] w fun e w'=>e=.returned (.int .i64 (Sk.cellAt l p o))∧Below w.heap.size w w':=by
 obtain ⟨ao,cap,rfl,h1,h2,hat⟩:=hu.at;unfold maxLen at h2;unfold Sk.cellAt;by_cases h0:p<0
 ·rw [if_pos (.inl h0)]
  clear hu hat;go_enter Tryz.func105,Tryz.ntmps105;go_wp2;go_ret;exact ⟨rfl,Below.refl _ _⟩
 ·by_cases h3:(l.length:Int)≤p
  ·rw [if_pos (.inr h3)]
   clear hu hat;generalize l.length=L at *;go_enter Tryz.func105,Tryz.ntmps105;go_wp2;go_ret;exact ⟨rfl,Below.refl _ _⟩
  ·rw [if_neg (by omega)]
   obtain ⟨q,rfl⟩:∃ q:Nat,p=(q:Int):=⟨p.toNat,by omega⟩;have hq:q<l.length:=(by omega);obtain ⟨b,o',rfl,hb,hc⟩:=hat q hq;have e:l.getD ((q:Int)).toNat 0=l[q]:=(by simp [List.getD_eq_getElem?_getD,hq]);rw [e];generalize l[q]=x at hc ⊢;obtain ⟨L,hL⟩:=nmQ (l.length);rw [←hL] at h1 hq h3 ⊢;clear hu hat e hL;go_enter Tryz.func105,Tryz.ntmps105;go_wp2;go_ret;exact ⟨rfl,Below.refl _ _⟩
theorem takenBy_any (op:Int) (w:World):Calls Tryz.prog 147 #[.int .i64 op] w fun e w'=>e=.returned (.int .i64 (Sk.takesN op:Nat))∧Below w.heap.size w w':=by
 unfold Sk.takesN;by_cases h5:op=5
 ·subst h5
  go_enter Tryz.func147,Tryz.ntmps147;go_wp2;go_ret;exact ⟨rfl,Below.refl _ _⟩
 by_cases h6:op=6
 ·subst h6
  go_enter Tryz.func147,Tryz.ntmps147;go_wp2;go_ret;exact ⟨rfl,Below.refl _ _⟩
 by_cases h8:op=8
 ·subst h8
  go_enter Tryz.func147,Tryz.ntmps147;go_wp2;go_ret;exact ⟨rfl,Below.refl _ _⟩
 by_cases h7:op=7
 ·subst h7
  go_enter Tryz.func147,Tryz.ntmps147;go_wp2;go_ret;exact ⟨rfl,Below.refl _ _⟩
 rw [if_neg h5,if_neg (by omega),if_neg h7];have e5:(op==5)=false:=(by simpa using h5);have e6:(op==6)=false:=(by simpa using h6);have e7:(op==7)=false:=(by simpa using h7);have e8:(op==8)=false:=(by simpa using h8);clear h5 h6 h7 h8;go_enter Tryz.func147,Tryz.ntmps147;go_wp2;go_ret;exact ⟨rfl,Below.refl _ _⟩
theorem part_any {ok okA:Nat→Prop} {w:World} {rb:Nat} {x:WkV} {vC vA:Value} {C:List (List Int)} {op k out n:Int} {aA aE:Option Addr} {nA cA nE cE:Nat} {A:List Int} (hr:RowAt w rb x vC vA) (hC:HRow kLL ok w vC C) (hA:HInts okA w (.slice aA nA cA) A) (i:Nat) (hi:i<A.length) (hz:0≤A[i]∧A[i]<C.length) :
  Calls Tryz.prog 100 #[.agg #[.pointer (some ⟨rb,0,none⟩),.int .i64 op,.int .i64 k,.int .i64 out,.int .i64 n,.slice aA nA cA,.slice aE nE cE],.int .i64 (i:Int)] w fun e w'=>∃ a m c,e=.returned (.slice a m c)∧HInts ok w (.slice a m c) (Sk.cAt C A[i])∧Below w.heap.size w w':=by
 obtain ⟨aC,cC,rfl,hc1,hc2,hat⟩:=hC.llAt;obtain ⟨aoA,capA,evA,hd1,hd2,hatA⟩:=hA.at;injection evA with e1 e2 e3;subst e1 e2 e3;obtain ⟨bA,oA,rfl,yA0,cAi⟩:=hatA i hi;obtain ⟨q,hq⟩:∃ q:Nat,A[i]=(q:Int):=⟨(A[i]).toNat,by omega⟩;have hqC:q<C.length:=(by omega);obtain ⟨bC,oC,u,rfl,yC0,cCq,hu⟩:=hat q hqC;obtain ⟨au,cu,rfl,-⟩:=hu.at;have HU:=hide (show HInts ok w (.slice au (C[q]).length cu) (Sk.cAt C A[i]) by
  rw [hq];have:Sk.cAt C (q:Int)=C[q]:=(by unfold Sk.cAt;simp [List.getD_eq_getElem?_getD,hqC]);rw [this];exact hu)
 rw [hq] at cAi;unfold maxLen at hc2 hd2;unfold RowAt at hr;have b1:Below w.heap.size w (w.alloc (.cells #[.pointer (some ⟨rb,0,none⟩),.int .i64 op,.int .i64 k,.int .i64 out,.int .i64 n,.slice (some ⟨bA,oA,none⟩) A.length cA,.slice aE nE cE] 110 (0,0))):=(Below.refl _ _).alloc (Nat.le_refl _) _;have kM:=heap_new w (.cells #[.pointer (some ⟨rb,0,none⟩),.int .i64 op,.int .i64 k,.int .i64 out,.int .i64 n,.slice (some ⟨bA,oA,none⟩) A.length cA,.slice aE nE cE] 110 (0,0));have kr:=(b1.block _ (lt_of hr)).trans hr;have CA:=(b1.cell (p:=⟨bA,oA+i,none⟩) yA0).trans cAi;have CC:=(b1.cell (p:=⟨bC,oC+q,none⟩) yC0).trans cCq;have yA1:=Nat.lt_of_lt_of_le yA0 b1.size;have yC1:=Nat.lt_of_lt_of_le yC0 b1.size;obtain ⟨LA,hLA⟩:=nmQ (A.length);obtain ⟨LC,hLC⟩:=nmQ (C.length);rw [←hLA] at b1 kM kr CA CC yA1 yC1 hd1 hi ⊢;rw [←hLC] at kr hc1 hqC;clear hr hC hA hat hatA hu hq hz cAi cCq hLA hLC yA0 yC0;go_enter Tryz.func100,Tryz.ntmps100;go_upto_region 1 with fail;generalize w.alloc (.cells #[.pointer (some ⟨rb,0,none⟩),.int .i64 op,.int .i64 k,.int .i64 out,.int .i64 n,.slice (some ⟨bA,oA,none⟩) LA cA,.slice aE nE cE] 110 (0,0))=w1 at b1 kM kr CA CC yA1 yC1 ⊢;have m0:=co kM 0;have m5:=co kM 5;have r4:=co kr 4;simp at m0 m5 r4;have yM:=lt_of kM;have yr:=lt_of kr;refine wp_region_late (fun w'=>Below w1.heap.size w1 w') (fun _=>false) (by kernel_rfl) ?_;have hH0:Below w1.heap.size w1 w1.drew:=(Below.refl _ _).drew;generalize w1.drew=wd0 at hH0 ⊢;refine' tkR 0 5 hH0 ?o1
 refine' tkQ 1 6 hH0 ?hyv ?o2
 case hyv=>
  intro wz hSw;have zc0:=(hSw.cell (p:=⟨w.heap.size,0,none⟩) yM).trans m0;have zc1:=(hSw.cell (p:=⟨w.heap.size,5,none⟩) yM).trans m5;have zc2:=(hSw.cell (p:=⟨rb,4,none⟩) yr).trans r4;have zc3:=(hSw.cell (p:=⟨bA,oA+i,none⟩) yA1).trans CA;have zc4:=(hSw.cell (p:=⟨bC,oC+q,none⟩) yC1).trans CC;go_simp
  try rfl
 try simp only [Act.put,sT,sZ,sS]
 refine' tkR 2 7 hH0 ?o3
 refine' tkR 3 8 hH0 ?o4
 refine' tkQ 4 9 hH0 ?hyv ?o5
 case hyv=>
  intro wz hSw;have zc0:=(hSw.cell (p:=⟨w.heap.size,0,none⟩) yM).trans m0;have zc1:=(hSw.cell (p:=⟨w.heap.size,5,none⟩) yM).trans m5;have zc2:=(hSw.cell (p:=⟨rb,4,none⟩) yr).trans r4;have zc3:=(hSw.cell (p:=⟨bA,oA+i,none⟩) yA1).trans CA;have zc4:=(hSw.cell (p:=⟨bC,oC+q,none⟩) yC1).trans CC;go_simp
  try rfl
 try simp only [Act.put,sT,sZ,sS]
 refine' tkR 5 10 hH0 ?o6
 refine' tkR 6 11 hH0 ?o7
 refine' tkQ 7 12 hH0 ?hyv ?o8
 case hyv=>
  intro wz hSw;have zc0:=(hSw.cell (p:=⟨w.heap.size,0,none⟩) yM).trans m0;have zc1:=(hSw.cell (p:=⟨w.heap.size,5,none⟩) yM).trans m5;have zc2:=(hSw.cell (p:=⟨rb,4,none⟩) yr).trans r4;have zc3:=(hSw.cell (p:=⟨bA,oA+i,none⟩) yA1).trans CA;have zc4:=(hSw.cell (p:=⟨bC,oC+q,none⟩) yC1).trans CC;go_simp
  try rfl
 try simp only [Act.put,sT,sZ,sS]
 refine' tkR 8 13 hH0 ?o9
 refine' tkR 9 14 hH0 ?o10
 refine' tkQ 10 15 hH0 ?hyv ?o11
 case hyv=>
  intro wz hSw;have zc0:=(hSw.cell (p:=⟨w.heap.size,0,none⟩) yM).trans m0;have zc1:=(hSw.cell (p:=⟨w.heap.size,5,none⟩) yM).trans m5;have zc2:=(hSw.cell (p:=⟨rb,4,none⟩) yr).trans r4;have zc3:=(hSw.cell (p:=⟨bA,oA+i,none⟩) yA1).trans CA;have zc4:=(hSw.cell (p:=⟨bC,oC+q,none⟩) yC1).trans CC;go_simp
  try rfl
 try simp only [Act.put,sT,sZ,sS]
 refine' tkR 11 16 hH0 ?o12
 refine' tkQ 12 17 hH0 ?hyv ?o13
 case hyv=>
  intro wz hSw;have zc0:=(hSw.cell (p:=⟨w.heap.size,0,none⟩) yM).trans m0;have zc1:=(hSw.cell (p:=⟨w.heap.size,5,none⟩) yM).trans m5;have zc2:=(hSw.cell (p:=⟨rb,4,none⟩) yr).trans r4;have zc3:=(hSw.cell (p:=⟨bA,oA+i,none⟩) yA1).trans CA;have zc4:=(hSw.cell (p:=⟨bC,oC+q,none⟩) yC1).trans CC;go_simp
  try rfl
 try simp only [Act.put,sT,sZ,sS]
 refine' tkR 13 4 hH0 ?o14
 refine wpAnyL_done (by kernel_rfl) ?_ _;go_wp2;go_ret;exact ⟨_,_,_,rfl,HU.out,b1.trans (hH0.mono b1.size)⟩
theorem scalarM_any {ok okA:Nat→Prop} {w:World} {rb:Nat} {x:WkV} {vC vA:Value} {C:List (List Int)} {op k out n:Int} {aA aE:Option Addr} {nA cA nE cE:Nat} {A:List Int} (hr:RowAt w rb x vC vA) (hC:HRow kLL ok w vC C) (hA:HInts okA w (.slice aA nA cA) A) (i:Nat) (hi:i<A.length) (hz:0≤A[i]∧A[i]<C.length) (hl:0<(Sk.cAt C A[i]).length) :
  Calls Tryz.prog 104 #[.agg #[.pointer (some ⟨rb,0,none⟩),.int .i64 op,.int .i64 k,.int .i64 out,.int .i64 n,.slice aA nA cA,.slice aE nE cE],.int .i64 (i:Int)] w fun e w'=>e=.returned (.int .i64 ((Sk.cAt C A[i]).getD 0 0))∧Below w.heap.size w w':=by
 have b1:Below w.heap.size w (w.alloc (.cells #[.pointer (some ⟨rb,0,none⟩),.int .i64 op,.int .i64 k,.int .i64 out,.int .i64 n,.slice aA nA cA,.slice aE nE cE] 110 (0,0))):=(Below.refl _ _).alloc (Nat.le_refl _) _;have kM:=heap_new w (.cells #[.pointer (some ⟨rb,0,none⟩),.int .i64 op,.int .i64 k,.int .i64 out,.int .i64 n,.slice aA nA cA,.slice aE nE cE] 110 (0,0));have hp:=part_any (op:=op) (k:=k) (out:=out) (n:=n) (aE:=aE) (nE:=nE) (cE:=cE) (hr.under b1) (hC.keep b1.size (fun i _ h=>b1.block i h)) (hA.under b1) i hi hz;generalize Sk.cAt C A[i]=l at hp hl ⊢;have HP:=hide hp;clear hr hC hA hz hp hi;go_enter Tryz.func104,Tryz.ntmps104;go_upto_region 1 with fail;generalize w.alloc (.cells #[.pointer (some ⟨rb,0,none⟩),.int .i64 op,.int .i64 k,.int .i64 out,.int .i64 n,.slice aA nA cA,.slice aE nE cE] 110 (0,0))=w1 at b1 kM HP ⊢;have m0:=co kM 0;have m1:=co kM 1;have m2:=co kM 2;have m3:=co kM 3;have m4:=co kM 4;have m5:=co kM 5;have m6:=co kM 6;simp at m0 m1 m2 m3 m4 m5 m6;clear kM;go_wp2_with fail;refine HP.out.mono ?_;rintro e w2 ⟨a,m,c,rfl,hu,b2⟩;obtain ⟨ao,cap,ev,h1,h2,hat⟩:=(hu.under b2).at;injection ev with e1 e2 e3;subst e1 e2 e3;obtain ⟨b,o,rfl,hb,c0⟩:=hat 0 hl;have e:l.getD 0 0=l[0]:=(by simp [List.getD_eq_getElem?_getD,hl]);rw [Nat.add_zero] at c0;have HE:=hide e;generalize l[0]=y at c0 HE;unfold maxLen at h2;clear hu hat e m0 m1 m2 m3 m4 m5 m6 HP;generalize l.length=L at hl h1 ⊢;go_wp2;go_ret;exact ⟨by rw [HE.out];rfl,b1.trans (b2.mono b1.size)⟩
end Go.Proofs.YtnhmcpnbaajjcaaGreatDoor
