import Derived.Test.YtgjdkgkgbmbffaaDoorH22
import Derived.WalkKit
import Derived.WalkSpells
import Derived.IntWalk
import Derived.Deep.Cut
import Derived.Deep.LoopGhost
import Derived.Laws.Cover1
import Derived.Lib.Hide
set_option linter.unusedVariables false
set_option linter.unusedSimpArgs false
set_option maxHeartbeats 64000000
set_option maxRecDepth 100000
namespace Go.Proofs.YtgjdkgkgbmbffaaDoor
open Go.RowKit Go.IntWalk
theorem zAY (k a b:Int) (w:World):Calls Tryd.prog 48 #[.int .i64 k,.int .i64 a,.int .i64 b] w fun e w'=>e=.returned (.int .i64 (apT k a b))/\Below w.heap.size w w':=(apply_any k a b w).mono (by rintro e w' ⟨rfl,rfl⟩;exact ⟨rfl,Below.refl _ _⟩)
theorem madeByN_any {w:World} {mb:Nat} (po pk v pn:Int) (h:po<2\/8<po) (tv:Value) (k:Int):Calls Tryd.prog 53 #[.pointer (some ⟨mb,0,none⟩),.agg #[.int .i64 po,.int .i64 pk,.int .i64 v,.int .i64 pn],tv,.int .i64 k] w fun e w'=>e=.returned (.int .i64 (pn))/\Below w.heap.size w w':=by
 have b1:Below w.heap.size w (w.alloc (.cells #[.int .i64 po,.int .i64 pk,.int .i64 v,.int .i64 pn] 71 (0,0))):=(Below.refl _ _).alloc zL _;have kP:=zJ w (.cells #[.int .i64 po,.int .i64 pk,.int .i64 v,.int .i64 pn] 71 (0,0));have e2:(po==2)=false:=(by simp;omega);have e3:(po==3)=false:=(by simp;omega);have e4:(po==4)=false:=(by simp;omega);have e5:(po==5)=false:=(by simp;omega);have e6:(po==6)=false:=(by simp;omega);have e7:(po==7)=false:=(by simp;omega);have e8:(po==8)=false:=(by simp;omega);clear h;go_enter Tryd.func53,Tryd.ntmps53;go_upto_region 1 with fail;generalize w.alloc (.cells #[.int .i64 po,.int .i64 pk,.int .i64 v,.int .i64 pn] 71 (0,0))=w1 at b1 kP ⊢;have p0:=coQ kP 0;have p1:=coQ kP 1;have p2:=coQ kP 2;have p3:=coQ kP 3;simp at p0 p1 p2 p3;have yP:=zH kP;go_wp2;go_ret;exact ⟨rfl,b1⟩
theorem madeBy4_any {w:World} {mb:Nat} (pk v pn:Int) (tv:Value) (k:Int):Calls Tryd.prog 53 #[.pointer (some ⟨mb,0,none⟩),.agg #[.int .i64 4,.int .i64 pk,.int .i64 v,.int .i64 pn],tv,.int .i64 k] w fun e w'=>e=.returned (.int .i64 (wrap64 (k+pn)))/\Below w.heap.size w w':=by
 have b1:Below w.heap.size w (w.alloc (.cells #[.int .i64 4,.int .i64 pk,.int .i64 v,.int .i64 pn] 71 (0,0))):=(Below.refl _ _).alloc zL _;have kP:=zJ w (.cells #[.int .i64 4,.int .i64 pk,.int .i64 v,.int .i64 pn] 71 (0,0));go_enter Tryd.func53,Tryd.ntmps53;go_upto_region 1 with fail;generalize w.alloc (.cells #[.int .i64 4,.int .i64 pk,.int .i64 v,.int .i64 pn] 71 (0,0))=w1 at b1 kP ⊢;have p0:=coQ kP 0;have p1:=coQ kP 1;have p2:=coQ kP 2;have p3:=coQ kP 3;simp at p0 p1 p2 p3;have yP:=zH kP;go_wp2;go_ret;exact ⟨rfl,b1⟩
theorem madeBy5_any {w:World} {mb:Nat} {ok:Nat->Prop} {tv:Value} {T:List Int} (ht:HInts ok w tv T) (hT:T.length=1) (pk v pn:Int) (k:Int):Calls Tryd.prog 53 #[.pointer (some ⟨mb,0,none⟩),.agg #[.int .i64 5,.int .i64 pk,.int .i64 v,.int .i64 pn],tv,.int .i64 k] w fun e w'=>e=.returned (.int .i64 (apT pk (T.getD 0 0) 0))/\Below w.heap.size w w':=by
 obtain ⟨at_,ct,rfl,ht1,ht2,hatt⟩:=ht.at;obtain ⟨bt,ot,rfl,yt,t0⟩:=hatt 0 (by omega);rw [Nat.add_zero] at t0;have g0:T.getD 0 0=T[0]:=(by simp [List.getD_eq_getElem?_getD,show 0<T.length by omega]);rw [g0];have hT0:0<T.length:=(by omega);generalize T[0]=x0 at t0 ⊢;unfold maxLen at ht2;obtain ⟨tl,htl⟩:=nmQ (T.length);rw [<-htl] at ht1 hT0 ⊢;clear ht hatt htl hT g0;have b1:Below w.heap.size w (w.alloc (.cells #[.int .i64 5,.int .i64 pk,.int .i64 v,.int .i64 pn] 71 (0,0))):=(Below.refl _ _).alloc zL _;have kP:=zJ w (.cells #[.int .i64 5,.int .i64 pk,.int .i64 v,.int .i64 pn] 71 (0,0));have T0:=(b1.cell (p:=⟨bt,ot,none⟩) yt).trans t0;have yt1:=Nat.lt_of_lt_of_le yt b1.size;clear yt t0;go_enter Tryd.func53,Tryd.ntmps53;go_upto_region 1 with fail;generalize w.alloc (.cells #[.int .i64 5,.int .i64 pk,.int .i64 v,.int .i64 pn] 71 (0,0))=w1 at b1 kP T0 yt1 ⊢;have p0:=coQ kP 0;have p1:=coQ kP 1;have p2:=coQ kP 2;have p3:=coQ kP 3;simp at p0 p1 p2 p3;have yP:=zH kP;go_upto_region 9 with fail;refine zK (fun w'=>Below w1.heap.size w1 w') (fun _=>false) (by kernel_rfl) ?_;have hH0:Below w1.heap.size w1 w1.drew:=(Below.refl _ _).drew;generalize w1.drew=wd0 at hH0 ⊢;refine' tkR 0 41 hH0 ?o1
 refine' tkQ 1 42 hH0 ?hyv ?o2
 case hyv=>
  intro wz hSw;have zc0:=(hSw.cell (p:=⟨w.heap.size,0,none⟩) yP).trans p0;have zc1:=(hSw.cell (p:=⟨w.heap.size,1,none⟩) yP).trans p1;have zc2:=(hSw.cell (p:=⟨w.heap.size,2,none⟩) yP).trans p2;have zc3:=(hSw.cell (p:=⟨w.heap.size,3,none⟩) yP).trans p3;have zc4:=(hSw.cell (p:=⟨bt,ot,none⟩) yt1).trans T0;go_simp
  try rfl
 try simp only [Act.put,sT,sZ,sS]
 refine' tkR 2 43 hH0 ?o3
 refine' tkR 3 44 hH0 ?o4
 refine' tkQ 4 45 hH0 ?hyv ?o5
 case hyv=>
  intro wz hSw;have zc0:=(hSw.cell (p:=⟨w.heap.size,0,none⟩) yP).trans p0;have zc1:=(hSw.cell (p:=⟨w.heap.size,1,none⟩) yP).trans p1;have zc2:=(hSw.cell (p:=⟨w.heap.size,2,none⟩) yP).trans p2;have zc3:=(hSw.cell (p:=⟨w.heap.size,3,none⟩) yP).trans p3;have zc4:=(hSw.cell (p:=⟨bt,ot,none⟩) yt1).trans T0;go_simp
  try rfl
 try simp only [Act.put,sT,sZ,sS]
 refine tnQ 5 (fun K hK=>?_);go_simp;refine (zAY pk x0 0 wd0).mono ?_;rintro eq wd1 ⟨rfl,bq1⟩;have hH1:Below w1.heap.size w1 wd1:=hH0.trans (bq1.mono hH0.size);refine hK.out _ _ (fun _=>hH1) ?_;clear hK K
 try simp only [Act.put,sT,sZ,sS]
 refine' tkR 6 8 hH1 ?o6
 refine zI (by kernel_rfl) ?_ _;go_wp2;go_ret;exact ⟨rfl,b1.trans (hH1.mono b1.size)⟩
theorem madeBy6_any {w:World} {mb:Nat} {ok:Nat->Prop} {tv:Value} {T:List Int} (ht:HInts ok w tv T) (hT:T.length=2) (pk v pn:Int) (k:Int):Calls Tryd.prog 53 #[.pointer (some ⟨mb,0,none⟩),.agg #[.int .i64 6,.int .i64 pk,.int .i64 v,.int .i64 pn],tv,.int .i64 k] w fun e w'=>e=.returned (.int .i64 (apT pk (T.getD 0 0) (T.getD 1 0)))/\Below w.heap.size w w':=by
 obtain ⟨at_,ct,rfl,ht1,ht2,hatt⟩:=ht.at;obtain ⟨bt,ot,rfl,yt,t0⟩:=hatt 0 (by omega);rw [Nat.add_zero] at t0;obtain ⟨bt1,ot1,eqt,-,t1⟩:=hatt 1 (by omega);injection eqt with eqt;injection eqt with eqt1 eqt2;subst eqt1 eqt2;have g0:T.getD 0 0=T[0]:=(by simp [List.getD_eq_getElem?_getD,show 0<T.length by omega]);rw [g0];have g1:T.getD 1 0=T[1]:=(by simp [List.getD_eq_getElem?_getD,show 1<T.length by omega]);rw [g1];have hT0:0<T.length:=(by omega);have hT1:1<T.length:=(by omega);generalize T[0]=x0 at t0 ⊢;generalize T[1]=x1 at t1 ⊢;unfold maxLen at ht2;obtain ⟨tl,htl⟩:=nmQ (T.length);rw [<-htl] at ht1 hT0 hT1 ⊢;clear ht hatt htl hT g0 g1;have hTi1:(1:Int)<(tl:Int):=(by omega);have b1:Below w.heap.size w (w.alloc (.cells #[.int .i64 6,.int .i64 pk,.int .i64 v,.int .i64 pn] 71 (0,0))):=(Below.refl _ _).alloc zL _;have kP:=zJ w (.cells #[.int .i64 6,.int .i64 pk,.int .i64 v,.int .i64 pn] 71 (0,0));have T0:=(b1.cell (p:=⟨bt,ot,none⟩) yt).trans t0;have T1:=(b1.cell (p:=⟨bt,ot+1,none⟩) yt).trans t1;have yt1:=Nat.lt_of_lt_of_le yt b1.size;clear yt t0 t1;go_enter Tryd.func53,Tryd.ntmps53;go_upto_region 1 with fail;generalize w.alloc (.cells #[.int .i64 6,.int .i64 pk,.int .i64 v,.int .i64 pn] 71 (0,0))=w1 at b1 kP T0 T1 yt1 ⊢;have p0:=coQ kP 0;have p1:=coQ kP 1;have p2:=coQ kP 2;have p3:=coQ kP 3;simp at p0 p1 p2 p3;have yP:=zH kP;go_upto_region 11 with fail;refine zK (fun w'=>Below w1.heap.size w1 w') (fun _=>false) (by kernel_rfl) ?_;have hH0:Below w1.heap.size w1 w1.drew:=(Below.refl _ _).drew;generalize w1.drew=wd0 at hH0 ⊢;refine' tkR 0 49 hH0 ?o7
 refine' tkQ 1 50 hH0 ?hyv ?o8
 case hyv=>
  intro wz hSw;have zc0:=(hSw.cell (p:=⟨w.heap.size,0,none⟩) yP).trans p0;have zc1:=(hSw.cell (p:=⟨w.heap.size,1,none⟩) yP).trans p1;have zc2:=(hSw.cell (p:=⟨w.heap.size,2,none⟩) yP).trans p2;have zc3:=(hSw.cell (p:=⟨w.heap.size,3,none⟩) yP).trans p3;have zc4:=(hSw.cell (p:=⟨bt,ot,none⟩) yt1).trans T0;have zc5:=(hSw.cell (p:=⟨bt,ot+1,none⟩) yt1).trans T1;go_simp
  try rfl
 try simp only [Act.put,sT,sZ,sS]
 refine' tkR 2 51 hH0 ?o9
 refine' tkR 3 52 hH0 ?o10
 refine' tkQ 4 53 hH0 ?hyv ?o11
 case hyv=>
  intro wz hSw;have zc0:=(hSw.cell (p:=⟨w.heap.size,0,none⟩) yP).trans p0;have zc1:=(hSw.cell (p:=⟨w.heap.size,1,none⟩) yP).trans p1;have zc2:=(hSw.cell (p:=⟨w.heap.size,2,none⟩) yP).trans p2;have zc3:=(hSw.cell (p:=⟨w.heap.size,3,none⟩) yP).trans p3;have zc4:=(hSw.cell (p:=⟨bt,ot,none⟩) yt1).trans T0;have zc5:=(hSw.cell (p:=⟨bt,ot+1,none⟩) yt1).trans T1;go_simp
  try rfl
 try simp only [Act.put,sT,sZ,sS]
 refine' tkR 5 54 hH0 ?o12
 refine' tkR 6 55 hH0 ?o13
 refine' tkQ 7 56 hH0 ?hyv ?o14
 case hyv=>
  intro wz hSw;have zc0:=(hSw.cell (p:=⟨w.heap.size,0,none⟩) yP).trans p0;have zc1:=(hSw.cell (p:=⟨w.heap.size,1,none⟩) yP).trans p1;have zc2:=(hSw.cell (p:=⟨w.heap.size,2,none⟩) yP).trans p2;have zc3:=(hSw.cell (p:=⟨w.heap.size,3,none⟩) yP).trans p3;have zc4:=(hSw.cell (p:=⟨bt,ot,none⟩) yt1).trans T0;have zc5:=(hSw.cell (p:=⟨bt,ot+1,none⟩) yt1).trans T1;go_simp
  try rfl
 try simp only [Act.put,sT,sZ,sS]
 refine tnQ 8 (fun K hK=>?_);go_simp;refine (zAY pk x0 x1 wd0).mono ?_;rintro eq wd1 ⟨rfl,bq1⟩;have hH1:Below w1.heap.size w1 wd1:=hH0.trans (bq1.mono hH0.size);refine hK.out _ _ (fun _=>hH1) ?_;clear hK K
 try simp only [Act.put,sT,sZ,sS]
 refine' tkR 9 8 hH1 ?o15
 refine zI (by kernel_rfl) ?_ _;go_wp2;go_ret;exact ⟨rfl,b1.trans (hH1.mono b1.size)⟩
theorem madeBy7_any {w:World} {mb:Nat} {ok:Nat->Prop} {tv:Value} {T:List Int} (ht:HInts ok w tv T) (hT:T.length=3) (pk v pn:Int) (k:Int):Calls Tryd.prog 53 #[.pointer (some ⟨mb,0,none⟩),.agg #[.int .i64 7,.int .i64 pk,.int .i64 v,.int .i64 pn],tv,.int .i64 k] w fun e w'=>e=.returned (.int .i64 (if T.getD 0 0≠0 then T.getD 1 0 else T.getD 2 0))/\Below w.heap.size w w':=by
 obtain ⟨at_,ct,rfl,ht1,ht2,hatt⟩:=ht.at;obtain ⟨bt,ot,rfl,yt,t0⟩:=hatt 0 (by omega);rw [Nat.add_zero] at t0;obtain ⟨bt1,ot1,eqt,-,t1⟩:=hatt 1 (by omega);injection eqt with eqt;injection eqt with eqt1 eqt2;subst eqt1 eqt2;obtain ⟨bt2,ot2,eqt,-,t2⟩:=hatt 2 (by omega);injection eqt with eqt;injection eqt with eqt1 eqt2;subst eqt1 eqt2;have g0:T.getD 0 0=T[0]:=(by simp [List.getD_eq_getElem?_getD,show 0<T.length by omega]);rw [g0];have g1:T.getD 1 0=T[1]:=(by simp [List.getD_eq_getElem?_getD,show 1<T.length by omega]);rw [g1];have g2:T.getD 2 0=T[2]:=(by simp [List.getD_eq_getElem?_getD,show 2<T.length by omega]);rw [g2];have hT0:0<T.length:=(by omega);have hT1:1<T.length:=(by omega);have hT2:2<T.length:=(by omega);generalize T[0]=x0 at t0 ⊢;generalize T[1]=x1 at t1 ⊢;generalize T[2]=x2 at t2 ⊢;unfold maxLen at ht2;obtain ⟨tl,htl⟩:=nmQ (T.length);rw [<-htl] at ht1 hT0 hT1 hT2 ⊢;clear ht hatt htl hT g0 g1 g2;have hTi1:(1:Int)<(tl:Int):=(by omega);have hTi2:(2:Int)<(tl:Int):=(by omega);have b1:Below w.heap.size w (w.alloc (.cells #[.int .i64 7,.int .i64 pk,.int .i64 v,.int .i64 pn] 71 (0,0))):=(Below.refl _ _).alloc zL _;have kP:=zJ w (.cells #[.int .i64 7,.int .i64 pk,.int .i64 v,.int .i64 pn] 71 (0,0));have T0:=(b1.cell (p:=⟨bt,ot,none⟩) yt).trans t0;have T1:=(b1.cell (p:=⟨bt,ot+1,none⟩) yt).trans t1;have T2:=(b1.cell (p:=⟨bt,ot+2,none⟩) yt).trans t2;have yt1:=Nat.lt_of_lt_of_le yt b1.size;clear yt t0 t1 t2;by_cases h0:x0=0
 ·rw [if_neg (by simp [h0])]
  have e0:(x0 != 0)=false:=(by simp [h0]);clear h0;go_enter Tryd.func53,Tryd.ntmps53;go_upto_region 1 with fail;generalize w.alloc (.cells #[.int .i64 7,.int .i64 pk,.int .i64 v,.int .i64 pn] 71 (0,0))=w1 at b1 kP T0 T1 T2 yt1 ⊢;have p0:=coQ kP 0;have p1:=coQ kP 1;have p2:=coQ kP 2;have p3:=coQ kP 3;simp at p0 p1 p2 p3;have yP:=zH kP;go_wp2;go_ret;exact ⟨rfl,b1⟩
 ·rw [if_pos h0]
  have e0:(x0 != 0)=true:=(by simp [h0]);clear h0;go_enter Tryd.func53,Tryd.ntmps53;go_upto_region 1 with fail;generalize w.alloc (.cells #[.int .i64 7,.int .i64 pk,.int .i64 v,.int .i64 pn] 71 (0,0))=w1 at b1 kP T0 T1 T2 yt1 ⊢;have p0:=coQ kP 0;have p1:=coQ kP 1;have p2:=coQ kP 2;have p3:=coQ kP 3;simp at p0 p1 p2 p3;have yP:=zH kP;go_wp2;go_ret;exact ⟨rfl,b1⟩
theorem madeBy2_any {w:World} {mb:Nat} {c:Int} {vP vG vS:Value} {aC:Option Addr} {nC cC:Nat} {okC:Nat->Prop} {M:List Int} (hm:w.heap[mb]?=some (.cells #[.int .i64 c,vP,vG,vS,.slice aC nC cC] 64 (0,0))) (hC:HInts okC w (.slice aC nC cC) M) (pk pn:Int) (v:Nat) (tv:Value) (k:Int) (hl:v<M.length):Calls Tryd.prog 53 #[.pointer (some ⟨mb,0,none⟩),.agg #[.int .i64 2,.int .i64 pk,.int .i64 (v:Int),.int .i64 pn],tv,.int .i64 k] w fun e w'=>e=.returned (.int .i64 (Lo.rd M (v:Int)))/\Below w.heap.size w w':=by
 have b1:Below w.heap.size w (w.alloc (.cells #[.int .i64 2,.int .i64 pk,.int .i64 (v:Int),.int .i64 pn] 71 (0,0))):=(Below.refl _ _).alloc zL _;have kP:=zJ w (.cells #[.int .i64 2,.int .i64 pk,.int .i64 (v:Int),.int .i64 pn] 71 (0,0));have kr:=(b1.block _ (zH hm)).trans hm;obtain ⟨au,cu,eau,hu1,hu2,hatu⟩:=hC.at;injection eau with i1 i2 i3;subst i1 i2 i3;obtain ⟨bu,ou,rfl,yu,cu0⟩:=hatu v hl;have eg:Lo.rd M (v:Int)=M[v]:=by
  unfold Lo.rd;rw [List.getD_eq_getElem?_getD,show ((v:Int)).toNat=v by omega,List.getElem?_eq_getElem hl];rfl
 rw [eg];generalize M[v]=y at cu0 ⊢;unfold maxLen at hu2;have CU:=(b1.cell (p:=⟨bu,ou+v,none⟩) yu).trans cu0;have yu1:=Nat.lt_of_lt_of_le yu b1.size;obtain ⟨LU,hLU⟩:=nmQ (M.length);rw [<-hLU] at hu1 hl kr;clear hm hC hatu eg hLU cu0 yu;go_enter Tryd.func53,Tryd.ntmps53;go_upto_region 1 with fail;generalize w.alloc (.cells #[.int .i64 2,.int .i64 pk,.int .i64 (v:Int),.int .i64 pn] 71 (0,0))=w1 at b1 kP kr CU yu1 ⊢;have p0:=coQ kP 0;have p1:=coQ kP 1;have p2:=coQ kP 2;have p3:=coQ kP 3;simp at p0 p1 p2 p3;have yP:=zH kP;have r4:=coQ kr 4;simp at r4;have yr:=zH kr;go_upto_region 3 with fail;refine zK (fun w'=>Below w1.heap.size w1 w') (fun _=>false) (by kernel_rfl) ?_;have hH0:Below w1.heap.size w1 w1.drew:=(Below.refl _ _).drew;generalize w1.drew=wd0 at hH0 ⊢;refine' tkR 0 13 hH0 ?o16
 refine' tkR 1 14 hH0 ?o17
 refine' tkR 2 15 hH0 ?o18
 refine' tkQ 3 16 hH0 ?hyv ?o19
 case hyv=>
  intro wz hSw;have zc0:=(hSw.cell (p:=⟨w.heap.size,0,none⟩) yP).trans p0;have zc1:=(hSw.cell (p:=⟨w.heap.size,1,none⟩) yP).trans p1;have zc2:=(hSw.cell (p:=⟨w.heap.size,2,none⟩) yP).trans p2;have zc3:=(hSw.cell (p:=⟨w.heap.size,3,none⟩) yP).trans p3;have zc4:=(hSw.cell (p:=⟨mb,4,none⟩) yr).trans r4;have zc5:=(hSw.cell (p:=⟨bu,ou+v,none⟩) yu1).trans CU;go_simp
  try rfl
 try simp only [Act.put,sT,sZ,sS]
 refine' tkR 4 17 hH0 ?o20
 refine' tkQ 5 18 hH0 ?hyv ?o21
 case hyv=>
  intro wz hSw;have zc0:=(hSw.cell (p:=⟨w.heap.size,0,none⟩) yP).trans p0;have zc1:=(hSw.cell (p:=⟨w.heap.size,1,none⟩) yP).trans p1;have zc2:=(hSw.cell (p:=⟨w.heap.size,2,none⟩) yP).trans p2;have zc3:=(hSw.cell (p:=⟨w.heap.size,3,none⟩) yP).trans p3;have zc4:=(hSw.cell (p:=⟨mb,4,none⟩) yr).trans r4;have zc5:=(hSw.cell (p:=⟨bu,ou+v,none⟩) yu1).trans CU;go_simp
  try rfl
 try simp only [Act.put,sT,sZ,sS]
 refine' tkR 6 19 hH0 ?o22
 refine' tkQ 7 20 hH0 ?hyv ?o23
 case hyv=>
  intro wz hSw;have zc0:=(hSw.cell (p:=⟨w.heap.size,0,none⟩) yP).trans p0;have zc1:=(hSw.cell (p:=⟨w.heap.size,1,none⟩) yP).trans p1;have zc2:=(hSw.cell (p:=⟨w.heap.size,2,none⟩) yP).trans p2;have zc3:=(hSw.cell (p:=⟨w.heap.size,3,none⟩) yP).trans p3;have zc4:=(hSw.cell (p:=⟨mb,4,none⟩) yr).trans r4;have zc5:=(hSw.cell (p:=⟨bu,ou+v,none⟩) yu1).trans CU;go_simp
  try rfl
 try simp only [Act.put,sT,sZ,sS]
 refine' tkR 8 8 hH0 ?o24
 refine zI (by kernel_rfl) ?_ _;go_wp2;go_ret;exact ⟨rfl,b1.trans (hH0.mono b1.size)⟩
theorem madeBy3_any {w:World} {mb:Nat} {c:Int} {vP vG vS:Value} {aC:Option Addr} {nC cC:Nat} {okC:Nat->Prop} {M:List Int} (hm:w.heap[mb]?=some (.cells #[.int .i64 c,vP,vG,vS,.slice aC nC cC] 64 (0,0))) (hC:HInts okC w (.slice aC nC cC) M) (pk pn:Int) (v:Nat) (tv:Value) (k:Nat) (hl:v+k<M.length):Calls Tryd.prog 53 #[.pointer (some ⟨mb,0,none⟩),.agg #[.int .i64 3,.int .i64 pk,.int .i64 (v:Int),.int .i64 pn],tv,.int .i64 (k:Int)] w fun e w'=>e=.returned (.int .i64 (Lo.rd M ((v:Int)+(k:Int))))/\Below w.heap.size w w':=by
 have b1:Below w.heap.size w (w.alloc (.cells #[.int .i64 3,.int .i64 pk,.int .i64 (v:Int),.int .i64 pn] 71 (0,0))):=(Below.refl _ _).alloc zL _;have kP:=zJ w (.cells #[.int .i64 3,.int .i64 pk,.int .i64 (v:Int),.int .i64 pn] 71 (0,0));have kr:=(b1.block _ (zH hm)).trans hm;obtain ⟨au,cu,eau,hu1,hu2,hatu⟩:=hC.at;injection eau with i1 i2 i3;subst i1 i2 i3;obtain ⟨bu,ou,rfl,yu,cu0⟩:=hatu (v+k) hl;have eg:Lo.rd M ((v:Int)+(k:Int))=M[(v+k)]:=by
  unfold Lo.rd;rw [List.getD_eq_getElem?_getD,show ((v:Int)+(k:Int)).toNat=(v+k) by omega,List.getElem?_eq_getElem hl];rfl
 rw [eg];generalize M[(v+k)]=y at cu0 ⊢;unfold maxLen at hu2;obtain ⟨z,hz⟩:=nmQ (v+k);have HW:Hid (IntKind.i64.wrap ((v:Int)+(k:Int))=(z:Int)):=zG (by
  have hI:I64 ((v:Int)+(k:Int)):=(by unfold I64;omega);have h2:IntKind.i64.wrap ((v:Int)+(k:Int))=(v:Int)+(k:Int):=i64_in _ hI;have h3:((v:Int)+(k:Int))=(z:Int):=(by omega);exact h2.trans h3)
 rw [<-hz] at hl cu0;clear hz;have CU:=(b1.cell (p:=⟨bu,ou+z,none⟩) yu).trans cu0;have yu1:=Nat.lt_of_lt_of_le yu b1.size;obtain ⟨LU,hLU⟩:=nmQ (M.length);rw [<-hLU] at hu1 hl kr;clear hm hC hatu eg hLU cu0 yu;go_enter Tryd.func53,Tryd.ntmps53;go_upto_region 1 with fail;generalize w.alloc (.cells #[.int .i64 3,.int .i64 pk,.int .i64 (v:Int),.int .i64 pn] 71 (0,0))=w1 at b1 kP kr CU yu1 ⊢;have p0:=coQ kP 0;have p1:=coQ kP 1;have p2:=coQ kP 2;have p3:=coQ kP 3;simp at p0 p1 p2 p3;have yP:=zH kP;have r4:=coQ kr 4;simp at r4;have yr:=zH kr;go_upto_region 5 with fail;refine zK (fun w'=>Below w1.heap.size w1 w') (fun _=>false) (by kernel_rfl) ?_;have hH0:Below w1.heap.size w1 w1.drew:=(Below.refl _ _).drew;generalize w1.drew=wd0 at hH0 ⊢;refine' tkR 0 23 hH0 ?o25
 refine' tkR 1 24 hH0 ?o26
 refine' tkR 2 25 hH0 ?o27
 refine' tkQ 3 26 hH0 ?hyv ?o28
 case hyv=>
  intro wz hSw;have zc0:=(hSw.cell (p:=⟨w.heap.size,0,none⟩) yP).trans p0;have zc1:=(hSw.cell (p:=⟨w.heap.size,1,none⟩) yP).trans p1;have zc2:=(hSw.cell (p:=⟨w.heap.size,2,none⟩) yP).trans p2;have zc3:=(hSw.cell (p:=⟨w.heap.size,3,none⟩) yP).trans p3;have zc4:=(hSw.cell (p:=⟨mb,4,none⟩) yr).trans r4;have zc5:=(hSw.cell (p:=⟨bu,ou+z,none⟩) yu1).trans CU;go_simp
  try rfl
 try simp only [Act.put,sT,sZ,sS]
 refine' tkR 4 27 hH0 ?o29
 refine' tkQ 5 28 hH0 ?hyv ?o30
 case hyv=>
  intro wz hSw;have zc0:=(hSw.cell (p:=⟨w.heap.size,0,none⟩) yP).trans p0;have zc1:=(hSw.cell (p:=⟨w.heap.size,1,none⟩) yP).trans p1;have zc2:=(hSw.cell (p:=⟨w.heap.size,2,none⟩) yP).trans p2;have zc3:=(hSw.cell (p:=⟨w.heap.size,3,none⟩) yP).trans p3;have zc4:=(hSw.cell (p:=⟨mb,4,none⟩) yr).trans r4;have zc5:=(hSw.cell (p:=⟨bu,ou+z,none⟩) yu1).trans CU;go_simp
  try rfl
 try simp only [Act.put,sT,sZ,sS]
 refine' tkR 6 29 hH0 ?o31
 refine' zM (i:=7) (oi:=⟨some 30,_,_,_,_,_⟩) (v:=.int .i64 (z:Int)) rfl (by kernel_rfl) (by kernel_rfl) (by kernel_rfl) (by kernel_rfl) (fun _ _ _ h=>h) hH0 (by rfl) ?hyv ?o32
 case hyv=>
  intro wz hSw;go_simp;rw [HW.out]
 try simp only [Act.put,sT,sZ,sS]
 refine' tkR 8 31 hH0 ?o33
 refine' tkQ 9 32 hH0 ?hyv ?o34
 case hyv=>
  intro wz hSw;have zc0:=(hSw.cell (p:=⟨w.heap.size,0,none⟩) yP).trans p0;have zc1:=(hSw.cell (p:=⟨w.heap.size,1,none⟩) yP).trans p1;have zc2:=(hSw.cell (p:=⟨w.heap.size,2,none⟩) yP).trans p2;have zc3:=(hSw.cell (p:=⟨w.heap.size,3,none⟩) yP).trans p3;have zc4:=(hSw.cell (p:=⟨mb,4,none⟩) yr).trans r4;have zc5:=(hSw.cell (p:=⟨bu,ou+z,none⟩) yu1).trans CU;go_simp
  try rfl
 try simp only [Act.put,sT,sZ,sS]
 refine' tkR 10 8 hH0 ?o35
 refine zI (by kernel_rfl) ?_ _;go_wp2;go_ret;exact ⟨rfl,b1.trans (hH0.mono b1.size)⟩
theorem madeBy8_any {w:World} {mb:Nat} {c:Int} {vP vG vS:Value} {aC:Option Addr} {nC cC:Nat} {okC:Nat->Prop} {M:List Int} (hm:w.heap[mb]?=some (.cells #[.int .i64 c,vP,vG,vS,.slice aC nC cC] 64 (0,0))) (hC:HInts okC w (.slice aC nC cC) M) {ok:Nat->Prop} {tv:Value} {T:List Int} (ht:HInts ok w tv T) (hT:T.length=2) (pk pn:Int) (v:Nat) (hl:(v:Int)+pn<=M.length) (k:Int):Calls Tryd.prog 53 #[.pointer (some ⟨mb,0,none⟩),.agg #[.int .i64 8,.int .i64 pk,.int .i64 (v:Int),.int .i64 pn],tv,.int .i64 k] w fun e w'=>e=.returned (.int .i64 (if T.getD 0 0<0\/pn<=T.getD 0 0 then T.getD 1 0 else Lo.rd M ((v:Int)+T.getD 0 0)))/\Below w.heap.size w w':=by
 obtain ⟨at_,ct,rfl,ht1,ht2,hatt⟩:=ht.at;obtain ⟨bt,ot,rfl,yt,t0⟩:=hatt 0 (by omega);rw [Nat.add_zero] at t0;obtain ⟨bt1,ot1,eqt,-,t1⟩:=hatt 1 (by omega);injection eqt with eqt;injection eqt with eqt1 eqt2;subst eqt1 eqt2;have g0:T.getD 0 0=T[0]:=(by simp [List.getD_eq_getElem?_getD,show 0<T.length by omega]);rw [g0];have g1:T.getD 1 0=T[1]:=(by simp [List.getD_eq_getElem?_getD,show 1<T.length by omega]);rw [g1];have hT0:0<T.length:=(by omega);have hT1:1<T.length:=(by omega);generalize T[0]=x0 at t0 ⊢;generalize T[1]=x1 at t1 ⊢;unfold maxLen at ht2;obtain ⟨tl,htl⟩:=nmQ (T.length);rw [<-htl] at ht1 hT0 hT1 ⊢;clear ht hatt htl hT g0 g1;have hTi1:(1:Int)<(tl:Int):=(by omega);have b1:Below w.heap.size w (w.alloc (.cells #[.int .i64 8,.int .i64 pk,.int .i64 (v:Int),.int .i64 pn] 71 (0,0))):=(Below.refl _ _).alloc zL _;have kP:=zJ w (.cells #[.int .i64 8,.int .i64 pk,.int .i64 (v:Int),.int .i64 pn] 71 (0,0));have T0:=(b1.cell (p:=⟨bt,ot,none⟩) yt).trans t0;have T1:=(b1.cell (p:=⟨bt,ot+1,none⟩) yt).trans t1;have yt1:=Nat.lt_of_lt_of_le yt b1.size;clear yt t0 t1;have kr:=(b1.block _ (zH hm)).trans hm;obtain ⟨au,cu,eau,hu1,hu2,hatu⟩:=hC.at;injection eau with i1 i2 i3;subst i1 i2 i3;unfold maxLen at hu2;obtain ⟨R,hR⟩:=nmQ ((if x0<0\/pn<=x0 then x1 else Lo.rd M ((v:Int)+x0)));rw [<-hR];by_cases h0:x0<0
 case pos=>
  have HZ:=zG (show R=x1 by rw [hR,if_pos (.inl h0)]);clear hR hatu hm hC;go_enter Tryd.func53,Tryd.ntmps53;go_upto_region 1 with fail;generalize w.alloc (.cells #[.int .i64 8,.int .i64 pk,.int .i64 (v:Int),.int .i64 pn] 71 (0,0))=w1 at b1 kP kr T0 T1 yt1 ⊢;have p0:=coQ kP 0;have p1:=coQ kP 1;have p2:=coQ kP 2;have p3:=coQ kP 3;simp at p0 p1 p2 p3;have yP:=zH kP;go_upto_region 17 with fail;go_cut [83] (fun v wd=>v=.bool true/\Below w1.heap.size w1 wd)
  case first=>
   refine zK (fun w'=>Below w1.heap.size w1 w') (fun _=>false) (by kernel_rfl) ?_;have hH0:Below w1.heap.size w1 w1.drew:=(Below.refl _ _).drew;generalize w1.drew=wd0 at hH0 ⊢;refine' tkR 0 72 hH0 ?o36
   refine' tkR 1 73 hH0 ?o37
   refine' tkQ 2 74 hH0 ?hyv ?o38
   case hyv=>
    intro wz hSw;have zc0:=(hSw.cell (p:=⟨w.heap.size,0,none⟩) yP).trans p0;have zc1:=(hSw.cell (p:=⟨w.heap.size,1,none⟩) yP).trans p1;have zc2:=(hSw.cell (p:=⟨w.heap.size,2,none⟩) yP).trans p2;have zc3:=(hSw.cell (p:=⟨w.heap.size,3,none⟩) yP).trans p3;have zc4:=(hSw.cell (p:=⟨bt,ot,none⟩) yt1).trans T0;go_simp
    try rfl
   try simp only [Act.put,sT,sZ,sS]
   refine' zM (i:=3) (oi:=⟨some 75,_,_,_,_,_⟩) (v:=.bool true) rfl (by kernel_rfl) (by kernel_rfl) (by kernel_rfl) (by kernel_rfl) (fun _ _ _ h=>h) hH0 (by rfl) ?hyv ?o39
   case hyv=>
    intro wz hSw;go_simp
    try rfl
   try simp only [Act.put,sT,sZ,sS]
   refine' tkR 4 76 hH0 ?o40
   refine zD (i:=5) (oi:=⟨some 77,_,_,_,_,_⟩) rfl (by kernel_rfl) (by kernel_rfl) (by kernel_rfl) (by kernel_rfl) (fun _ _ _ h=>h) hH0 (by rfl) ?_
   try simp only [Act.put,sT,sZ,sS]
   refine zD (i:=6) (oi:=⟨some 78,_,_,_,_,_⟩) rfl (by kernel_rfl) (by kernel_rfl) (by kernel_rfl) (by kernel_rfl) (fun _ _ _ h=>h) hH0 (by rfl) ?_
   try simp only [Act.put,sT,sZ,sS]
   refine zD (i:=7) (oi:=⟨some 79,_,_,_,_,_⟩) rfl (by kernel_rfl) (by kernel_rfl) (by kernel_rfl) (by kernel_rfl) (fun _ _ _ h=>h) hH0 (by rfl) ?_
   try simp only [Act.put,sT,sZ,sS]
   refine zD (i:=8) (oi:=⟨some 80,_,_,_,_,_⟩) rfl (by kernel_rfl) (by kernel_rfl) (by kernel_rfl) (by kernel_rfl) (fun _ _ _ h=>h) hH0 (by rfl) ?_
   try simp only [Act.put,sT,sZ,sS]
   refine zD (i:=9) (oi:=⟨some 81,_,_,_,_,_⟩) rfl (by kernel_rfl) (by kernel_rfl) (by kernel_rfl) (by kernel_rfl) (fun _ _ _ h=>h) hH0 (by rfl) ?_
   try simp only [Act.put,sT,sZ,sS]
   refine zD (i:=10) (oi:=⟨some 82,_,_,_,_,_⟩) rfl (by kernel_rfl) (by kernel_rfl) (by kernel_rfl) (by kernel_rfl) (fun _ _ _ h=>h) hH0 (by rfl) ?_
   try simp only [Act.put,sT,sZ,sS]
   refine' tkR 11 83 hH0 ?o41
   refine zI (by kernel_rfl) ?_ _;go_wp2_with fail;go_meet
   case rel=>exact ⟨by simp [*],hH0⟩
  case rest=>
   obtain ⟨rfl,bc⟩:=hcut;have T1c:=(bc.cell (p:=⟨bt,ot+1,none⟩) yt1).trans T1;clear T0 T1 p0 p1 p2 p3 kr kP;go_wp2;go_ret;exact ⟨by rw [HZ.out];rfl,b1.trans (bc.mono b1.size)⟩
 by_cases h1:pn<=x0
 case pos=>
  have HZ:=zG (show R=x1 by rw [hR,if_pos (.inr h1)]);clear hR hatu hm hC;go_enter Tryd.func53,Tryd.ntmps53;go_upto_region 1 with fail;generalize w.alloc (.cells #[.int .i64 8,.int .i64 pk,.int .i64 (v:Int),.int .i64 pn] 71 (0,0))=w1 at b1 kP kr T0 T1 yt1 ⊢;have p0:=coQ kP 0;have p1:=coQ kP 1;have p2:=coQ kP 2;have p3:=coQ kP 3;simp at p0 p1 p2 p3;have yP:=zH kP;go_upto_region 17 with fail;go_cut [83] (fun v wd=>v=.bool true/\Below w1.heap.size w1 wd)
  case first=>
   refine zK (fun w'=>Below w1.heap.size w1 w') (fun _=>false) (by kernel_rfl) ?_;have hH0:Below w1.heap.size w1 w1.drew:=(Below.refl _ _).drew;generalize w1.drew=wd0 at hH0 ⊢;refine' tkR 0 72 hH0 ?o42
   refine' tkR 1 73 hH0 ?o43
   refine' tkQ 2 74 hH0 ?hyv ?o44
   case hyv=>
    intro wz hSw;have zc0:=(hSw.cell (p:=⟨w.heap.size,0,none⟩) yP).trans p0;have zc1:=(hSw.cell (p:=⟨w.heap.size,1,none⟩) yP).trans p1;have zc2:=(hSw.cell (p:=⟨w.heap.size,2,none⟩) yP).trans p2;have zc3:=(hSw.cell (p:=⟨w.heap.size,3,none⟩) yP).trans p3;have zc4:=(hSw.cell (p:=⟨bt,ot,none⟩) yt1).trans T0;go_simp
    try rfl
   try simp only [Act.put,sT,sZ,sS]
   refine' zM (i:=3) (oi:=⟨some 75,_,_,_,_,_⟩) (v:=.bool false) rfl (by kernel_rfl) (by kernel_rfl) (by kernel_rfl) (by kernel_rfl) (fun _ _ _ h=>h) hH0 (by rfl) ?hyv ?o45
   case hyv=>
    intro wz hSw;go_simp
    try rfl
   try simp only [Act.put,sT,sZ,sS]
   refine' tkR 4 76 hH0 ?o46
   refine' tkR 5 77 hH0 ?o47
   refine' tkR 6 78 hH0 ?o48
   refine' tkQ 7 79 hH0 ?hyv ?o49
   case hyv=>
    intro wz hSw;have zc0:=(hSw.cell (p:=⟨w.heap.size,0,none⟩) yP).trans p0;have zc1:=(hSw.cell (p:=⟨w.heap.size,1,none⟩) yP).trans p1;have zc2:=(hSw.cell (p:=⟨w.heap.size,2,none⟩) yP).trans p2;have zc3:=(hSw.cell (p:=⟨w.heap.size,3,none⟩) yP).trans p3;have zc4:=(hSw.cell (p:=⟨bt,ot,none⟩) yt1).trans T0;go_simp
    try rfl
   try simp only [Act.put,sT,sZ,sS]
   refine' tkR 8 80 hH0 ?o50
   refine' tkQ 9 81 hH0 ?hyv ?o51
   case hyv=>
    intro wz hSw;have zc0:=(hSw.cell (p:=⟨w.heap.size,0,none⟩) yP).trans p0;have zc1:=(hSw.cell (p:=⟨w.heap.size,1,none⟩) yP).trans p1;have zc2:=(hSw.cell (p:=⟨w.heap.size,2,none⟩) yP).trans p2;have zc3:=(hSw.cell (p:=⟨w.heap.size,3,none⟩) yP).trans p3;have zc4:=(hSw.cell (p:=⟨bt,ot,none⟩) yt1).trans T0;go_simp
    try rfl
   try simp only [Act.put,sT,sZ,sS]
   refine' zM (i:=10) (oi:=⟨some 82,_,_,_,_,_⟩) (v:=.bool true) rfl (by kernel_rfl) (by kernel_rfl) (by kernel_rfl) (by kernel_rfl) (fun _ _ _ h=>h) hH0 (by rfl) ?hyv ?o52
   case hyv=>
    intro wz hSw;go_simp
    try rfl
   try simp only [Act.put,sT,sZ,sS]
   refine' tkR 11 83 hH0 ?o53
   refine zI (by kernel_rfl) ?_ _;go_wp2_with fail;go_meet
   case rel=>exact ⟨by simp [*],hH0⟩
  case rest=>
   obtain ⟨rfl,bc⟩:=hcut;have T1c:=(bc.cell (p:=⟨bt,ot+1,none⟩) yt1).trans T1;clear T0 T1 p0 p1 p2 p3 kr kP;go_wp2;go_ret;exact ⟨by rw [HZ.out];rfl,b1.trans (bc.mono b1.size)⟩
 obtain ⟨z,hz⟩:∃ z:Nat,(z:Int)=(v:Int)+x0:=⟨((v:Int)+x0).toNat,by omega⟩;have hzl:z<M.length:=(by omega);obtain ⟨bu,ou,rfl,yu,cu0⟩:=hatu z hzl;have hd:Lo.rd M ((v:Int)+x0)=M[z]:=by
  unfold Lo.rd;rw [<-hz,Int.toNat_natCast,List.getD_eq_getElem?_getD,List.getElem?_eq_getElem hzl];rfl
 have HZ:=zG (show R=M[z] by rw [hR,if_neg (by omega),hd]);clear hd hR;generalize M[z]=y at cu0 HZ;have HW:Hid (IntKind.i64.wrap ((v:Int)+x0)=(z:Int)):=zG (by
  have hI:I64 ((v:Int)+x0):=(by unfold I64;omega);have h2:IntKind.i64.wrap ((v:Int)+x0)=(v:Int)+x0:=i64_in _ hI;exact h2.trans hz.symm)
 have CU:=(b1.cell (p:=⟨bu,ou+z,none⟩) yu).trans cu0;have yu1:=Nat.lt_of_lt_of_le yu b1.size;obtain ⟨LU,hLU⟩:=nmQ (M.length);rw [<-hLU] at hu1 hzl hl kr;clear hm hC hatu hLU cu0 yu hz hl;go_enter Tryd.func53,Tryd.ntmps53;go_upto_region 1 with fail;generalize w.alloc (.cells #[.int .i64 8,.int .i64 pk,.int .i64 (v:Int),.int .i64 pn] 71 (0,0))=w1 at b1 kP kr CU yu1 T0 T1 yt1 ⊢;have p0:=coQ kP 0;have p1:=coQ kP 1;have p2:=coQ kP 2;have p3:=coQ kP 3;simp at p0 p1 p2 p3;have yP:=zH kP;go_upto_region 17 with fail;go_cut [83] (fun v wd=>v=.bool false/\Below w1.heap.size w1 wd)
 case first=>
  refine zK (fun w'=>Below w1.heap.size w1 w') (fun _=>false) (by kernel_rfl) ?_;have hH0:Below w1.heap.size w1 w1.drew:=(Below.refl _ _).drew;generalize w1.drew=wd0 at hH0 ⊢;refine' tkR 0 72 hH0 ?o54
  refine' tkR 1 73 hH0 ?o55
  refine' tkQ 2 74 hH0 ?hyv ?o56
  case hyv=>
   intro wz hSw;have zc0:=(hSw.cell (p:=⟨w.heap.size,0,none⟩) yP).trans p0;have zc1:=(hSw.cell (p:=⟨w.heap.size,1,none⟩) yP).trans p1;have zc2:=(hSw.cell (p:=⟨w.heap.size,2,none⟩) yP).trans p2;have zc3:=(hSw.cell (p:=⟨w.heap.size,3,none⟩) yP).trans p3;have zc4:=(hSw.cell (p:=⟨bt,ot,none⟩) yt1).trans T0;go_simp
   try rfl
  try simp only [Act.put,sT,sZ,sS]
  refine' zM (i:=3) (oi:=⟨some 75,_,_,_,_,_⟩) (v:=.bool false) rfl (by kernel_rfl) (by kernel_rfl) (by kernel_rfl) (by kernel_rfl) (fun _ _ _ h=>h) hH0 (by rfl) ?hyv ?o57
  case hyv=>
   intro wz hSw;go_simp
   try rfl
  try simp only [Act.put,sT,sZ,sS]
  refine' tkR 4 76 hH0 ?o58
  refine' tkR 5 77 hH0 ?o59
  refine' tkR 6 78 hH0 ?o60
  refine' tkQ 7 79 hH0 ?hyv ?o61
  case hyv=>
   intro wz hSw;have zc0:=(hSw.cell (p:=⟨w.heap.size,0,none⟩) yP).trans p0;have zc1:=(hSw.cell (p:=⟨w.heap.size,1,none⟩) yP).trans p1;have zc2:=(hSw.cell (p:=⟨w.heap.size,2,none⟩) yP).trans p2;have zc3:=(hSw.cell (p:=⟨w.heap.size,3,none⟩) yP).trans p3;have zc4:=(hSw.cell (p:=⟨bt,ot,none⟩) yt1).trans T0;go_simp
   try rfl
  try simp only [Act.put,sT,sZ,sS]
  refine' tkR 8 80 hH0 ?o62
  refine' tkQ 9 81 hH0 ?hyv ?o63
  case hyv=>
   intro wz hSw;have zc0:=(hSw.cell (p:=⟨w.heap.size,0,none⟩) yP).trans p0;have zc1:=(hSw.cell (p:=⟨w.heap.size,1,none⟩) yP).trans p1;have zc2:=(hSw.cell (p:=⟨w.heap.size,2,none⟩) yP).trans p2;have zc3:=(hSw.cell (p:=⟨w.heap.size,3,none⟩) yP).trans p3;have zc4:=(hSw.cell (p:=⟨bt,ot,none⟩) yt1).trans T0;go_simp
   try rfl
  try simp only [Act.put,sT,sZ,sS]
  refine' zM (i:=10) (oi:=⟨some 82,_,_,_,_,_⟩) (v:=.bool false) rfl (by kernel_rfl) (by kernel_rfl) (by kernel_rfl) (by kernel_rfl) (fun _ _ _ h=>h) hH0 (by rfl) ?hyv ?o64
  case hyv=>
   intro wz hSw;go_simp
   try rfl
  try simp only [Act.put,sT,sZ,sS]
  refine' tkR 11 83 hH0 ?o65
  refine zI (by kernel_rfl) ?_ _;go_wp2_with fail;go_meet
  case rel=>exact ⟨by simp [*],hH0⟩
 case rest=>
  obtain ⟨rfl,bc⟩:=hcut;have T0c:=(bc.cell (p:=⟨bt,ot,none⟩) yt1).trans T0;have CUc:=(bc.cell (p:=⟨bu,ou+z,none⟩) yu1).trans CU;have kPc:=(bc.block _ yP).trans kP;have krc:=(bc.block _ (zH kr)).trans kr;clear T0 T1 CU p0 p1 p2 p3;have p2:=coQ kPc 2;have r4:=coQ krc 4;simp at p2 r4;have yr:=zH krc;have yPc:=zH kPc;have ytc:=Nat.lt_of_lt_of_le yt1 bc.size;have yuc:=Nat.lt_of_lt_of_le yu1 bc.size;have Bc:=b1.trans (bc.mono b1.size);go_upto_region 19 with fail;refine zK (fun w'=>Below wc.heap.size wc w') (fun _=>false) (by kernel_rfl) ?_;have hH0:Below wc.heap.size wc wc.drew:=(Below.refl _ _).drew;generalize wc.drew=wd0 at hH0 ⊢;refine' tkR 0 87 hH0 ?o66
  refine' tkR 1 88 hH0 ?o67
  refine' tkR 2 89 hH0 ?o68
  refine' tkQ 3 90 hH0 ?hyv ?o69
  case hyv=>
   intro wz hSw;have zc0:=(hSw.cell (p:=⟨w.heap.size,2,none⟩) yPc).trans p2;have zc1:=(hSw.cell (p:=⟨mb,4,none⟩) yr).trans r4;have zc2:=(hSw.cell (p:=⟨bt,ot,none⟩) ytc).trans T0c;have zc3:=(hSw.cell (p:=⟨bu,ou+z,none⟩) yuc).trans CUc;go_simp
   try rfl
  try simp only [Act.put,sT,sZ,sS]
  refine' tkR 4 91 hH0 ?o70
  refine' tkQ 5 92 hH0 ?hyv ?o71
  case hyv=>
   intro wz hSw;have zc0:=(hSw.cell (p:=⟨w.heap.size,2,none⟩) yPc).trans p2;have zc1:=(hSw.cell (p:=⟨mb,4,none⟩) yr).trans r4;have zc2:=(hSw.cell (p:=⟨bt,ot,none⟩) ytc).trans T0c;have zc3:=(hSw.cell (p:=⟨bu,ou+z,none⟩) yuc).trans CUc;go_simp
   try rfl
  try simp only [Act.put,sT,sZ,sS]
  refine' tkR 6 93 hH0 ?o72
  refine' tkR 7 94 hH0 ?o73
  refine' tkQ 8 95 hH0 ?hyv ?o74
  case hyv=>
   intro wz hSw;have zc0:=(hSw.cell (p:=⟨w.heap.size,2,none⟩) yPc).trans p2;have zc1:=(hSw.cell (p:=⟨mb,4,none⟩) yr).trans r4;have zc2:=(hSw.cell (p:=⟨bt,ot,none⟩) ytc).trans T0c;have zc3:=(hSw.cell (p:=⟨bu,ou+z,none⟩) yuc).trans CUc;go_simp
   try rfl
  try simp only [Act.put,sT,sZ,sS]
  refine' zM (i:=9) (oi:=⟨some 96,_,_,_,_,_⟩) (v:=.int .i64 (z:Int)) rfl (by kernel_rfl) (by kernel_rfl) (by kernel_rfl) (by kernel_rfl) (fun _ _ _ h=>h) hH0 (by rfl) ?hyv ?o75
  case hyv=>
   intro wz hSw;go_simp;rw [HW.out]
  try simp only [Act.put,sT,sZ,sS]
  refine' tkR 10 97 hH0 ?o76
  refine' tkQ 11 98 hH0 ?hyv ?o77
  case hyv=>
   intro wz hSw;have zc0:=(hSw.cell (p:=⟨w.heap.size,2,none⟩) yPc).trans p2;have zc1:=(hSw.cell (p:=⟨mb,4,none⟩) yr).trans r4;have zc2:=(hSw.cell (p:=⟨bt,ot,none⟩) ytc).trans T0c;have zc3:=(hSw.cell (p:=⟨bu,ou+z,none⟩) yuc).trans CUc;go_simp
   try rfl
  try simp only [Act.put,sT,sZ,sS]
  refine' tkR 12 8 hH0 ?o78
  refine zI (by kernel_rfl) ?_ _;go_wp2;go_ret;exact ⟨by rw [HZ.out];rfl,Bc.trans (hH0.mono Bc.size)⟩
theorem madeBy53_any {w:World} {mb:Nat} {c:Int} {vP vG vS:Value} {aC:Option Addr} {nC cC:Nat} {okC:Nat->Prop} {M:List Int} (hm:w.heap[mb]?=some (.cells #[.int .i64 c,vP,vG,vS,.slice aC nC cC] 64 (0,0))) (hC:HInts okC w (.slice aC nC cC) M) {ok:Nat->Prop} {tv:Value} {T:List Int} (ht:HInts ok w tv T) (p:Pu) (hT:(T.length:Int)=Lo.tk p.op) (n0:Int) (hf:Lo.pushOK c n0 p=true) (hML:(M.length:Int)=c) (k:Nat) (hk:(k:Int)<n0) (hn:n0<=300):Calls Tryd.prog 53 #[.pointer (some ⟨mb,0,none⟩),.agg #[.int .i64 p.op,.int .i64 p.k,.int .i64 p.v,.int .i64 p.n],tv,.int .i64 (k:Int)] w fun e w'=>e=.returned (.int .i64 (Lo.stepV M p T (k:Int)))/\Below w.heap.size w w':=by
 obtain ⟨po,pk,v,pn⟩:=p
 dsimp only at hT hf ⊢
 unfold Lo.stepV;unfold Lo.pushOK at hf
 dsimp only at hf ⊢
 by_cases h2:po=2
 ·subst h2
  rw [if_neg (by decide),if_pos rfl] at hf;unfold Lo.hasN at hf;simp at hf;obtain ⟨q,rfl⟩:∃ q:Nat,v=(q:Int):=⟨v.toNat,by omega⟩;rw [if_pos rfl];exact madeBy2_any hm hC pk pn q tv (k:Int) (by omega)
 by_cases h3:po=3
 ·subst h3
  rw [if_neg (by decide),if_neg (by decide),if_pos rfl] at hf;unfold Lo.hasN at hf;simp at hf;obtain ⟨q,rfl⟩:∃ q:Nat,v=(q:Int):=⟨v.toNat,by omega⟩;rw [if_neg (by decide),if_pos rfl];exact madeBy3_any hm hC pk pn q tv k (by omega)
 by_cases h4:po=4
 ·subst h4
  rw [if_neg (by decide),if_neg (by decide),if_pos rfl];exact madeBy4_any pk v pn tv k
 by_cases h5:po=5
 ·subst h5
  rw [if_neg (by decide),if_neg (by decide),if_neg (by decide),if_pos rfl];exact madeBy5_any ht (by have:Lo.tk 5=1:=rfl;omega) pk v pn k
 by_cases h6:po=6
 ·subst h6
  rw [if_neg (by decide),if_neg (by decide),if_neg (by decide),if_neg (by decide),if_pos rfl];exact madeBy6_any ht (by have:Lo.tk 6=2:=rfl;omega) pk v pn k
 by_cases h7:po=7
 ·subst h7
  rw [if_neg (by decide),if_neg (by decide),if_neg (by decide),if_neg (by decide),if_neg (by decide),if_pos rfl];exact madeBy7_any ht (by have:Lo.tk 7=3:=rfl;omega) pk v pn k
 by_cases h8:po=8
 ·subst h8
  rw [if_neg (by decide),if_neg (by decide),if_neg (by decide),if_neg (by decide),if_neg (by decide),if_neg (by decide),if_pos rfl] at hf;unfold Lo.hasN at hf;simp at hf;obtain ⟨q,rfl⟩:∃ q:Nat,v=(q:Int):=⟨v.toNat,by omega⟩;rw [if_neg (by decide),if_neg (by decide),if_neg (by decide),if_neg (by decide),if_neg (by decide),if_neg (by decide),if_pos rfl];exact madeBy8_any hm hC ht (by have:Lo.tk 8=2:=rfl;omega) pk pn q (by omega) k
 rw [if_neg h2,if_neg h3,if_neg h4,if_neg h5,if_neg h6,if_neg h7,if_neg h8];have h1:po=1:=by
  apply Classical.byContradiction
  intro h1;simp [h1,h2,h3,h4,h5,h6,h7,h8] at hf
 exact madeByN_any po pk v pn (by omega) tv k
end Go.Proofs.YtgjdkgkgbmbffaaDoor
