import Derived.Test.YtnhmcpnbaajjcaaGreatDoorC31
import Derived.Deep.Cut
import Derived.Deep.LoopGhost
import Derived.Ground.NamesProg
import Derived.IntWalk
import Derived.Laws.Cover1
import Derived.Laws.EntriesVeiled
import Derived.Laws.Externs
import Derived.Lib.Hide
import Derived.Lib.MakeNoZero
import Derived.Lib.SlBuf
import Derived.Shelf.Bytes.SlSmallAll
import Derived.Shelf.Lay
import Derived.WalkKit
import Derived.WalkSpells
set_option linter.unusedVariables false
set_option linter.unusedSimpArgs false
set_option maxHeartbeats 64000000
set_option maxRecDepth 100000
namespace Go.Proofs.YtnhmcpnbaajjcaaGreatDoor
open Go.RowKit Go.IntWalk
theorem qE (k a b:Int) (w:World):Calls Tryz.prog 102 #[.int .i64 k,.int .i64 a,.int .i64 b] w fun e w'=>e=.returned (.int .i64 (apT k a b))/\Below w.heap.size w w':=(apply_any k a b w).mono (by rintro e w' ⟨rfl,rfl⟩;exact ⟨rfl,Below.refl _ _⟩)
theorem madeByN_any {w:World} {rb:Nat} {op K out n:Int} {aA aE:Option Addr} {nA cA nE cE:Nat} (po pk v pn:Int) (h:po<2\/8<po) (tv:Value) (k:Nat):Calls Tryz.prog 148 #[.agg #[.pointer (some ⟨rb,0,none⟩),.int .i64 op,.int .i64 K,.int .i64 out,.int .i64 n,.slice aA nA cA,.slice aE nE cE],.agg #[.int .i64 po,.int .i64 pk,.int .i64 v,.int .i64 pn],tv,.int .i64 (k:Int)] w fun e w'=>e=.returned (.int .i64 pn)/\Below w.heap.size w w':=by
 have b1:Below w.heap.size w ((w.alloc (.cells #[.pointer (some ⟨rb,0,none⟩),.int .i64 op,.int .i64 K,.int .i64 out,.int .i64 n,.slice aA nA cA,.slice aE nE cE] 110 (0,0))).alloc (.cells #[.int .i64 po,.int .i64 pk,.int .i64 v,.int .i64 pn] 98 (0,0))):=((Below.refl _ _).alloc zL _).alloc (by simp) _;have kP:((w.alloc (.cells #[.pointer (some ⟨rb,0,none⟩),.int .i64 op,.int .i64 K,.int .i64 out,.int .i64 n,.slice aA nA cA,.slice aE nE cE] 110 (0,0))).alloc (.cells #[.int .i64 po,.int .i64 pk,.int .i64 v,.int .i64 pn] 98 (0,0))).heap[w.heap.size+1]?=some (.cells #[.int .i64 po,.int .i64 pk,.int .i64 v,.int .i64 pn] 98 (0,0)):=(by have:=zH (w.alloc (.cells #[.pointer (some ⟨rb,0,none⟩),.int .i64 op,.int .i64 K,.int .i64 out,.int .i64 n,.slice aA nA cA,.slice aE nE cE] 110 (0,0))) (.cells #[.int .i64 po,.int .i64 pk,.int .i64 v,.int .i64 pn] 98 (0,0));simpa using this);have kM:=(Below.heap_alloc (w.alloc (.cells #[.pointer (some ⟨rb,0,none⟩),.int .i64 op,.int .i64 K,.int .i64 out,.int .i64 n,.slice aA nA cA,.slice aE nE cE] 110 (0,0))) (.cells #[.int .i64 po,.int .i64 pk,.int .i64 v,.int .i64 pn] 98 (0,0)) w.heap.size (by simp)).trans (zH w (.cells #[.pointer (some ⟨rb,0,none⟩),.int .i64 op,.int .i64 K,.int .i64 out,.int .i64 n,.slice aA nA cA,.slice aE nE cE] 110 (0,0)));have e2:(po==2)=false:=(by simp;omega);have e3:(po==3)=false:=(by simp;omega);have e4:(po==4)=false:=(by simp;omega);have e5:(po==5)=false:=(by simp;omega);have e6:(po==6)=false:=(by simp;omega);have e7:(po==7)=false:=(by simp;omega);have e8:(po==8)=false:=(by simp;omega);clear h;go_enter Tryz.func148,Tryz.ntmps148;go_upto_region 1 with fail;generalize (w.alloc (.cells #[.pointer (some ⟨rb,0,none⟩),.int .i64 op,.int .i64 K,.int .i64 out,.int .i64 n,.slice aA nA cA,.slice aE nE cE] 110 (0,0))).alloc (.cells #[.int .i64 po,.int .i64 pk,.int .i64 v,.int .i64 pn] 98 (0,0))=w1 at b1 kM kP ⊢;have m0:=coQ kM 0;have p0:=coQ kP 0;have p1:=coQ kP 1;have p2:=coQ kP 2;have p3:=coQ kP 3;simp at m0 p0 p1 p2 p3;have yM:=zG kM;have yP:=zG kP;go_wp2;go_ret;exact ⟨rfl,b1⟩
theorem madeBy4_any {w:World} {rb:Nat} {op K out n:Int} {aA aE:Option Addr} {nA cA nE cE:Nat} (pk v pn:Int) (h : -1000000<=pn/\pn<=1000000) (tv:Value) (k:Nat) (hk:k<=300):Calls Tryz.prog 148 #[.agg #[.pointer (some ⟨rb,0,none⟩),.int .i64 op,.int .i64 K,.int .i64 out,.int .i64 n,.slice aA nA cA,.slice aE nE cE],.agg #[.int .i64 4,.int .i64 pk,.int .i64 v,.int .i64 pn],tv,.int .i64 (k:Int)] w fun e w'=>e=.returned (.int .i64 ((k:Int)+pn))/\Below w.heap.size w w':=by
 have b1:Below w.heap.size w ((w.alloc (.cells #[.pointer (some ⟨rb,0,none⟩),.int .i64 op,.int .i64 K,.int .i64 out,.int .i64 n,.slice aA nA cA,.slice aE nE cE] 110 (0,0))).alloc (.cells #[.int .i64 4,.int .i64 pk,.int .i64 v,.int .i64 pn] 98 (0,0))):=((Below.refl _ _).alloc zL _).alloc (by simp) _;have kP:((w.alloc (.cells #[.pointer (some ⟨rb,0,none⟩),.int .i64 op,.int .i64 K,.int .i64 out,.int .i64 n,.slice aA nA cA,.slice aE nE cE] 110 (0,0))).alloc (.cells #[.int .i64 4,.int .i64 pk,.int .i64 v,.int .i64 pn] 98 (0,0))).heap[w.heap.size+1]?=some (.cells #[.int .i64 4,.int .i64 pk,.int .i64 v,.int .i64 pn] 98 (0,0)):=(by have:=zH (w.alloc (.cells #[.pointer (some ⟨rb,0,none⟩),.int .i64 op,.int .i64 K,.int .i64 out,.int .i64 n,.slice aA nA cA,.slice aE nE cE] 110 (0,0))) (.cells #[.int .i64 4,.int .i64 pk,.int .i64 v,.int .i64 pn] 98 (0,0));simpa using this);have kM:=(Below.heap_alloc (w.alloc (.cells #[.pointer (some ⟨rb,0,none⟩),.int .i64 op,.int .i64 K,.int .i64 out,.int .i64 n,.slice aA nA cA,.slice aE nE cE] 110 (0,0))) (.cells #[.int .i64 4,.int .i64 pk,.int .i64 v,.int .i64 pn] 98 (0,0)) w.heap.size (by simp)).trans (zH w (.cells #[.pointer (some ⟨rb,0,none⟩),.int .i64 op,.int .i64 K,.int .i64 out,.int .i64 n,.slice aA nA cA,.slice aE nE cE] 110 (0,0)));obtain ⟨h1,h2⟩:=h;go_enter Tryz.func148,Tryz.ntmps148;go_upto_region 1 with fail;generalize (w.alloc (.cells #[.pointer (some ⟨rb,0,none⟩),.int .i64 op,.int .i64 K,.int .i64 out,.int .i64 n,.slice aA nA cA,.slice aE nE cE] 110 (0,0))).alloc (.cells #[.int .i64 4,.int .i64 pk,.int .i64 v,.int .i64 pn] 98 (0,0))=w1 at b1 kM kP ⊢;have m0:=coQ kM 0;have p0:=coQ kP 0;have p1:=coQ kP 1;have p2:=coQ kP 2;have p3:=coQ kP 3;simp at m0 p0 p1 p2 p3;have yM:=zG kM;have yP:=zG kP;go_wp2;go_ret;exact ⟨rfl,b1⟩
theorem madeBy5_any {w:World} {rb:Nat} {op K out n:Int} {aA aE:Option Addr} {nA cA nE cE:Nat} {ok:Nat->Prop} {tv:Value} {T:List Int} (ht:HInts ok w tv T) (hT:T.length=1) (pk v pn:Int) (k:Nat):Calls Tryz.prog 148 #[.agg #[.pointer (some ⟨rb,0,none⟩),.int .i64 op,.int .i64 K,.int .i64 out,.int .i64 n,.slice aA nA cA,.slice aE nE cE],.agg #[.int .i64 5,.int .i64 pk,.int .i64 v,.int .i64 pn],tv,.int .i64 (k:Int)] w fun e w'=>e=.returned (.int .i64 (apT pk (T.getD 0 0) 0))/\Below w.heap.size w w':=by
 obtain ⟨at_,ct,rfl,ht1,ht2,hatt⟩:=ht.at;obtain ⟨bt,ot,rfl,yt,t0⟩:=hatt 0 (by omega);rw [Nat.add_zero] at t0;have g0:T.getD 0 0=T[0]:=(by simp [List.getD_eq_getElem?_getD,show 0<T.length by omega]);rw [g0];have hT0:0<T.length:=(by omega);generalize T[0]=x0 at t0 ⊢;unfold maxLen at ht2;obtain ⟨tl,htl⟩:=nmQ (T.length);rw [<-htl] at ht1 hT0 ⊢;clear ht hatt htl hT g0;have b1:Below w.heap.size w ((w.alloc (.cells #[.pointer (some ⟨rb,0,none⟩),.int .i64 op,.int .i64 K,.int .i64 out,.int .i64 n,.slice aA nA cA,.slice aE nE cE] 110 (0,0))).alloc (.cells #[.int .i64 5,.int .i64 pk,.int .i64 v,.int .i64 pn] 98 (0,0))):=((Below.refl _ _).alloc zL _).alloc (by simp) _;have kP:((w.alloc (.cells #[.pointer (some ⟨rb,0,none⟩),.int .i64 op,.int .i64 K,.int .i64 out,.int .i64 n,.slice aA nA cA,.slice aE nE cE] 110 (0,0))).alloc (.cells #[.int .i64 5,.int .i64 pk,.int .i64 v,.int .i64 pn] 98 (0,0))).heap[w.heap.size+1]?=some (.cells #[.int .i64 5,.int .i64 pk,.int .i64 v,.int .i64 pn] 98 (0,0)):=(by have:=zH (w.alloc (.cells #[.pointer (some ⟨rb,0,none⟩),.int .i64 op,.int .i64 K,.int .i64 out,.int .i64 n,.slice aA nA cA,.slice aE nE cE] 110 (0,0))) (.cells #[.int .i64 5,.int .i64 pk,.int .i64 v,.int .i64 pn] 98 (0,0));simpa using this);have kM:=(Below.heap_alloc (w.alloc (.cells #[.pointer (some ⟨rb,0,none⟩),.int .i64 op,.int .i64 K,.int .i64 out,.int .i64 n,.slice aA nA cA,.slice aE nE cE] 110 (0,0))) (.cells #[.int .i64 5,.int .i64 pk,.int .i64 v,.int .i64 pn] 98 (0,0)) w.heap.size (by simp)).trans (zH w (.cells #[.pointer (some ⟨rb,0,none⟩),.int .i64 op,.int .i64 K,.int .i64 out,.int .i64 n,.slice aA nA cA,.slice aE nE cE] 110 (0,0)));have T0:=(b1.cell (p:=⟨bt,ot,none⟩) yt).trans t0;have yt1:=Nat.lt_of_lt_of_le yt b1.size;clear yt t0;go_enter Tryz.func148,Tryz.ntmps148;go_upto_region 1 with fail;generalize (w.alloc (.cells #[.pointer (some ⟨rb,0,none⟩),.int .i64 op,.int .i64 K,.int .i64 out,.int .i64 n,.slice aA nA cA,.slice aE nE cE] 110 (0,0))).alloc (.cells #[.int .i64 5,.int .i64 pk,.int .i64 v,.int .i64 pn] 98 (0,0))=w1 at b1 kM kP T0 yt1 ⊢;have m0:=coQ kM 0;have p0:=coQ kP 0;have p1:=coQ kP 1;have p2:=coQ kP 2;have p3:=coQ kP 3;simp at m0 p0 p1 p2 p3;have yM:=zG kM;have yP:=zG kP;go_upto_region 9 with fail;refine zK (fun w'=>Below w1.heap.size w1 w') (fun _=>false) (by kernel_rfl) ?_;have hH0:Below w1.heap.size w1 w1.drew:=(Below.refl _ _).drew;generalize w1.drew=wd0 at hH0 ⊢;refine' tkR 0 49 hH0 ?o1
 refine' tkQ 1 50 hH0 ?hyv ?o2
 case hyv=>
  intro wz hSw;have zc0:=(hSw.cell (p:=⟨w.heap.size,0,none⟩) yM).trans m0;have zc1:=(hSw.cell (p:=⟨w.heap.size+1,0,none⟩) yP).trans p0;have zc2:=(hSw.cell (p:=⟨w.heap.size+1,1,none⟩) yP).trans p1;have zc3:=(hSw.cell (p:=⟨w.heap.size+1,2,none⟩) yP).trans p2;have zc4:=(hSw.cell (p:=⟨w.heap.size+1,3,none⟩) yP).trans p3;have zc5:=(hSw.cell (p:=⟨bt,ot,none⟩) yt1).trans T0;go_simp
  try rfl
 try simp only [Act.put,sT,sZ,sS]
 refine' tkR 2 51 hH0 ?o3
 refine' tkR 3 52 hH0 ?o4
 refine' tkQ 4 53 hH0 ?hyv ?o5
 case hyv=>
  intro wz hSw;have zc0:=(hSw.cell (p:=⟨w.heap.size,0,none⟩) yM).trans m0;have zc1:=(hSw.cell (p:=⟨w.heap.size+1,0,none⟩) yP).trans p0;have zc2:=(hSw.cell (p:=⟨w.heap.size+1,1,none⟩) yP).trans p1;have zc3:=(hSw.cell (p:=⟨w.heap.size+1,2,none⟩) yP).trans p2;have zc4:=(hSw.cell (p:=⟨w.heap.size+1,3,none⟩) yP).trans p3;have zc5:=(hSw.cell (p:=⟨bt,ot,none⟩) yt1).trans T0;go_simp
  try rfl
 try simp only [Act.put,sT,sZ,sS]
 refine tnQ 5 (fun K hK=>?_);go_simp;refine (qE pk x0 0 wd0).mono ?_;rintro eq wd1 ⟨rfl,bq1⟩;have hH1:Below w1.heap.size w1 wd1:=hH0.trans (bq1.mono hH0.size);refine hK.out _ _ (fun _=>hH1) ?_;clear hK K
 try simp only [Act.put,sT,sZ,sS]
 refine' tkR 6 8 hH1 ?o6
 refine zJ (by kernel_rfl) ?_ _;go_wp2;go_ret;exact ⟨rfl,b1.trans (hH1.mono b1.size)⟩
theorem madeBy6_any {w:World} {rb:Nat} {op K out n:Int} {aA aE:Option Addr} {nA cA nE cE:Nat} {ok:Nat->Prop} {tv:Value} {T:List Int} (ht:HInts ok w tv T) (hT:T.length=2) (pk v pn:Int) (k:Nat):Calls Tryz.prog 148 #[.agg #[.pointer (some ⟨rb,0,none⟩),.int .i64 op,.int .i64 K,.int .i64 out,.int .i64 n,.slice aA nA cA,.slice aE nE cE],.agg #[.int .i64 6,.int .i64 pk,.int .i64 v,.int .i64 pn],tv,.int .i64 (k:Int)] w fun e w'=>e=.returned (.int .i64 (apT pk (T.getD 0 0) (T.getD 1 0)))/\Below w.heap.size w w':=by
 obtain ⟨at_,ct,rfl,ht1,ht2,hatt⟩:=ht.at;obtain ⟨bt,ot,rfl,yt,t0⟩:=hatt 0 (by omega);rw [Nat.add_zero] at t0;obtain ⟨bt1,ot1,eqt,-,t1⟩:=hatt 1 (by omega);injection eqt with eqt;injection eqt with eqt1 eqt2;subst eqt1 eqt2;have g0:T.getD 0 0=T[0]:=(by simp [List.getD_eq_getElem?_getD,show 0<T.length by omega]);rw [g0];have g1:T.getD 1 0=T[1]:=(by simp [List.getD_eq_getElem?_getD,show 1<T.length by omega]);rw [g1];have hT0:0<T.length:=(by omega);have hT1:1<T.length:=(by omega);generalize T[0]=x0 at t0 ⊢;generalize T[1]=x1 at t1 ⊢;unfold maxLen at ht2;obtain ⟨tl,htl⟩:=nmQ (T.length);rw [<-htl] at ht1 hT0 hT1 ⊢;clear ht hatt htl hT g0 g1;have hTi1:(1:Int)<(tl:Int):=(by omega);have b1:Below w.heap.size w ((w.alloc (.cells #[.pointer (some ⟨rb,0,none⟩),.int .i64 op,.int .i64 K,.int .i64 out,.int .i64 n,.slice aA nA cA,.slice aE nE cE] 110 (0,0))).alloc (.cells #[.int .i64 6,.int .i64 pk,.int .i64 v,.int .i64 pn] 98 (0,0))):=((Below.refl _ _).alloc zL _).alloc (by simp) _;have kP:((w.alloc (.cells #[.pointer (some ⟨rb,0,none⟩),.int .i64 op,.int .i64 K,.int .i64 out,.int .i64 n,.slice aA nA cA,.slice aE nE cE] 110 (0,0))).alloc (.cells #[.int .i64 6,.int .i64 pk,.int .i64 v,.int .i64 pn] 98 (0,0))).heap[w.heap.size+1]?=some (.cells #[.int .i64 6,.int .i64 pk,.int .i64 v,.int .i64 pn] 98 (0,0)):=(by have:=zH (w.alloc (.cells #[.pointer (some ⟨rb,0,none⟩),.int .i64 op,.int .i64 K,.int .i64 out,.int .i64 n,.slice aA nA cA,.slice aE nE cE] 110 (0,0))) (.cells #[.int .i64 6,.int .i64 pk,.int .i64 v,.int .i64 pn] 98 (0,0));simpa using this);have kM:=(Below.heap_alloc (w.alloc (.cells #[.pointer (some ⟨rb,0,none⟩),.int .i64 op,.int .i64 K,.int .i64 out,.int .i64 n,.slice aA nA cA,.slice aE nE cE] 110 (0,0))) (.cells #[.int .i64 6,.int .i64 pk,.int .i64 v,.int .i64 pn] 98 (0,0)) w.heap.size (by simp)).trans (zH w (.cells #[.pointer (some ⟨rb,0,none⟩),.int .i64 op,.int .i64 K,.int .i64 out,.int .i64 n,.slice aA nA cA,.slice aE nE cE] 110 (0,0)));have T0:=(b1.cell (p:=⟨bt,ot,none⟩) yt).trans t0;have T1:=(b1.cell (p:=⟨bt,ot+1,none⟩) yt).trans t1;have yt1:=Nat.lt_of_lt_of_le yt b1.size;clear yt t0 t1;go_enter Tryz.func148,Tryz.ntmps148;go_upto_region 1 with fail;generalize (w.alloc (.cells #[.pointer (some ⟨rb,0,none⟩),.int .i64 op,.int .i64 K,.int .i64 out,.int .i64 n,.slice aA nA cA,.slice aE nE cE] 110 (0,0))).alloc (.cells #[.int .i64 6,.int .i64 pk,.int .i64 v,.int .i64 pn] 98 (0,0))=w1 at b1 kM kP T0 T1 yt1 ⊢;have m0:=coQ kM 0;have p0:=coQ kP 0;have p1:=coQ kP 1;have p2:=coQ kP 2;have p3:=coQ kP 3;simp at m0 p0 p1 p2 p3;have yM:=zG kM;have yP:=zG kP;go_upto_region 11 with fail;refine zK (fun w'=>Below w1.heap.size w1 w') (fun _=>false) (by kernel_rfl) ?_;have hH0:Below w1.heap.size w1 w1.drew:=(Below.refl _ _).drew;generalize w1.drew=wd0 at hH0 ⊢;refine' tkR 0 57 hH0 ?o7
 refine' tkQ 1 58 hH0 ?hyv ?o8
 case hyv=>
  intro wz hSw;have zc0:=(hSw.cell (p:=⟨w.heap.size,0,none⟩) yM).trans m0;have zc1:=(hSw.cell (p:=⟨w.heap.size+1,0,none⟩) yP).trans p0;have zc2:=(hSw.cell (p:=⟨w.heap.size+1,1,none⟩) yP).trans p1;have zc3:=(hSw.cell (p:=⟨w.heap.size+1,2,none⟩) yP).trans p2;have zc4:=(hSw.cell (p:=⟨w.heap.size+1,3,none⟩) yP).trans p3;have zc5:=(hSw.cell (p:=⟨bt,ot,none⟩) yt1).trans T0;have zc6:=(hSw.cell (p:=⟨bt,ot+1,none⟩) yt1).trans T1;go_simp
  try rfl
 try simp only [Act.put,sT,sZ,sS]
 refine' tkR 2 59 hH0 ?o9
 refine' tkR 3 60 hH0 ?o10
 refine' tkQ 4 61 hH0 ?hyv ?o11
 case hyv=>
  intro wz hSw;have zc0:=(hSw.cell (p:=⟨w.heap.size,0,none⟩) yM).trans m0;have zc1:=(hSw.cell (p:=⟨w.heap.size+1,0,none⟩) yP).trans p0;have zc2:=(hSw.cell (p:=⟨w.heap.size+1,1,none⟩) yP).trans p1;have zc3:=(hSw.cell (p:=⟨w.heap.size+1,2,none⟩) yP).trans p2;have zc4:=(hSw.cell (p:=⟨w.heap.size+1,3,none⟩) yP).trans p3;have zc5:=(hSw.cell (p:=⟨bt,ot,none⟩) yt1).trans T0;have zc6:=(hSw.cell (p:=⟨bt,ot+1,none⟩) yt1).trans T1;go_simp
  try rfl
 try simp only [Act.put,sT,sZ,sS]
 refine' tkR 5 62 hH0 ?o12
 refine' tkR 6 63 hH0 ?o13
 refine' tkQ 7 64 hH0 ?hyv ?o14
 case hyv=>
  intro wz hSw;have zc0:=(hSw.cell (p:=⟨w.heap.size,0,none⟩) yM).trans m0;have zc1:=(hSw.cell (p:=⟨w.heap.size+1,0,none⟩) yP).trans p0;have zc2:=(hSw.cell (p:=⟨w.heap.size+1,1,none⟩) yP).trans p1;have zc3:=(hSw.cell (p:=⟨w.heap.size+1,2,none⟩) yP).trans p2;have zc4:=(hSw.cell (p:=⟨w.heap.size+1,3,none⟩) yP).trans p3;have zc5:=(hSw.cell (p:=⟨bt,ot,none⟩) yt1).trans T0;have zc6:=(hSw.cell (p:=⟨bt,ot+1,none⟩) yt1).trans T1;go_simp
  try rfl
 try simp only [Act.put,sT,sZ,sS]
 refine tnQ 8 (fun K hK=>?_);go_simp;refine (qE pk x0 x1 wd0).mono ?_;rintro eq wd1 ⟨rfl,bq1⟩;have hH1:Below w1.heap.size w1 wd1:=hH0.trans (bq1.mono hH0.size);refine hK.out _ _ (fun _=>hH1) ?_;clear hK K
 try simp only [Act.put,sT,sZ,sS]
 refine' tkR 9 8 hH1 ?o15
 refine zJ (by kernel_rfl) ?_ _;go_wp2;go_ret;exact ⟨rfl,b1.trans (hH1.mono b1.size)⟩
theorem madeBy7_any {w:World} {rb:Nat} {op K out n:Int} {aA aE:Option Addr} {nA cA nE cE:Nat} {ok:Nat->Prop} {tv:Value} {T:List Int} (ht:HInts ok w tv T) (hT:T.length=3) (pk v pn:Int) (k:Nat):Calls Tryz.prog 148 #[.agg #[.pointer (some ⟨rb,0,none⟩),.int .i64 op,.int .i64 K,.int .i64 out,.int .i64 n,.slice aA nA cA,.slice aE nE cE],.agg #[.int .i64 7,.int .i64 pk,.int .i64 v,.int .i64 pn],tv,.int .i64 (k:Int)] w fun e w'=>e=.returned (.int .i64 (if T.getD 0 0≠0 then T.getD 1 0 else T.getD 2 0))/\Below w.heap.size w w':=by
 obtain ⟨at_,ct,rfl,ht1,ht2,hatt⟩:=ht.at;obtain ⟨bt,ot,rfl,yt,t0⟩:=hatt 0 (by omega);rw [Nat.add_zero] at t0;obtain ⟨bt1,ot1,eqt,-,t1⟩:=hatt 1 (by omega);injection eqt with eqt;injection eqt with eqt1 eqt2;subst eqt1 eqt2;obtain ⟨bt2,ot2,eqt,-,t2⟩:=hatt 2 (by omega);injection eqt with eqt;injection eqt with eqt1 eqt2;subst eqt1 eqt2;have g0:T.getD 0 0=T[0]:=(by simp [List.getD_eq_getElem?_getD,show 0<T.length by omega]);rw [g0];have g1:T.getD 1 0=T[1]:=(by simp [List.getD_eq_getElem?_getD,show 1<T.length by omega]);rw [g1];have g2:T.getD 2 0=T[2]:=(by simp [List.getD_eq_getElem?_getD,show 2<T.length by omega]);rw [g2];have hT0:0<T.length:=(by omega);have hT1:1<T.length:=(by omega);have hT2:2<T.length:=(by omega);generalize T[0]=x0 at t0 ⊢;generalize T[1]=x1 at t1 ⊢;generalize T[2]=x2 at t2 ⊢;unfold maxLen at ht2;obtain ⟨tl,htl⟩:=nmQ (T.length);rw [<-htl] at ht1 hT0 hT1 hT2 ⊢;clear ht hatt htl hT g0 g1 g2;have hTi1:(1:Int)<(tl:Int):=(by omega);have hTi2:(2:Int)<(tl:Int):=(by omega);have b1:Below w.heap.size w ((w.alloc (.cells #[.pointer (some ⟨rb,0,none⟩),.int .i64 op,.int .i64 K,.int .i64 out,.int .i64 n,.slice aA nA cA,.slice aE nE cE] 110 (0,0))).alloc (.cells #[.int .i64 7,.int .i64 pk,.int .i64 v,.int .i64 pn] 98 (0,0))):=((Below.refl _ _).alloc zL _).alloc (by simp) _;have kP:((w.alloc (.cells #[.pointer (some ⟨rb,0,none⟩),.int .i64 op,.int .i64 K,.int .i64 out,.int .i64 n,.slice aA nA cA,.slice aE nE cE] 110 (0,0))).alloc (.cells #[.int .i64 7,.int .i64 pk,.int .i64 v,.int .i64 pn] 98 (0,0))).heap[w.heap.size+1]?=some (.cells #[.int .i64 7,.int .i64 pk,.int .i64 v,.int .i64 pn] 98 (0,0)):=(by have:=zH (w.alloc (.cells #[.pointer (some ⟨rb,0,none⟩),.int .i64 op,.int .i64 K,.int .i64 out,.int .i64 n,.slice aA nA cA,.slice aE nE cE] 110 (0,0))) (.cells #[.int .i64 7,.int .i64 pk,.int .i64 v,.int .i64 pn] 98 (0,0));simpa using this);have kM:=(Below.heap_alloc (w.alloc (.cells #[.pointer (some ⟨rb,0,none⟩),.int .i64 op,.int .i64 K,.int .i64 out,.int .i64 n,.slice aA nA cA,.slice aE nE cE] 110 (0,0))) (.cells #[.int .i64 7,.int .i64 pk,.int .i64 v,.int .i64 pn] 98 (0,0)) w.heap.size (by simp)).trans (zH w (.cells #[.pointer (some ⟨rb,0,none⟩),.int .i64 op,.int .i64 K,.int .i64 out,.int .i64 n,.slice aA nA cA,.slice aE nE cE] 110 (0,0)));have T0:=(b1.cell (p:=⟨bt,ot,none⟩) yt).trans t0;have T1:=(b1.cell (p:=⟨bt,ot+1,none⟩) yt).trans t1;have T2:=(b1.cell (p:=⟨bt,ot+2,none⟩) yt).trans t2;have yt1:=Nat.lt_of_lt_of_le yt b1.size;clear yt t0 t1 t2;by_cases h0:x0=0
 ·rw [if_neg (by simp [h0])]
  have e0:(x0 != 0)=false:=(by simp [h0]);clear h0;go_enter Tryz.func148,Tryz.ntmps148;go_upto_region 1 with fail;generalize (w.alloc (.cells #[.pointer (some ⟨rb,0,none⟩),.int .i64 op,.int .i64 K,.int .i64 out,.int .i64 n,.slice aA nA cA,.slice aE nE cE] 110 (0,0))).alloc (.cells #[.int .i64 7,.int .i64 pk,.int .i64 v,.int .i64 pn] 98 (0,0))=w1 at b1 kM kP T0 T1 T2 yt1 ⊢;have m0:=coQ kM 0;have p0:=coQ kP 0;have p1:=coQ kP 1;have p2:=coQ kP 2;have p3:=coQ kP 3;simp at m0 p0 p1 p2 p3;have yM:=zG kM;have yP:=zG kP;go_wp2;go_ret;exact ⟨rfl,b1⟩
 ·rw [if_pos h0]
  have e0:(x0 != 0)=true:=(by simp [h0]);clear h0;go_enter Tryz.func148,Tryz.ntmps148;go_upto_region 1 with fail;generalize (w.alloc (.cells #[.pointer (some ⟨rb,0,none⟩),.int .i64 op,.int .i64 K,.int .i64 out,.int .i64 n,.slice aA nA cA,.slice aE nE cE] 110 (0,0))).alloc (.cells #[.int .i64 7,.int .i64 pk,.int .i64 v,.int .i64 pn] 98 (0,0))=w1 at b1 kM kP T0 T1 T2 yt1 ⊢;have m0:=coQ kM 0;have p0:=coQ kP 0;have p1:=coQ kP 1;have p2:=coQ kP 2;have p3:=coQ kP 3;simp at m0 p0 p1 p2 p3;have yM:=zG kM;have yP:=zG kP;go_wp2;go_ret;exact ⟨rfl,b1⟩
theorem madeBy2_any {w:World} {rb:Nat} {op K out n:Int} {aA aE:Option Addr} {nA cA nE cE:Nat} {okC:Nat->Prop} {x:WkV} {vC vA:Value} {C:List (List Int)} (hr:RowAt w rb x vC vA) (hC:HRow kLL okC w vC C) (pk:Int) (pn:Int) (q:Nat) (hq:q<C.length) (tv:Value) (k:Nat) (hl:0<(Sk.cAt C (q:Int)).length):Calls Tryz.prog 148 #[.agg #[.pointer (some ⟨rb,0,none⟩),.int .i64 op,.int .i64 K,.int .i64 out,.int .i64 n,.slice aA nA cA,.slice aE nE cE],.agg #[.int .i64 2,.int .i64 pk,.int .i64 (q:Int),.int .i64 pn],tv,.int .i64 (k:Int)] w fun e w'=>e=.returned (.int .i64 ((Sk.cAt C (q:Int)).getD 0 0))/\Below w.heap.size w w':=by
 obtain ⟨aC,cC,rfl,hc1,hc2,hat⟩:=hC.llAt;obtain ⟨bC,oC,u,rfl,yC0,cCq,hu⟩:=hat q hq;have eC:Sk.cAt C (q:Int)=C[q]:=(by unfold Sk.cAt;simp [List.getD_eq_getElem?_getD,hq]);unfold maxLen at hc2;unfold RowAt at hr;rw [eC] at hl ⊢;obtain ⟨au,cu,rfl,hu1,hu2,hatu⟩:=hu.at;obtain ⟨bu,ou,rfl,yu,cu0⟩:=hatu 0 hl;have eg:(C[q]).getD 0 0=(C[q])[0]:=(by rw [List.getD_eq_getElem?_getD,List.getElem?_eq_getElem hl];rfl);rw [eg];generalize (C[q])[0]=y at cu0 ⊢;rw [Nat.add_zero] at cu0;unfold maxLen at hu2;have b1:Below w.heap.size w ((w.alloc (.cells #[.pointer (some ⟨rb,0,none⟩),.int .i64 op,.int .i64 K,.int .i64 out,.int .i64 n,.slice aA nA cA,.slice aE nE cE] 110 (0,0))).alloc (.cells #[.int .i64 2,.int .i64 pk,.int .i64 (q:Int),.int .i64 pn] 98 (0,0))):=((Below.refl _ _).alloc zL _).alloc (by simp) _;have kP:((w.alloc (.cells #[.pointer (some ⟨rb,0,none⟩),.int .i64 op,.int .i64 K,.int .i64 out,.int .i64 n,.slice aA nA cA,.slice aE nE cE] 110 (0,0))).alloc (.cells #[.int .i64 2,.int .i64 pk,.int .i64 (q:Int),.int .i64 pn] 98 (0,0))).heap[w.heap.size+1]?=some (.cells #[.int .i64 2,.int .i64 pk,.int .i64 (q:Int),.int .i64 pn] 98 (0,0)):=(by have:=zH (w.alloc (.cells #[.pointer (some ⟨rb,0,none⟩),.int .i64 op,.int .i64 K,.int .i64 out,.int .i64 n,.slice aA nA cA,.slice aE nE cE] 110 (0,0))) (.cells #[.int .i64 2,.int .i64 pk,.int .i64 (q:Int),.int .i64 pn] 98 (0,0));simpa using this);have kM:=(Below.heap_alloc (w.alloc (.cells #[.pointer (some ⟨rb,0,none⟩),.int .i64 op,.int .i64 K,.int .i64 out,.int .i64 n,.slice aA nA cA,.slice aE nE cE] 110 (0,0))) (.cells #[.int .i64 2,.int .i64 pk,.int .i64 (q:Int),.int .i64 pn] 98 (0,0)) w.heap.size (by simp)).trans (zH w (.cells #[.pointer (some ⟨rb,0,none⟩),.int .i64 op,.int .i64 K,.int .i64 out,.int .i64 n,.slice aA nA cA,.slice aE nE cE] 110 (0,0)));have kr:=(b1.block _ (zG hr)).trans hr;have CC:=(b1.cell (p:=⟨bC,oC+q,none⟩) yC0).trans cCq;have yC1:=Nat.lt_of_lt_of_le yC0 b1.size;have CU:=(b1.cell (p:=⟨bu,ou,none⟩) yu).trans cu0;have yu1:=Nat.lt_of_lt_of_le yu b1.size;obtain ⟨LU,hLU⟩:=nmQ ((C[q]).length);obtain ⟨LC,hLC⟩:=nmQ (C.length);rw [<-hLU] at hu1 hl CC;rw [<-hLC] at kr hc1 hq;clear hr hC hat eC hu hatu eg hLU hLC cCq yC0 cu0 yu;go_enter Tryz.func148,Tryz.ntmps148;go_upto_region 1 with fail;generalize (w.alloc (.cells #[.pointer (some ⟨rb,0,none⟩),.int .i64 op,.int .i64 K,.int .i64 out,.int .i64 n,.slice aA nA cA,.slice aE nE cE] 110 (0,0))).alloc (.cells #[.int .i64 2,.int .i64 pk,.int .i64 (q:Int),.int .i64 pn] 98 (0,0))=w1 at b1 kM kP kr CC yC1 CU yu1 ⊢;have m0:=coQ kM 0;have p0:=coQ kP 0;have p1:=coQ kP 1;have p2:=coQ kP 2;have p3:=coQ kP 3;simp at m0 p0 p1 p2 p3;have yM:=zG kM;have yP:=zG kP;have r4:=coQ kr 4;simp at r4;have yr:=zG kr;go_upto_region 3 with fail;refine zK (fun w'=>Below w1.heap.size w1 w') (fun _=>false) (by kernel_rfl) ?_;have hH0:Below w1.heap.size w1 w1.drew:=(Below.refl _ _).drew;generalize w1.drew=wd0 at hH0 ⊢;refine' tkR 0 13 hH0 ?o16
 refine' tkQ 1 14 hH0 ?hyv ?o17
 case hyv=>
  intro wz hSw;have zc0:=(hSw.cell (p:=⟨w.heap.size,0,none⟩) yM).trans m0;have zc1:=(hSw.cell (p:=⟨w.heap.size+1,0,none⟩) yP).trans p0;have zc2:=(hSw.cell (p:=⟨w.heap.size+1,1,none⟩) yP).trans p1;have zc3:=(hSw.cell (p:=⟨w.heap.size+1,2,none⟩) yP).trans p2;have zc4:=(hSw.cell (p:=⟨w.heap.size+1,3,none⟩) yP).trans p3;have zc5:=(hSw.cell (p:=⟨rb,4,none⟩) yr).trans r4;have zc6:=(hSw.cell (p:=⟨bC,oC+q,none⟩) yC1).trans CC;have zc7:=(hSw.cell (p:=⟨bu,ou,none⟩) yu1).trans CU;go_simp
  try rfl
 try simp only [Act.put,sT,sZ,sS]
 refine' tkR 2 15 hH0 ?o18
 refine' tkR 3 16 hH0 ?o19
 refine' tkQ 4 17 hH0 ?hyv ?o20
 case hyv=>
  intro wz hSw;have zc0:=(hSw.cell (p:=⟨w.heap.size,0,none⟩) yM).trans m0;have zc1:=(hSw.cell (p:=⟨w.heap.size+1,0,none⟩) yP).trans p0;have zc2:=(hSw.cell (p:=⟨w.heap.size+1,1,none⟩) yP).trans p1;have zc3:=(hSw.cell (p:=⟨w.heap.size+1,2,none⟩) yP).trans p2;have zc4:=(hSw.cell (p:=⟨w.heap.size+1,3,none⟩) yP).trans p3;have zc5:=(hSw.cell (p:=⟨rb,4,none⟩) yr).trans r4;have zc6:=(hSw.cell (p:=⟨bC,oC+q,none⟩) yC1).trans CC;have zc7:=(hSw.cell (p:=⟨bu,ou,none⟩) yu1).trans CU;go_simp
  try rfl
 try simp only [Act.put,sT,sZ,sS]
 refine' tkR 5 18 hH0 ?o21
 refine' tkQ 6 19 hH0 ?hyv ?o22
 case hyv=>
  intro wz hSw;have zc0:=(hSw.cell (p:=⟨w.heap.size,0,none⟩) yM).trans m0;have zc1:=(hSw.cell (p:=⟨w.heap.size+1,0,none⟩) yP).trans p0;have zc2:=(hSw.cell (p:=⟨w.heap.size+1,1,none⟩) yP).trans p1;have zc3:=(hSw.cell (p:=⟨w.heap.size+1,2,none⟩) yP).trans p2;have zc4:=(hSw.cell (p:=⟨w.heap.size+1,3,none⟩) yP).trans p3;have zc5:=(hSw.cell (p:=⟨rb,4,none⟩) yr).trans r4;have zc6:=(hSw.cell (p:=⟨bC,oC+q,none⟩) yC1).trans CC;have zc7:=(hSw.cell (p:=⟨bu,ou,none⟩) yu1).trans CU;go_simp
  try rfl
 try simp only [Act.put,sT,sZ,sS]
 refine' tkR 7 20 hH0 ?o23
 refine' tkQ 8 21 hH0 ?hyv ?o24
 case hyv=>
  intro wz hSw;have zc0:=(hSw.cell (p:=⟨w.heap.size,0,none⟩) yM).trans m0;have zc1:=(hSw.cell (p:=⟨w.heap.size+1,0,none⟩) yP).trans p0;have zc2:=(hSw.cell (p:=⟨w.heap.size+1,1,none⟩) yP).trans p1;have zc3:=(hSw.cell (p:=⟨w.heap.size+1,2,none⟩) yP).trans p2;have zc4:=(hSw.cell (p:=⟨w.heap.size+1,3,none⟩) yP).trans p3;have zc5:=(hSw.cell (p:=⟨rb,4,none⟩) yr).trans r4;have zc6:=(hSw.cell (p:=⟨bC,oC+q,none⟩) yC1).trans CC;have zc7:=(hSw.cell (p:=⟨bu,ou,none⟩) yu1).trans CU;go_simp
  try rfl
 try simp only [Act.put,sT,sZ,sS]
 refine' tkR 9 22 hH0 ?o25
 refine' tkQ 10 23 hH0 ?hyv ?o26
 case hyv=>
  intro wz hSw;have zc0:=(hSw.cell (p:=⟨w.heap.size,0,none⟩) yM).trans m0;have zc1:=(hSw.cell (p:=⟨w.heap.size+1,0,none⟩) yP).trans p0;have zc2:=(hSw.cell (p:=⟨w.heap.size+1,1,none⟩) yP).trans p1;have zc3:=(hSw.cell (p:=⟨w.heap.size+1,2,none⟩) yP).trans p2;have zc4:=(hSw.cell (p:=⟨w.heap.size+1,3,none⟩) yP).trans p3;have zc5:=(hSw.cell (p:=⟨rb,4,none⟩) yr).trans r4;have zc6:=(hSw.cell (p:=⟨bC,oC+q,none⟩) yC1).trans CC;have zc7:=(hSw.cell (p:=⟨bu,ou,none⟩) yu1).trans CU;go_simp
  try rfl
 try simp only [Act.put,sT,sZ,sS]
 refine' tkR 11 8 hH0 ?o27
 refine zJ (by kernel_rfl) ?_ _;go_wp2;go_ret;exact ⟨rfl,b1.trans (hH0.mono b1.size)⟩
theorem madeBy3_any {w:World} {rb:Nat} {op K out n:Int} {aA aE:Option Addr} {nA cA nE cE:Nat} {okC:Nat->Prop} {x:WkV} {vC vA:Value} {C:List (List Int)} (hr:RowAt w rb x vC vA) (hC:HRow kLL okC w vC C) (pk:Int) (m:Nat) (q:Nat) (hq:q<C.length) (tv:Value) (k:Nat) (hk:k<=300) (hm:m<=300) (hl:k+m<(Sk.cAt C (q:Int)).length):Calls Tryz.prog 148 #[.agg #[.pointer (some ⟨rb,0,none⟩),.int .i64 op,.int .i64 K,.int .i64 out,.int .i64 n,.slice aA nA cA,.slice aE nE cE],.agg #[.int .i64 3,.int .i64 pk,.int .i64 (q:Int),.int .i64 (m:Int)],tv,.int .i64 (k:Int)] w fun e w'=>e=.returned (.int .i64 ((Sk.cAt C (q:Int)).getD (k+m) 0))/\Below w.heap.size w w':=by
 obtain ⟨aC,cC,rfl,hc1,hc2,hat⟩:=hC.llAt;obtain ⟨bC,oC,u,rfl,yC0,cCq,hu⟩:=hat q hq;have eC:Sk.cAt C (q:Int)=C[q]:=(by unfold Sk.cAt;simp [List.getD_eq_getElem?_getD,hq]);unfold maxLen at hc2;unfold RowAt at hr;rw [eC] at hl ⊢;obtain ⟨au,cu,rfl,hu1,hu2,hatu⟩:=hu.at;obtain ⟨bu,ou,rfl,yu,cu0⟩:=hatu (k+m) hl;have eg:(C[q]).getD (k+m) 0=(C[q])[(k+m)]:=(by rw [List.getD_eq_getElem?_getD,List.getElem?_eq_getElem hl];rfl);rw [eg];generalize (C[q])[(k+m)]=y at cu0 ⊢;unfold maxLen at hu2;obtain ⟨z,hz⟩:=nmQ (k+m);have HW:Hid (IntKind.i64.wrap ((k:Int)+(m:Int))=(z:Int)):=zD (by rw [hz];exact (wrapS (by omega) (by omega)).trans (by omega));rw [<-hz] at hl cu0;clear hz hk hm;have b1:Below w.heap.size w ((w.alloc (.cells #[.pointer (some ⟨rb,0,none⟩),.int .i64 op,.int .i64 K,.int .i64 out,.int .i64 n,.slice aA nA cA,.slice aE nE cE] 110 (0,0))).alloc (.cells #[.int .i64 3,.int .i64 pk,.int .i64 (q:Int),.int .i64 (m:Int)] 98 (0,0))):=((Below.refl _ _).alloc zL _).alloc (by simp) _;have kP:((w.alloc (.cells #[.pointer (some ⟨rb,0,none⟩),.int .i64 op,.int .i64 K,.int .i64 out,.int .i64 n,.slice aA nA cA,.slice aE nE cE] 110 (0,0))).alloc (.cells #[.int .i64 3,.int .i64 pk,.int .i64 (q:Int),.int .i64 (m:Int)] 98 (0,0))).heap[w.heap.size+1]?=some (.cells #[.int .i64 3,.int .i64 pk,.int .i64 (q:Int),.int .i64 (m:Int)] 98 (0,0)):=(by have:=zH (w.alloc (.cells #[.pointer (some ⟨rb,0,none⟩),.int .i64 op,.int .i64 K,.int .i64 out,.int .i64 n,.slice aA nA cA,.slice aE nE cE] 110 (0,0))) (.cells #[.int .i64 3,.int .i64 pk,.int .i64 (q:Int),.int .i64 (m:Int)] 98 (0,0));simpa using this);have kM:=(Below.heap_alloc (w.alloc (.cells #[.pointer (some ⟨rb,0,none⟩),.int .i64 op,.int .i64 K,.int .i64 out,.int .i64 n,.slice aA nA cA,.slice aE nE cE] 110 (0,0))) (.cells #[.int .i64 3,.int .i64 pk,.int .i64 (q:Int),.int .i64 (m:Int)] 98 (0,0)) w.heap.size (by simp)).trans (zH w (.cells #[.pointer (some ⟨rb,0,none⟩),.int .i64 op,.int .i64 K,.int .i64 out,.int .i64 n,.slice aA nA cA,.slice aE nE cE] 110 (0,0)));have kr:=(b1.block _ (zG hr)).trans hr;have CC:=(b1.cell (p:=⟨bC,oC+q,none⟩) yC0).trans cCq;have yC1:=Nat.lt_of_lt_of_le yC0 b1.size;have CU:=(b1.cell (p:=⟨bu,ou+z,none⟩) yu).trans cu0;have yu1:=Nat.lt_of_lt_of_le yu b1.size;obtain ⟨LU,hLU⟩:=nmQ ((C[q]).length);obtain ⟨LC,hLC⟩:=nmQ (C.length);rw [<-hLU] at hu1 hl CC;rw [<-hLC] at kr hc1 hq;clear hr hC hat eC hu hatu eg hLU hLC cCq yC0 cu0 yu;go_enter Tryz.func148,Tryz.ntmps148;go_upto_region 1 with fail;generalize (w.alloc (.cells #[.pointer (some ⟨rb,0,none⟩),.int .i64 op,.int .i64 K,.int .i64 out,.int .i64 n,.slice aA nA cA,.slice aE nE cE] 110 (0,0))).alloc (.cells #[.int .i64 3,.int .i64 pk,.int .i64 (q:Int),.int .i64 (m:Int)] 98 (0,0))=w1 at b1 kM kP kr CC yC1 CU yu1 ⊢;have m0:=coQ kM 0;have p0:=coQ kP 0;have p1:=coQ kP 1;have p2:=coQ kP 2;have p3:=coQ kP 3;simp at m0 p0 p1 p2 p3;have yM:=zG kM;have yP:=zG kP;have r4:=coQ kr 4;simp at r4;have yr:=zG kr;go_upto_region 5 with fail;refine zK (fun w'=>Below w1.heap.size w1 w') (fun _=>false) (by kernel_rfl) ?_;have hH0:Below w1.heap.size w1 w1.drew:=(Below.refl _ _).drew;generalize w1.drew=wd0 at hH0 ⊢;refine' tkR 0 26 hH0 ?o28
 refine' tkQ 1 27 hH0 ?hyv ?o29
 case hyv=>
  intro wz hSw;have zc0:=(hSw.cell (p:=⟨w.heap.size,0,none⟩) yM).trans m0;have zc1:=(hSw.cell (p:=⟨w.heap.size+1,0,none⟩) yP).trans p0;have zc2:=(hSw.cell (p:=⟨w.heap.size+1,1,none⟩) yP).trans p1;have zc3:=(hSw.cell (p:=⟨w.heap.size+1,2,none⟩) yP).trans p2;have zc4:=(hSw.cell (p:=⟨w.heap.size+1,3,none⟩) yP).trans p3;have zc5:=(hSw.cell (p:=⟨rb,4,none⟩) yr).trans r4;have zc6:=(hSw.cell (p:=⟨bC,oC+q,none⟩) yC1).trans CC;have zc7:=(hSw.cell (p:=⟨bu,ou+z,none⟩) yu1).trans CU;go_simp
  try rfl
 try simp only [Act.put,sT,sZ,sS]
 refine' tkR 2 28 hH0 ?o30
 refine' tkR 3 29 hH0 ?o31
 refine' tkQ 4 30 hH0 ?hyv ?o32
 case hyv=>
  intro wz hSw;have zc0:=(hSw.cell (p:=⟨w.heap.size,0,none⟩) yM).trans m0;have zc1:=(hSw.cell (p:=⟨w.heap.size+1,0,none⟩) yP).trans p0;have zc2:=(hSw.cell (p:=⟨w.heap.size+1,1,none⟩) yP).trans p1;have zc3:=(hSw.cell (p:=⟨w.heap.size+1,2,none⟩) yP).trans p2;have zc4:=(hSw.cell (p:=⟨w.heap.size+1,3,none⟩) yP).trans p3;have zc5:=(hSw.cell (p:=⟨rb,4,none⟩) yr).trans r4;have zc6:=(hSw.cell (p:=⟨bC,oC+q,none⟩) yC1).trans CC;have zc7:=(hSw.cell (p:=⟨bu,ou+z,none⟩) yu1).trans CU;go_simp
  try rfl
 try simp only [Act.put,sT,sZ,sS]
 refine' tkR 5 31 hH0 ?o33
 refine' tkQ 6 32 hH0 ?hyv ?o34
 case hyv=>
  intro wz hSw;have zc0:=(hSw.cell (p:=⟨w.heap.size,0,none⟩) yM).trans m0;have zc1:=(hSw.cell (p:=⟨w.heap.size+1,0,none⟩) yP).trans p0;have zc2:=(hSw.cell (p:=⟨w.heap.size+1,1,none⟩) yP).trans p1;have zc3:=(hSw.cell (p:=⟨w.heap.size+1,2,none⟩) yP).trans p2;have zc4:=(hSw.cell (p:=⟨w.heap.size+1,3,none⟩) yP).trans p3;have zc5:=(hSw.cell (p:=⟨rb,4,none⟩) yr).trans r4;have zc6:=(hSw.cell (p:=⟨bC,oC+q,none⟩) yC1).trans CC;have zc7:=(hSw.cell (p:=⟨bu,ou+z,none⟩) yu1).trans CU;go_simp
  try rfl
 try simp only [Act.put,sT,sZ,sS]
 refine' tkR 7 33 hH0 ?o35
 refine' tkQ 8 34 hH0 ?hyv ?o36
 case hyv=>
  intro wz hSw;have zc0:=(hSw.cell (p:=⟨w.heap.size,0,none⟩) yM).trans m0;have zc1:=(hSw.cell (p:=⟨w.heap.size+1,0,none⟩) yP).trans p0;have zc2:=(hSw.cell (p:=⟨w.heap.size+1,1,none⟩) yP).trans p1;have zc3:=(hSw.cell (p:=⟨w.heap.size+1,2,none⟩) yP).trans p2;have zc4:=(hSw.cell (p:=⟨w.heap.size+1,3,none⟩) yP).trans p3;have zc5:=(hSw.cell (p:=⟨rb,4,none⟩) yr).trans r4;have zc6:=(hSw.cell (p:=⟨bC,oC+q,none⟩) yC1).trans CC;have zc7:=(hSw.cell (p:=⟨bu,ou+z,none⟩) yu1).trans CU;go_simp
  try rfl
 try simp only [Act.put,sT,sZ,sS]
 refine' tkR 9 35 hH0 ?o37
 refine' tkR 10 36 hH0 ?o38
 refine' tkQ 11 37 hH0 ?hyv ?o39
 case hyv=>
  intro wz hSw;have zc0:=(hSw.cell (p:=⟨w.heap.size,0,none⟩) yM).trans m0;have zc1:=(hSw.cell (p:=⟨w.heap.size+1,0,none⟩) yP).trans p0;have zc2:=(hSw.cell (p:=⟨w.heap.size+1,1,none⟩) yP).trans p1;have zc3:=(hSw.cell (p:=⟨w.heap.size+1,2,none⟩) yP).trans p2;have zc4:=(hSw.cell (p:=⟨w.heap.size+1,3,none⟩) yP).trans p3;have zc5:=(hSw.cell (p:=⟨rb,4,none⟩) yr).trans r4;have zc6:=(hSw.cell (p:=⟨bC,oC+q,none⟩) yC1).trans CC;have zc7:=(hSw.cell (p:=⟨bu,ou+z,none⟩) yu1).trans CU;go_simp
  try rfl
 try simp only [Act.put,sT,sZ,sS]
 refine' zS (i:=12) (oi:=⟨some 38,_,_,_,_,_⟩) (v:=.int .i64 (z:Int)) rfl (by kernel_rfl) (by kernel_rfl) (by kernel_rfl) (by kernel_rfl) (fun _ _ _ h=>h) hH0 (by rfl) ?hyv ?o40
 case hyv=>
  intro wz hSw;go_simp;rw [HW.out]
 try simp only [Act.put,sT,sZ,sS]
 refine' tkR 13 39 hH0 ?o41
 refine' tkQ 14 40 hH0 ?hyv ?o42
 case hyv=>
  intro wz hSw;have zc0:=(hSw.cell (p:=⟨w.heap.size,0,none⟩) yM).trans m0;have zc1:=(hSw.cell (p:=⟨w.heap.size+1,0,none⟩) yP).trans p0;have zc2:=(hSw.cell (p:=⟨w.heap.size+1,1,none⟩) yP).trans p1;have zc3:=(hSw.cell (p:=⟨w.heap.size+1,2,none⟩) yP).trans p2;have zc4:=(hSw.cell (p:=⟨w.heap.size+1,3,none⟩) yP).trans p3;have zc5:=(hSw.cell (p:=⟨rb,4,none⟩) yr).trans r4;have zc6:=(hSw.cell (p:=⟨bC,oC+q,none⟩) yC1).trans CC;have zc7:=(hSw.cell (p:=⟨bu,ou+z,none⟩) yu1).trans CU;go_simp
  try rfl
 try simp only [Act.put,sT,sZ,sS]
 refine' tkR 15 8 hH0 ?o43
 refine zJ (by kernel_rfl) ?_ _;go_wp2;go_ret;exact ⟨rfl,b1.trans (hH0.mono b1.size)⟩
theorem madeBy8_any {w:World} {rb:Nat} {op K out n:Int} {aA aE:Option Addr} {nA cA nE cE:Nat} {okC:Nat->Prop} {x:WkV} {vC vA:Value} {C:List (List Int)} (hr:RowAt w rb x vC vA) (hC:HRow kLL okC w vC C) {ok:Nat->Prop} {tv:Value} {T:List Int} (ht:HInts ok w tv T) (hT:T.length=2) (pk pn:Int) (q:Nat) (hq:q<C.length) (k:Nat):Calls Tryz.prog 148 #[.agg #[.pointer (some ⟨rb,0,none⟩),.int .i64 op,.int .i64 K,.int .i64 out,.int .i64 n,.slice aA nA cA,.slice aE nE cE],.agg #[.int .i64 8,.int .i64 pk,.int .i64 (q:Int),.int .i64 pn],tv,.int .i64 (k:Int)] w fun e w'=>e=.returned (.int .i64 (Sk.cellAt (Sk.cAt C (q:Int)) (T.getD 0 0) (T.getD 1 0)))/\Below w.heap.size w w':=by
 obtain ⟨at_,ct,rfl,ht1,ht2,hatt⟩:=ht.at;obtain ⟨bt,ot,rfl,yt,t0⟩:=hatt 0 (by omega);rw [Nat.add_zero] at t0;obtain ⟨bt1,ot1,eqt,-,t1⟩:=hatt 1 (by omega);injection eqt with eqt;injection eqt with eqt1 eqt2;subst eqt1 eqt2;have g0:T.getD 0 0=T[0]:=(by simp [List.getD_eq_getElem?_getD,show 0<T.length by omega]);rw [g0];have g1:T.getD 1 0=T[1]:=(by simp [List.getD_eq_getElem?_getD,show 1<T.length by omega]);rw [g1];have hT0:0<T.length:=(by omega);have hT1:1<T.length:=(by omega);generalize T[0]=x0 at t0 ⊢;generalize T[1]=x1 at t1 ⊢;unfold maxLen at ht2;obtain ⟨tl,htl⟩:=nmQ (T.length);rw [<-htl] at ht1 hT0 hT1 ⊢;clear ht hatt htl hT g0 g1;have hTi1:(1:Int)<(tl:Int):=(by omega);obtain ⟨aC,cC,rfl,hc1,hc2,hat⟩:=hC.llAt;obtain ⟨bC,oC,u,rfl,yC0,cCq,hu⟩:=hat q hq;have eC:Sk.cAt C (q:Int)=C[q]:=(by unfold Sk.cAt;simp [List.getD_eq_getElem?_getD,hq]);unfold maxLen at hc2;unfold RowAt at hr;rw [eC];have b1:Below w.heap.size w ((w.alloc (.cells #[.pointer (some ⟨rb,0,none⟩),.int .i64 op,.int .i64 K,.int .i64 out,.int .i64 n,.slice aA nA cA,.slice aE nE cE] 110 (0,0))).alloc (.cells #[.int .i64 8,.int .i64 pk,.int .i64 (q:Int),.int .i64 pn] 98 (0,0))):=((Below.refl _ _).alloc zL _).alloc (by simp) _;have kP:((w.alloc (.cells #[.pointer (some ⟨rb,0,none⟩),.int .i64 op,.int .i64 K,.int .i64 out,.int .i64 n,.slice aA nA cA,.slice aE nE cE] 110 (0,0))).alloc (.cells #[.int .i64 8,.int .i64 pk,.int .i64 (q:Int),.int .i64 pn] 98 (0,0))).heap[w.heap.size+1]?=some (.cells #[.int .i64 8,.int .i64 pk,.int .i64 (q:Int),.int .i64 pn] 98 (0,0)):=(by have:=zH (w.alloc (.cells #[.pointer (some ⟨rb,0,none⟩),.int .i64 op,.int .i64 K,.int .i64 out,.int .i64 n,.slice aA nA cA,.slice aE nE cE] 110 (0,0))) (.cells #[.int .i64 8,.int .i64 pk,.int .i64 (q:Int),.int .i64 pn] 98 (0,0));simpa using this);have kM:=(Below.heap_alloc (w.alloc (.cells #[.pointer (some ⟨rb,0,none⟩),.int .i64 op,.int .i64 K,.int .i64 out,.int .i64 n,.slice aA nA cA,.slice aE nE cE] 110 (0,0))) (.cells #[.int .i64 8,.int .i64 pk,.int .i64 (q:Int),.int .i64 pn] 98 (0,0)) w.heap.size (by simp)).trans (zH w (.cells #[.pointer (some ⟨rb,0,none⟩),.int .i64 op,.int .i64 K,.int .i64 out,.int .i64 n,.slice aA nA cA,.slice aE nE cE] 110 (0,0)));have kr:=(b1.block _ (zG hr)).trans hr;have CC:=(b1.cell (p:=⟨bC,oC+q,none⟩) yC0).trans cCq;have yC1:=Nat.lt_of_lt_of_le yC0 b1.size;have T0:=(b1.cell (p:=⟨bt,ot,none⟩) yt).trans t0;have T1:=(b1.cell (p:=⟨bt,ot+1,none⟩) yt).trans t1;have yt1:=Nat.lt_of_lt_of_le yt b1.size;clear yt t0 t1;have hct:=fun w' (b':Below w.heap.size w w')=>zAe (hu.under b') x0 x1;obtain ⟨au,cu,rfl,hu1,hu2,-⟩:=hu.at;generalize Sk.cellAt C[q] x0 x1=R at hct ⊢;unfold maxLen at hu2;obtain ⟨LU,hLU⟩:=nmQ ((C[q]).length);obtain ⟨LC,hLC⟩:=nmQ (C.length);rw [<-hLU] at hu1 CC hct;rw [<-hLC] at kr hc1 hq;clear hr hC hat eC hu hLU hLC cCq yC0;go_enter Tryz.func148,Tryz.ntmps148;go_upto_region 1 with fail;generalize (w.alloc (.cells #[.pointer (some ⟨rb,0,none⟩),.int .i64 op,.int .i64 K,.int .i64 out,.int .i64 n,.slice aA nA cA,.slice aE nE cE] 110 (0,0))).alloc (.cells #[.int .i64 8,.int .i64 pk,.int .i64 (q:Int),.int .i64 pn] 98 (0,0))=w1 at b1 kM kP kr CC yC1 T0 T1 yt1 ⊢;have m0:=coQ kM 0;have p0:=coQ kP 0;have p1:=coQ kP 1;have p2:=coQ kP 2;have p3:=coQ kP 3;simp at m0 p0 p1 p2 p3;have yM:=zG kM;have yP:=zG kP;have r4:=coQ kr 4;simp at r4;have yr:=zG kr;go_upto_region 17 with fail;refine zK (fun w'=>Below w1.heap.size w1 w') (fun _=>false) (by kernel_rfl) ?_;have hH0:Below w1.heap.size w1 w1.drew:=(Below.refl _ _).drew;generalize w1.drew=wd0 at hH0 ⊢;refine' tkR 0 80 hH0 ?o44
 refine' tkQ 1 81 hH0 ?hyv ?o45
 case hyv=>
  intro wz hSw;have zc0:=(hSw.cell (p:=⟨w.heap.size,0,none⟩) yM).trans m0;have zc1:=(hSw.cell (p:=⟨w.heap.size+1,0,none⟩) yP).trans p0;have zc2:=(hSw.cell (p:=⟨w.heap.size+1,1,none⟩) yP).trans p1;have zc3:=(hSw.cell (p:=⟨w.heap.size+1,2,none⟩) yP).trans p2;have zc4:=(hSw.cell (p:=⟨w.heap.size+1,3,none⟩) yP).trans p3;have zc5:=(hSw.cell (p:=⟨rb,4,none⟩) yr).trans r4;have zc6:=(hSw.cell (p:=⟨bC,oC+q,none⟩) yC1).trans CC;have zc7:=(hSw.cell (p:=⟨bt,ot,none⟩) yt1).trans T0;have zc8:=(hSw.cell (p:=⟨bt,ot+1,none⟩) yt1).trans T1;go_simp
  try rfl
 try simp only [Act.put,sT,sZ,sS]
 refine' tkR 2 82 hH0 ?o46
 refine' tkR 3 83 hH0 ?o47
 refine' tkQ 4 84 hH0 ?hyv ?o48
 case hyv=>
  intro wz hSw;have zc0:=(hSw.cell (p:=⟨w.heap.size,0,none⟩) yM).trans m0;have zc1:=(hSw.cell (p:=⟨w.heap.size+1,0,none⟩) yP).trans p0;have zc2:=(hSw.cell (p:=⟨w.heap.size+1,1,none⟩) yP).trans p1;have zc3:=(hSw.cell (p:=⟨w.heap.size+1,2,none⟩) yP).trans p2;have zc4:=(hSw.cell (p:=⟨w.heap.size+1,3,none⟩) yP).trans p3;have zc5:=(hSw.cell (p:=⟨rb,4,none⟩) yr).trans r4;have zc6:=(hSw.cell (p:=⟨bC,oC+q,none⟩) yC1).trans CC;have zc7:=(hSw.cell (p:=⟨bt,ot,none⟩) yt1).trans T0;have zc8:=(hSw.cell (p:=⟨bt,ot+1,none⟩) yt1).trans T1;go_simp
  try rfl
 try simp only [Act.put,sT,sZ,sS]
 refine' tkR 5 85 hH0 ?o49
 refine' tkQ 6 86 hH0 ?hyv ?o50
 case hyv=>
  intro wz hSw;have zc0:=(hSw.cell (p:=⟨w.heap.size,0,none⟩) yM).trans m0;have zc1:=(hSw.cell (p:=⟨w.heap.size+1,0,none⟩) yP).trans p0;have zc2:=(hSw.cell (p:=⟨w.heap.size+1,1,none⟩) yP).trans p1;have zc3:=(hSw.cell (p:=⟨w.heap.size+1,2,none⟩) yP).trans p2;have zc4:=(hSw.cell (p:=⟨w.heap.size+1,3,none⟩) yP).trans p3;have zc5:=(hSw.cell (p:=⟨rb,4,none⟩) yr).trans r4;have zc6:=(hSw.cell (p:=⟨bC,oC+q,none⟩) yC1).trans CC;have zc7:=(hSw.cell (p:=⟨bt,ot,none⟩) yt1).trans T0;have zc8:=(hSw.cell (p:=⟨bt,ot+1,none⟩) yt1).trans T1;go_simp
  try rfl
 try simp only [Act.put,sT,sZ,sS]
 refine' tkR 7 87 hH0 ?o51
 refine' tkQ 8 88 hH0 ?hyv ?o52
 case hyv=>
  intro wz hSw;have zc0:=(hSw.cell (p:=⟨w.heap.size,0,none⟩) yM).trans m0;have zc1:=(hSw.cell (p:=⟨w.heap.size+1,0,none⟩) yP).trans p0;have zc2:=(hSw.cell (p:=⟨w.heap.size+1,1,none⟩) yP).trans p1;have zc3:=(hSw.cell (p:=⟨w.heap.size+1,2,none⟩) yP).trans p2;have zc4:=(hSw.cell (p:=⟨w.heap.size+1,3,none⟩) yP).trans p3;have zc5:=(hSw.cell (p:=⟨rb,4,none⟩) yr).trans r4;have zc6:=(hSw.cell (p:=⟨bC,oC+q,none⟩) yC1).trans CC;have zc7:=(hSw.cell (p:=⟨bt,ot,none⟩) yt1).trans T0;have zc8:=(hSw.cell (p:=⟨bt,ot+1,none⟩) yt1).trans T1;go_simp
  try rfl
 try simp only [Act.put,sT,sZ,sS]
 refine' tkR 9 89 hH0 ?o53
 refine' tkR 10 90 hH0 ?o54
 refine' tkQ 11 91 hH0 ?hyv ?o55
 case hyv=>
  intro wz hSw;have zc0:=(hSw.cell (p:=⟨w.heap.size,0,none⟩) yM).trans m0;have zc1:=(hSw.cell (p:=⟨w.heap.size+1,0,none⟩) yP).trans p0;have zc2:=(hSw.cell (p:=⟨w.heap.size+1,1,none⟩) yP).trans p1;have zc3:=(hSw.cell (p:=⟨w.heap.size+1,2,none⟩) yP).trans p2;have zc4:=(hSw.cell (p:=⟨w.heap.size+1,3,none⟩) yP).trans p3;have zc5:=(hSw.cell (p:=⟨rb,4,none⟩) yr).trans r4;have zc6:=(hSw.cell (p:=⟨bC,oC+q,none⟩) yC1).trans CC;have zc7:=(hSw.cell (p:=⟨bt,ot,none⟩) yt1).trans T0;have zc8:=(hSw.cell (p:=⟨bt,ot+1,none⟩) yt1).trans T1;go_simp
  try rfl
 try simp only [Act.put,sT,sZ,sS]
 refine' tkR 12 92 hH0 ?o56
 refine' tkR 13 93 hH0 ?o57
 refine' tkQ 14 94 hH0 ?hyv ?o58
 case hyv=>
  intro wz hSw;have zc0:=(hSw.cell (p:=⟨w.heap.size,0,none⟩) yM).trans m0;have zc1:=(hSw.cell (p:=⟨w.heap.size+1,0,none⟩) yP).trans p0;have zc2:=(hSw.cell (p:=⟨w.heap.size+1,1,none⟩) yP).trans p1;have zc3:=(hSw.cell (p:=⟨w.heap.size+1,2,none⟩) yP).trans p2;have zc4:=(hSw.cell (p:=⟨w.heap.size+1,3,none⟩) yP).trans p3;have zc5:=(hSw.cell (p:=⟨rb,4,none⟩) yr).trans r4;have zc6:=(hSw.cell (p:=⟨bC,oC+q,none⟩) yC1).trans CC;have zc7:=(hSw.cell (p:=⟨bt,ot,none⟩) yt1).trans T0;have zc8:=(hSw.cell (p:=⟨bt,ot+1,none⟩) yt1).trans T1;go_simp
  try rfl
 try simp only [Act.put,sT,sZ,sS]
 refine tnQ 15 (fun K hK=>?_);go_simp;refine (hct wd0 (b1.trans (hH0.mono b1.size))).mono ?_;rintro eq wd1 ⟨rfl,bq1⟩;have hH1:Below w1.heap.size w1 wd1:=hH0.trans (bq1.mono hH0.size);refine hK.out _ _ (fun _=>hH1) ?_;clear hK K
 try simp only [Act.put,sT,sZ,sS]
 refine' tkR 16 8 hH1 ?o59
 refine zJ (by kernel_rfl) ?_ _;go_wp2;go_ret;exact ⟨rfl,b1.trans (hH1.mono b1.size)⟩
theorem madeBy_any {w:World} {rb:Nat} {op K out n:Int} {aA aE:Option Addr} {nA cA nE cE:Nat} {okC:Nat->Prop} {x:WkV} {vC vA:Value} {C:List (List Int)} (hr:RowAt w rb x vC vA) (hC:HRow kLL okC w vC C) {ok:Nat->Prop} {tv:Value} {T:List Int} (ht:HInts ok w tv T) (p:Pu) (hT:T.length=Sk.takesN p.op) {N:Nat} (hf:Sk.StepFit C N p) (hl:∀ z,(Sk.cAt C z).length<=300) (hN:N<=300) (k:Nat) (hk:k<N):Calls Tryz.prog 148 #[.agg #[.pointer (some ⟨rb,0,none⟩),.int .i64 op,.int .i64 K,.int .i64 out,.int .i64 n,.slice aA nA cA,.slice aE nE cE],.agg #[.int .i64 p.op,.int .i64 p.k,.int .i64 p.v,.int .i64 p.n],tv,.int .i64 (k:Int)] w fun e w'=>e=.returned (.int .i64 (Sk.stepV C p T k))/\Below w.heap.size w w':=by
 obtain ⟨po,pk,v,pn⟩:=p
 dsimp only at hT ⊢
 by_cases h2:po=2
 ·subst h2
  obtain ⟨⟨g1,g2⟩,g3⟩:=hf.f2 rfl
  dsimp only at g1 g2 g3
  obtain ⟨q,rfl⟩:∃ q:Nat,v=(q:Int):=⟨v.toNat,by omega⟩;exact madeBy2_any hr hC pk pn q (by omega) tv k g3
 by_cases h3:po=3
 ·subst h3
  obtain ⟨⟨g1,g2⟩,g3,g4⟩:=hf.f3 rfl
  dsimp only at g1 g2 g3 g4
  obtain ⟨q,rfl⟩:∃ q:Nat,v=(q:Int):=⟨v.toNat,by omega⟩;obtain ⟨m,rfl⟩:∃ m:Nat,pn=(m:Int):=⟨pn.toNat,by omega⟩;have:=hl (q:Int);exact madeBy3_any hr hC pk m q (by omega) tv k (by omega) (by omega) (by omega)
 by_cases h4:po=4
 ·subst h4
  exact madeBy4_any pk v pn (hf.f4 rfl) tv k (by omega)
 by_cases h5:po=5
 ·subst h5
  exact madeBy5_any ht hT pk v pn k
 by_cases h6:po=6
 ·subst h6
  exact madeBy6_any ht hT pk v pn k
 by_cases h7:po=7
 ·subst h7
  exact madeBy7_any ht hT pk v pn k
 by_cases h8:po=8
 ·subst h8
  obtain ⟨g1,g2⟩:=hf.f8 rfl
  dsimp only at g1 g2
  obtain ⟨q,rfl⟩:∃ q:Nat,v=(q:Int):=⟨v.toNat,by omega⟩;exact madeBy8_any hr hC ht hT pk pn q (by omega) k
 have e:Sk.stepV C ⟨po,pk,v,pn⟩ T k=pn:=by
  unfold Sk.stepV;rw [if_neg h2,if_neg h3,if_neg h4,if_neg h5,if_neg h6,if_neg h7,if_neg h8]
 rw [e];exact madeByN_any po pk v pn (by omega) tv k
end Go.Proofs.YtnhmcpnbaajjcaaGreatDoor
