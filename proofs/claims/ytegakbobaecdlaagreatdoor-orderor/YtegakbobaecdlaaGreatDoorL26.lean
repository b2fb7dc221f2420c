import Derived.Test.YtegakbobaecdlaaGreatDoorL25
import Derived.WalkKit
import Derived.WalkSpells
import Derived.IntWalk
import Derived.Deep.Cut
import Derived.Deep.LoopGhost
import Derived.Ground.NamesProg
import Derived.Laws.Cover1
import Derived.Laws.Externs
import Derived.Lib.Hide
import Derived.Lib.MakeNoZero
import Derived.Lib.SlBuf
import Derived.Shelf.Bytes.SlSmallAll
import Derived.Shelf.Lay
set_option linter.unusedVariables false
set_option linter.unusedSimpArgs false
set_option maxHeartbeats 64000000
set_option maxRecDepth 100000
namespace Go.Proofs.YtegakbobaecdlaaGreatDoor
open Go.RowKit Go.IntWalk
theorem zAJ {α:Type} {T:Kind α} {B:Nat} {w:World} {v:Value} {l:List α} (h:OwnL T B w v l):OwnX T (fun i=>B<=i/\i<w.heap.size) w v l:=by
 have hlt:=h.lt;obtain ⟨D,⟨h1,h2⟩,h3⟩:=h;refine ⟨D,⟨h1,?_⟩,fun k hk=>hlt k hk,fun j hj=>T.wide (h3 j hj) fun i hi hl=>⟨⟨hi.1,hl⟩,hi.2⟩⟩;rcases h2 with h | ⟨g,cap,cur,e1,e2,e3⟩
 ·exact .inl h
 ·exact .inr ⟨g,cap,cur,e1,Nat.zero_le _,e3⟩
theorem zAK {α:Type} {T:Kind α} {ok:Nat->Prop} {B:Nat} {w:World} {v:Value} {l:List α} (h:OwnX T ok w v l) (hk:∀ i,ok i->B<=i):OwnL T B w v l:=by
 obtain ⟨D,⟨h1,h2⟩,h3,h4⟩:=h;refine ⟨D,⟨h1,?_⟩,fun j hj=>T.wide (h4 j hj) fun i hi _=>⟨hk i hi.1,hi.2⟩⟩;rcases h2 with h | ⟨g,cap,cur,e1,e2,e3⟩
 ·exact .inl h
 ·refine .inr ⟨g,cap,cur,e1,hk g (h3 g ?_),e3⟩
  rw [e1];rfl
theorem run_own {α:Type} (T:Kind α) {w:World} (t tt ty:TypeId) (ht:Tryz.prog.underlying t=some (.slice T.ty)) (B N:Nat) (v:Value) (l:List α) (hown:OwnL T B w v l) (cs:List Value) (y:α) (hE:T.E (fun i=>N<=i) w cs y)
  (hNw:w.heap.size<=N\/(N<=w.heap.size/\∀ k,v.ownBlock=some k->k<N/\(fun i=>B<=i/\i<N) k)) (hBN:B<=N) (hBw:B<=w.heap.size) (hM:(l.length+1)*T.bytes<=140737488355328) (hm:l.length+1<=maxLen) (hE2:T.E (fun i=>w.heap.size<=i) w cs y) :
  ∃ v' w',(Builtin.append_ #[t,t] ty #[v,.slice (some ⟨w.heap.size,0,none⟩) 1 1]).run Tryz.prog (w.alloc (.cells cs.toArray tt (0,0)))=.ok v' w'/\OwnL T B w' v' (l++[y])/\Below B w w':=by
 obtain ⟨v',w',hr,h2,h3⟩:=run_moreX T t tt ty ht w.heap.size _ v l (zAJ hown) cs y hE2 (fun i hi=>hi.2) zM hM hm;refine ⟨v',w',hr,zAK h2 fun i hi=>?_,?_⟩
 ·rcases hi with hi | hi
  ·exact hi.1
  ·omega
 ·have:=grown_aside (S:=[]) (B:=B) (ok:=fun i=>B<=i) h3 (fun k hk=>(hown.lt k hk).1) (fun i hi=>hi) hBw
  exact this.below fun k hk=>by cases hk
theorem zAR {α:Type} (T:Kind α) {w:World} {o:Oper} {a:Act} {K:Act->World->Prop} {Q:Exit->Act->World->Prop} (s x:Operand) (t tt:TypeId)
  (ho:o.op=.call { callee:=.builtin .append,args:=#[s,x],argTypes:=#[t,t] }) (ht:Tryz.prog.underlying t=some (.slice T.ty))
  (B:Nat) (v:Value) (l:List α) (hs:a.eval s=v) (hown:OwnL T B w v l) (cs:List Value) (y:α) (hE:T.E (fun i=>w.heap.size<=i) w cs y) (hx:a.eval x=.slice (some ⟨w.heap.size,0,none⟩) 1 1)
  (hBw:B<=w.heap.size) (hM:(l.length+1)*T.bytes<=140737488355328) (hm:l.length+1<=maxLen)
  (h:∀ v' w',OwnL T B w' v' (l++[y])->Below B w w'->K (a.put o.dst v') w') :
  Oper.wp Tryz.prog o a (w.alloc (.cells cs.toArray tt (0,0))) K Q:=by
 obtain ⟨v',w',hr,h2,h3⟩:=run_own T t tt o.type ht B w.heap.size v l hown cs y hE (.inl zM) hBw hBw hM hm hE;unfold Oper.wp execOp;simp only [ho,resolve,invoke,builtin,Sem.run_bind,Sem.run_pure,Result.andThen_ok,List.map_toArray,List.map_cons,List.map_nil,hs,hx,hr];exact h v' w' h2 h3
theorem Tryz.infoV:(Tryz.prog.info? 55).map (fun i=>(i.zero,i.size,i.bytes))=some (some (.agg #[.int .u8 0,.int .i64 0]),2,16):=by kernel_rfl
def kVar:Kind Sk.Vr where
 ty:=55
 k:=2
 bytes:=16
 zero:=.agg #[.int .u8 0,.int .i64 0]
 E:=fun _ _ cs v=>cs=[.int .u8 v.elem,.int .i64 v.n]
 pos:=by decide
 zs:=rfl
 info:=Tryz.infoV
 len:=by rintro _ _ _ _ rfl;rfl
 one:=by rintro _ _ _ _ rfl;intro u hu;simp at hu;rcases hu with rfl | rfl<;>rfl
 keep:=by rintro _ _ _ _ _ rfl _ _;rfl
 wide:=by rintro _ _ _ _ _ rfl _;rfl
theorem zAS {ok:Nat->Prop} {w:World} {v:Value} {l:List Sk.Vr} (h:HRow kVar ok w v l):HVars ok w v l:=h
structure LfAt (w wr:World) (b tb:Nat) (op k n:Int) (oi:Nat) (aA aE:Option Addr) (cA nE cE:Nat) (A:List Int) (vo:Sk.Vr) (V:List Sk.Vr) (i:Nat):Prop where
 bel:Below w.heap.size w wr
 le:w.heap.size+2<=tb
 kl:wr.heap[w.heap.size]?=some (.cells #[.pointer (some ⟨b,0,none⟩)] 106 (0,0))
 kr:wr.heap[w.heap.size+1]?=some (.cells #[.int .i64 op,.int .i64 k,.int .i64 (oi:Int),.int .i64 n,.slice aA A.length cA,.slice aE nE cE] 40 (0,0))
 row:∃ aa ca,wr.heap[tb]?=some (.cells #[.int .i64 op,.int .i64 k,.int .i64 (oi:Int),.int .i64 n,.slice aA A.length cA,.slice aE nE cE,.int .u8 vo.elem,.int .i64 vo.n,.slice aa i ca] 149 (0,0))/\OwnL kVar (tb+1) wr (.slice aa i ca) ((A.take i).map (Sk.vAt V))
theorem zAr {ok okR:Nat->Prop} {w:World} {b:Nat} {x:LkV} {V:List Sk.Vr} {op k n:Int} {oi:Nat} {aA aE:Option Addr} {cA nE cE:Nat} {A:List Int} {E:List Pu} (hk:LkAt w b x) (hV:HVars ok w (.slice x.aV x.nV x.cV) V) (hVr:∀ v ∈ V,Sk.VrOk v) (hG:GlobK w) (hA:HInts okR w (.slice aA A.length cA) A) (hE:HPu okR w (.slice aE nE cE) E)
  (hform:Sk.hasForm op A.length=true) (hoi2:oi<V.length) (hAin:∀ z ∈ A,0<=z/\z<V.length) (hEin:14<=op->∀ p ∈ E,nmd p=true->0<=p.v/\p.v<V.length) (hEl:14<=op->E.length<=24) :
  Calls Tryz.prog 115 #[.pointer (some ⟨b,0,none⟩),.agg #[.int .i64 op,.int .i64 k,.int .i64 (oi:Int),.int .i64 n,.slice aA A.length cA,.slice aE nE cE]] w fun e w'=>e=.returned (.bool (Sk.fitsR V ⟨op,k,(oi:Int),n,A,E⟩))/\Below w.heap.size w w':=by
 obtain ⟨ao,cap,hv,q1,q2,hat⟩:=hV.at;injection hv with v1 v2 v3;obtain ⟨bl,ol,hao,yl,x0,y0⟩:=hat oi hoi2;rw [hao] at v1;have hat':∀ i (h:i<V.length),w.cell? ⟨bl,ol+i*2,none⟩=some (.int .u8 (V[i]).elem)/\w.cell? ⟨bl,ol+i*2+1,none⟩=some (.int .i64 (V[i]).n):=by
  intro i hi;obtain ⟨bl',ol',hao',_,x0',y0'⟩:=hat i hi;rw [hao] at hao';injection hao' with e;injection e with e1 e2;subst e1 e2;exact ⟨x0',y0'⟩
 unfold LkAt at hk;have hk2:=coQ hk 0;simp only [gT,gZ] at hk2;rw [v1,v2,v3] at hk2;have yb:=zG hk;unfold maxLen at q2;have hop:1<=op/\op<=16:=by
  unfold Sk.hasForm at hform;simp at hform;omega
 have hnA:(A.length:Int)=Sk.partsT.getD op.toNat 0:=by
  unfold Sk.hasForm at hform;rw [Bool.and_eq_true,beq_iff_eq] at hform;exact hform.2
 have hA3:A.length<=3:=by
  have H:∀ t ∈ Sk.partsT,t<=3:=(by decide);rw [List.getD_eq_getElem?_getD] at hnA
  cases e:Sk.partsT[op.toNat]? with
  | none=>rw [e] at hnA;have h0:(A.length:Int)=0:=hnA;omega
  | some t=>rw [e] at hnA;have:=H t (List.mem_of_getElem? e);have h0:(A.length:Int)=t:=hnA;omega
 obtain ⟨vo,hvo⟩:=nmQ (V[oi]);have hvo2:Sk.vAt V (oi:Int)=vo:=(by rw [hvo];exact xQ hoi2);rw [<-hvo] at x0 y0;have b1:Below w.heap.size w ((w.alloc (.cells #[.pointer (some ⟨b,0,none⟩)] 106 (0,0))).alloc (.cells #[.int .i64 op,.int .i64 k,.int .i64 (oi:Int),.int .i64 n,.slice aA A.length cA,.slice aE nE cE] 40 (0,0))):=((Below.refl _ _).alloc zM _).alloc (by simp) _;have kl:((w.alloc (.cells #[.pointer (some ⟨b,0,none⟩)] 106 (0,0))).alloc (.cells #[.int .i64 op,.int .i64 k,.int .i64 (oi:Int),.int .i64 n,.slice aA A.length cA,.slice aE nE cE] 40 (0,0))).heap[w.heap.size]?=some (.cells #[.pointer (some ⟨b,0,none⟩)] 106 (0,0)):=(Below.heap_alloc _ _ _ (by simp)).trans (zI w _);have kr:((w.alloc (.cells #[.pointer (some ⟨b,0,none⟩)] 106 (0,0))).alloc (.cells #[.int .i64 op,.int .i64 k,.int .i64 (oi:Int),.int .i64 n,.slice aA A.length cA,.slice aE nE cE] 40 (0,0))).heap[w.heap.size+1]?=some (.cells #[.int .i64 op,.int .i64 k,.int .i64 (oi:Int),.int .i64 n,.slice aA A.length cA,.slice aE nE cE] 40 (0,0)):=by
  have:=zI (w.alloc (.cells #[.pointer (some ⟨b,0,none⟩)] 106 (0,0))) (.cells #[.int .i64 op,.int .i64 k,.int .i64 (oi:Int),.int .i64 n,.slice aA A.length cA,.slice aE nE cE] 40 (0,0))
  simpa using this
 have k0:=(b1.cell (p:=⟨b,0,none⟩) yb).trans hk2;have X0:=(b1.cell (p:=⟨bl,ol+oi*2,none⟩) yl).trans x0;have Y0:=(b1.cell (p:=⟨bl,ol+oi*2+1,none⟩) yl).trans y0;have yb1:b<((w.alloc (.cells #[.pointer (some ⟨b,0,none⟩)] 106 (0,0))).alloc (.cells #[.int .i64 op,.int .i64 k,.int .i64 (oi:Int),.int .i64 n,.slice aA A.length cA,.slice aE nE cE] 40 (0,0))).heap.size:=Nat.lt_of_lt_of_le yb b1.size;have yl1:bl<((w.alloc (.cells #[.pointer (some ⟨b,0,none⟩)] 106 (0,0))).alloc (.cells #[.int .i64 op,.int .i64 k,.int .i64 (oi:Int),.int .i64 n,.slice aA A.length cA,.slice aE nE cE] 40 (0,0))).heap.size:=Nat.lt_of_lt_of_le yl b1.size;obtain ⟨aoA,capA,evA,hcA1,hcA2,-⟩:=hA.at;injection evA with eA1 eA2 eA3;rw [<-eA3] at hcA1 hcA2;unfold maxLen at hcA2;obtain ⟨RR,hRR⟩:=nmQ (Sk.fitsR V ⟨op,k,(oi:Int),n,A,E⟩);rw [<-hRR];have HRR:=zE hRR;have HA:=zE hA;have HE:=zE hE;have HK:=zE (show LkAt w b x from hk);have HV:=zE hV;have HVR:=zE hVr;have HG:=zE hG;have HAT:=zE hat';have HO:=zE hvo2;have HVO:=zE hvo;have HNA:=zE hnA;have HFORM:=zE hform;have HAIN:=zE hAin;have HEIN:=zE hEin;have HEL:=zE hEl;have HK2:=zE hk2;have yL:=yl;have yB:=yb;clear hRR hA hE hk hV hVr hG hat hat' hvo hnA hform hAin hEin hEl eA1 eA2 eA3 v1 v2 v3 hao hk2 x0 y0 yl yb hvo2;obtain ⟨L,hL⟩:=nmQ (V.length);rw [<-hL] at k0 q1 hoi2;have HL:=zE hL;clear hL;go_enter Tryz.func115,Tryz.ntmps115;go_upto_region 1 with fail;generalize (w.alloc (.cells #[.pointer (some ⟨b,0,none⟩)] 106 (0,0))).alloc (.cells #[.int .i64 op,.int .i64 k,.int .i64 (oi:Int),.int .i64 n,.slice aA A.length cA,.slice aE nE cE] 40 (0,0))=w1 at b1 kl kr k0 X0 Y0 yb1 yl1 ⊢;have l0:=coQ kl 0;simp at l0;have yl0:=zG kl;have c0:=coQ kr 0;have c1:=coQ kr 1;have c2:=coQ kr 2;have c3:=coQ kr 3;have c4:=coQ kr 4;have c5:=coQ kr 5;simp at c0 c1 c2 c3 c4 c5;have yr:=zG kr;refine zK (fun w'=>Below w1.heap.size w1 w') (fun _=>false) (by kernel_rfl) ?_;have hH0:Below w1.heap.size w1 w1.drew:=(Below.refl _ _).drew;generalize w1.drew=wd0 at hH0 ⊢;refine' tkQ 0 8 hH0 ?hyv ?o1
 case hyv=>
  intro wz hSw;have zc0:=(hSw.cell (p:=⟨w.heap.size,0,none⟩) yl0).trans l0;have zc1:=(hSw.cell (p:=⟨w.heap.size+1,0,none⟩) yr).trans c0;have zc2:=(hSw.cell (p:=⟨w.heap.size+1,1,none⟩) yr).trans c1;have zc3:=(hSw.cell (p:=⟨w.heap.size+1,2,none⟩) yr).trans c2;have zc4:=(hSw.cell (p:=⟨w.heap.size+1,3,none⟩) yr).trans c3;have zc5:=(hSw.cell (p:=⟨w.heap.size+1,4,none⟩) yr).trans c4;have zc6:=(hSw.cell (p:=⟨w.heap.size+1,5,none⟩) yr).trans c5;have zc7:=(hSw.cell (p:=⟨b,0,none⟩) yb1).trans k0;have zc8:=(hSw.cell (p:=⟨bl,ol+oi*2,none⟩) yl1).trans X0;have zc9:=(hSw.cell (p:=⟨bl,ol+oi*2+1,none⟩) yl1).trans Y0;go_simp
  try rfl
 try simp only [Act.put,sT,sZ,sS]
 refine' tkQ 1 9 hH0 ?hyv ?o2
 case hyv=>
  intro wz hSw;have zc0:=(hSw.cell (p:=⟨w.heap.size,0,none⟩) yl0).trans l0;have zc1:=(hSw.cell (p:=⟨w.heap.size+1,0,none⟩) yr).trans c0;have zc2:=(hSw.cell (p:=⟨w.heap.size+1,1,none⟩) yr).trans c1;have zc3:=(hSw.cell (p:=⟨w.heap.size+1,2,none⟩) yr).trans c2;have zc4:=(hSw.cell (p:=⟨w.heap.size+1,3,none⟩) yr).trans c3;have zc5:=(hSw.cell (p:=⟨w.heap.size+1,4,none⟩) yr).trans c4;have zc6:=(hSw.cell (p:=⟨w.heap.size+1,5,none⟩) yr).trans c5;have zc7:=(hSw.cell (p:=⟨b,0,none⟩) yb1).trans k0;have zc8:=(hSw.cell (p:=⟨bl,ol+oi*2,none⟩) yl1).trans X0;have zc9:=(hSw.cell (p:=⟨bl,ol+oi*2+1,none⟩) yl1).trans Y0;go_simp
  try rfl
 try simp only [Act.put,sT,sZ,sS]
 refine' tkR 2 10 hH0 ?o3
 refine' tkR 3 11 hH0 ?o4
 refine' tkR 4 12 hH0 ?o5
 refine' tkQ 5 13 hH0 ?hyv ?o6
 case hyv=>
  intro wz hSw;have zc0:=(hSw.cell (p:=⟨w.heap.size,0,none⟩) yl0).trans l0;have zc1:=(hSw.cell (p:=⟨w.heap.size+1,0,none⟩) yr).trans c0;have zc2:=(hSw.cell (p:=⟨w.heap.size+1,1,none⟩) yr).trans c1;have zc3:=(hSw.cell (p:=⟨w.heap.size+1,2,none⟩) yr).trans c2;have zc4:=(hSw.cell (p:=⟨w.heap.size+1,3,none⟩) yr).trans c3;have zc5:=(hSw.cell (p:=⟨w.heap.size+1,4,none⟩) yr).trans c4;have zc6:=(hSw.cell (p:=⟨w.heap.size+1,5,none⟩) yr).trans c5;have zc7:=(hSw.cell (p:=⟨b,0,none⟩) yb1).trans k0;have zc8:=(hSw.cell (p:=⟨bl,ol+oi*2,none⟩) yl1).trans X0;have zc9:=(hSw.cell (p:=⟨bl,ol+oi*2+1,none⟩) yl1).trans Y0;go_simp
  try rfl
 try simp only [Act.put,sT,sZ,sS]
 refine' tkR 6 14 hH0 ?o7
 refine' tkQ 7 15 hH0 ?hyv ?o8
 case hyv=>
  intro wz hSw;have zc0:=(hSw.cell (p:=⟨w.heap.size,0,none⟩) yl0).trans l0;have zc1:=(hSw.cell (p:=⟨w.heap.size+1,0,none⟩) yr).trans c0;have zc2:=(hSw.cell (p:=⟨w.heap.size+1,1,none⟩) yr).trans c1;have zc3:=(hSw.cell (p:=⟨w.heap.size+1,2,none⟩) yr).trans c2;have zc4:=(hSw.cell (p:=⟨w.heap.size+1,3,none⟩) yr).trans c3;have zc5:=(hSw.cell (p:=⟨w.heap.size+1,4,none⟩) yr).trans c4;have zc6:=(hSw.cell (p:=⟨w.heap.size+1,5,none⟩) yr).trans c5;have zc7:=(hSw.cell (p:=⟨b,0,none⟩) yb1).trans k0;have zc8:=(hSw.cell (p:=⟨bl,ol+oi*2,none⟩) yl1).trans X0;have zc9:=(hSw.cell (p:=⟨bl,ol+oi*2+1,none⟩) yl1).trans Y0;go_simp
  try rfl
 try simp only [Act.put,sT,sZ,sS]
 refine' tkR 8 16 hH0 ?o9
 refine' tkQ 9 17 hH0 ?hyv ?o10
 case hyv=>
  intro wz hSw;have zc0:=(hSw.cell (p:=⟨w.heap.size,0,none⟩) yl0).trans l0;have zc1:=(hSw.cell (p:=⟨w.heap.size+1,0,none⟩) yr).trans c0;have zc2:=(hSw.cell (p:=⟨w.heap.size+1,1,none⟩) yr).trans c1;have zc3:=(hSw.cell (p:=⟨w.heap.size+1,2,none⟩) yr).trans c2;have zc4:=(hSw.cell (p:=⟨w.heap.size+1,3,none⟩) yr).trans c3;have zc5:=(hSw.cell (p:=⟨w.heap.size+1,4,none⟩) yr).trans c4;have zc6:=(hSw.cell (p:=⟨w.heap.size+1,5,none⟩) yr).trans c5;have zc7:=(hSw.cell (p:=⟨b,0,none⟩) yb1).trans k0;have zc8:=(hSw.cell (p:=⟨bl,ol+oi*2,none⟩) yl1).trans X0;have zc9:=(hSw.cell (p:=⟨bl,ol+oi*2+1,none⟩) yl1).trans Y0;go_simp
  try rfl
 try simp only [Act.put,sT,sZ,sS]
 refine' tkR 10 18 hH0 ?o11
 refine tnQ 11 (fun K hK=>?_);go_simp;have hH1:Below w1.heap.size w1 (wd0.alloc (.cells #[.int .i64 0,.int .i64 0,.int .i64 0,.int .i64 0,.slice none 0 0,.slice none 0 0,.int .u8 0,.int .i64 0,.slice none 0 0] 149 (0,0))):=hH0.alloc hH0.size _;have kn1:=zI wd0 (.cells #[.int .i64 0,.int .i64 0,.int .i64 0,.int .i64 0,.slice none 0 0,.slice none 0 0,.int .u8 0,.int .i64 0,.slice none 0 0] 149 (0,0));have zn1:=hH0.size;refine hK.out _ _ (fun _=>hH1) ?_;clear hK K
 try simp only [Act.put,sT,sZ,sS]
 have sz1:(wd0.alloc (.cells #[.int .i64 0,.int .i64 0,.int .i64 0,.int .i64 0,.slice none 0 0,.slice none 0 0,.int .u8 0,.int .i64 0,.slice none 0 0] 149 (0,0))).heap.size=wd0.heap.size+1:=(by simp);generalize wd0.alloc (.cells #[.int .i64 0,.int .i64 0,.int .i64 0,.int .i64 0,.slice none 0 0,.slice none 0 0,.int .u8 0,.int .i64 0,.slice none 0 0] 149 (0,0))=wd1 at hH1 kn1 sz1 ⊢;refine tnQ 12 (fun K hK=>?_);have st0:=coQ kn1 0;have fr0:=foQ kn1 0;have st1:=coQ kn1 1;have fr1:=foQ kn1 1;have st2:=coQ kn1 2;have fr2:=foQ kn1 2;have st3:=coQ kn1 3;have fr3:=foQ kn1 3;have st4:=coQ kn1 4;have fr4:=foQ kn1 4;have st5:=coQ kn1 5;have fr5:=foQ kn1 5;have st6:=coQ kn1 6;have fr6:=foQ kn1 6;have st7:=coQ kn1 7;have fr7:=foQ kn1 7;have st8:=coQ kn1 8;have fr8:=foQ kn1 8;simp at st0 st1 st2 st3 st4 st5 st6 st7 st8;have KR:=zJ (zJ (zJ (zJ (zJ (zJ (zJ (zJ (zJ (kn1) 0 (.int .i64 op)) 1 (.int .i64 k)) 2 (.int .i64 (oi:Int))) 3 (.int .i64 n)) 4 (.slice aA A.length cA)) 5 (.slice aE nE cE)) 6 (.int .u8 vo.elem)) 7 (.int .i64 vo.n)) 8 (.slice none 0 0);have hH2:=(((((((((hH1).setCell (p:=⟨wd0.heap.size,0,none⟩) hH0.size (.int .i64 op)).setCell (p:=⟨wd0.heap.size,1,none⟩) hH0.size (.int .i64 k)).setCell (p:=⟨wd0.heap.size,2,none⟩) hH0.size (.int .i64 (oi:Int))).setCell (p:=⟨wd0.heap.size,3,none⟩) hH0.size (.int .i64 n)).setCell (p:=⟨wd0.heap.size,4,none⟩) hH0.size (.slice aA A.length cA)).setCell (p:=⟨wd0.heap.size,5,none⟩) hH0.size (.slice aE nE cE)).setCell (p:=⟨wd0.heap.size,6,none⟩) hH0.size (.int .u8 vo.elem)).setCell (p:=⟨wd0.heap.size,7,none⟩) hH0.size (.int .i64 vo.n)).setCell (p:=⟨wd0.heap.size,8,none⟩) hH0.size (.slice none 0 0);go_simp;refine hK.out _ _ (fun _=>hH2) ?_;clear hK K
 try simp only [Act.put,sT,sZ,sS]
 clear st0 fr0 st1 fr1 st2 fr2 st3 fr3 st4 fr4 st5 fr5 st6 fr6 st7 fr7 st8 fr8;generalize (((((((((wd1).setCell ⟨wd0.heap.size,0,none⟩ (.int .i64 op)).setCell ⟨wd0.heap.size,1,none⟩ (.int .i64 k)).setCell ⟨wd0.heap.size,2,none⟩ (.int .i64 (oi:Int))).setCell ⟨wd0.heap.size,3,none⟩ (.int .i64 n)).setCell ⟨wd0.heap.size,4,none⟩ (.slice aA A.length cA)).setCell ⟨wd0.heap.size,5,none⟩ (.slice aE nE cE)).setCell ⟨wd0.heap.size,6,none⟩ (.int .u8 vo.elem)).setCell ⟨wd0.heap.size,7,none⟩ (.int .i64 vo.n)).setCell ⟨wd0.heap.size,8,none⟩ (.slice none 0 0)=wd2 at hH2 KR ⊢;simp at KR;refine zH (by kernel_rfl) ?_ _;have B2:=b1.trans (hH2.mono b1.size);have hkl:=(hH2.block _ yl0).trans kl;have hkr:=(hH2.block _ yr).trans kr;have hle:w.heap.size+2<=wd0.heap.size:=(by have h1:=yr;have h2:=hH0.size;omega);generalize wd0.heap.size=tb at KR hle ⊢;have HLF:=zE (show LfAt w wd2 b tb op k n oi aA aE cA nE cE A vo V 0 from ⟨B2,hle,hkl,hkr,none,0,KR,OwnL.nil⟩);generalize wd2=w5 at HLF hkr ⊢;have c4':=coQ hkr 4;simp at c4';clear B2 hkl KR hH2 hH0 k0 X0 Y0 kl kr b1 l0 yl0 c0 c1 c2 c3 c4 c5 yr yb1 yl1;go_wp2_with fail;go_loopg [22] A.length (fun kk v wr=>∃ i,i<=A.length/\kk=A.length-i/\v=.int .i64 (i:Nat)/\Hid (LfAt w wr b tb op k n oi aA aE cA nE cE A vo V i))
 case atStart=>exact ⟨0,Nat.zero_le _,rfl,rfl,HLF⟩
 case round=>
  clear HLF hkr c4';obtain ⟨i,hi,rfl,rfl,HF⟩:=hrel;obtain ⟨bel,hle,hkl,hkr,aa,ca,kt,own⟩:=HF.out;clear HF;have zt:tb+1<=wr.heap.size:=zG kt;by_cases hlt:i<A.length
  case pos=>
   obtain ⟨ao',cap',eqs,-,-,hatA⟩:=(HA.out.under bel).at;injection eqs with e1 e2 e3;obtain ⟨bA,oA,hbA,yA,eA⟩:=hatA i hlt;rw [hbA] at e1;subst e1;have hz:=HAIN.out A[i] (List.getElem_mem hlt);obtain ⟨vi,hvi⟩:∃ vi:Nat,A[i]=(vi:Int):=⟨(A[i]).toNat,by omega⟩;have hvl:vi<V.length:=(by omega);rw [hvi] at eA;obtain ⟨xv,yv⟩:=HAT.out vi hvl;obtain ⟨va,hva⟩:=nmQ (V[vi]);rw [<-hva] at xv yv;have XV:=(bel.cell (p:=⟨bl,ol+vi*2,none⟩) yL).trans xv;have YV:=(bel.cell (p:=⟨bl,ol+vi*2+1,none⟩) yL).trans yv;have k0r:=(bel.cell (p:=⟨b,0,none⟩) yB).trans HK2.out;have HVA:=zE (show (A.take (i+1)).map (Sk.vAt V)=(A.take i).map (Sk.vAt V)++[va] by
    rw [List.take_succ_eq_append_getElem hlt,List.map_append,List.map_cons,List.map_nil,hvi,xQ hvl,hva])
   have HLM:=zE (show ((A.take i).map (Sk.vAt V)).length=i by rw [List.length_map,List.length_take];omega);rw [<-HL.out] at k0r hvl;have l0:=coQ hkl 0;have t8:=coQ kt 8;simp at l0 t8;have y1:b<tb+1:=(by omega);have y2:bl<tb+1:=(by omega);have y3:w.heap.size<tb+1:=(by omega);have y4:tb<tb+1:=(by omega);have q5:(((A.take i).map (Sk.vAt V)).length+1)*16<=140737488355328:=(by rw [HLM.out];omega);have q6:((A.take i).map (Sk.vAt V)).length+1<=maxLen:=(by rw [HLM.out];unfold maxLen;omega);have HKL:=zE hkl;have HKR:=zE hkr;clear hatA e2 e3 hbA hz hvi xv yv hva hkl hkr;go_upto_region 5 with fail;refine zK (fun w'=>Below (tb+1) wr w') (fun i=>i==13) (by kernel_rfl) ?_;have hH0:Below (tb+1) wr wr.drew:=(Below.refl _ _).drew;have own0:OwnL kVar (tb+1) wr.drew (.slice aa i ca) ((A.take i).map (Sk.vAt V)):=own;generalize wr.drew=wd0 at hH0 own0 ⊢;refine' tkR 0 26 hH0 ?o12
   refine' tkQ 1 27 hH0 ?hyv ?o13
   case hyv=>
    intro wz hSw;have zc0:=(hSw.cell (p:=⟨w.heap.size,0,none⟩) y3).trans l0;have zc1:=(hSw.cell (p:=⟨tb,8,none⟩) y4).trans t8;have zc2:=(hSw.cell (p:=⟨b,0,none⟩) y1).trans k0r;have zc3:=(hSw.cell (p:=⟨bl,ol+vi*2,none⟩) y2).trans XV;have zc4:=(hSw.cell (p:=⟨bl,ol+vi*2+1,none⟩) y2).trans YV;go_simp
    try rfl
   try simp only [Act.put,sT,sZ,sS]
   refine' tkQ 2 28 hH0 ?hyv ?o14
   case hyv=>
    intro wz hSw;have zc0:=(hSw.cell (p:=⟨w.heap.size,0,none⟩) y3).trans l0;have zc1:=(hSw.cell (p:=⟨tb,8,none⟩) y4).trans t8;have zc2:=(hSw.cell (p:=⟨b,0,none⟩) y1).trans k0r;have zc3:=(hSw.cell (p:=⟨bl,ol+vi*2,none⟩) y2).trans XV;have zc4:=(hSw.cell (p:=⟨bl,ol+vi*2+1,none⟩) y2).trans YV;go_simp
    try rfl
   try simp only [Act.put,sT,sZ,sS]
   refine' tkR 3 29 hH0 ?o15
   refine' tkR 4 30 hH0 ?o16
   refine' tkR 5 31 hH0 ?o17
   refine' tkQ 6 32 hH0 ?hyv ?o18
   case hyv=>
    intro wz hSw;have zc0:=(hSw.cell (p:=⟨w.heap.size,0,none⟩) y3).trans l0;have zc1:=(hSw.cell (p:=⟨tb,8,none⟩) y4).trans t8;have zc2:=(hSw.cell (p:=⟨b,0,none⟩) y1).trans k0r;have zc3:=(hSw.cell (p:=⟨bl,ol+vi*2,none⟩) y2).trans XV;have zc4:=(hSw.cell (p:=⟨bl,ol+vi*2+1,none⟩) y2).trans YV;go_simp
    try rfl
   try simp only [Act.put,sT,sZ,sS]
   refine' tkR 7 33 hH0 ?o19
   refine' tkR 8 34 hH0 ?o20
   refine' tkQ 9 35 hH0 ?hyv ?o21
   case hyv=>
    intro wz hSw;have zc0:=(hSw.cell (p:=⟨w.heap.size,0,none⟩) y3).trans l0;have zc1:=(hSw.cell (p:=⟨tb,8,none⟩) y4).trans t8;have zc2:=(hSw.cell (p:=⟨b,0,none⟩) y1).trans k0r;have zc3:=(hSw.cell (p:=⟨bl,ol+vi*2,none⟩) y2).trans XV;have zc4:=(hSw.cell (p:=⟨bl,ol+vi*2+1,none⟩) y2).trans YV;go_simp
    try rfl
   try simp only [Act.put,sT,sZ,sS]
   refine tnQ 10 (fun K hK=>?_);go_simp;have hH1:Below (tb+1) wr (wd0.alloc (.cells #[.int .u8 va.elem,.int .i64 va.n] 55 (0,0))):=hH0.alloc (Nat.le_trans zt hH0.size) _;refine hK.out _ _ (fun _=>hH1) ?_;clear hK K
   try simp only [Act.put,sT,sZ,sS]
   refine tnQ 11 (fun K hK=>?_);refine zAR kVar _ _ 22 55 rfl Tryz.underlying22 (tb+1) _ _ (by rfl) own0 [.int .u8 va.elem,.int .i64 va.n] va rfl (by rfl) (Nat.le_trans zt hH0.size) q5 q6 ?_;intro v8 wd2 own8 b8;obtain ⟨a8,c8,e8,-,-⟩:=own8.form;rw [List.length_append,HLM.out,List.length_singleton] at e8;subst e8;rw [<-HVA.out] at own8;have hH2:Below (tb+1) wr wd2:=hH0.trans b8;refine hK.out _ _ (fun _=>hH2) ?_;clear hK K
   try simp only [Act.put,sT,sZ,sS]
   refine' tkR 12 38 hH2 ?o22
   refine tnQ 13 (fun K hK=>?_);have kt2:=(hH2.block tb y4).trans kt;have st8:=coQ kt2 8;have fr8:=foQ kt2 8;simp at st8;have KT:=zJ kt2 8 (.slice a8 (i+1) c8);have own9:=own8.set (p:=⟨tb,8,none⟩) y4 (.slice a8 (i+1) c8);have bel9:Below w.heap.size w (wd2.setCell ⟨tb,8,none⟩ (.slice a8 (i+1) c8)):=(bel.trans (hH2.mono (by omega))).setCell (p:=⟨tb,8,none⟩) (by show w.heap.size<=tb;omega) (.slice a8 (i+1) c8);have hkl9:(wd2.setCell ⟨tb,8,none⟩ (.slice a8 (i+1) c8)).heap[w.heap.size]?=_:=zP ((hH2.block w.heap.size y3).trans HKL.out) (by show tb≠w.heap.size;omega) _;have hkr9:(wd2.setCell ⟨tb,8,none⟩ (.slice a8 (i+1) c8)).heap[w.heap.size+1]?=_:=zP ((hH2.block (w.heap.size+1) (by omega)).trans HKR.out) (by show tb≠w.heap.size+1;omega) _;have HNEW:=zE (And.intro own9 (And.intro KT (And.intro bel9 (And.intro hkl9 hkr9))));clear own9 KT bel9 hkl9 hkr9 own8;go_simp;refine hK.out _ _ (fun h=>absurd h (by decide)) ?_;clear hK K
   try simp only [Act.put,sT,sZ,sS]
   generalize wd2.setCell ⟨tb,8,none⟩ (.slice a8 (i+1) c8)=wd3 at HNEW ⊢;refine zH (by kernel_rfl) ?_ _;obtain ⟨own9,KT,bel9,hkl9,hkr9⟩:=HNEW.out;simp at KT;have HFN:=zE (show LfAt w wd3 b tb op k n oi (some ⟨bA,oA,none⟩) aE cA nE cE A vo V (i+1) from ⟨bel9,hle,hkl9,hkr9,a8,c8,KT,own9⟩);clear own9 KT bel9 hkl9 hkr9 HNEW;go_wp2_with fail;go_roundg (A.length-(i+1))
   case measure=>omega
   case rel=>exact ⟨i+1,by omega,rfl,by go_num,HFN⟩
  case neg=>
   have hin:i=A.length:=(by omega);subst hin;rw [List.take_length] at own;have HOWN:=zE (zAS own.row);have HB:=zE (show ∀ v ∈ A.map (Sk.vAt V),0<=v.n/\v.n<=300 by
    intro v hv;obtain ⟨z,hz,rfl⟩:=List.mem_map.1 hv;exact (Sk.vAt_ok HVR.out (HAIN.out z hz)).2)
   have HVOK:=zE (show 0<=vo.n/\vo.n<=300 from by rw [<-HO.out];exact (Sk.vAt_ok HVR.out ⟨by omega,by have:=HL.out;omega⟩).2);have r0:=coQ hkr 0;simp at r0;have t0:=coQ kt 0;have t1:=coQ kt 1;have t2:=coQ kt 2;have t3:=coQ kt 3;have t4:=coQ kt 4;have t5:=coQ kt 5;have t6:=coQ kt 6;have t7:=coQ kt 7;have t8:=coQ kt 8;simp at t0 t1 t2 t3 t4 t5 t6 t7 t8;have HGR:=zE (HG.out.under bel);have HNA2:=zE (show (((A.map (Sk.vAt V)).length:Nat):Int)=Sk.partsT.getD op.toNat 0 by rw [List.length_map];exact HNA.out);by_cases h14:op<14
   case pos=>
    have hct:=fits_any ⟨op,k,(oi:Int),n,aA,A.length,cA,aE,nE,cE,vo⟩ (A.map (Sk.vAt V)) wr HGR.out HOWN.out hop.1 (by show op<=13;omega) HNA2.out HB.out HVOK.out
    dsimp only at hct
    have HQ:=zE (show RR=Sk.fits op k n vo (A.map (Sk.vAt V)) by rw [HRR.out];unfold Sk.fitsR;rw [if_pos h14,HO.out]);generalize Sk.fits op k n vo (A.map (Sk.vAt V))=q at hct HQ;clear hkl hkr kt own;go_wp2_with fail;refine hct.mono ?_;rintro e w8 ⟨rfl,b8⟩;go_wp2;go_ret;exact ⟨by rw [HQ.out];rfl,bel.trans (b8.mono bel.size)⟩
   case neg=>
    have HCL:=zE (show ∀ (cells:Int),0<=cells/\cells<=300->∀ W,Below wr.heap.size wr W->Calls Tryz.prog 135 #[.int .i64 cells,.pointer (some ⟨w.heap.size,0,none⟩),.pointer (some ⟨w.heap.size+1,0,none⟩)] W fun e w'=>e=.returned (.int .u8 (Sk.treeL V cells [] E))/\Below W.heap.size W w' by
     intro cells hc W hW;have hb2:=bel.trans (hW.mono bel.size);exact fits138_any ((hW.block _ (zG hkl)).trans hkl) ((hW.block _ (zG hkr)).trans hkr) (HK.out.under hb2) (HV.out.under hb2) HVR.out (HG.out.under hb2) (HE.out.under hb2) cells hc (HEIN.out (by omega)) (by have:=HEL.out (by omega);omega))
    have hop2:op=14\/op=15\/op=16:=(by omega);clear hkl hkr own;rcases hop2 with rfl | rfl | rfl
    ·skip
     have hct:=zAi (w:=wr) (pl:=w.heap.size) (pr:=w.heap.size+1) (k:=k) (out:=(oi:Int)) (n:=n) (aA:=aA) (aE:=aE) (nA:=A.length) (cA:=cA) (nE:=nE) (cE:=cE) (o:=vo) (aa:=aa) (na:=A.length) (ca:=ca) (Sk.treeL V (max 1 vo.n) [] E) (fun W hW=>HCL.out (max 1 vo.n) (by have:=HVOK.out;omega) W hW);have HQ:=zE (show RR=(Sk.treeL V (max 1 vo.n) [] E==vo.elem) by rw [HRR.out];unfold Sk.fitsR;rw [if_neg (by simp)];unfold Sk.fitsT;rw [if_pos rfl];dsimp only;rw [HO.out]);generalize (Sk.treeL V (max 1 vo.n) [] E==vo.elem)=q at hct HQ;clear kt;go_wp2_with fail;refine hct.mono ?_;rintro e w8 ⟨rfl,b8⟩;go_wp2;go_ret;exact ⟨by rw [HQ.out];rfl,bel.trans (b8.mono bel.size)⟩
    ·skip
     obtain ⟨z,hz⟩:∃ z,A=[z]:=List.length_eq_one_iff.1 (by have:=HNA.out;have e:Sk.partsT.getD (15:Int).toNat 0=1:=rfl;omega);obtain ⟨f,hf⟩:∃ f,A.map (Sk.vAt V)=[f]:=⟨Sk.vAt V z,by rw [hz];rfl⟩;have hown:=HOWN.out;rw [hf] at hown;have hct:=zAj (w:=wr) (pl:=w.heap.size) (pr:=w.heap.size+1) (k:=k) (out:=(oi:Int)) (n:=n) (aA:=aA) (aE:=aE) (nA:=A.length) (cA:=cA) (nE:=nE) (cE:=cE) (o:=vo) (aa:=aa) (na:=A.length) (ca:=ca) f HGR.out hown (Sk.treeL V n [] E) (fun W hW hr=>HCL.out n (by omega) W hW);have HQ:=zE (show RR=((((Sk.goesFrom k f&&Sk.same vo f)&&decide (1<=n))&&decide (n<=300))&&(Sk.treeL V n [] E==vo.elem)) by rw [HRR.out];unfold Sk.fitsR;rw [if_neg (by simp)];unfold Sk.fitsT;rw [if_neg (by simp),if_pos rfl];dsimp only;rw [HO.out,hf];rfl);generalize ((((Sk.goesFrom k f&&Sk.same vo f)&&decide (1<=n))&&decide (n<=300))&&(Sk.treeL V n [] E==vo.elem))=q at hct HQ;clear kt;clear hz hf hown;go_wp2_with fail;refine hct.mono ?_;rintro e w8 ⟨rfl,b8⟩;go_wp2;go_ret;exact ⟨by rw [HQ.out];rfl,bel.trans (b8.mono bel.size)⟩
    ·skip
     obtain ⟨z,hz⟩:∃ z,A=[z]:=List.length_eq_one_iff.1 (by have:=HNA.out;have e:Sk.partsT.getD (16:Int).toNat 0=1:=rfl;omega);obtain ⟨f,hf⟩:∃ f,A.map (Sk.vAt V)=[f]:=⟨Sk.vAt V z,by rw [hz];rfl⟩;have hown:=HOWN.out;rw [hf] at hown;have hct:=zAk (w:=wr) (pl:=w.heap.size) (pr:=w.heap.size+1) (k:=k) (out:=(oi:Int)) (n:=n) (aA:=aA) (aE:=aE) (nA:=A.length) (cA:=cA) (nE:=nE) (cE:=cE) (o:=vo) (aa:=aa) (na:=A.length) (ca:=ca) f HGR.out hown (Sk.treeL V vo.n [] E) (fun W hW hr=>HCL.out vo.n (by have:=HVOK.out;omega) W hW);have HQ:=zE (show RR=((Sk.goesFrom k f&&Sk.arrOf vo f)&&(Sk.treeL V vo.n [] E==vo.elem)) by rw [HRR.out];unfold Sk.fitsR;rw [if_neg (by simp)];unfold Sk.fitsT;rw [if_neg (by simp),if_neg (by simp)];dsimp only;rw [HO.out,hf];rfl);generalize ((Sk.goesFrom k f&&Sk.arrOf vo f)&&(Sk.treeL V vo.n [] E==vo.elem))=q at hct HQ;clear kt;clear hz hf hown;go_wp2_with fail;refine hct.mono ?_;rintro e w8 ⟨rfl,b8⟩;go_wp2;go_ret;exact ⟨by rw [HQ.out];rfl,bel.trans (b8.mono bel.size)⟩
theorem lookFits_any {ok okR:Nat->Prop} {w:World} {b:Nat} {x:LkV} {V:List Sk.Vr} {r:Sk.Ru} {y:RuV} (hk:LkAt w b x) (hV:HVars ok w (.slice x.aV x.nV x.cV) V) (hVr:∀ v ∈ V,Sk.VrOk v) (hG:GlobK w) (hR:HRu okR w y r)
  (hform:Sk.hasForm r.op r.A.length=true) (hout:0<=r.out/\r.out<V.length) (hAin:∀ z ∈ r.A,0<=z/\z<V.length) (hEin:14<=r.op->∀ p ∈ r.E,nmd p=true->0<=p.v/\p.v<V.length) (hEl:14<=r.op->r.E.length<=24) :
  Calls Tryz.prog 115 #[.pointer (some ⟨b,0,none⟩),.agg #[.int .i64 r.op,.int .i64 r.k,.int .i64 r.out,.int .i64 r.n,.slice y.aA y.nA y.cA,.slice y.aE y.nE y.cE]] w fun e w'=>e=.returned (.bool (Sk.fitsR V r))/\Below w.heap.size w w':=by
 obtain ⟨op,k,out,n,A,E⟩:=r;obtain ⟨aA,nA,cA,aE,nE,cE⟩:=y
 dsimp only at hform hout hAin hEin hEl ⊢
 have hA:=hR.A;have hE:=hR.E
 dsimp only at hA hE
 obtain ⟨oi,rfl⟩:∃ oi:Nat,out=(oi:Int):=⟨out.toNat,by omega⟩;obtain ⟨ao,cap,ev,-⟩:=hA.at;injection ev with e1 e2 e3;subst e2;exact zAr hk hV hVr hG hA hE hform (by omega) hAin hEin hEl
end Go.Proofs.YtegakbobaecdlaaGreatDoor
