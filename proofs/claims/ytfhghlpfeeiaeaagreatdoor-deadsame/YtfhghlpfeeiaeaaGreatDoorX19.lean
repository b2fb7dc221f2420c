import Derived.Test.YtfhghlpfeeiaeaaGreatDoorX18
import Derived.Deep.Cut
import Derived.Deep.LoopGhost
import Derived.Ground.NamesProg
import Derived.IntWalk
import Derived.Laws.Cover1
import Derived.Laws.Externs
import Derived.Lib.Hide
import Derived.Lib.MakeNoZero
import Derived.Lib.SlBuf
import Derived.Shelf.Bytes.SlSmallAll
import Derived.Shelf.Lay
import Derived.WalkKit
import Derived.WalkSpells
set_option linter.unusedVariables false
set_option linter.unusedSimpArgs false
set_option maxHeartbeats 64000000
set_option maxRecDepth 100000
namespace Go.Proofs.YtfhghlpfeeiaeaaGreatDoor
open Go.RowKit Go.IntWalk
theorem zCY {α:Type} {T:Kind α} {B:Nat} {w:World} {v:Value} {l:List α} (h:OwnL T B w v l):OwnX T (fun i=>B<=i/\i<w.heap.size) w v l:=by
 have bd:=h.lt;obtain ⟨D,⟨h1,h2⟩,h3⟩:=h;refine ⟨D,⟨h1,?_⟩,fun k hk=>bd k hk,fun j hj=>T.wide (h3 j hj) fun i hi hl=>⟨⟨hi.1,hl⟩,hi.2⟩⟩;rcases h2 with h | ⟨g,cap,cur,e1,e2,e3⟩
 ·exact .inl h
 ·exact .inr ⟨g,cap,cur,e1,Nat.zero_le _,e3⟩
theorem zAV {α:Type} {T:Kind α} {ok:Nat->Prop} {B:Nat} {w:World} {v:Value} {l:List α} (h:OwnX T ok w v l) (hk:∀ i,ok i->B<=i):OwnL T B w v l:=by
 obtain ⟨D,⟨h1,h2⟩,h3,h4⟩:=h;refine ⟨D,⟨h1,?_⟩,fun j hj=>T.wide (h4 j hj) fun i hi _=>⟨hk i hi.1,hi.2⟩⟩;rcases h2 with h | ⟨g,cap,cur,e1,e2,e3⟩
 ·exact .inl h
 ·refine .inr ⟨g,cap,cur,e1,hk g (h3 g ?_),e3⟩
  rw [e1];rfl
theorem run_own {α:Type} (T:Kind α) {w:World} (t tt ty:TypeId) (ht:Tryz.prog.underlying t=some (.slice T.ty)) (B N:Nat) (v:Value) (l:List α) (cf:OwnL T B w v l) (cs:List Value) (y:α) (hE:T.E (fun i=>N<=i) w cs y)
  (Gi:w.heap.size<=N\/(N<=w.heap.size/\∀ k,v.ownBlock=some k->k<N/\(fun i=>B<=i/\i<N) k)) (Ge:B<=N) (pP:B<=w.heap.size) (hM:(l.length+1)*T.bytes<=140737488355328) (hm:l.length+1<=maxLen) (tP:T.E (fun i=>w.heap.size<=i) w cs y) :
  ∃ v' w',(Builtin.append_ #[t,t] ty #[v,.slice (some ⟨w.heap.size,0,none⟩) 1 1]).run Tryz.prog (w.alloc (.cells cs.toArray tt (0,0)))=.ok v' w'/\OwnL T B w' v' (l++[y])/\Below B w w':=by
 obtain ⟨v',w',hr,h2,h3⟩:=run_moreX T t tt ty ht w.heap.size _ v l (zCY cf) cs y tP (fun i hi=>hi.2) zBR hM hm;refine ⟨v',w',hr,zAV h2 fun i hi=>?_,?_⟩
 ·rcases hi with hi | hi
  ·exact hi.1
  ·omega
 ·have:=grown_aside (S:=[]) (B:=B) (ok:=fun i=>B<=i) h3 (fun k hk=>(cf.lt k hk).1) (fun i hi=>hi) pP
  exact this.below fun k hk=>by cases hk
theorem zCi {α:Type} (T:Kind α) {w:World} {o:Oper} {a:Act} {K:Act->World->Prop} {Q:Exit->Act->World->Prop} (s x:Operand) (t tt:TypeId)
  (ho:o.op=.call { callee:=.builtin .append,args:=#[s,x],argTypes:=#[t,t] }) (ht:Tryz.prog.underlying t=some (.slice T.ty))
  (B:Nat) (v:Value) (l:List α) (hs:a.eval s=v) (cf:OwnL T B w v l) (cs:List Value) (y:α) (hE:T.E (fun i=>w.heap.size<=i) w cs y) (hx:a.eval x=.slice (some ⟨w.heap.size,0,none⟩) 1 1)
  (pP:B<=w.heap.size) (hM:(l.length+1)*T.bytes<=140737488355328) (hm:l.length+1<=maxLen)
  (h:∀ v' w',OwnL T B w' v' (l++[y])->Below B w w'->K (a.put o.dst v') w') :
  Oper.wp Tryz.prog o a (w.alloc (.cells cs.toArray tt (0,0))) K Q:=by
 obtain ⟨v',w',hr,h2,h3⟩:=run_own T t tt o.type ht B w.heap.size v l cf cs y hE (.inl zBR) pP pP hM hm hE;unfold Oper.wp execOp;simp only [ho,resolve,invoke,builtin,Sem.run_bind,Sem.run_pure,Result.andThen_ok,List.map_toArray,List.map_cons,List.map_nil,hs,hx,hr];exact h v' w' h2 h3
theorem Tryz.infoV:(Tryz.prog.info? 39).map (fun i=>(i.zero,i.size,i.bytes))=some (some (.agg #[.int .u8 0,.int .i64 0]),2,16):=by kernel_rfl
def kVar:Kind Sk.Vr where
 ty:=39
 k:=2
 bytes:=16
 zero:=.agg #[.int .u8 0,.int .i64 0]
 E:=fun _ _ cs v=>cs=[.int .u8 v.elem,.int .i64 v.n]
 pos:=by decide
 zs:=rfl
 info:=Tryz.infoV
 len:=by rintro _ _ _ _ rfl;rfl
 one:=by rintro _ _ _ _ rfl;intro u hu;simp at hu;rcases hu with rfl | rfl<;>rfl
 keep:=by rintro _ _ _ _ _ rfl _ _;rfl
 wide:=by rintro _ _ _ _ _ rfl _;rfl
theorem vars_row {ok:Nat->Prop} {w:World} {v:Value} {l:List Sk.Vr} (h:HRow kVar ok w v l):HVars ok w v l:=h
structure LfAt (w wr:World) (b tb:Nat) (op k n:Int) (oi:Nat) (aA aE:Option Addr) (cA nE cE:Nat) (A:List Int) (vo:Sk.Vr) (V:List Sk.Vr) (i:Nat):Prop where
 jH:Below w.heap.size w wr
 le:w.heap.size+2<=tb
 kl:wr.heap[w.heap.size]?=some (.cells #[.pointer (some ⟨b,0,none⟩)] 77 (0,0))
 kr:wr.heap[w.heap.size+1]?=some (.cells #[.int .i64 op,.int .i64 k,.int .i64 (oi:Int),.int .i64 n,.slice aA A.length cA,.slice aE nE cE] 42 (0,0))
 row:∃ aa ca,wr.heap[tb]?=some (.cells #[.int .i64 op,.int .i64 k,.int .i64 (oi:Int),.int .i64 n,.slice aA A.length cA,.slice aE nE cE,.int .u8 vo.elem,.int .i64 vo.n,.slice aa i ca] 109 (0,0))/\OwnL kVar (tb+1) wr (.slice aa i ca) ((A.take i).map (Sk.vAt V))
theorem zBB {ok mH:Nat->Prop} {w:World} {b:Nat} {x:LkV} {V:List Sk.Vr} {op k n:Int} {oi:Nat} {aA aE:Option Addr} {cA nE cE:Nat} {A:List Int} {E:List Pu} (hk:LkAt w b x) (hV:HVars ok w (.slice x.aV x.nV x.cV) V) (gj:∀ v ∈ V,Sk.VrOk v) (hG:GlobK w) (hA:HInts mH w (.slice aA A.length cA) A) (hE:HPu mH w (.slice aE nE cE) E)
  (cw:Sk.hasForm op A.length=true) (xw:oi<V.length) (pN:∀ z ∈ A,0<=z/\z<V.length) (pQ:14<=op->∀ p ∈ E,nmd p=true->0<=p.v/\p.v<V.length) (fo:14<=op->E.length<=24) :
  Calls Tryz.prog 72 #[.pointer (some ⟨b,0,none⟩),.agg #[.int .i64 op,.int .i64 k,.int .i64 (oi:Int),.int .i64 n,.slice aA A.length cA,.slice aE nE cE]] w fun e w'=>e=.returned (.bool (Sk.fitsR V ⟨op,k,(oi:Int),n,A,E⟩))/\Below w.heap.size w w':=by
 obtain ⟨ao,cap,hv,q1,q2,bo⟩:=hV.at;injection hv with v1 v2 v3;obtain ⟨bl,ol,ov,yl,x0,y0⟩:=bo oi xw;rw [ov] at v1;have lv:∀ i (h:i<V.length),w.cell? ⟨bl,ol+i*2,none⟩=some (.int .u8 (V[i]).elem)/\w.cell? ⟨bl,ol+i*2+1,none⟩=some (.int .i64 (V[i]).n):=by
  intro i hi;obtain ⟨QL,RE,Bg,_,Qf,Qi⟩:=bo i hi;rw [ov] at Bg;injection Bg with e;injection e with e1 e2;subst e1 e2;exact ⟨Qf,Qi⟩
 unfold LkAt at hk;have iI:=coQ hk 0;simp only [gT,gZ] at iI;rw [v1,v2,v3] at iI;have yb:=zBM hk;unfold maxLen at q2;have eb:1<=op/\op<=16:=by
  unfold Sk.hasForm at cw;simp at cw;omega
 have oH:(A.length:Int)=Sk.partsT.getD op.toNat 0:=by
  unfold Sk.hasForm at cw;rw [Bool.and_eq_true,beq_iff_eq] at cw;exact cw.2
 have Gd:A.length<=3:=by
  have H:∀ t ∈ Sk.partsT,t<=3:=(by decide);rw [List.getD_eq_getElem?_getD] at oH
  cases e:Sk.partsT[op.toNat]? with
  | none=>rw [e] at oH;have h0:(A.length:Int)=0:=oH;omega
  | some t=>rw [e] at oH;have:=H t (List.mem_of_getElem? e);have h0:(A.length:Int)=t:=oH;omega
 obtain ⟨vo,D9⟩:=nmQ (V[oi]);have CE:Sk.vAt V (oi:Int)=vo:=(by rw [D9];exact zBo xw);rw [<-D9] at x0 y0;have b1:Below w.heap.size w ((w.alloc (.cells #[.pointer (some ⟨b,0,none⟩)] 77 (0,0))).alloc (.cells #[.int .i64 op,.int .i64 k,.int .i64 (oi:Int),.int .i64 n,.slice aA A.length cA,.slice aE nE cE] 42 (0,0))):=((Below.refl _ _).alloc zBR _).alloc (by simp) _;have kl:((w.alloc (.cells #[.pointer (some ⟨b,0,none⟩)] 77 (0,0))).alloc (.cells #[.int .i64 op,.int .i64 k,.int .i64 (oi:Int),.int .i64 n,.slice aA A.length cA,.slice aE nE cE] 42 (0,0))).heap[w.heap.size]?=some (.cells #[.pointer (some ⟨b,0,none⟩)] 77 (0,0)):=(Below.heap_alloc _ _ _ (by simp)).trans (zBO w _);have kr:((w.alloc (.cells #[.pointer (some ⟨b,0,none⟩)] 77 (0,0))).alloc (.cells #[.int .i64 op,.int .i64 k,.int .i64 (oi:Int),.int .i64 n,.slice aA A.length cA,.slice aE nE cE] 42 (0,0))).heap[w.heap.size+1]?=some (.cells #[.int .i64 op,.int .i64 k,.int .i64 (oi:Int),.int .i64 n,.slice aA A.length cA,.slice aE nE cE] 42 (0,0)):=by
  have:=zBO (w.alloc (.cells #[.pointer (some ⟨b,0,none⟩)] 77 (0,0))) (.cells #[.int .i64 op,.int .i64 k,.int .i64 (oi:Int),.int .i64 n,.slice aA A.length cA,.slice aE nE cE] 42 (0,0))
  simpa using this
 have k0:=(b1.cell (p:=⟨b,0,none⟩) yb).trans iI;have X0:=(b1.cell (p:=⟨bl,ol+oi*2,none⟩) yl).trans x0;have Y0:=(b1.cell (p:=⟨bl,ol+oi*2+1,none⟩) yl).trans y0;have iX:b<((w.alloc (.cells #[.pointer (some ⟨b,0,none⟩)] 77 (0,0))).alloc (.cells #[.int .i64 op,.int .i64 k,.int .i64 (oi:Int),.int .i64 n,.slice aA A.length cA,.slice aE nE cE] 42 (0,0))).heap.size:=Nat.lt_of_lt_of_le yb b1.size;have bP:bl<((w.alloc (.cells #[.pointer (some ⟨b,0,none⟩)] 77 (0,0))).alloc (.cells #[.int .i64 op,.int .i64 k,.int .i64 (oi:Int),.int .i64 n,.slice aA A.length cA,.slice aE nE cE] 42 (0,0))).heap.size:=Nat.lt_of_lt_of_le yl b1.size;obtain ⟨AO,pJ,pK,Gy,Bl,-⟩:=hA.at;injection pK with NM NN JU;rw [<-JU] at Gy Bl;unfold maxLen at Bl;obtain ⟨RR,gi⟩:=nmQ (Sk.fitsR V ⟨op,k,(oi:Int),n,A,E⟩);rw [<-gi];have fE:=zBK gi;have HA:=zBK hA;have HE:=zBK hE;have HK:=zBK (show LkAt w b x from hk);have HV:=zBK hV;have kv:=zBK gj;have HG:=zBK hG;have tw:=zBK lv;have HO:=zBK CE;have QF:=zBK D9;have Dn:=zBK oH;have pg:=zBK cw;have zM:=zBK pN;have EJ:=zBK pQ;have nn:=zBK fo;have qN:=zBK iI;have yL:=yl;have yB:=yb;clear gi hA hE hk hV gj hG bo lv D9 oH cw pN pQ fo NM NN JU v1 v2 v3 ov iI x0 y0 yl yb CE;obtain ⟨L,hL⟩:=nmQ (V.length);rw [<-hL] at k0 q1 xw;have HL:=zBK hL;clear hL;go_enter Tryz.func72,Tryz.ntmps72;go_upto_region 1 with fail;generalize (w.alloc (.cells #[.pointer (some ⟨b,0,none⟩)] 77 (0,0))).alloc (.cells #[.int .i64 op,.int .i64 k,.int .i64 (oi:Int),.int .i64 n,.slice aA A.length cA,.slice aE nE cE] 42 (0,0))=w1 at b1 kl kr k0 X0 Y0 iX bP ⊢;have l0:=coQ kl 0;simp at l0;have ye:=zBM kl;have c0:=coQ kr 0;have c1:=coQ kr 1;have c2:=coQ kr 2;have c3:=coQ kr 3;have c4:=coQ kr 4;have c5:=coQ kr 5;simp at c0 c1 c2 c3 c4 c5;have yr:=zBM kr;have aM:=zBK (fun (wz:World) (hSw:Below w1.heap.size w1 wz)=>And.intro ((hSw.cell (p:=⟨w.heap.size,0,none⟩) ye).trans l0) (And.intro ((hSw.cell (p:=⟨w.heap.size+1,0,none⟩) yr).trans c0) (And.intro ((hSw.cell (p:=⟨w.heap.size+1,1,none⟩) yr).trans c1) (And.intro ((hSw.cell (p:=⟨w.heap.size+1,2,none⟩) yr).trans c2) (And.intro ((hSw.cell (p:=⟨w.heap.size+1,3,none⟩) yr).trans c3) (And.intro ((hSw.cell (p:=⟨w.heap.size+1,4,none⟩) yr).trans c4) (And.intro ((hSw.cell (p:=⟨w.heap.size+1,5,none⟩) yr).trans c5) (And.intro ((hSw.cell (p:=⟨b,0,none⟩) iX).trans k0) (And.intro ((hSw.cell (p:=⟨bl,ol+oi*2,none⟩) bP).trans X0) ((hSw.cell (p:=⟨bl,ol+oi*2+1,none⟩) bP).trans Y0))))))))));refine zBP (fun w'=>Below w1.heap.size w1 w') (fun _=>false) (by kernel_rfl) ?_;have ab:Below w1.heap.size w1 w1.drew:=(Below.refl _ _).drew;generalize w1.drew=ag at ab ⊢;refine' tkQ 0 8 ab ?hyv ?o1
 case hyv=>
  intro wz hSw;have bk:=aM.out wz hSw;go_simp
  try rfl
 try simp only [Act.put,sT,sZ,sS]
 refine' tkQ 1 9 ab ?hyv ?o2
 case hyv=>
  intro wz hSw;have bk:=aM.out wz hSw;go_simp
  try rfl
 try simp only [Act.put,sT,sZ,sS]
 refine' tkR 2 10 ab ?o3
 refine' tkR 3 11 ab ?o4
 refine' tkR 4 12 ab ?o5
 refine' tkQ 5 13 ab ?hyv ?o6
 case hyv=>
  intro wz hSw;have bk:=aM.out wz hSw;go_simp
  try rfl
 try simp only [Act.put,sT,sZ,sS]
 refine' tkR 6 14 ab ?o7
 refine' tkQ 7 15 ab ?hyv ?o8
 case hyv=>
  intro wz hSw;have bk:=aM.out wz hSw;go_simp
  try rfl
 try simp only [Act.put,sT,sZ,sS]
 refine' tkR 8 16 ab ?o9
 refine' tkQ 9 17 ab ?hyv ?o10
 case hyv=>
  intro wz hSw;have bk:=aM.out wz hSw;go_simp
  try rfl
 try simp only [Act.put,sT,sZ,sS]
 refine' tkR 10 18 ab ?o11
 refine tnQ 11 (fun K hK=>?_);go_simp;have af:Below w1.heap.size w1 (ag.alloc (.cells #[.int .i64 0,.int .i64 0,.int .i64 0,.int .i64 0,.slice none 0 0,.slice none 0 0,.int .u8 0,.int .i64 0,.slice none 0 0] 109 (0,0))):=ab.alloc ab.size _;have dP:=zBO ag (.cells #[.int .i64 0,.int .i64 0,.int .i64 0,.int .i64 0,.slice none 0 0,.slice none 0 0,.int .u8 0,.int .i64 0,.slice none 0 0] 109 (0,0));have tn:=ab.size;refine hK.out _ _ (fun _=>af) ?_;clear hK K
 try simp only [Act.put,sT,sZ,sS]
 have C1:(ag.alloc (.cells #[.int .i64 0,.int .i64 0,.int .i64 0,.int .i64 0,.slice none 0 0,.slice none 0 0,.int .u8 0,.int .i64 0,.slice none 0 0] 109 (0,0))).heap.size=ag.heap.size+1:=(by simp);generalize ag.alloc (.cells #[.int .i64 0,.int .i64 0,.int .i64 0,.int .i64 0,.slice none 0 0,.slice none 0 0,.int .u8 0,.int .i64 0,.slice none 0 0] 109 (0,0))=aw at af dP C1 ⊢;refine tnQ 12 (fun K hK=>?_);have cJ:=coQ dP 0;have eO:=foQ dP 0;have cW:=coQ dP 1;have fl:=foQ dP 1;have lj:=coQ dP 2;have rh:=foQ dP 2;have jC:=coQ dP 3;have sg:=foQ dP 3;have uR:=coQ dP 4;have NW:=foQ dP 4;have uS:=coQ dP 5;have NX:=foQ dP 5;have Mi:=coQ dP 6;have NY:=foQ dP 6;have Mj:=coQ dP 7;have NZ:=foQ dP 7;have Eh:=coQ dP 8;have JZ:=foQ dP 8;simp at cJ cW lj jC uR uS Mi Mj Eh;have KR:=zBQ (zBQ (zBQ (zBQ (zBQ (zBQ (zBQ (zBQ (zBQ (dP) 0 (.int .i64 op)) 1 (.int .i64 k)) 2 (.int .i64 (oi:Int))) 3 (.int .i64 n)) 4 (.slice aA A.length cA)) 5 (.slice aE nE cE)) 6 (.int .u8 vo.elem)) 7 (.int .i64 vo.n)) 8 (.slice none 0 0);have ay:=(((((((((af).setCell (p:=⟨ag.heap.size,0,none⟩) ab.size (.int .i64 op)).setCell (p:=⟨ag.heap.size,1,none⟩) ab.size (.int .i64 k)).setCell (p:=⟨ag.heap.size,2,none⟩) ab.size (.int .i64 (oi:Int))).setCell (p:=⟨ag.heap.size,3,none⟩) ab.size (.int .i64 n)).setCell (p:=⟨ag.heap.size,4,none⟩) ab.size (.slice aA A.length cA)).setCell (p:=⟨ag.heap.size,5,none⟩) ab.size (.slice aE nE cE)).setCell (p:=⟨ag.heap.size,6,none⟩) ab.size (.int .u8 vo.elem)).setCell (p:=⟨ag.heap.size,7,none⟩) ab.size (.int .i64 vo.n)).setCell (p:=⟨ag.heap.size,8,none⟩) ab.size (.slice none 0 0);go_simp;refine hK.out _ _ (fun _=>ay) ?_;clear hK K
 try simp only [Act.put,sT,sZ,sS]
 clear cJ eO cW fl lj rh jC sg uR NW uS NX Mi NY Mj NZ Eh JZ;generalize (((((((((aw).setCell ⟨ag.heap.size,0,none⟩ (.int .i64 op)).setCell ⟨ag.heap.size,1,none⟩ (.int .i64 k)).setCell ⟨ag.heap.size,2,none⟩ (.int .i64 (oi:Int))).setCell ⟨ag.heap.size,3,none⟩ (.int .i64 n)).setCell ⟨ag.heap.size,4,none⟩ (.slice aA A.length cA)).setCell ⟨ag.heap.size,5,none⟩ (.slice aE nE cE)).setCell ⟨ag.heap.size,6,none⟩ (.int .u8 vo.elem)).setCell ⟨ag.heap.size,7,none⟩ (.int .i64 vo.n)).setCell ⟨ag.heap.size,8,none⟩ (.slice none 0 0)=aJ at ay KR ⊢;simp at KR;refine zBN (by kernel_rfl) ?_ _;have B2:=b1.trans (ay.mono b1.size);have m7:=(ay.block _ ye).trans kl;have oF:=(ay.block _ yr).trans kr;have hle:w.heap.size+2<=ag.heap.size:=(by have h1:=yr;have h2:=ab.size;omega);generalize ag.heap.size=tb at KR hle ⊢;have Fa:=zBK (show LfAt w aJ b tb op k n oi aA aE cA nE cE A vo V 0 from ⟨B2,hle,m7,oF,none,0,KR,OwnL.nil⟩);generalize aJ=w5 at Fa oF ⊢;have DF:=coQ oF 4;simp at DF;clear B2 m7 KR ay ab k0 X0 Y0 kl kr b1 l0 ye c0 c1 c2 c3 c4 c5 yr iX bP;go_wp2_with fail;go_loopg [22] A.length (fun kk v wr=>∃ i,i<=A.length/\kk=A.length-i/\v=.int .i64 (i:Nat)/\Hid (LfAt w wr b tb op k n oi aA aE cA nE cE A vo V i))
 case atStart=>exact ⟨0,Nat.zero_le _,rfl,rfl,Fa⟩
 case round=>
  clear Fa oF DF;obtain ⟨i,hi,rfl,rfl,HF⟩:=hrel;obtain ⟨jH,hle,m7,oF,aa,ca,kt,own⟩:=HF.out;clear HF;have zt:tb+1<=wr.heap.size:=zBM kt;by_cases bd:i<A.length
  case pos=>
   obtain ⟨gw,dk,eqs,-,-,gM⟩:=(HA.out.under jH).at;injection eqs with e1 e2 e3;obtain ⟨bA,oA,jT,yA,eA⟩:=gM i bd;rw [jT] at e1;subst e1;have hz:=zM.out A[i] (List.getElem_mem bd);obtain ⟨vi,Hr⟩:∃ vi:Nat,A[i]=(vi:Int):=⟨(A[i]).toNat,by omega⟩;have Hs:vi<V.length:=(by omega);rw [Hr] at eA;obtain ⟨xv,yv⟩:=tw.out vi Hs;obtain ⟨va,xH⟩:=nmQ (V[vi]);rw [<-xH] at xv yv;have XV:=(jH.cell (p:=⟨bl,ol+vi*2,none⟩) yL).trans xv;have YV:=(jH.cell (p:=⟨bl,ol+vi*2+1,none⟩) yL).trans yv;have CL:=(jH.cell (p:=⟨b,0,none⟩) yB).trans qN.out;have Nh:=zBK (show (A.take (i+1)).map (Sk.vAt V)=(A.take i).map (Sk.vAt V)++[va] by
    rw [List.take_succ_eq_append_getElem bd,List.map_append,List.map_cons,List.map_nil,Hr,zBo Hs,xH])
   have rS:=zBK (show ((A.take i).map (Sk.vAt V)).length=i by rw [List.length_map,List.length_take];omega);rw [<-HL.out] at CL Hs;have l0:=coQ m7 0;have t8:=coQ kt 8;simp at l0 t8;have y1:b<tb+1:=(by omega);have y2:bl<tb+1:=(by omega);have y3:w.heap.size<tb+1:=(by omega);have y4:tb<tb+1:=(by omega);have q5:(((A.take i).map (Sk.vAt V)).length+1)*16<=140737488355328:=(by rw [rS.out];omega);have q6:((A.take i).map (Sk.vAt V)).length+1<=maxLen:=(by rw [rS.out];unfold maxLen;omega);have MO:=zBK m7;have mi:=zBK oF;clear gM e2 e3 jT hz Hr xv yv xH m7 oF;go_upto_region 5 with fail;have aM:=zBK (fun (wz:World) (hSw:Below (tb+1) wr wz)=>And.intro ((hSw.cell (p:=⟨w.heap.size,0,none⟩) y3).trans l0) (And.intro ((hSw.cell (p:=⟨tb,8,none⟩) y4).trans t8) (And.intro ((hSw.cell (p:=⟨b,0,none⟩) y1).trans CL) (And.intro ((hSw.cell (p:=⟨bl,ol+vi*2,none⟩) y2).trans XV) ((hSw.cell (p:=⟨bl,ol+vi*2+1,none⟩) y2).trans YV)))));refine zBP (fun w'=>Below (tb+1) wr w') (fun i=>i==13) (by kernel_rfl) ?_;have ab:Below (tb+1) wr wr.drew:=(Below.refl _ _).drew;have CW:OwnL kVar (tb+1) wr.drew (.slice aa i ca) ((A.take i).map (Sk.vAt V)):=own;generalize wr.drew=ag at ab CW ⊢;refine' tkR 0 26 ab ?o12
   refine' tkQ 1 27 ab ?hyv ?o13
   case hyv=>
    intro wz hSw;have bk:=aM.out wz hSw;go_simp
    try rfl
   try simp only [Act.put,sT,sZ,sS]
   refine' tkQ 2 28 ab ?hyv ?o14
   case hyv=>
    intro wz hSw;have bk:=aM.out wz hSw;go_simp
    try rfl
   try simp only [Act.put,sT,sZ,sS]
   refine' tkR 3 29 ab ?o15
   refine' tkR 4 30 ab ?o16
   refine' tkR 5 31 ab ?o17
   refine' tkQ 6 32 ab ?hyv ?o18
   case hyv=>
    intro wz hSw;have bk:=aM.out wz hSw;go_simp
    try rfl
   try simp only [Act.put,sT,sZ,sS]
   refine' tkR 7 33 ab ?o19
   refine' tkR 8 34 ab ?o20
   refine' tkQ 9 35 ab ?hyv ?o21
   case hyv=>
    intro wz hSw;have bk:=aM.out wz hSw;go_simp
    try rfl
   try simp only [Act.put,sT,sZ,sS]
   refine tnQ 10 (fun K hK=>?_);go_simp;have af:Below (tb+1) wr (ag.alloc (.cells #[.int .u8 va.elem,.int .i64 va.n] 39 (0,0))):=ab.alloc (Nat.le_trans zt ab.size) _;refine hK.out _ _ (fun _=>af) ?_;clear hK K
   try simp only [Act.put,sT,sZ,sS]
   refine tnQ 11 (fun K hK=>?_);refine zCi kVar _ _ 22 39 rfl Tryz.underlying22 (tb+1) _ _ (by rfl) CW [.int .u8 va.elem,.int .i64 va.n] va rfl (by rfl) (Nat.le_trans zt ab.size) q5 q6 ?_;intro v8 aJ aG b8;obtain ⟨a8,c8,e8,-,-⟩:=aG.form;rw [List.length_append,rS.out,List.length_singleton] at e8;subst e8;rw [<-Nh.out] at aG;have ay:Below (tb+1) wr aJ:=ab.trans b8;refine hK.out _ _ (fun _=>ay) ?_;clear hK K
   try simp only [Act.put,sT,sZ,sS]
   refine' tkR 12 38 ay ?o22
   refine tnQ 13 (fun K hK=>?_);have Ii:=(ay.block tb y4).trans kt;have Eh:=coQ Ii 8;have JZ:=foQ Ii 8;simp at Eh;have KT:=zBQ Ii 8 (.slice a8 (i+1) c8);have iE:=aG.set (p:=⟨tb,8,none⟩) y4 (.slice a8 (i+1) c8);have pH:Below w.heap.size w (aJ.setCell ⟨tb,8,none⟩ (.slice a8 (i+1) c8)):=(jH.trans (ay.mono (by omega))).setCell (p:=⟨tb,8,none⟩) (by show w.heap.size<=tb;omega) (.slice a8 (i+1) c8);have qe:(aJ.setCell ⟨tb,8,none⟩ (.slice a8 (i+1) c8)).heap[w.heap.size]?=_:=zBT ((ay.block w.heap.size y3).trans MO.out) (by show tb≠w.heap.size;omega) _;have qg:(aJ.setCell ⟨tb,8,none⟩ (.slice a8 (i+1) c8)).heap[w.heap.size+1]?=_:=zBT ((ay.block (w.heap.size+1) (by omega)).trans mi.out) (by show tb≠w.heap.size+1;omega) _;have jl:=zBK (And.intro iE (And.intro KT (And.intro pH (And.intro qe qg))));clear iE KT pH qe qg aG;go_simp;refine hK.out _ _ (fun h=>absurd h (by decide)) ?_;clear hK K
   try simp only [Act.put,sT,sZ,sS]
   generalize aJ.setCell ⟨tb,8,none⟩ (.slice a8 (i+1) c8)=bF at jl ⊢;refine zBN (by kernel_rfl) ?_ _;obtain ⟨iE,KT,pH,qe,qg⟩:=jl.out;simp at KT;have MG:=zBK (show LfAt w bF b tb op k n oi (some ⟨bA,oA,none⟩) aE cA nE cE A vo V (i+1) from ⟨pH,hle,qe,qg,a8,c8,KT,iE⟩);clear iE KT pH qe qg jl;go_wp2_with fail;go_roundg (A.length-(i+1))
   case measure=>omega
   case rel=>exact ⟨i+1,by omega,rfl,by go_num,MG⟩
  case neg=>
   have bp:i=A.length:=(by omega);subst bp;rw [List.take_length] at own;have fR:=zBK (vars_row own.row);have HB:=zBK (show ∀ v ∈ A.map (Sk.vAt V),0<=v.n/\v.n<=300 by
    intro v hv;obtain ⟨z,hz,rfl⟩:=List.mem_map.1 hv;exact (Sk.vAt_ok kv.out (zM.out z hz)).2)
   have vR:=zBK (show 0<=vo.n/\vo.n<=300 from by rw [<-HO.out];exact (Sk.vAt_ok kv.out ⟨by omega,by have:=HL.out;omega⟩).2);have r0:=coQ oF 0;simp at r0;have t0:=coQ kt 0;have t1:=coQ kt 1;have t2:=coQ kt 2;have t3:=coQ kt 3;have t4:=coQ kt 4;have t5:=coQ kt 5;have t6:=coQ kt 6;have t7:=coQ kt 7;have t8:=coQ kt 8;simp at t0 t1 t2 t3 t4 t5 t6 t7 t8;have zX:=zBK (HG.out.under jH);have Fi:=zBK (show (((A.map (Sk.vAt V)).length:Nat):Int)=Sk.partsT.getD op.toNat 0 by rw [List.length_map];exact Dn.out);by_cases mX:op<14
   case pos=>
    have cZ:=fits_any ⟨op,k,(oi:Int),n,aA,A.length,cA,aE,nE,cE,vo⟩ (A.map (Sk.vAt V)) wr zX.out fR.out eb.1 (by show op<=13;omega) Fi.out HB.out vR.out
    dsimp only at cZ
    have HQ:=zBK (show RR=Sk.fits op k n vo (A.map (Sk.vAt V)) by rw [fE.out];unfold Sk.fitsR;rw [if_pos mX,HO.out]);generalize Sk.fits op k n vo (A.map (Sk.vAt V))=q at cZ HQ;clear m7 oF kt own;go_wp2_with fail;refine cZ.mono ?_;rintro e w8 ⟨rfl,b8⟩;go_wp2;go_ret;exact ⟨by rw [HQ.out];rfl,jH.trans (b8.mono jH.size)⟩
   case neg=>
    have mR:=zBK (show ∀ (cells:Int),0<=cells/\cells<=300->∀ W,Below wr.heap.size wr W->Calls Tryz.prog 85 #[.int .i64 cells,.pointer (some ⟨w.heap.size,0,none⟩),.pointer (some ⟨w.heap.size+1,0,none⟩)] W fun e w'=>e=.returned (.int .u8 (Sk.treeL V cells [] E))/\Below W.heap.size W w' by
     intro cells hc W hW;have lb:=jH.trans (hW.mono jH.size);exact fits138_any ((hW.block _ (zBM m7)).trans m7) ((hW.block _ (zBM oF)).trans oF) (HK.out.under lb) (HV.out.under lb) kv.out (HG.out.under lb) (HE.out.under lb) cells hc (EJ.out (by omega)) (by have:=nn.out (by omega);omega))
    have G8:op=14\/op=15\/op=16:=(by omega);clear m7 oF own;rcases G8 with rfl | rfl | rfl
    ·skip
     have cZ:=zAj (w:=wr) (pl:=w.heap.size) (pr:=w.heap.size+1) (k:=k) (out:=(oi:Int)) (n:=n) (aA:=aA) (aE:=aE) (nA:=A.length) (cA:=cA) (nE:=nE) (cE:=cE) (o:=vo) (aa:=aa) (na:=A.length) (ca:=ca) (Sk.treeL V (max 1 vo.n) [] E) (fun W hW=>mR.out (max 1 vo.n) (by have:=vR.out;omega) W hW);have HQ:=zBK (show RR=(Sk.treeL V (max 1 vo.n) [] E==vo.elem) by rw [fE.out];unfold Sk.fitsR;rw [if_neg (by simp)];unfold Sk.fitsT;rw [if_pos rfl];dsimp only;rw [HO.out]);generalize (Sk.treeL V (max 1 vo.n) [] E==vo.elem)=q at cZ HQ;clear kt;go_wp2_with fail;refine cZ.mono ?_;rintro e w8 ⟨rfl,b8⟩;go_wp2;go_ret;exact ⟨by rw [HQ.out];rfl,jH.trans (b8.mono jH.size)⟩
    ·skip
     obtain ⟨z,hz⟩:∃ z,A=[z]:=List.length_eq_one_iff.1 (by have:=Dn.out;have e:Sk.partsT.getD (15:Int).toNat 0=1:=rfl;omega);obtain ⟨f,hf⟩:∃ f,A.map (Sk.vAt V)=[f]:=⟨Sk.vAt V z,by rw [hz];rfl⟩;have cf:=fR.out;rw [hf] at cf;have cZ:=zAk (w:=wr) (pl:=w.heap.size) (pr:=w.heap.size+1) (k:=k) (out:=(oi:Int)) (n:=n) (aA:=aA) (aE:=aE) (nA:=A.length) (cA:=cA) (nE:=nE) (cE:=cE) (o:=vo) (aa:=aa) (na:=A.length) (ca:=ca) f zX.out cf (Sk.treeL V n [] E) (fun W hW hr=>mR.out n (by omega) W hW);have HQ:=zBK (show RR=((((Sk.goesFrom k f&&Sk.same vo f)&&decide (1<=n))&&decide (n<=300))&&(Sk.treeL V n [] E==vo.elem)) by rw [fE.out];unfold Sk.fitsR;rw [if_neg (by simp)];unfold Sk.fitsT;rw [if_neg (by simp),if_pos rfl];dsimp only;rw [HO.out,hf];rfl);generalize ((((Sk.goesFrom k f&&Sk.same vo f)&&decide (1<=n))&&decide (n<=300))&&(Sk.treeL V n [] E==vo.elem))=q at cZ HQ;clear kt;clear hz hf cf;go_wp2_with fail;refine cZ.mono ?_;rintro e w8 ⟨rfl,b8⟩;go_wp2;go_ret;exact ⟨by rw [HQ.out];rfl,jH.trans (b8.mono jH.size)⟩
    ·skip
     obtain ⟨z,hz⟩:∃ z,A=[z]:=List.length_eq_one_iff.1 (by have:=Dn.out;have e:Sk.partsT.getD (16:Int).toNat 0=1:=rfl;omega);obtain ⟨f,hf⟩:∃ f,A.map (Sk.vAt V)=[f]:=⟨Sk.vAt V z,by rw [hz];rfl⟩;have cf:=fR.out;rw [hf] at cf;have cZ:=zAl (w:=wr) (pl:=w.heap.size) (pr:=w.heap.size+1) (k:=k) (out:=(oi:Int)) (n:=n) (aA:=aA) (aE:=aE) (nA:=A.length) (cA:=cA) (nE:=nE) (cE:=cE) (o:=vo) (aa:=aa) (na:=A.length) (ca:=ca) f zX.out cf (Sk.treeL V vo.n [] E) (fun W hW hr=>mR.out vo.n (by have:=vR.out;omega) W hW);have HQ:=zBK (show RR=((Sk.goesFrom k f&&Sk.arrOf vo f)&&(Sk.treeL V vo.n [] E==vo.elem)) by rw [fE.out];unfold Sk.fitsR;rw [if_neg (by simp)];unfold Sk.fitsT;rw [if_neg (by simp),if_neg (by simp)];dsimp only;rw [HO.out,hf];rfl);generalize ((Sk.goesFrom k f&&Sk.arrOf vo f)&&(Sk.treeL V vo.n [] E==vo.elem))=q at cZ HQ;clear kt;clear hz hf cf;go_wp2_with fail;refine cZ.mono ?_;rintro e w8 ⟨rfl,b8⟩;go_wp2;go_ret;exact ⟨by rw [HQ.out];rfl,jH.trans (b8.mono jH.size)⟩
theorem lookFits_any {ok mH:Nat->Prop} {w:World} {b:Nat} {x:LkV} {V:List Sk.Vr} {r:Sk.Ru} {y:RuV} (hk:LkAt w b x) (hV:HVars ok w (.slice x.aV x.nV x.cV) V) (gj:∀ v ∈ V,Sk.VrOk v) (hG:GlobK w) (hR:HRu mH w y r)
  (cw:Sk.hasForm r.op r.A.length=true) (fX:0<=r.out/\r.out<V.length) (pN:∀ z ∈ r.A,0<=z/\z<V.length) (pQ:14<=r.op->∀ p ∈ r.E,nmd p=true->0<=p.v/\p.v<V.length) (fo:14<=r.op->r.E.length<=24) :
  Calls Tryz.prog 72 #[.pointer (some ⟨b,0,none⟩),.agg #[.int .i64 r.op,.int .i64 r.k,.int .i64 r.out,.int .i64 r.n,.slice y.aA y.nA y.cA,.slice y.aE y.nE y.cE]] w fun e w'=>e=.returned (.bool (Sk.fitsR V r))/\Below w.heap.size w w':=by
 obtain ⟨op,k,out,n,A,E⟩:=r;obtain ⟨aA,nA,cA,aE,nE,cE⟩:=y
 dsimp only at cw fX pN pQ fo ⊢
 have hA:=hR.A;have hE:=hR.E
 dsimp only at hA hE
 obtain ⟨oi,rfl⟩:∃ oi:Nat,out=(oi:Int):=⟨out.toNat,by omega⟩;obtain ⟨ao,cap,ev,-⟩:=hA.at;injection ev with e1 e2 e3;subst e2;exact zBB hk hV gj hG hA hE cw (by omega) pN pQ fo
end Go.Proofs.YtfhghlpfeeiaeaaGreatDoor
