import Derived.Test.YtfhghlpfeeiaeaaGreatDoorX17
import Derived.Deep.Cut
import Derived.Deep.LoopGhost
import Derived.Ground.NamesProg
import Derived.IntWalk
import Derived.Laws.Cover1
import Derived.Laws.Externs
import Derived.Lib.Hide
import Derived.Lib.MakeNoZero
import Derived.Lib.SlBuf
import Derived.Shelf.Bytes.SlSmallAll
import Derived.Shelf.Lay
import Derived.WalkKit
import Derived.WalkSpells
set_option linter.unusedVariables false
set_option linter.unusedSimpArgs false
set_option maxHeartbeats 64000000
set_option maxRecDepth 100000
namespace Go.Proofs.YtfhghlpfeeiaeaaGreatDoor
open Go.RowKit Go.IntWalk
theorem zBo {V:List Sk.Vr} {i:Nat} (h:i<V.length):Sk.vAt V (i:Int)=V[i]:=by
 unfold Sk.vAt;simp [List.getD_eq_getElem?_getD,h]
theorem effect_any {ok kh:Nat->Prop} {w:World} {b:Nat} {x:LkV} {V:List Sk.Vr} (hk:LkAt w b x) (hV:HVars ok w (.slice x.aV x.nV x.cV) V) (gj:∀ v ∈ V,Sk.VrOk v) (hG:GlobK w) (p:Pu) (cells:Int) (hc:0<=cells/\cells<=300) (bp:nmd p=true->0<=p.v/\p.v<V.length) {sv:Value} {st:List Int} (hs:HBy kh w sv st) :
  Calls Tryz.prog 99 #[.pointer (some ⟨b,0,none⟩),pv p,.int .i64 cells,sv] w fun r w'=>∃ u,r=.returned (.tuple #[u,.int .u8 (Sk.effect V p cells st).2])/\HBy (fun i=>w.heap.size<=i) w' u (Sk.effect V p cells st).1/\Below w.heap.size w w':=by
 obtain ⟨op,k,v,n⟩:=p;unfold Sk.effect
 dsimp only at bp ⊢
 by_cases h1:op=1
 ·subst h1
  rw [if_pos rfl];exact (effect1_any b k v n cells sv w).mono fun _ _ ⟨e,h⟩=>⟨_,e,HBy.hnil,h⟩
 rw [if_neg h1];by_cases h2:op=2\/op=3
 ·rw [if_pos h2]
  have hv:=bp (by rcases h2 with e | e<;>(rw [e];rfl));obtain ⟨i,rfl⟩:∃ i:Nat,v=(i:Int):=⟨v.toNat,by omega⟩;have hi:i<V.length:=(by omega);rw [zBo hi];have hb:=(gj V[i] (List.getElem_mem _)).2;rcases h2 with rfl | rfl
  ·exact (effect2_any hk hV k n cells i hi hc hb sv).mono fun _ _ ⟨e,h⟩=>⟨_,e,HBy.hnil,h⟩
  ·exact (effect3_any hk hV k n cells i hi hc hb sv).mono fun _ _ ⟨e,h⟩=>⟨_,e,HBy.hnil,h⟩
 rw [if_neg h2];by_cases h4:op=4
 ·subst h4
  rw [if_pos rfl];exact (effect4_any b k v n cells sv w).mono fun _ _ ⟨e,h⟩=>⟨_,e,HBy.hnil,h⟩
 rw [if_neg h4];by_cases h5:op=5\/op=6
 ·rw [if_pos h5]
  rcases h5 with rfl | rfl
  ·exact effect5_any b k v n cells sv w hG
  ·exact effect6_any b k v n cells sv w hG
 rw [if_neg h5];by_cases h7:op=7
 ·subst h7
  rw [if_pos rfl];exact effect7_any b k v n cells hs
 rw [if_neg h7];by_cases h8:op=8
 ·subst h8
  rw [if_pos rfl];have hv:=bp rfl;obtain ⟨i,rfl⟩:∃ i:Nat,v=(i:Int):=⟨v.toNat,by omega⟩;have hi:i<V.length:=(by omega);rw [zBo hi];exact effect8_any hk hV k n cells i hi (gj V[i] (List.getElem_mem _)).2 sv
 rw [if_neg h8];exact (effect0_any b op k v n cells sv w (by omega)).mono fun _ _ ⟨e,h⟩=>⟨_,e,HBy.hnil,h⟩
theorem flat_take {D:Nat->List Value} {k:Nat}:∀ n m,m<=n->(∀ i,i<n->(D i).length=k)->(flat D n).take (m*k)=flat D m
 | n,m,h,hD=>by
  induction n with
  | zero=>
   obtain rfl:m=0:=by omega
   simp [flat]
  | succ n ih=>
   by_cases e:m=n+1
   ·subst e
    rw [List.take_of_length_le];rw [zBx (n+1) hD];exact Nat.le_refl _
   ·rw [flat,List.take_append_of_le_length]
    ·exact ih (by omega) fun i hi=>hD i (by omega)
    ·rw [zBx n fun i hi=>hD i (by omega)]
     exact Nat.mul_le_mul_right _ (by omega)
theorem OwnL.cut {α:Type} {T:Kind α} {B:Nat} {w:World} {a:Option Addr} {n c m:Nat} {l:List α} (h:OwnL T B w (.slice a n c) l) (hm:m<=l.length):OwnL T B w (.slice a m c) (l.take m):=by
 obtain ⟨D,⟨h1,h2⟩,h3⟩:=h;have hlen:(l.take m).length=m:=(by rw [List.length_take];omega);have hD:∀ i,i<l.length->(D i).length=T.k:=fun i hi=>T.len (h3 i hi);have il:=flat_take l.length m hm hD;refine ⟨D,⟨?_,?_⟩,fun j hj=>?_⟩
 ·rw [hlen]
  exact zBx m fun i hi=>hD i (by omega)
 ·rw [hlen]
  rcases h2 with ⟨e1,e2⟩ | ⟨g,cap,cur,e1,e2,e3,e4,e5,e6,e7⟩
  ·injection e1 with q1 q2 q3
   subst q1 q3;have:m=0:=(by omega);exact .inl ⟨by rw [this],this⟩
  ·injection e1 with q1 q2 q3
   subst q1 q3;refine .inr ⟨g,c,cur,rfl,e2,e3,by omega,e5,e6,?_⟩;rw [<-il,<-e7,List.take_take,Nat.min_eq_left (Nat.mul_le_mul_right _ hm)]
 ·have gP:j<l.length:=by rw [hlen] at hj;omega
  rw [List.getElem_take];refine T.wide (h3 j gP) fun i hi _=>?_
  cases a<;>exact hi
theorem Tryz.infoB:(Tryz.prog.info? 5).map (fun i=>(i.zero,i.size,i.bytes))=some (some (.int .u8 0),1,1):=by kernel_rfl
def kByte:Kind Int where
 ty:=5
 k:=1
 bytes:=1
 zero:=.int .u8 0
 E:=fun _ _ cs x=>cs=[.int .u8 x]
 pos:=by decide
 zs:=rfl
 info:=Tryz.infoB
 len:=by rintro _ _ _ _ rfl;rfl
 one:=by rintro _ _ _ _ rfl;simp;rfl
 keep:=by rintro _ _ _ _ _ rfl _ _;rfl
 wide:=by rintro _ _ _ _ _ rfl _;rfl
theorem by_row {ok:Nat->Prop} {w:World} {v:Value} {l:List Int} (h:HRow kByte ok w v l):HBy ok w v l:=h
theorem zAm {ok CV:Nat->Prop} {w:World} {b:Nat} {x:LkV} {V:List Sk.Vr} {aE:Option Addr} {nE cE:Nat} {E:List Pu} (hk:LkAt w b x) (hV:HVars ok w (.slice x.aV x.nV x.cV) V) (gj:∀ v ∈ V,Sk.VrOk v) (hG:GlobK w) (hE:HPu CV w (.slice aE nE cE) E) (cells:Int) (hc:0<=cells/\cells<=300) (bp:∀ p ∈ E,nmd p=true->0<=p.v/\p.v<V.length) (fo:E.length<=1000) :
  Calls Tryz.prog 86 #[.pointer (some ⟨b,0,none⟩),.slice aE nE cE,.int .i64 cells] w fun r w'=>r=.returned (.int .u8 (Sk.treeL V cells [] E))/\Below w.heap.size w w':=by
 obtain ⟨ao,cap,ev,bH,cG,-⟩:=hE.at;injection ev with q1 q2 q3;subst q1 q2 q3;unfold maxLen at cG;obtain ⟨R,hR⟩:=nmQ (Sk.treeL V cells [] E);rw [<-hR];have HR:=zBK (show R=Sk.treeL V cells [] (E.drop 0) by rw [List.drop_zero];exact hR);clear hR;have HE:=zBK hE;have HK:=zBK hk;have HV:=zBK hV;have kv:=zBK gj;have HG:=zBK hG;have jF:=zBK bp;have HC:=zBK hc;clear hE hk hV gj hG bp hc;obtain ⟨n,hn⟩:=nmQ (E.length);rw [<-hn] at bH fo ⊢;have HN:=zBK hn;clear hn;go_enter Tryz.func86,Tryz.ntmps86;go_wp2_with fail;go_loopg [7,14] n (fun k sv v wr=>∃ (i:Nat) (st:List Int),i<=n/\k=n-i/\v=.int .i64 (i:Nat)/\Hid (R=Sk.treeL V cells st (E.drop i))/\Hid (Sk.By st)/\Hid (st.length<=i)/\Hid (OwnL kByte w.heap.size wr sv st)/\Below w.heap.size w wr)
 case atStart=>exact ⟨0,[],Nat.zero_le _,rfl,rfl,HR,zBK (fun x hx=>by cases hx),zBK (Nat.zero_le _),zBK OwnL.nil,Below.refl _ _⟩
 case round=>
  clear HR;obtain ⟨i,st,hi,rfl,rfl,H,vc,dy,cK,aH⟩:=hrel;obtain ⟨sa,sc,rfl,nc,kI⟩:=cK.out.form;unfold maxLen at kI;by_cases bd:i<n
  case neg=>
   have bp:i=n:=(by omega);subst bp;have e1:E.drop i=[]:=List.drop_of_length_le (by have:=HN.out;omega);have hZ:=H.out;rw [e1] at hZ;unfold Sk.treeL at hZ;have HZ:=zBK hZ;clear hZ e1 H;by_cases hl:st.length=1
   case pos=>
    obtain ⟨y,rfl⟩:∃ y,st=[y]:=List.length_eq_one_iff.1 hl;obtain ⟨vX,AU,mw,_,_,bo⟩:=(by_row cK.out.row).at;obtain ⟨bs,os,ea,p4,ct⟩:=bo 0 (by simp);injection mw with q1 q2 q3;subst q1 q3;subst ea;simp at ct;have tL:=zBK (show R=y by rw [HZ.out];rfl);clear HZ bo cK q2 hl;go_wp2;go_ret;exact ⟨by rw [tL.out];rfl,aH⟩
   case neg=>
    have tL:=zBK (show R=0 by rw [HZ.out,if_neg hl]);have e2:((st.length:Int) != 1)=true:=(by simp;omega);clear HZ;generalize st.length=sl at *;go_wp2;go_ret;exact ⟨by rw [tL.out];rfl,aH⟩
  case pos=>
   have dj:i<E.length:=(by have:=HN.out;omega);have hdr:E.drop i=E[i] :: E.drop (i+1):=List.drop_eq_getElem_cons dj;have bY:=H.out;rw [hdr] at bY;obtain ⟨gw,dk,eqs,-,-,bg⟩:=(HE.out.under aH).at;injection eqs with q1 q2 q3;subst q1;obtain ⟨bb,o,rfl,hb,e0,e1,e2,e3⟩:=bg i dj;obtain ⟨y,hy⟩:=nmQ (E[i]);have mz:=jF.out y (by rw [hy];exact List.getElem_mem dj);rw [<-hy] at e0 e1 e2 e3 bY;unfold Sk.treeL at bY;have bA:Below wr.heap.size wr (wr.alloc (.cells #[.int .i64 y.op,.int .i64 y.k,.int .i64 y.v,.int .i64 y.n] 66 (0,0))):=(Below.refl _ _).alloc zBR _;have BA:=aH.trans (bA.mono aH.size);have kV:=zBO wr (.cells #[.int .i64 y.op,.int .i64 y.k,.int .i64 y.v,.int .i64 y.n] 66 (0,0));have mI:=cK.out.below bA;have cZ:=effect_any (HK.out.under BA) (HV.out.under BA) kv.out (HG.out.under BA) y cells HC.out mz (by_row mI.row);have ox:=Sk.effect_by kv.out (p:=y) (c:=cells) vc.out;have eo:=Sk.effect_len (V:=V) (p:=y) (c:=cells) (st:=st);generalize Sk.effect V y cells st=G at cZ bY ox eo;obtain ⟨tk,mk⟩:=G
   dsimp only at cZ bY ox eo
   have cq:=zBK bY;have Jw:=zBK ox;have lY:=zBK eo;have fY:=zBK mI;clear bg q2 q3 hy hdr bY H mz ox eo mI cK;go_upto_region 5 with fail;generalize wr.alloc (.cells #[.int .i64 y.op,.int .i64 y.k,.int .i64 y.v,.int .i64 y.n] 66 (0,0))=wa at bA BA kV cZ fY ⊢;have v0:=coQ kV 0;have v1:=coQ kV 1;have v2:=coQ kV 2;have v3:=coQ kV 3;simp at v0 v1 v2 v3;go_wp2_with fail;refine cZ.mono ?_;rintro e w4 ⟨u,rfl,Hp,b4⟩;obtain ⟨ua,uc,rfl,lL,j8,-⟩:=Hp.at;unfold maxLen at j8;have B4:=BA.trans (b4.mono BA.size);have x8:=fY.out.below b4;have qT:=zBK x8;have D5:=zBH (by_row x8.row) Hp vc.out Jw.out.1;clear cZ v0 v1 v2 v3 kV fY x8 Hp;by_cases hz:mk=0
   case pos=>
    have dZ:(mk==0)=true:=(by simp [hz]);have HZ:Hid (R=0):=zBK (by rw [cq.out,if_pos (.inl hz)]);clear cq hz D5;go_wp2;go_ret;exact ⟨by rw [HZ.out];rfl,B4⟩
   case neg=>
    have dZ:(mk==0)=false:=(by simp [hz]);have Ap:=zBK hz;clear hz;obtain ⟨q,hq⟩:=nmQ (Sk.ends st tk);rw [<-hq] at D5;have HQ:=zBK hq;clear hq;go_wp2_with fail;refine D5.mono ?_;rintro e w5 ⟨rfl,b5⟩;have B5:=B4.trans (b5.mono B4.size);have Aq:=zBK (qT.out.below b5);clear D5 qT
    cases q
    case false=>
     have HZ:Hid (R=0):=zBK (by rw [cq.out,if_pos (.inr HQ.out.symm)]);clear cq;go_wp2;go_ret;exact ⟨by rw [HZ.out];rfl,B5⟩
    case true=>
     have HZ:Hid (R=Sk.treeL V cells (st.take (st.length-tk.length)++[mk]) (E.drop (i+1))):=zBK (by rw [cq.out,if_neg (by rintro (h | h);exact Ap.out h;rw [<-HQ.out] at h;cases h)]);have hle:tk.length<=st.length:=by
      have:=HQ.out;unfold Sk.ends at this;have:=(Bool.and_eq_true _ _ ▸ this.symm).1
      simpa using this
     have zP:=zBK (Sk.push_by (Sk.take_by vc.out (st.length-tk.length)) Jw.out.2);have eR:=zBK (show (st.take (st.length-tk.length)++[mk]).length<=i+1 by have:=dy.out;simp;omega);have EC:=zBK (Aq.out.cut (m:=st.length-tk.length) (Nat.sub_le _ _));obtain ⟨m,hm⟩:∃ m,st.length-tk.length=m:=⟨_,rfl⟩;rw [hm] at HZ zP eR EC;have kJ:(st.length:Int)-(tk.length:Int)=(m:Int):=(by omega);have D1:m<=st.length:=(by omega);have vt:=zBK (show (st.take m).length=m by rw [List.length_take];omega);have fQ:=zBK (show m<=i by have:=dy.out;omega);clear cq HQ hm hle Aq;generalize st.length=sl at kJ D1 nc ⊢;generalize tk.length=tl at kJ lL ⊢;have z5:=B5.size;have q2:((st.take m).length+1)*1<=140737488355328:=(by rw [vt.out];have:=fQ.out;omega);have q3:(st.take m).length+1<=maxLen:=(by rw [vt.out];have:=fQ.out;unfold maxLen;omega);have ED:OwnL kByte w.heap.size w5 (.slice sa m sc) (st.take m):=EC.out;have rM:=zBK ED;have dn:=zBK (show ∀ k,(Value.slice sa m sc).ownBlock=some k->k<w5.heap.size from fun k hk=>(ED.lt k hk).2);clear EC ED
     go_wp2_with (at_builtin;refine zBW kByte rfl _ _ 100 5 rfl Tryz.underlying100 w.heap.size w5.heap.size _ (st.take m) (by rfl) rM.out [.int .u8 mk] mk rfl (by rfl) dn.out z5 z5 q2 q3 ?_;intro v8 w8 aG b8 _ _;have di:=zBK aG;clear aG rM dn)
     have B8:=B5.trans b8;go_roundg (n-(i+1))
     case measure=>omega
     case rel=>exact ⟨i+1,_,by omega,rfl,by go_num,HZ,zP,eR,di,B8⟩
theorem fits138_any {ok CV:Nat->Prop} {w:World} {b pl pr:Nat} {x:LkV} {V:List Sk.Vr} {op k out n:Int} {aA aE:Option Addr} {nA cA nE cE:Nat} {E:List Pu} (kl:w.heap[pl]?=some (.cells #[.pointer (some ⟨b,0,none⟩)] 77 (0,0))) (kr:w.heap[pr]?=some (.cells #[.int .i64 op,.int .i64 k,.int .i64 out,.int .i64 n,.slice aA nA cA,.slice aE nE cE] 42 (0,0))) (hk:LkAt w b x) (hV:HVars ok w (.slice x.aV x.nV x.cV) V) (gj:∀ v ∈ V,Sk.VrOk v) (hG:GlobK w) (hE:HPu CV w (.slice aE nE cE) E) (cells:Int) (hc:0<=cells/\cells<=300) (bp:∀ p ∈ E,nmd p=true->0<=p.v/\p.v<V.length) (fo:E.length<=1000) :
  Calls Tryz.prog 85 #[.int .i64 cells,.pointer (some ⟨pl,0,none⟩),.pointer (some ⟨pr,0,none⟩)] w fun r w'=>r=.returned (.int .u8 (Sk.treeL V cells [] E))/\Below w.heap.size w w':=by
 have cZ:=zAm hk hV gj hG hE cells hc bp fo;generalize Sk.treeL V cells [] E=R at cZ ⊢;have l0:=coQ kl 0;have r5:=coQ kr 5;simp at l0 r5;clear hk hV gj hG hE bp kl kr;go_enter Tryz.func85,Tryz.ntmps85;go_wp2_with fail;refine cZ.mono ?_;rintro e w2 ⟨rfl,b2⟩;go_wp2;go_ret;exact ⟨rfl,b2⟩
theorem zAj {w:World} {pl pr:Nat} {k out n:Int} {aA aE:Option Addr} {nA cA nE cE:Nat} {o:Sk.Vr} {aa:Option Addr} {na ca:Nat} (T:Int) (gE:∀ W,Below w.heap.size w W->Calls Tryz.prog 85 #[.int .i64 (max 1 o.n),.pointer (some ⟨pl,0,none⟩),.pointer (some ⟨pr,0,none⟩)] W fun e w'=>e=.returned (.int .u8 T)/\Below W.heap.size W w') :
  Calls Tryz.prog 84 #[.agg #[.int .i64 14,.int .i64 k,.int .i64 out,.int .i64 n,.slice aA nA cA,.slice aE nE cE,.int .u8 o.elem,.int .i64 o.n,.slice aa na ca],.func (.func 85) #[] #[.pointer (some ⟨pl,0,none⟩),.pointer (some ⟨pr,0,none⟩)]] w fun e w'=>e=.returned (.bool (T==o.elem))/\Below w.heap.size w w':=by
 have b1:Below w.heap.size w (w.alloc (.cells #[.int .i64 14,.int .i64 k,.int .i64 out,.int .i64 n,.slice aA nA cA,.slice aE nE cE,.int .u8 o.elem,.int .i64 o.n,.slice aa na ca] 109 (0,0))):=(Below.refl _ _).alloc zBR _;have kA:=zBO w (.cells #[.int .i64 14,.int .i64 k,.int .i64 out,.int .i64 n,.slice aA nA cA,.slice aE nE cE,.int .u8 o.elem,.int .i64 o.n,.slice aa na ca] 109 (0,0));go_enter Tryz.func84,Tryz.ntmps84;go_upto_region 1 with fail;generalize w.alloc (.cells #[.int .i64 14,.int .i64 k,.int .i64 out,.int .i64 n,.slice aA nA cA,.slice aE nE cE,.int .u8 o.elem,.int .i64 o.n,.slice aa na ca] 109 (0,0))=w1 at b1 kA ⊢;have a0:=coQ kA 0;have a1:=coQ kA 1;have a2:=coQ kA 2;have a3:=coQ kA 3;have a4:=coQ kA 4;have a5:=coQ kA 5;have a6:=coQ kA 6;have a7:=coQ kA 7;have a8:=coQ kA 8;simp at a0 a1 a2 a3 a4 a5 a6 a7 a8;have yA:=zBM kA;go_upto_region 3 with fail;have aM:=zBK (fun (wz:World) (hSw:Below w1.heap.size w1 wz)=>And.intro ((hSw.cell (p:=⟨w.heap.size,0,none⟩) yA).trans a0) (And.intro ((hSw.cell (p:=⟨w.heap.size,1,none⟩) yA).trans a1) (And.intro ((hSw.cell (p:=⟨w.heap.size,2,none⟩) yA).trans a2) (And.intro ((hSw.cell (p:=⟨w.heap.size,3,none⟩) yA).trans a3) (And.intro ((hSw.cell (p:=⟨w.heap.size,4,none⟩) yA).trans a4) (And.intro ((hSw.cell (p:=⟨w.heap.size,5,none⟩) yA).trans a5) (And.intro ((hSw.cell (p:=⟨w.heap.size,6,none⟩) yA).trans a6) (And.intro ((hSw.cell (p:=⟨w.heap.size,7,none⟩) yA).trans a7) ((hSw.cell (p:=⟨w.heap.size,8,none⟩) yA).trans a8)))))))));refine zBP (fun w'=>Below w1.heap.size w1 w') (fun _=>false) (by kernel_rfl) ?_;have ab:Below w1.heap.size w1 w1.drew:=(Below.refl _ _).drew;generalize w1.drew=ag at ab ⊢;refine' tkR 0 10 ab ?o1
 refine' tkR 1 11 ab ?o2
 refine' tkR 2 12 ab ?o3
 refine' tkQ 3 13 ab ?hyv ?o4
 case hyv=>
  intro wz hSw;have bk:=aM.out wz hSw;go_simp
  try rfl
 try simp only [Act.put,sT,sZ,sS]
 refine' tkR 4 14 ab ?o5
 refine' tkR 6 16 ab ?o6
 refine' tkR 7 17 ab ?o7
 refine' tkQ 8 18 ab ?hyv ?o8
 case hyv=>
  intro wz hSw;have bk:=aM.out wz hSw;go_simp
  try rfl
 try simp only [Act.put,sT,sZ,sS]
 refine tnQ 5 (fun K hK=>?_);go_simp;refine (gE ag (b1.trans (ab.mono b1.size))).mono ?_;rintro eq aw ⟨rfl,cY⟩;have af:Below w1.heap.size w1 aw:=ab.trans (cY.mono ab.size);refine hK.out _ _ (fun _=>af) ?_;clear hK K
 try simp only [Act.put,sT,sZ,sS]
 refine' tkR 9 19 af ?o9
 refine' tkR 10 4 af ?o10
 refine zBN (by kernel_rfl) ?_ _;go_wp2;go_ret;exact ⟨rfl,b1.trans (af.mono b1.size)⟩
theorem zAk {ok:Nat->Prop} {w:World} {pl pr:Nat} {k out n:Int} {aA aE:Option Addr} {nA cA nE cE:Nat} {o:Sk.Vr} {aa:Option Addr} {na ca:Nat} (f:Sk.Vr) (hG:GlobK w) (hl:HVars ok w (.slice aa na ca) [f]) (T:Int) (gE:∀ W,Below w.heap.size w W->(1<=n/\n<=300)->Calls Tryz.prog 85 #[.int .i64 n,.pointer (some ⟨pl,0,none⟩),.pointer (some ⟨pr,0,none⟩)] W fun e w'=>e=.returned (.int .u8 T)/\Below W.heap.size W w') :
  Calls Tryz.prog 84 #[.agg #[.int .i64 15,.int .i64 k,.int .i64 out,.int .i64 n,.slice aA nA cA,.slice aE nE cE,.int .u8 o.elem,.int .i64 o.n,.slice aa na ca],.func (.func 85) #[] #[.pointer (some ⟨pl,0,none⟩),.pointer (some ⟨pr,0,none⟩)]] w fun e w'=>e=.returned (.bool ((((Sk.goesFrom k f&&Sk.same o f)&&decide (1<=n))&&decide (n<=300))&&(T==o.elem)))/\Below w.heap.size w w':=by
 obtain ⟨ao,cap,ev,G9,Cq,bo⟩:=hl.at;injection ev with v1 v2 v3;subst v1 v2 v3;obtain ⟨bl,ol,rfl,yl,x0,y0⟩:=bo 0 (by simp);simp at x0 y0 G9;unfold maxLen at Cq;clear hl bo;have b1:Below w.heap.size w (w.alloc (.cells #[.int .i64 15,.int .i64 k,.int .i64 out,.int .i64 n,.slice aA nA cA,.slice aE nE cE,.int .u8 o.elem,.int .i64 o.n,.slice (some ⟨bl,ol,none⟩) 1 ca] 109 (0,0))):=(Below.refl _ _).alloc zBR _;have kA:=zBO w (.cells #[.int .i64 15,.int .i64 k,.int .i64 out,.int .i64 n,.slice aA nA cA,.slice aE nE cE,.int .u8 o.elem,.int .i64 o.n,.slice (some ⟨bl,ol,none⟩) 1 ca] 109 (0,0));have X0:=(b1.cell (p:=⟨bl,ol,none⟩) yl).trans x0;have Y0:=(b1.cell (p:=⟨bl,ol+1,none⟩) yl).trans y0;have bP:bl<(w.alloc (.cells #[.int .i64 15,.int .i64 k,.int .i64 out,.int .i64 n,.slice aA nA cA,.slice aE nE cE,.int .u8 o.elem,.int .i64 o.n,.slice (some ⟨bl,ol,none⟩) 1 ca] 109 (0,0))).heap.size:=Nat.lt_of_lt_of_le yl b1.size;have fL:=zBK (hG.under b1);have sx:=zCQ ⟨15,k,out,n,aA,nA,cA,aE,nE,cE,o⟩ (some ⟨bl,ol,none⟩) 1 ca f
 dsimp only at sx
 obtain ⟨R,hR⟩:=nmQ (((((Sk.goesFrom k f&&Sk.same o f)&&decide (1<=n))&&decide (n<=300))&&(T==o.elem)));rw [<-hR];obtain ⟨q1,bm⟩:=nmQ (Sk.goesFrom k f);rw [<-bm] at hR;rw [<-bm] at sx;have ib:=zBK bm;obtain ⟨q2,aY⟩:=nmQ (Sk.same o f);rw [<-aY] at hR;have eK:=zBK aY;obtain ⟨q3,da⟩:=nmQ (decide (1<=n));rw [<-da] at hR;have ja:=zBK da;obtain ⟨q4,fx⟩:=nmQ (decide (n<=300));rw [<-fx] at hR;have qW:=zBK fx;obtain ⟨q5,gz⟩:=nmQ ((T==o.elem));rw [<-gz] at hR;have vz:=zBK gz;have HR:=zBK hR;clear hR x0 y0 yl hG bm aY da fx gz;go_enter Tryz.func84,Tryz.ntmps84;go_upto_region 1 with fail;generalize w.alloc (.cells #[.int .i64 15,.int .i64 k,.int .i64 out,.int .i64 n,.slice aA nA cA,.slice aE nE cE,.int .u8 o.elem,.int .i64 o.n,.slice (some ⟨bl,ol,none⟩) 1 ca] 109 (0,0))=w1 at b1 kA X0 Y0 bP fL ⊢;have a0:=coQ kA 0;have a1:=coQ kA 1;have a2:=coQ kA 2;have a3:=coQ kA 3;have a4:=coQ kA 4;have a5:=coQ kA 5;have a6:=coQ kA 6;have a7:=coQ kA 7;have a8:=coQ kA 8;simp at a0 a1 a2 a3 a4 a5 a6 a7 a8;have yA:=zBM kA;go_upto_region 5 with fail;have aM:=zBK (fun (wz:World) (hSw:Below w1.heap.size w1 wz)=>And.intro ((hSw.cell (p:=⟨w.heap.size,0,none⟩) yA).trans a0) (And.intro ((hSw.cell (p:=⟨w.heap.size,1,none⟩) yA).trans a1) (And.intro ((hSw.cell (p:=⟨w.heap.size,2,none⟩) yA).trans a2) (And.intro ((hSw.cell (p:=⟨w.heap.size,3,none⟩) yA).trans a3) (And.intro ((hSw.cell (p:=⟨w.heap.size,4,none⟩) yA).trans a4) (And.intro ((hSw.cell (p:=⟨w.heap.size,5,none⟩) yA).trans a5) (And.intro ((hSw.cell (p:=⟨w.heap.size,6,none⟩) yA).trans a6) (And.intro ((hSw.cell (p:=⟨w.heap.size,7,none⟩) yA).trans a7) (And.intro ((hSw.cell (p:=⟨w.heap.size,8,none⟩) yA).trans a8) (And.intro ((hSw.cell (p:=⟨bl,ol,none⟩) bP).trans X0) ((hSw.cell (p:=⟨bl,ol+1,none⟩) bP).trans Y0)))))))))));refine zBP (fun w'=>Below w1.heap.size w1 w') (fun _=>false) (by kernel_rfl) ?_;have ab:Below w1.heap.size w1 w1.drew:=(Below.refl _ _).drew;generalize w1.drew=ag at ab ⊢;refine' tkQ 0 22 ab ?hyv ?o11
 case hyv=>
  intro wz hSw;have bk:=aM.out wz hSw;go_simp
  try rfl
 try simp only [Act.put,sT,sZ,sS]
 refine' tkR 1 23 ab ?o12
 refine' tkQ 2 24 ab ?hyv ?o13
 case hyv=>
  intro wz hSw;have bk:=aM.out wz hSw;go_simp
  try rfl
 try simp only [Act.put,sT,sZ,sS]
 refine' tkR 3 25 ab ?o14
 refine' tkQ 4 26 ab ?hyv ?o15
 case hyv=>
  intro wz hSw;have bk:=aM.out wz hSw;go_simp
  try rfl
 try simp only [Act.put,sT,sZ,sS]
 refine tnQ 5 (fun K hK=>?_);go_simp;refine (sx ag (fL.out.under ab)).mono ?_;rintro eq aw ⟨rfl,cY⟩;have af:Below w1.heap.size w1 aw:=ab.trans (cY.mono ab.size);refine hK.out _ _ (fun _=>af) ?_;clear hK K
 try simp only [Act.put,sT,sZ,sS]
 refine' tkR 6 28 af ?o16
 cases q1
 case false=>
  refine' tsQ 7 29 af ?_
  refine' tsQ 8 30 af ?_
  refine' tsQ 9 31 af ?_
  refine' tsQ 10 32 af ?_
  refine' tsQ 11 33 af ?_
  refine' tsQ 12 34 af ?_
  refine' tsQ 13 35 af ?_
  refine' tkR 14 36 af ?o17
  refine' tkR 15 37 af ?o18
  refine' tsQ 16 38 af ?_
  refine' tsQ 17 39 af ?_
  refine' tsQ 18 40 af ?_
  refine' tsQ 19 41 af ?_
  refine' tkR 20 42 af ?o19
  refine' tkR 21 43 af ?o20
  refine' tsQ 22 44 af ?_
  refine' tsQ 23 45 af ?_
  refine' tsQ 24 46 af ?_
  refine' tsQ 25 47 af ?_
  refine' tkR 26 48 af ?o21
  refine' tkR 27 49 af ?o22
  refine' tsQ 28 50 af ?_
  refine' tsQ 29 51 af ?_
  refine' tsQ 30 52 af ?_
  refine' tsQ 31 53 af ?_
  refine' tsQ 32 54 af ?_
  refine' tsQ 33 55 af ?_
  refine' tsQ 34 56 af ?_
  refine' tsQ 35 57 af ?_
  refine' tsQ 36 58 af ?_
  refine' tkR 37 59 af ?o23
  refine' tkR 38 4 af ?o24
  refine zBN (by kernel_rfl) ?_ _;go_wp2;go_ret;exact ⟨by rw [HR.out];rfl,b1.trans (af.mono b1.size)⟩
 case true=>
  refine' tkR 7 29 af ?o25
  refine' tkQ 8 30 af ?hyv ?o26
  case hyv=>
   intro wz hSw;have bk:=aM.out wz hSw;go_simp
   try rfl
  try simp only [Act.put,sT,sZ,sS]
  refine' tkR 9 31 af ?o27
  refine' tkQ 10 32 af ?hyv ?o28
  case hyv=>
   intro wz hSw;have bk:=aM.out wz hSw;go_simp
   try rfl
  try simp only [Act.put,sT,sZ,sS]
  refine' tkR 11 33 af ?o29
  refine' tkQ 12 34 af ?hyv ?o30
  case hyv=>
   intro wz hSw;have bk:=aM.out wz hSw;go_simp
   try rfl
  try simp only [Act.put,sT,sZ,sS]
  refine' zBS (i:=13) (oi:=⟨some 35,_,_,_,_,_⟩) (v:=.bool q2) rfl (by kernel_rfl) (by kernel_rfl) (by kernel_rfl) (by kernel_rfl) (fun _ _ _ h=>h) af (by rfl) ?hyv ?o31
  case hyv=>
   intro wz hSw;go_simp;rw [eK.out];unfold Sk.same;by_cases h1:o.elem=f.elem<;>by_cases h2:o.n=f.n<;>simp [h1,h2]
  try simp only [Act.put,sT,sZ,sS]
  refine' tkR 14 36 af ?o32
  refine' tkR 15 37 af ?o33
  cases q2
  case false=>
   refine' tsQ 16 38 af ?_
   refine' tsQ 17 39 af ?_
   refine' tsQ 18 40 af ?_
   refine' tsQ 19 41 af ?_
   refine' tkR 20 42 af ?o34
   refine' tkR 21 43 af ?o35
   refine' tsQ 22 44 af ?_
   refine' tsQ 23 45 af ?_
   refine' tsQ 24 46 af ?_
   refine' tsQ 25 47 af ?_
   refine' tkR 26 48 af ?o36
   refine' tkR 27 49 af ?o37
   refine' tsQ 28 50 af ?_
   refine' tsQ 29 51 af ?_
   refine' tsQ 30 52 af ?_
   refine' tsQ 31 53 af ?_
   refine' tsQ 32 54 af ?_
   refine' tsQ 33 55 af ?_
   refine' tsQ 34 56 af ?_
   refine' tsQ 35 57 af ?_
   refine' tsQ 36 58 af ?_
   refine' tkR 37 59 af ?o38
   refine' tkR 38 4 af ?o39
   refine zBN (by kernel_rfl) ?_ _;go_wp2;go_ret;exact ⟨by rw [HR.out];rfl,b1.trans (af.mono b1.size)⟩
  case true=>
   refine' tkR 16 38 af ?o40
   refine' tkR 17 39 af ?o41
   refine' tkQ 18 40 af ?hyv ?o42
   case hyv=>
    intro wz hSw;have bk:=aM.out wz hSw;go_simp
    try rfl
   try simp only [Act.put,sT,sZ,sS]
   refine' zBS (i:=19) (oi:=⟨some 41,_,_,_,_,_⟩) (v:=.bool q3) rfl (by kernel_rfl) (by kernel_rfl) (by kernel_rfl) (by kernel_rfl) (fun _ _ _ h=>h) af (by rfl) ?hyv ?o43
   case hyv=>
    intro wz hSw;go_simp;rw [ja.out]
    try rfl
   try simp only [Act.put,sT,sZ,sS]
   refine' tkR 20 42 af ?o44
   refine' tkR 21 43 af ?o45
   cases q3
   case false=>
    refine' tsQ 22 44 af ?_
    refine' tsQ 23 45 af ?_
    refine' tsQ 24 46 af ?_
    refine' tsQ 25 47 af ?_
    refine' tkR 26 48 af ?o46
    refine' tkR 27 49 af ?o47
    refine' tsQ 28 50 af ?_
    refine' tsQ 29 51 af ?_
    refine' tsQ 30 52 af ?_
    refine' tsQ 31 53 af ?_
    refine' tsQ 32 54 af ?_
    refine' tsQ 33 55 af ?_
    refine' tsQ 34 56 af ?_
    refine' tsQ 35 57 af ?_
    refine' tsQ 36 58 af ?_
    refine' tkR 37 59 af ?o48
    refine' tkR 38 4 af ?o49
    refine zBN (by kernel_rfl) ?_ _;go_wp2;go_ret;exact ⟨by rw [HR.out];rfl,b1.trans (af.mono b1.size)⟩
   case true=>
    refine' tkR 22 44 af ?o50
    refine' tkR 23 45 af ?o51
    refine' tkQ 24 46 af ?hyv ?o52
    case hyv=>
     intro wz hSw;have bk:=aM.out wz hSw;go_simp
     try rfl
    try simp only [Act.put,sT,sZ,sS]
    refine' zBS (i:=25) (oi:=⟨some 47,_,_,_,_,_⟩) (v:=.bool q4) rfl (by kernel_rfl) (by kernel_rfl) (by kernel_rfl) (by kernel_rfl) (fun _ _ _ h=>h) af (by rfl) ?hyv ?o53
    case hyv=>
     intro wz hSw;go_simp;rw [qW.out]
     try rfl
    try simp only [Act.put,sT,sZ,sS]
    refine' tkR 26 48 af ?o54
    refine' tkR 27 49 af ?o55
    cases q4
    case false=>
     refine' tsQ 28 50 af ?_
     refine' tsQ 29 51 af ?_
     refine' tsQ 30 52 af ?_
     refine' tsQ 31 53 af ?_
     refine' tsQ 32 54 af ?_
     refine' tsQ 33 55 af ?_
     refine' tsQ 34 56 af ?_
     refine' tsQ 35 57 af ?_
     refine' tsQ 36 58 af ?_
     refine' tkR 37 59 af ?o56
     refine' tkR 38 4 af ?o57
     refine zBN (by kernel_rfl) ?_ _;go_wp2;go_ret;exact ⟨by rw [HR.out];rfl,b1.trans (af.mono b1.size)⟩
    case true=>
     refine' tkR 28 50 af ?o58
     refine' tkR 29 51 af ?o59
     refine' tkR 30 52 af ?o60
     refine' tkQ 31 53 af ?hyv ?o61
     case hyv=>
      intro wz hSw;have bk:=aM.out wz hSw;go_simp
      try rfl
     try simp only [Act.put,sT,sZ,sS]
     refine' tkR 33 55 af ?o62
     refine' tkR 34 56 af ?o63
     refine' tkQ 35 57 af ?hyv ?o64
     case hyv=>
      intro wz hSw;have bk:=aM.out wz hSw;go_simp
      try rfl
     try simp only [Act.put,sT,sZ,sS]
     refine tnQ 32 (fun K hK=>?_);go_simp;refine (gE aw (b1.trans (af.mono b1.size)) ⟨by have:=ja.out;simpa using this,by have:=qW.out;simpa using this⟩).mono ?_;rintro eq aJ ⟨rfl,dz⟩;have ay:Below w1.heap.size w1 aJ:=af.trans (dz.mono af.size);refine hK.out _ _ (fun _=>ay) ?_;clear hK K
     try simp only [Act.put,sT,sZ,sS]
     refine' zBS (i:=36) (oi:=⟨some 58,_,_,_,_,_⟩) (v:=.bool q5) rfl (by kernel_rfl) (by kernel_rfl) (by kernel_rfl) (by kernel_rfl) (fun _ _ _ h=>h) ay (by rfl) ?hyv ?o65
     case hyv=>
      intro wz hSw;go_simp;rw [vz.out]
      try rfl
     try simp only [Act.put,sT,sZ,sS]
     refine' tkR 37 59 ay ?o66
     refine' tkR 38 4 ay ?o67
     refine zBN (by kernel_rfl) ?_ _;go_wp2;go_ret;exact ⟨by rw [HR.out];rfl,b1.trans (ay.mono b1.size)⟩
theorem zAl {ok:Nat->Prop} {w:World} {pl pr:Nat} {k out n:Int} {aA aE:Option Addr} {nA cA nE cE:Nat} {o:Sk.Vr} {aa:Option Addr} {na ca:Nat} (f:Sk.Vr) (hG:GlobK w) (hl:HVars ok w (.slice aa na ca) [f]) (T:Int) (gE:∀ W,Below w.heap.size w W->Sk.arrOf o f=true->Calls Tryz.prog 85 #[.int .i64 o.n,.pointer (some ⟨pl,0,none⟩),.pointer (some ⟨pr,0,none⟩)] W fun e w'=>e=.returned (.int .u8 T)/\Below W.heap.size W w') :
  Calls Tryz.prog 84 #[.agg #[.int .i64 16,.int .i64 k,.int .i64 out,.int .i64 n,.slice aA nA cA,.slice aE nE cE,.int .u8 o.elem,.int .i64 o.n,.slice aa na ca],.func (.func 85) #[] #[.pointer (some ⟨pl,0,none⟩),.pointer (some ⟨pr,0,none⟩)]] w fun e w'=>e=.returned (.bool ((Sk.goesFrom k f&&Sk.arrOf o f)&&(T==o.elem)))/\Below w.heap.size w w':=by
 obtain ⟨ao,cap,ev,G9,Cq,bo⟩:=hl.at;injection ev with v1 v2 v3;subst v1 v2 v3;obtain ⟨bl,ol,rfl,yl,x0,y0⟩:=bo 0 (by simp);simp at x0 y0 G9;unfold maxLen at Cq;clear hl bo;have b1:Below w.heap.size w (w.alloc (.cells #[.int .i64 16,.int .i64 k,.int .i64 out,.int .i64 n,.slice aA nA cA,.slice aE nE cE,.int .u8 o.elem,.int .i64 o.n,.slice (some ⟨bl,ol,none⟩) 1 ca] 109 (0,0))):=(Below.refl _ _).alloc zBR _;have kA:=zBO w (.cells #[.int .i64 16,.int .i64 k,.int .i64 out,.int .i64 n,.slice aA nA cA,.slice aE nE cE,.int .u8 o.elem,.int .i64 o.n,.slice (some ⟨bl,ol,none⟩) 1 ca] 109 (0,0));have X0:=(b1.cell (p:=⟨bl,ol,none⟩) yl).trans x0;have Y0:=(b1.cell (p:=⟨bl,ol+1,none⟩) yl).trans y0;have bP:bl<(w.alloc (.cells #[.int .i64 16,.int .i64 k,.int .i64 out,.int .i64 n,.slice aA nA cA,.slice aE nE cE,.int .u8 o.elem,.int .i64 o.n,.slice (some ⟨bl,ol,none⟩) 1 ca] 109 (0,0))).heap.size:=Nat.lt_of_lt_of_le yl b1.size;have fL:=zBK (hG.under b1);have sx:=zCQ ⟨16,k,out,n,aA,nA,cA,aE,nE,cE,o⟩ (some ⟨bl,ol,none⟩) 1 ca f
 dsimp only at sx
 have Lb:=zBm o f;obtain ⟨R,hR⟩:=nmQ (((Sk.goesFrom k f&&Sk.arrOf o f)&&(T==o.elem)));rw [<-hR];obtain ⟨q1,bm⟩:=nmQ (Sk.goesFrom k f);rw [<-bm] at hR;rw [<-bm] at sx;have ib:=zBK bm;obtain ⟨q2,aY⟩:=nmQ (Sk.arrOf o f);rw [<-aY] at hR;rw [<-aY] at Lb;have eK:=zBK aY;obtain ⟨q5,gz⟩:=nmQ ((T==o.elem));rw [<-gz] at hR;have vz:=zBK gz;have HR:=zBK hR;clear hR x0 y0 yl hG bm aY gz;go_enter Tryz.func84,Tryz.ntmps84;go_upto_region 1 with fail;generalize w.alloc (.cells #[.int .i64 16,.int .i64 k,.int .i64 out,.int .i64 n,.slice aA nA cA,.slice aE nE cE,.int .u8 o.elem,.int .i64 o.n,.slice (some ⟨bl,ol,none⟩) 1 ca] 109 (0,0))=w1 at b1 kA X0 Y0 bP fL ⊢;have a0:=coQ kA 0;have a1:=coQ kA 1;have a2:=coQ kA 2;have a3:=coQ kA 3;have a4:=coQ kA 4;have a5:=coQ kA 5;have a6:=coQ kA 6;have a7:=coQ kA 7;have a8:=coQ kA 8;simp at a0 a1 a2 a3 a4 a5 a6 a7 a8;have yA:=zBM kA;go_upto_region 6 with fail;have aM:=zBK (fun (wz:World) (hSw:Below w1.heap.size w1 wz)=>And.intro ((hSw.cell (p:=⟨w.heap.size,0,none⟩) yA).trans a0) (And.intro ((hSw.cell (p:=⟨w.heap.size,1,none⟩) yA).trans a1) (And.intro ((hSw.cell (p:=⟨w.heap.size,2,none⟩) yA).trans a2) (And.intro ((hSw.cell (p:=⟨w.heap.size,3,none⟩) yA).trans a3) (And.intro ((hSw.cell (p:=⟨w.heap.size,4,none⟩) yA).trans a4) (And.intro ((hSw.cell (p:=⟨w.heap.size,5,none⟩) yA).trans a5) (And.intro ((hSw.cell (p:=⟨w.heap.size,6,none⟩) yA).trans a6) (And.intro ((hSw.cell (p:=⟨w.heap.size,7,none⟩) yA).trans a7) (And.intro ((hSw.cell (p:=⟨w.heap.size,8,none⟩) yA).trans a8) (And.intro ((hSw.cell (p:=⟨bl,ol,none⟩) bP).trans X0) ((hSw.cell (p:=⟨bl,ol+1,none⟩) bP).trans Y0)))))))))));refine zBP (fun w'=>Below w1.heap.size w1 w') (fun _=>false) (by kernel_rfl) ?_;have ab:Below w1.heap.size w1 w1.drew:=(Below.refl _ _).drew;generalize w1.drew=ag at ab ⊢;refine' tkQ 0 60 ab ?hyv ?o68
 case hyv=>
  intro wz hSw;have bk:=aM.out wz hSw;go_simp
  try rfl
 try simp only [Act.put,sT,sZ,sS]
 refine' tkR 1 61 ab ?o69
 refine' tkQ 2 62 ab ?hyv ?o70
 case hyv=>
  intro wz hSw;have bk:=aM.out wz hSw;go_simp
  try rfl
 try simp only [Act.put,sT,sZ,sS]
 refine' tkR 3 63 ab ?o71
 refine' tkQ 4 64 ab ?hyv ?o72
 case hyv=>
  intro wz hSw;have bk:=aM.out wz hSw;go_simp
  try rfl
 try simp only [Act.put,sT,sZ,sS]
 refine tnQ 5 (fun K hK=>?_);go_simp;refine (sx ag (fL.out.under ab)).mono ?_;rintro eq aw ⟨rfl,cY⟩;have af:Below w1.heap.size w1 aw:=ab.trans (cY.mono ab.size);refine hK.out _ _ (fun _=>af) ?_;clear hK K
 try simp only [Act.put,sT,sZ,sS]
 refine' tkR 6 66 af ?o73
 cases q1
 case false=>
  refine' tsQ 7 67 af ?_
  refine' tsQ 8 68 af ?_
  refine' tsQ 9 69 af ?_
  refine' tsQ 10 70 af ?_
  refine' tsQ 11 71 af ?_
  refine' tsQ 12 72 af ?_
  refine' tsQ 13 73 af ?_
  refine' tkR 14 74 af ?o74
  refine' tkR 15 75 af ?o75
  refine' tsQ 16 76 af ?_
  refine' tsQ 17 77 af ?_
  refine' tsQ 18 78 af ?_
  refine' tsQ 19 79 af ?_
  refine' tsQ 20 80 af ?_
  refine' tsQ 21 81 af ?_
  refine' tsQ 22 82 af ?_
  refine' tsQ 23 83 af ?_
  refine' tsQ 24 84 af ?_
  refine' tkR 25 85 af ?o76
  refine' tkR 26 4 af ?o77
  refine zBN (by kernel_rfl) ?_ _;go_wp2;go_ret;exact ⟨by rw [HR.out];rfl,b1.trans (af.mono b1.size)⟩
 case true=>
  refine' tkR 7 67 af ?o78
  refine' tkQ 8 68 af ?hyv ?o79
  case hyv=>
   intro wz hSw;have bk:=aM.out wz hSw;go_simp
   try rfl
  try simp only [Act.put,sT,sZ,sS]
  refine' tkR 9 69 af ?o80
  refine' tkQ 10 70 af ?hyv ?o81
  case hyv=>
   intro wz hSw;have bk:=aM.out wz hSw;go_simp
   try rfl
  try simp only [Act.put,sT,sZ,sS]
  refine' tkR 11 71 af ?o82
  refine' tkQ 12 72 af ?hyv ?o83
  case hyv=>
   intro wz hSw;have bk:=aM.out wz hSw;go_simp
   try rfl
  try simp only [Act.put,sT,sZ,sS]
  refine tnQ 13 (fun K hK=>?_);go_simp;refine (Lb aw).mono ?_;rintro eq aJ ⟨rfl,dz⟩;have ay:Below w1.heap.size w1 aJ:=af.trans (dz.mono af.size);refine hK.out _ _ (fun _=>ay) ?_;clear hK K
  try simp only [Act.put,sT,sZ,sS]
  refine' tkR 14 74 ay ?o84
  refine' tkR 15 75 ay ?o85
  cases q2
  case false=>
   refine' tsQ 16 76 ay ?_
   refine' tsQ 17 77 ay ?_
   refine' tsQ 18 78 ay ?_
   refine' tsQ 19 79 ay ?_
   refine' tsQ 20 80 ay ?_
   refine' tsQ 21 81 ay ?_
   refine' tsQ 22 82 ay ?_
   refine' tsQ 23 83 ay ?_
   refine' tsQ 24 84 ay ?_
   refine' tkR 25 85 ay ?o86
   refine' tkR 26 4 ay ?o87
   refine zBN (by kernel_rfl) ?_ _;go_wp2;go_ret;exact ⟨by rw [HR.out];rfl,b1.trans (ay.mono b1.size)⟩
  case true=>
   refine' tkR 16 76 ay ?o88
   refine' tkR 17 77 ay ?o89
   refine' tkR 18 78 ay ?o90
   refine' tkQ 19 79 ay ?hyv ?o91
   case hyv=>
    intro wz hSw;have bk:=aM.out wz hSw;go_simp
    try rfl
   try simp only [Act.put,sT,sZ,sS]
   refine' tkR 21 81 ay ?o92
   refine' tkR 22 82 ay ?o93
   refine' tkQ 23 83 ay ?hyv ?o94
   case hyv=>
    intro wz hSw;have bk:=aM.out wz hSw;go_simp
    try rfl
   try simp only [Act.put,sT,sZ,sS]
   refine tnQ 20 (fun K hK=>?_);go_simp;refine (gE aJ (b1.trans (ay.mono b1.size)) eK.out.symm).mono ?_;rintro eq bF ⟨rfl,fJ⟩;have aD:Below w1.heap.size w1 bF:=ay.trans (fJ.mono ay.size);refine hK.out _ _ (fun _=>aD) ?_;clear hK K
   try simp only [Act.put,sT,sZ,sS]
   refine' zBS (i:=24) (oi:=⟨some 84,_,_,_,_,_⟩) (v:=.bool q5) rfl (by kernel_rfl) (by kernel_rfl) (by kernel_rfl) (by kernel_rfl) (fun _ _ _ h=>h) aD (by rfl) ?hyv ?o95
   case hyv=>
    intro wz hSw;go_simp;rw [vz.out]
    try rfl
   try simp only [Act.put,sT,sZ,sS]
   refine' tkR 25 85 aD ?o96
   refine' tkR 26 4 aD ?o97
   refine zBN (by kernel_rfl) ?_ _;go_wp2;go_ret;exact ⟨by rw [HR.out];rfl,b1.trans (aD.mono b1.size)⟩
end Go.Proofs.YtfhghlpfeeiaeaaGreatDoor
