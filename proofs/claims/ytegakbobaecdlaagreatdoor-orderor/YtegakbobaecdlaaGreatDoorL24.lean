import Derived.Test.YtegakbobaecdlaaGreatDoorL23
import Derived.WalkKit
import Derived.WalkSpells
import Derived.IntWalk
import Derived.Deep.Cut
import Derived.Deep.LoopGhost
import Derived.Ground.NamesProg
import Derived.Laws.Cover1
import Derived.Laws.Externs
import Derived.Lib.Hide
import Derived.Lib.MakeNoZero
import Derived.Lib.SlBuf
import Derived.Shelf.Bytes.SlSmallAll
import Derived.Shelf.Lay
set_option linter.unusedVariables false
set_option linter.unusedSimpArgs false
set_option maxHeartbeats 64000000
set_option maxRecDepth 100000
namespace Go.Proofs.YtegakbobaecdlaaGreatDoor
open Go.RowKit Go.IntWalk
theorem xQ {V:List Sk.Vr} {i:Nat} (h:i<V.length):Sk.vAt V (i:Int)=V[i]:=by
 unfold Sk.vAt;simp [List.getD_eq_getElem?_getD,h]
theorem effect_any {ok okS:Nat->Prop} {w:World} {b:Nat} {x:LkV} {V:List Sk.Vr} (hk:LkAt w b x) (hV:HVars ok w (.slice x.aV x.nV x.cV) V) (hVr:∀ v ∈ V,Sk.VrOk v) (hG:GlobK w) (p:Pu) (cells:Int) (hc:0<=cells/\cells<=300) (hin:nmd p=true->0<=p.v/\p.v<V.length) {sv:Value} {st:List Int} (hs:HBy okS w sv st) :
  Calls Tryz.prog 153 #[.pointer (some ⟨b,0,none⟩),pv p,.int .i64 cells,sv] w fun r w'=>∃ u,r=.returned (.tuple #[u,.int .u8 (Sk.effect V p cells st).2])/\HBy (fun i=>w.heap.size<=i) w' u (Sk.effect V p cells st).1/\Below w.heap.size w w':=by
 obtain ⟨op,k,v,n⟩:=p;unfold Sk.effect
 dsimp only at hin ⊢
 by_cases h1:op=1
 ·subst h1
  rw [if_pos rfl];exact (effect1_any b k v n cells sv w).mono fun _ _ ⟨e,h⟩=>⟨_,e,HBy.hnil,h⟩
 rw [if_neg h1];by_cases h2:op=2\/op=3
 ·rw [if_pos h2]
  have hv:=hin (by rcases h2 with e | e<;>(rw [e];rfl));obtain ⟨i,rfl⟩:∃ i:Nat,v=(i:Int):=⟨v.toNat,by omega⟩;have hi:i<V.length:=(by omega);rw [xQ hi];have hb:=(hVr V[i] (List.getElem_mem _)).2;rcases h2 with rfl | rfl
  ·exact (effect2_any hk hV k n cells i hi hc hb sv).mono fun _ _ ⟨e,h⟩=>⟨_,e,HBy.hnil,h⟩
  ·exact (effect3_any hk hV k n cells i hi hc hb sv).mono fun _ _ ⟨e,h⟩=>⟨_,e,HBy.hnil,h⟩
 rw [if_neg h2];by_cases h4:op=4
 ·subst h4
  rw [if_pos rfl];exact (effect4_any b k v n cells sv w).mono fun _ _ ⟨e,h⟩=>⟨_,e,HBy.hnil,h⟩
 rw [if_neg h4];by_cases h5:op=5\/op=6
 ·rw [if_pos h5]
  rcases h5 with rfl | rfl
  ·exact effect5_any b k v n cells sv w hG
  ·exact effect6_any b k v n cells sv w hG
 rw [if_neg h5];by_cases h7:op=7
 ·subst h7
  rw [if_pos rfl];exact effect7_any b k v n cells hs
 rw [if_neg h7];by_cases h8:op=8
 ·subst h8
  rw [if_pos rfl];have hv:=hin rfl;obtain ⟨i,rfl⟩:∃ i:Nat,v=(i:Int):=⟨v.toNat,by omega⟩;have hi:i<V.length:=(by omega);rw [xQ hi];exact effect8_any hk hV k n cells i hi (hVr V[i] (List.getElem_mem _)).2 sv
 rw [if_neg h8];exact (effect0_any b op k v n cells sv w (by omega)).mono fun _ _ ⟨e,h⟩=>⟨_,e,HBy.hnil,h⟩
theorem flat_take {D:Nat->List Value} {k:Nat}:∀ n m,m<=n->(∀ i,i<n->(D i).length=k)->(flat D n).take (m*k)=flat D m
 | n,m,h,hD=>by
  induction n with
  | zero=>
   obtain rfl:m=0:=by omega
   simp [flat]
  | succ n ih=>
   by_cases e:m=n+1
   ·subst e
    rw [List.take_of_length_le];rw [zAu (n+1) hD];exact Nat.le_refl _
   ·rw [flat,List.take_append_of_le_length]
    ·exact ih (by omega) fun i hi=>hD i (by omega)
    ·rw [zAu n fun i hi=>hD i (by omega)]
     exact Nat.mul_le_mul_right _ (by omega)
theorem OwnL.cut {α:Type} {T:Kind α} {B:Nat} {w:World} {a:Option Addr} {n c m:Nat} {l:List α} (h:OwnL T B w (.slice a n c) l) (hm:m<=l.length):OwnL T B w (.slice a m c) (l.take m):=by
 obtain ⟨D,⟨h1,h2⟩,h3⟩:=h;have hlen:(l.take m).length=m:=(by rw [List.length_take];omega);have hD:∀ i,i<l.length->(D i).length=T.k:=fun i hi=>T.len (h3 i hi);have hft:=flat_take l.length m hm hD;refine ⟨D,⟨?_,?_⟩,fun j hj=>?_⟩
 ·rw [hlen]
  exact zAu m fun i hi=>hD i (by omega)
 ·rw [hlen]
  rcases h2 with ⟨e1,e2⟩ | ⟨g,cap,cur,e1,e2,e3,e4,e5,e6,e7⟩
  ·injection e1 with q1 q2 q3
   subst q1 q3;have:m=0:=(by omega);exact .inl ⟨by rw [this],this⟩
  ·injection e1 with q1 q2 q3
   subst q1 q3;refine .inr ⟨g,c,cur,rfl,e2,e3,by omega,e5,e6,?_⟩;rw [<-hft,<-e7,List.take_take,Nat.min_eq_left (Nat.mul_le_mul_right _ hm)]
 ·have hj2:j<l.length:=by rw [hlen] at hj;omega
  rw [List.getElem_take];refine T.wide (h3 j hj2) fun i hi _=>?_
  cases a<;>exact hi
theorem Tryz.infoB:(Tryz.prog.info? 5).map (fun i=>(i.zero,i.size,i.bytes))=some (some (.int .u8 0),1,1):=by kernel_rfl
def kByte:Kind Int where
 ty:=5
 k:=1
 bytes:=1
 zero:=.int .u8 0
 E:=fun _ _ cs x=>cs=[.int .u8 x]
 pos:=by decide
 zs:=rfl
 info:=Tryz.infoB
 len:=by rintro _ _ _ _ rfl;rfl
 one:=by rintro _ _ _ _ rfl;simp;rfl
 keep:=by rintro _ _ _ _ _ rfl _ _;rfl
 wide:=by rintro _ _ _ _ _ rfl _;rfl
theorem by_row {ok:Nat->Prop} {w:World} {v:Value} {l:List Int} (h:HRow kByte ok w v l):HBy ok w v l:=h
theorem zAP {ok okE:Nat->Prop} {w:World} {b:Nat} {x:LkV} {V:List Sk.Vr} {aE:Option Addr} {nE cE:Nat} {E:List Pu} (hk:LkAt w b x) (hV:HVars ok w (.slice x.aV x.nV x.cV) V) (hVr:∀ v ∈ V,Sk.VrOk v) (hG:GlobK w) (hE:HPu okE w (.slice aE nE cE) E) (cells:Int) (hc:0<=cells/\cells<=300) (hin:∀ p ∈ E,nmd p=true->0<=p.v/\p.v<V.length) (hEl:E.length<=1000) :
  Calls Tryz.prog 136 #[.pointer (some ⟨b,0,none⟩),.slice aE nE cE,.int .i64 cells] w fun r w'=>r=.returned (.int .u8 (Sk.treeL V cells [] E))/\Below w.heap.size w w':=by
 obtain ⟨ao,cap,ev,hc1,hc2,-⟩:=hE.at;injection ev with q1 q2 q3;subst q1 q2 q3;unfold maxLen at hc2;obtain ⟨R,hR⟩:=nmQ (Sk.treeL V cells [] E);rw [<-hR];have HR:=zE (show R=Sk.treeL V cells [] (E.drop 0) by rw [List.drop_zero];exact hR);clear hR;have HE:=zE hE;have HK:=zE hk;have HV:=zE hV;have HVR:=zE hVr;have HG:=zE hG;have HIN:=zE hin;have HC:=zE hc;clear hE hk hV hVr hG hin hc;obtain ⟨n,hn⟩:=nmQ (E.length);rw [<-hn] at hc1 hEl ⊢;have HN:=zE hn;clear hn;go_enter Tryz.func136,Tryz.ntmps136;go_wp2_with fail;go_loopg [7,14] n (fun k sv v wr=>∃ (i:Nat) (st:List Int),i<=n/\k=n-i/\v=.int .i64 (i:Nat)/\Hid (R=Sk.treeL V cells st (E.drop i))/\Hid (Sk.By st)/\Hid (st.length<=i)/\Hid (OwnL kByte w.heap.size wr sv st)/\Below w.heap.size w wr)
 case atStart=>exact ⟨0,[],Nat.zero_le _,rfl,rfl,HR,zE (fun x hx=>by cases hx),zE (Nat.zero_le _),zE OwnL.nil,Below.refl _ _⟩
 case round=>
  clear HR;obtain ⟨i,st,hi,rfl,rfl,H,HBY,HSL,HOW,hbr⟩:=hrel;obtain ⟨sa,sc,rfl,hs1,hs2⟩:=HOW.out.form;unfold maxLen at hs2;by_cases hlt:i<n
  case neg=>
   have hin:i=n:=(by omega);subst hin;have e1:E.drop i=[]:=List.drop_of_length_le (by have:=HN.out;omega);have hZ:=H.out;rw [e1] at hZ;unfold Sk.treeL at hZ;have HZ:=zE hZ;clear hZ e1 H;by_cases hl:st.length=1
   case pos=>
    obtain ⟨y,rfl⟩:∃ y,st=[y]:=List.length_eq_one_iff.1 hl;obtain ⟨ao2,cap2,ev2,_,_,hat⟩:=(by_row HOW.out.row).at;obtain ⟨bs,os,ea,hbs,hcell⟩:=hat 0 (by simp);injection ev2 with q1 q2 q3;subst q1 q3;subst ea;simp at hcell;have HZ2:=zE (show R=y by rw [HZ.out];rfl);clear HZ hat HOW q2 hl;go_wp2;go_ret;exact ⟨by rw [HZ2.out];rfl,hbr⟩
   case neg=>
    have HZ2:=zE (show R=0 by rw [HZ.out,if_neg hl]);have e2:((st.length:Int) != 1)=true:=(by simp;omega);clear HZ;generalize st.length=sl at *;go_wp2;go_ret;exact ⟨by rw [HZ2.out];rfl,hbr⟩
  case pos=>
   have hil:i<E.length:=(by have:=HN.out;omega);have hdr:E.drop i=E[i] :: E.drop (i+1):=List.drop_eq_getElem_cons hil;have hR1:=H.out;rw [hdr] at hR1;obtain ⟨ao',cap',eqs,-,-,hat2⟩:=(HE.out.under hbr).at;injection eqs with q1 q2 q3;subst q1;obtain ⟨bb,o,rfl,hb,e0,e1,e2,e3⟩:=hat2 i hil;obtain ⟨y,hy⟩:=nmQ (E[i]);have hiny:=HIN.out y (by rw [hy];exact List.getElem_mem hil);rw [<-hy] at e0 e1 e2 e3 hR1;unfold Sk.treeL at hR1;have bA:Below wr.heap.size wr (wr.alloc (.cells #[.int .i64 y.op,.int .i64 y.k,.int .i64 y.v,.int .i64 y.n] 79 (0,0))):=(Below.refl _ _).alloc zM _;have BA:=hbr.trans (bA.mono hbr.size);have kV:=zI wr (.cells #[.int .i64 y.op,.int .i64 y.k,.int .i64 y.v,.int .i64 y.n] 79 (0,0));have own1:=HOW.out.below bA;have hct:=effect_any (HK.out.under BA) (HV.out.under BA) HVR.out (HG.out.under BA) y cells HC.out hiny (by_row own1.row);have hby:=Sk.effect_by HVR.out (p:=y) (c:=cells) HBY.out;have hel:=Sk.effect_len (V:=V) (p:=y) (c:=cells) (st:=st);generalize Sk.effect V y cells st=G at hct hR1 hby hel;obtain ⟨tk,mk⟩:=G
   dsimp only at hct hR1 hby hel
   have HR1:=zE hR1;have HTB:=zE hby;have HTL:=zE hel;have HO1:=zE own1;clear hat2 q2 q3 hy hdr hR1 H hiny hby hel own1 HOW;go_upto_region 5 with fail;generalize wr.alloc (.cells #[.int .i64 y.op,.int .i64 y.k,.int .i64 y.v,.int .i64 y.n] 79 (0,0))=wa at bA BA kV hct HO1 ⊢;have v0:=coQ kV 0;have v1:=coQ kV 1;have v2:=coQ kV 2;have v3:=coQ kV 3;simp at v0 v1 v2 v3;go_wp2_with fail;refine hct.mono ?_;rintro e w4 ⟨u,rfl,hu4,b4⟩;obtain ⟨ua,uc,rfl,hu1,hu2,-⟩:=hu4.at;unfold maxLen at hu2;have B4:=BA.trans (b4.mono BA.size);have own4:=HO1.out.below b4;have HO4:=zE own4;have hsf:=zAt (by_row own4.row) hu4 HBY.out HTB.out.1;clear hct v0 v1 v2 v3 kV HO1 own4 hu4;by_cases hz:mk=0
   case pos=>
    have hz2:(mk==0)=true:=(by simp [hz]);have HZ:Hid (R=0):=zE (by rw [HR1.out,if_pos (.inl hz)]);clear HR1 hz hsf;go_wp2;go_ret;exact ⟨by rw [HZ.out];rfl,B4⟩
   case neg=>
    have hz2:(mk==0)=false:=(by simp [hz]);have HNZ:=zE hz;clear hz;obtain ⟨q,hq⟩:=nmQ (Sk.ends st tk);rw [<-hq] at hsf;have HQ:=zE hq;clear hq;go_wp2_with fail;refine hsf.mono ?_;rintro e w5 ⟨rfl,b5⟩;have B5:=B4.trans (b5.mono B4.size);have HO5:=zE (HO4.out.below b5);clear hsf HO4
    cases q
    case false=>
     have HZ:Hid (R=0):=zE (by rw [HR1.out,if_pos (.inr HQ.out.symm)]);clear HR1;go_wp2;go_ret;exact ⟨by rw [HZ.out];rfl,B5⟩
    case true=>
     have HZ:Hid (R=Sk.treeL V cells (st.take (st.length-tk.length)++[mk]) (E.drop (i+1))):=zE (by rw [HR1.out,if_neg (by rintro (h | h);exact HNZ.out h;rw [<-HQ.out] at h;cases h)]);have hle:tk.length<=st.length:=by
      have:=HQ.out;unfold Sk.ends at this;have:=(Bool.and_eq_true _ _ ▸ this.symm).1
      simpa using this
     have HBY2:=zE (Sk.push_by (Sk.take_by HBY.out (st.length-tk.length)) HTB.out.2);have HSL2:=zE (show (st.take (st.length-tk.length)++[mk]).length<=i+1 by have:=HSL.out;simp;omega);have HC5:=zE (HO5.out.cut (m:=st.length-tk.length) (Nat.sub_le _ _));obtain ⟨m,hm⟩:∃ m,st.length-tk.length=m:=⟨_,rfl⟩;rw [hm] at HZ HBY2 HSL2 HC5;have hsl:(st.length:Int)-(tk.length:Int)=(m:Int):=(by omega);have hms:m<=st.length:=(by omega);have HLN:=zE (show (st.take m).length=m by rw [List.length_take];omega);have HML:=zE (show m<=i by have:=HSL.out;omega);clear HR1 HQ hm hle HO5;generalize st.length=sl at hsl hms hs1 ⊢;generalize tk.length=tl at hsl hu1 ⊢;have z5:=B5.size;have q2:((st.take m).length+1)*1<=140737488355328:=(by rw [HLN.out];have:=HML.out;omega);have q3:(st.take m).length+1<=maxLen:=(by rw [HLN.out];have:=HML.out;unfold maxLen;omega);have HC6:OwnL kByte w.heap.size w5 (.slice sa m sc) (st.take m):=HC5.out;have HC7:=zE HC6;have HNb:=zE (show ∀ k,(Value.slice sa m sc).ownBlock=some k->k<w5.heap.size from fun k hk=>(HC6.lt k hk).2);clear HC5 HC6
     go_wp2_with (at_builtin;refine zQ kByte rfl _ _ 104 5 rfl Tryz.underlying104 w.heap.size w5.heap.size _ (st.take m) (by rfl) HC7.out [.int .u8 mk] mk rfl (by rfl) HNb.out z5 z5 q2 q3 ?_;intro v8 w8 own8 b8 _ _;have HO8:=zE own8;clear own8 HC7 HNb)
     have B8:=B5.trans b8;go_roundg (n-(i+1))
     case measure=>omega
     case rel=>exact ⟨i+1,_,by omega,rfl,by go_num,HZ,HBY2,HSL2,HO8,B8⟩
end Go.Proofs.YtegakbobaecdlaaGreatDoor
