import Derived.Test.YtnhmcpnbaajjcaaGreatDoorC40
import Derived.Deep.Cut
import Derived.Deep.LoopGhost
import Derived.Ground.NamesProg
import Derived.IntWalk
import Derived.Laws.Cover1
import Derived.Laws.EntriesVeiled
import Derived.Laws.Externs
import Derived.Lib.Hide
import Derived.Lib.MakeNoZero
import Derived.Lib.SlBuf
import Derived.Shelf.Bytes.SlSmallAll
import Derived.Shelf.Lay
import Derived.WalkKit
import Derived.WalkSpells
import Derived.Maps.OwnSet
set_option linter.unusedVariables false
set_option linter.unusedSimpArgs false
set_option maxHeartbeats 64000000
set_option maxRecDepth 100000
namespace Go.Proofs.YtnhmcpnbaajjcaaGreatDoor
open Go.RowKit Go.IntWalk
theorem vH {w:World} {ok okL:Nat->Prop} {aV aI aO aR:Option Addr} {nV cV nI cI nO cO nR cR:Nat} {V:List Sk.Vr} {u:Value} {L:List Int} (hV:HVars ok w (.slice aV nV cV) V) (hL:HInts okL w u L) (hc:∀ x:Int,0<=x->x<(V.length:Int)->Sk.cnt (Sk.vAt V x)<=300) (hl:L.length<=1000000) :
  Calls Tryz.prog 41 #[.agg #[.slice aV nV cV,.slice aI nI cI,.slice aO nO cO,.slice aR nR cR],u] w fun e w'=>e=.returned (.int .i64 (Sk.width V L:Nat))/\Below w.heap.size w w':=by
 obtain ⟨ao,cap,ev,hv1,hv2,-⟩:=hV.at;injection ev with q1 q2 q3;subst q1 q2 q3;unfold maxLen at hv2;obtain ⟨aL,cL,rfl,hl1,hl2,-⟩:=hL.at;unfold maxLen at hl2;obtain ⟨R,hR⟩:=nmQ (Sk.width V L);rw [<-hR];have HR:=zD (show R=0+Sk.width V (L.drop 0) by rw [List.drop_zero,Nat.zero_add];exact hR);obtain ⟨nv,hnv⟩:=nmQ (V.length);obtain ⟨n,hn⟩:=nmQ (L.length);rw [<-hnv] at hv1 hV ⊢;rw [<-hn] at hl1 hl hL ⊢;have b1:Below w.heap.size w (w.alloc (.cells #[.slice aV nv cV,.slice aI nI cI,.slice aO nO cO,.slice aR nR cR] 26 (0,0))):=(Below.refl _ _).alloc zL _;have kS:=zH w (.cells #[.slice aV nv cV,.slice aI nI cI,.slice aO nO cO,.slice aR nR cR] 26 (0,0));have HV:=zD (hV.under b1);have HL:=zD (hL.under b1);have HC:=zD hc;have HN:=zD hn;have HNV:=zD hnv;clear hR hV hL hc hn hnv;go_enter Tryz.func41,Tryz.ntmps41;go_upto_region 1 with fail;obtain ⟨w1,hw1⟩:=nmQ (w.alloc (.cells #[.slice aV nv cV,.slice aI nI cI,.slice aO nO cO,.slice aR nR cR] 26 (0,0)));rw [<-hw1] at b1 kS HV HL ⊢;clear hw1;go_wp2_with fail;go_loopg [5,10] n (fun k u v wr=>∃ (i a:Nat),i<=n/\k=n-i/\u=.int .i64 (a:Nat)/\v=.int .i64 (i:Nat)/\Hid (R=a+Sk.width V (L.drop i))/\a<=300*i/\Below w1.heap.size w1 wr)
 case atStart=>exact ⟨0,0,Nat.zero_le _,rfl,rfl,rfl,HR,Nat.zero_le _,Below.refl _ _⟩
 case round=>
  clear HR;obtain ⟨i,a,hi,rfl,rfl,rfl,H,ha,hbr⟩:=hrel;by_cases hlt:i<n
  case neg=>
   have hin:i=n:=(by omega);subst hin;have e1:L.drop i=[]:=List.drop_of_length_le (by have:=HN.out;omega);have HZ:=zD (show a=R by rw [H.out,e1];rfl);clear e1 H;go_wp2;go_ret;exact ⟨by rw [HZ.out];rfl,b1.trans (hbr.mono b1.size)⟩
  case pos=>
   have hil:i<L.length:=(by have:=HN.out;omega);have hdr:L.drop i=L[i] :: L.drop (i+1):=List.drop_eq_getElem_cons hil;have hR1:=H.out;rw [hdr] at hR1;unfold Sk.width at hR1;obtain ⟨ao',cap',eqs,-,-,hat2⟩:=(HL.out.under hbr).at;injection eqs with q1 q2 q3;subst q1;obtain ⟨bb,o,rfl,hb,e0⟩:=hat2 i hil;obtain ⟨y,hy⟩:=nmQ (L[i]);rw [<-hy] at e0 hR1;have kS1:=(hbr.block _ (zG kS)).trans kS;have s0:=coQ kS1 0;simp at s0;clear hat2 q2 q3 hy hdr H kS1;by_cases h0:0<=y
   case neg=>
    rw [if_neg (by omega),Nat.zero_add] at hR1;have HR1:=zD hR1;have g0:y<0:=(by omega);clear hR1 h0;go_wp2_with fail;go_roundg (n-(i+1))
    case measure=>omega
    case rel=>exact ⟨i+1,a,by omega,rfl,rfl,by go_num,HR1,by omega,hbr⟩
   case pos=>
    obtain ⟨q,rfl⟩:∃ q:Nat,y=(q:Int):=⟨y.toNat,by omega⟩;by_cases h1:q<nv
    case neg=>
     rw [if_neg (by have:=HNV.out;omega),Nat.zero_add] at hR1;have HR1:=zD hR1;have h2:nv<=q:=(by omega);clear hR1 h0 h1;go_wp2_with fail;go_roundg (n-(i+1))
     case measure=>omega
     case rel=>exact ⟨i+1,a,by omega,rfl,rfl,by go_num,HR1,by omega,hbr⟩
    case pos=>
     have hqV:q<V.length:=(by have:=HNV.out;omega);rw [if_pos (by omega)] at hR1;have hcq:=HC.out (q:Int) (by omega) (by omega);have ev:Sk.vAt V (q:Int)=V[q]:=qW hqV;rw [ev] at hR1 hcq;obtain ⟨ao3,cap3,eq3,-,-,hat3⟩:=(HV.out.under hbr).at;injection eq3 with z1 z2 z3;subst z1;obtain ⟨bv,ov,rfl,yv,x0,y0⟩:=hat3 q hqV;generalize V[q]=va at x0 y0 hR1 hcq;have hct:=qM va;generalize Sk.cnt va=cc at hct hR1 hcq;have HR1:=zD (show R=(a+cc)+Sk.width V (L.drop (i+1)) by rw [hR1];omega);have HCT:=zD hct;clear hat3 z2 z3 ev hR1 hct h0;unfold vv at HCT;go_wp2_with fail;refine (HCT.out _).mono ?_;rintro e w4 ⟨rfl,b4⟩;have B4:=hbr.trans (b4.mono hbr.size);clear HCT x0 y0 s0 e0;go_wp2_with fail;go_roundg (n-(i+1))
     case measure=>omega
     case rel=>exact ⟨i+1,a+cc,by omega,rfl,by go_num,by go_num,HR1,by omega,B4⟩
theorem jZ {S:List Nat} {B:Nat} {w w':World} {b:Nat} (hb:b ∈ S) (g:w.grownBy w' (some b)) (hB:B<=w.heap.size):Aside S B w w' :=
 ⟨g.os,g.tape,g.output,g.size,fun k hk hn=>g.block k (Nat.lt_of_lt_of_le hk hB) (fun e=>hn (by injection e with e;exact e ▸ hb))⟩
theorem grown_below {w w':World} {v:Value} {B:Nat} (g:w.grownBy w' v.ownBlock) (hv:∀ k,v.ownBlock=some k->B<=k) (hB:B<=w.heap.size):Below B w w' :=
 (show Aside v.ownBlock.toList B w w' from ⟨g.os,g.tape,g.output,g.size,fun k hk hn=>g.block k (Nat.lt_of_lt_of_le hk hB) (fun e=>hn (by simp [<-e]))⟩).below (fun k hk=>hv k (by simpa using hk))
theorem Sk.toldL_snoc (C:List (List Int)) (a:List Int) (x:Int):Sk.toldL C (a++[x])=Sk.toldL C a++Sk.cAt C x:=by simp [Sk.toldL]
theorem Sk.cAt_get {C:List (List Int)} {q:Nat} (h:q<C.length):Sk.cAt C (q:Int)=C[q]:=by unfold Sk.cAt;simp [List.getD_eq_getElem?_getD,h]
theorem Sk.toldL_len {C:List (List Int)} (hl:∀ l ∈ C,l.length<=300):∀ O:List Int,(Sk.toldL C O).length<=300*O.length
 | []=>by simp [Sk.toldL]
 | x :: r=>by
  have h1:=Sk.toldL_len hl r;have h2:(Sk.cAt C x).length<=300:=by
   unfold Sk.cAt;rw [List.getD_eq_getElem?_getD]
   cases hg:C[x.toNat]? with
   | none=>simp
   | some l=>exact hl l (List.mem_of_getElem? hg)
  have e:Sk.toldL C (x :: r)=Sk.cAt C x++Sk.toldL C r:=(by simp [Sk.toldL]);rw [e,List.length_append,List.length_cons];omega
theorem Sk.width_le {V:List Sk.Vr} (hv:∀ v ∈ V,Sk.VrOk v):∀ L:List Int,Sk.width V L<=300*L.length
 | []=>by simp [Sk.width]
 | x :: r=>by
  have h1:=Sk.width_le hv r;unfold Sk.width;rw [List.length_cons]
  split
  ·rename_i h
   have:=Sk.cnt_le (Sk.vAt_ok hv h);omega
  ·omega
theorem told_any {w:World} {rb cb:Nat} {oA:Option Nat} {okS ok:Nat->Prop} {aV aI aO aR:Option Addr} {cV cI cO cR:Nat} {S:Sk.Sys} {C:List (List Int)} (hr:RowAt w rb ⟨aV,S.V.length,cV,aI,S.I.length,cI,aO,S.O.length,cO,aR,S.R.length,cR,0⟩ (.slice (some ⟨cb,0,none⟩) S.V.length S.V.length) (.map oA)) (hS:HSys okS w aV aI aO aR cV cI cO cR S) (hC:CellsAt ok w cb C) (okay:Sk.Okay S) (hCl:C.length=S.V.length) (hlen:∀ l ∈ C,l.length<=300) :
  Calls Tryz.prog 45 #[.pointer (some ⟨rb,0,none⟩)] w fun e w'=>∃ v,e=.returned v/\OwnL kLong w.heap.size w' v (Sk.toldL C S.O)/\Below w.heap.size w w':=by
 obtain ⟨aoO,capO,evO,hO1,hO2,-⟩:=hS.O.at;injection evO with q1 q2 q3;subst q1 q3;clear q2;unfold maxLen at hO2;have hr0:=hr;unfold RowAt at hr0;have yR:=zG hr0;have yC:=hC.lt;have zO:=okay.nO;have zV:=okay.nV;have hwid:=vH (aI:=aI) (aO:=aO) (aR:=aR) (nI:=S.I.length) (cI:=cI) (nO:=S.O.length) (cO:=cO) (nR:=S.R.length) (cR:=cR) hS.V hS.O (fun x h0 h1=>Sk.cnt_le (Sk.vAt_ok okay.vars ⟨h0,h1⟩)) (by omega);have HWL:=zD (Sk.width_le okay.vars S.O);have HWID:=zD (fun W (hb:Below w.heap.size w W)=>vH (aI:=aI) (aO:=aO) (aR:=aR) (nI:=S.I.length) (cI:=cI) (nO:=S.O.length) (cO:=cO) (nR:=S.R.length) (cR:=cR) (hS.V.under hb) (hS.O.under hb) (fun x h0 h1=>Sk.cnt_le (Sk.vAt_ok okay.vars ⟨h0,h1⟩)) (by omega));generalize Sk.width S.V S.O=wi at HWID HWL;have hwl:=HWL.out;have hwi:wi<=1000000:=(by omega);have hmk:∀ W,(Instr.makeSlice 52 (.int .i64 0) (.int .i64 (wi:Int))).run Tryz.prog W=.ok (.slice (some ⟨W.heap.size,0,none⟩) 0 wi) (W.alloc (.cells (Array.replicate wi (.int .i64 0)) 2 (0,0))):=fun W=>by
  have h:=vQ 0 wi (Nat.zero_le _) hwi W;have e:((List.replicate wi (0:Int)).map (Value.int .i64)).toArray=Array.replicate wi (.int .i64 0):=(by simp);rw [e] at h;exact h
 have HROW:=zD hr0;have HS:=zD hS;have HC:=zD hC;have HO:=zD okay;have HCL:=zD hCl;have HLE:=zD hlen;have HMK:=zD hmk;clear hr hr0 hS hC okay hCl hlen hwid HWL hwl hmk;go_enter Tryz.func45,Tryz.ntmps45;go_upto_region 1 with fail;have k0:=coQ HROW.out 0;have k1:=coQ HROW.out 1;have k2:=coQ HROW.out 2;have k3:=coQ HROW.out 3;simp at k0 k1 k2 k3;refine zK (fun w'=>Below w.heap.size w w') (fun _=>false) (by kernel_rfl) ?_;have hH0:Below w.heap.size w w.drew:=(Below.refl _ _).drew;generalize w.drew=wd0 at hH0 ⊢;refine' tkR 0 6 hH0 ?o1
 refine' tkR 1 7 hH0 ?o2
 refine' tkR 2 8 hH0 ?o3
 refine' tkQ 3 9 hH0 ?hyv ?o4
 case hyv=>
  intro wz hSw;have zc0:=(hSw.cell (p:=⟨rb,0,none⟩) yR).trans k0;have zc1:=(hSw.cell (p:=⟨rb,1,none⟩) yR).trans k1;have zc2:=(hSw.cell (p:=⟨rb,2,none⟩) yR).trans k2;have zc3:=(hSw.cell (p:=⟨rb,3,none⟩) yR).trans k3;go_simp
  try rfl
 try simp only [Act.put,sT,sZ,sS]
 refine' tkR 4 10 hH0 ?o5
 refine' tkR 5 11 hH0 ?o6
 refine' tkR 6 12 hH0 ?o7
 refine' tkR 7 13 hH0 ?o8
 refine' tkQ 8 14 hH0 ?hyv ?o9
 case hyv=>
  intro wz hSw;have zc0:=(hSw.cell (p:=⟨rb,0,none⟩) yR).trans k0;have zc1:=(hSw.cell (p:=⟨rb,1,none⟩) yR).trans k1;have zc2:=(hSw.cell (p:=⟨rb,2,none⟩) yR).trans k2;have zc3:=(hSw.cell (p:=⟨rb,3,none⟩) yR).trans k3;go_simp
  try rfl
 try simp only [Act.put,sT,sZ,sS]
 refine tnQ 9 (fun K hK=>?_);go_simp;refine (HWID.out wd0 hH0).mono ?_;rintro eq wd1 ⟨rfl,bq1⟩;have hH1:Below w.heap.size w wd1:=hH0.trans (bq1.mono hH0.size);refine hK.out _ _ (fun _=>hH1) ?_;clear hK K
 try simp only [Act.put,sT,sZ,sS]
 refine tnQ 10 (fun K hK=>?_);have hrun:=HMK.out wd1;have own1:=OwnL.made (w:=wd1) (B:=w.heap.size) hH1.size (Array.replicate wi (.int .i64 0)) wi (by unfold maxLen;omega) (by simp);have hH2:Below w.heap.size w (wd1.alloc (.cells (Array.replicate wi (.int .i64 0)) 2 (0,0))):=hH1.alloc hH1.size _;have HNEW:=zD own1;clear own1;go_simp;refine hK.out _ _ (fun _=>hH2) ?_;clear hK K hrun
 try simp only [Act.put,sT,sZ,sS]
 generalize wd1.alloc (.cells (Array.replicate wi (.int .i64 0)) 2 (0,0))=wd2 at hH2 HNEW ⊢;refine' tkR 11 3 hH2 ?o10
 refine zJ (by kernel_rfl) ?_ _;obtain ⟨wS,hwS⟩:=nmQ (wd2);rw [<-hwS] at HNEW hH2 ⊢;have BS:=hH2;have k2S:=(BS.cell (p:=⟨rb,2,none⟩) yR).trans k2;clear k0 k1 k2 k3 hwS;generalize wd1.heap.size=b1 at HNEW ⊢;go_wp2_with fail;clear k2S;go_loopg [3,23] S.O.length (fun k u v wr=>∃ (i:Nat),i<=S.O.length/\k=S.O.length-i/\v=.int .i64 (i:Nat)/\Hid (OwnL kLong w.heap.size wr u (Sk.toldL C (S.O.take i)))/\Below w.heap.size w wr)
 case atStart=>exact ⟨0,Nat.zero_le _,rfl,rfl,HNEW,BS⟩
 case round=>
  clear HNEW BS;obtain ⟨i,hi,rfl,rfl,HOW,hbr⟩:=hrel;have zr:=hbr.size;obtain ⟨a3,c3,e3,-,-⟩:=HOW.out.form;obtain ⟨tl,htl⟩:=nmQ ((Sk.toldL C (S.O.take i)).length);rw [<-htl] at e3;subst e3;have HTL:=zD htl;clear htl;by_cases hlt:i<S.O.length
  case neg=>
   have hin:i=S.O.length:=(by omega);subst hin;rw [List.take_length] at HOW;go_wp2;go_ret;exact ⟨_,rfl,HOW.out,hbr⟩
  case pos=>
   have hx:=HO.out.outs S.O[i] (List.getElem_mem hlt);obtain ⟨ao',cap',eqs,-,-,hat2⟩:=(HS.out.under hbr).O.at;injection eqs with q1 q2 q3;obtain ⟨bb,oo,hbb,hb,e0⟩:=hat2 i hlt;rw [hbb] at q1;subst q1;obtain ⟨q,hq⟩:∃ q:Nat,S.O[i]=(q:Int):=⟨(S.O[i]).toNat,by omega⟩;have hqV:q<S.V.length:=(by omega);have hqC:q<C.length:=(by have:=HCL.out;omega);obtain ⟨ca,cn,cc,hcc,hci⟩:=(HC.out.under hbr).at q hqC;have hrow:=(hbr.block _ yR).trans HROW.out;have k4:=coQ hrow 4;simp at k4;have hsn:Sk.toldL C (S.O.take (i+1))=Sk.toldL C (S.O.take i)++C[q]:=(by rw [List.take_succ_eq_append_getElem hlt,Sk.toldL_snoc,hq,Sk.cAt_get hqC]);have hl1:=Sk.toldL_len HLE.out (S.O.take i);rw [List.length_take] at hl1;have hl2:=HLE.out C[q] (List.getElem_mem hqC);have hci2:HRow kLong (fun i=>i<w.heap.size) wr (.slice ca cn cc) C[q]:=by
    have h1:=(HC.out.at q hqC);obtain ⟨xa,xn,xc,g1,g2⟩:=h1;have h2:=(hbr.cell (p:=⟨cb,q,none⟩) yC).trans g1;rw [hcc] at h2;injection h2 with h2;rw [h2];exact xN (g2.wide (ok':=fun i=>i<w.heap.size) fun _ _ h=>h) hbr zL
   obtain ⟨v',w',hrun,hX,hg,hmv⟩:=xO kLong 52 52 Tryz.underlying52 (jK HOW.out) hci2 (fun k hk hl=>by have:=(HOW.out.lt k hk).1;omega) (by show (_+_)*8<=140737488355328;have:=HTL.out;omega) (by unfold maxLen;omega);have hB4:=grown_below hg (fun k hk=>(HOW.out.lt k hk).1) zr;have hown4:OwnL kLong w.heap.size w' v' (Sk.toldL C (S.O.take (i+1))):=by
    rw [hsn];exact xW hX (fun k hk=>by
     rcases hmv with h | ⟨z,hz,hz2⟩
     ·rw [h] at hk;exact (HOW.out.lt k hk).1
     ·rw [hz] at hk;injection hk with hk;subst hk;omega) (fun _ _ _ _ _ h=>h)
   have HN4:=zD (And.intro hown4 (hbr.trans hB4));rw [hq] at e0;clear hat2 q2 q3 hbb hx hq hci hci2 hsn hl1 hl2 hX hg hmv hB4 hown4 hrow HOW
   go_wp2_with (first | (at_builtin;refine zZ rfl _ _ 52 rfl _ _ _ (by rfl) (by rfl) hrun ?_) | fail)
   clear hrun;go_roundg (S.O.length-(i+1))
   case measure=>omega
   case rel=>exact ⟨i+1,by omega,rfl,by go_num,zD HN4.out.1,HN4.out.2⟩
theorem AhRel.put {ok:Nat->Prop} {w:World} {f:Int->Option Value} {ah:Int->Option (List Int)} (h:AhRel ok w f ah) (x:Int) {a:Option Addr} {n c:Nat} {l:List Int} (hl:HInts ok w (.slice a n c) l):AhRel ok w (putI f x (.slice a n c)) (Sk.putA ah x l):=fun y=>by
 unfold putI Sk.putA;by_cases e:y=x
 ·rw [if_pos e,if_pos e];exact .inr ⟨a,n,c,l,rfl,rfl,hl⟩
 ·rw [if_neg e,if_neg e];exact h y
theorem oper_put {w w':World} {o:Oper} {a:Act} {K:Act->World->Prop} {Q:Exit->Act->World->Prop} (m x v:Operand) (ho:o.op=Op.mapUpdate 80 m x v) (b:Nat) (k:Int) (u:Value) (hm:a.eval m=.map (some b)) (hx:a.eval x=.int .i64 k) (hv:a.eval v=u)
  (hr:(Instr.mapUpdate 80 (.map (some b)) (.int .i64 k) u).run Tryz.prog w=.ok () w') (h:K (a.put o.dst undef) w'):Oper.wp Tryz.prog o a w K Q:=by
 unfold Oper.wp;simp [execOp,ho,hm,hx,hv,hr,Result.andThen];exact h
theorem keep_any {w:World} {rb cb:Nat} {oA:Option Nat} {okS ok:Nat->Prop} {aV aI aO aR:Option Addr} {cV cI cO cR:Nat} {S:Sk.Sys} {C:List (List Int)} (hr:RowAt w rb ⟨aV,S.V.length,cV,aI,S.I.length,cI,aO,S.O.length,cO,aR,S.R.length,cR,0⟩ (.slice (some ⟨cb,0,none⟩) S.V.length S.V.length) (.map oA)) (hS:HSys okS w aV aI aO aR cV cI cO cR S) (hC:CellsAt ok w cb C) (okay:Sk.Okay S) (hCl:C.length=S.V.length) :
  Calls Tryz.prog 44 #[.pointer (some ⟨rb,0,none⟩)] w fun e w'=>∃ (n:Nat) (f:Int->Option Value),e=.returned (.map (some w.heap.size))/\MapI w' w.heap.size n f/\AhRel (fun i=>ok i/\i<w.heap.size) w' f (Sk.keepF C (fun _=>none) S.R)/\Below w.heap.size w w':=by
 obtain ⟨aoR,capR,evR,hR1,hR2,-⟩:=hS.R.at;injection evR with q1 q2 q3;subst q1 q3;clear q2;unfold maxLen at hR2;have hr0:=hr;unfold RowAt at hr0;have yR:=zG hr0;have yC:=hC.lt;have zR:=okay.nR;have zV:=okay.nV;have hmm:=@run_makeMap Tryz.prog;have b1:Below w.heap.size w (w.alloc (.map #[] 0)):=(Below.refl _ _).alloc zL _;have HM0:=zD (MapI.made w);obtain ⟨RR,hRR⟩:=nmQ (Sk.keepF C (fun _=>none) S.R);rw [<-hRR];have HRR:=zD (show RR=Sk.keepF C (fun _=>none) (S.R.drop 0) by rw [List.drop_zero];exact hRR);have HROW:=zD hr0;have HS:=zD hS;have HC:=zD hC;have HO:=zD okay;have HCL:=zD hCl;have k3:=coQ ((b1.block _ yR).trans hr0) 3;simp at k3;clear hRR hr hr0 hS hC okay hCl;go_enter Tryz.func44,Tryz.ntmps44;go_upto_region 2 with fail;generalize w.alloc (.map #[] 0)=w1 at b1 HM0 k3 ⊢;clear hmm;go_wp2_with fail;clear k3;go_loopg [13] S.R.length (fun k v wr=>∃ (i n:Nat) (f:Int->Option Value) (ah:Int->Option (List Int)),i<=S.R.length/\n<=i/\k=S.R.length-i/\v=.int .i64 (i:Nat)/\Hid (RR=Sk.keepF C ah (S.R.drop i))/\Hid (MapI wr w.heap.size n f)/\Hid (AhRel (fun i=>ok i/\i<w.heap.size) wr f ah)/\Below w.heap.size w wr)
 case atStart=>exact ⟨0,0,_,_,Nat.zero_le _,Nat.le_refl _,rfl,rfl,HRR,HM0,zD (fun x=>.inl ⟨rfl,rfl⟩),b1⟩
 case round=>
  clear HRR HM0;obtain ⟨i,n,f,ah,hi,hni,rfl,rfl,H,HM,HA,hbr⟩:=hrel;have zr:=hbr.size;by_cases hlt:i<S.R.length
  case neg=>
   have hin:i=S.R.length:=(by omega);subst hin;have e1:S.R.drop S.R.length=[]:=List.drop_of_length_le zL;have HZ:=zD (show ah=RR by rw [H.out,e1];rfl);clear e1 H;go_wp2;go_ret;exact ⟨n,f,rfl,HM.out,by rw [<-HZ.out];exact HA.out,hbr⟩
  case pos=>
   have hdr:S.R.drop i=S.R[i] :: S.R.drop (i+1):=List.drop_eq_getElem_cons hlt;have hR:=H.out;rw [hdr] at hR;unfold Sk.keepF at hR;obtain ⟨ao',cap',eqs,-,-,hat2⟩:=(HS.out.under hbr).R.at;injection eqs with q1 q2 q3;obtain ⟨bR,oR,y,hbR,yb,hat,hru⟩:=hat2 i hlt;rw [hbR] at q1;subst q1;have hok:=HO.out.rules S.R[i] (List.getElem_mem hlt);obtain ⟨r,hr⟩:=nmQ (S.R[i]);rw [<-hr] at hat hru hR hok;obtain ⟨d0,d1,d2,d3,d4,d5⟩:=hat;have bA:Below wr.heap.size wr (wr.alloc (.cells #[.int .i64 r.op,.int .i64 r.k,.int .i64 r.out,.int .i64 r.n,.slice y.aA y.nA y.cA,.slice y.aE y.nE y.cE] 40 (0,0))):=(Below.refl _ _).alloc zL _;have kV:=zH wr (.cells #[.int .i64 r.op,.int .i64 r.k,.int .i64 r.out,.int .i64 r.n,.slice y.aA y.nA y.cA,.slice y.aE y.nE y.cE] 40 (0,0));have hrA:=((hbr.trans (bA.mono zr)).block _ yR).trans HROW.out;have BA:=hbr.trans (bA.mono zr);have HMA:=zD (HM.out.keep (bA.block _ HM.out.lt));have HAA:=zD (HA.out.under bA);have HCA:=zD (HC.out.under BA);have HRU:=zD (hru.under bA);have HOK:=zD hok;have yMp:w.heap.size<wr.heap.size:=HM.out.lt;clear hat2 q2 q3 hbR hr hdr hru hok HM HA H;by_cases e13:r.op=13
   case neg=>
    rw [if_neg e13] at hR;have HR2:=zD hR;have hop:(r.op==13)=false:=(by rw [beq_eq_false_iff_ne];exact e13);clear hR e13;go_upto_region 5 with fail;generalize wr.alloc (.cells #[.int .i64 r.op,.int .i64 r.k,.int .i64 r.out,.int .i64 r.n,.slice y.aA y.nA y.cA,.slice y.aE y.nE y.cE] 40 (0,0))=wA at bA kV hrA BA HMA HAA HCA HRU ⊢;have v0:=coQ kV 0;simp at v0;clear d0 d1 d2 d3 d4 d5 kV hrA;go_wp2_with fail;go_roundg (S.R.length-(i+1))
    case measure=>omega
    case rel=>exact ⟨i+1,n,f,ah,by omega,by omega,rfl,by go_num,HR2,HMA,HAA,BA⟩
   case pos=>
    rw [if_pos e13] at hR;have hpre:=Sk.pre_used HOK.out.2 e13;have hz:=HOK.out.2.uses _ hpre.2;have l1:1<r.A.length:=(by omega);rw [Sk.aN_get l1] at hR hz;obtain ⟨q,hq⟩:∃ q:Nat,r.A[1]=(q:Int):=⟨(r.A[1]).toNat,by omega⟩;rw [hq] at hR hz;have hqC:q<C.length:=(by have:=HCL.out;omega);rw [Sk.cAt_get hqC] at hR;obtain ⟨aoA,capA,evA,hA1,hA2,hatA⟩:=HRU.out.A.at;injection evA with z1 z2 z3;obtain ⟨bA0,oA0,hbA,yA0,a1⟩:=hatA 1 l1;rw [hq] at a1;obtain ⟨ca,cn,cc,hcc,hci⟩:=HCA.out.at q hqC;have hci0:HInts (fun i=>ok i/\i<w.heap.size) (wr.alloc (.cells #[.int .i64 r.op,.int .i64 r.k,.int .i64 r.out,.int .i64 r.n,.slice y.aA y.nA y.cA,.slice y.aE y.nE y.cE] 40 (0,0))) (.slice ca cn cc) C[q]:=by
     obtain ⟨xa,xn,xc,g1,g2⟩:=HC.out.at q hqC;have h2:=(BA.cell (p:=⟨cb,q,none⟩) yC).trans g1;rw [hcc] at h2;injection h2 with h2;rw [h2];exact (g2.wide (ok':=fun i=>ok i/\i<w.heap.size) fun _ h1 h2=>⟨h1,h2⟩).keep BA.size (fun i hi _=>BA.block i hi.2)
    have HCI:=zD hci0;have HR2:=zD hR;unfold maxLen at hA2;have hqV:q<S.V.length:=(by have:=HCL.out;omega);have hA3:(1:Int)<(y.nA:Int):=(by rw [z2];omega);obtain ⟨rop,rk,rout,rn,rA,rE⟩:=r;obtain ⟨yaA,ynA,ycA,yaE,ynE,ycE⟩:=y;simp only at e13 d0 d1 d2 d3 d4 d5 bA kV hrA BA HMA HAA HCI hcc a1 yA0 hA3 z1 z2 z3 hA1;subst e13 hbA;subst z1;clear hR hpre hz hq hci HOK HRU z2 z3 hatA;have hLIT:∃ wA,wA=wr.alloc (.cells #[.int .i64 13,.int .i64 rk,.int .i64 rout,.int .i64 rn,.slice (some ⟨bA0,oA0,none⟩) ynA ycA,.slice yaE ynE ycE] 40 (0,0)):=⟨_,rfl⟩;go_upto_region 6 with fail;obtain ⟨wA,hwA⟩:=hLIT;rw [<-hwA] at bA kV hrA BA HMA HAA HCI hcc a1 yA0 ⊢;clear hwA;have v0:=coQ kV 0;have v1:=coQ kV 1;have v2:=coQ kV 2;have v3:=coQ kV 3;have v4:=coQ kV 4;have v5:=coQ kV 5;have k4:=coQ hrA 4;simp at v0 v1 v2 v3 v4 v5 k4;have yV:=zG kV;have yB:=zG hrA;have yCA:cb<wA.heap.size:=Nat.lt_of_lt_of_le yC BA.size;clear d0 d1 d2 d3 d4 d5 hrA;refine zK (fun w'=>Below wA.heap.size wA w') (fun i=>i==15) (by kernel_rfl) ?_;have hH0:Below wA.heap.size wA wA.drew:=(Below.refl _ _).drew;generalize wA.drew=wd0 at hH0 ⊢;refine' tkR 0 20 hH0 ?o1
    refine' tkR 1 21 hH0 ?o2
    refine' tkQ 2 22 hH0 ?hyv ?o3
    case hyv=>
     intro wz hSw;have zc0:=(hSw.cell (p:=⟨rb,4,none⟩) yB).trans k4;have zc1:=(hSw.cell (p:=⟨wr.heap.size,0,none⟩) yV).trans v0;have zc2:=(hSw.cell (p:=⟨wr.heap.size,1,none⟩) yV).trans v1;have zc3:=(hSw.cell (p:=⟨wr.heap.size,2,none⟩) yV).trans v2;have zc4:=(hSw.cell (p:=⟨wr.heap.size,3,none⟩) yV).trans v3;have zc5:=(hSw.cell (p:=⟨wr.heap.size,4,none⟩) yV).trans v4;have zc6:=(hSw.cell (p:=⟨wr.heap.size,5,none⟩) yV).trans v5;have zc7:=(hSw.cell (p:=⟨bA0,oA0+1,none⟩) yA0).trans a1;have zc8:=(hSw.cell (p:=⟨cb,q,none⟩) yCA).trans hcc;go_simp
     try rfl
    try simp only [Act.put,sT,sZ,sS]
    refine' tkR 3 23 hH0 ?o4
    refine' tkQ 4 24 hH0 ?hyv ?o5
    case hyv=>
     intro wz hSw;have zc0:=(hSw.cell (p:=⟨rb,4,none⟩) yB).trans k4;have zc1:=(hSw.cell (p:=⟨wr.heap.size,0,none⟩) yV).trans v0;have zc2:=(hSw.cell (p:=⟨wr.heap.size,1,none⟩) yV).trans v1;have zc3:=(hSw.cell (p:=⟨wr.heap.size,2,none⟩) yV).trans v2;have zc4:=(hSw.cell (p:=⟨wr.heap.size,3,none⟩) yV).trans v3;have zc5:=(hSw.cell (p:=⟨wr.heap.size,4,none⟩) yV).trans v4;have zc6:=(hSw.cell (p:=⟨wr.heap.size,5,none⟩) yV).trans v5;have zc7:=(hSw.cell (p:=⟨bA0,oA0+1,none⟩) yA0).trans a1;have zc8:=(hSw.cell (p:=⟨cb,q,none⟩) yCA).trans hcc;go_simp
     try rfl
    try simp only [Act.put,sT,sZ,sS]
    refine' tkR 5 25 hH0 ?o6
    refine' tkR 6 26 hH0 ?o7
    refine' tkR 7 27 hH0 ?o8
    refine' tkQ 8 28 hH0 ?hyv ?o9
    case hyv=>
     intro wz hSw;have zc0:=(hSw.cell (p:=⟨rb,4,none⟩) yB).trans k4;have zc1:=(hSw.cell (p:=⟨wr.heap.size,0,none⟩) yV).trans v0;have zc2:=(hSw.cell (p:=⟨wr.heap.size,1,none⟩) yV).trans v1;have zc3:=(hSw.cell (p:=⟨wr.heap.size,2,none⟩) yV).trans v2;have zc4:=(hSw.cell (p:=⟨wr.heap.size,3,none⟩) yV).trans v3;have zc5:=(hSw.cell (p:=⟨wr.heap.size,4,none⟩) yV).trans v4;have zc6:=(hSw.cell (p:=⟨wr.heap.size,5,none⟩) yV).trans v5;have zc7:=(hSw.cell (p:=⟨bA0,oA0+1,none⟩) yA0).trans a1;have zc8:=(hSw.cell (p:=⟨cb,q,none⟩) yCA).trans hcc;go_simp
     try rfl
    try simp only [Act.put,sT,sZ,sS]
    refine' tkR 9 29 hH0 ?o10
    refine' tkQ 10 30 hH0 ?hyv ?o11
    case hyv=>
     intro wz hSw;have zc0:=(hSw.cell (p:=⟨rb,4,none⟩) yB).trans k4;have zc1:=(hSw.cell (p:=⟨wr.heap.size,0,none⟩) yV).trans v0;have zc2:=(hSw.cell (p:=⟨wr.heap.size,1,none⟩) yV).trans v1;have zc3:=(hSw.cell (p:=⟨wr.heap.size,2,none⟩) yV).trans v2;have zc4:=(hSw.cell (p:=⟨wr.heap.size,3,none⟩) yV).trans v3;have zc5:=(hSw.cell (p:=⟨wr.heap.size,4,none⟩) yV).trans v4;have zc6:=(hSw.cell (p:=⟨wr.heap.size,5,none⟩) yV).trans v5;have zc7:=(hSw.cell (p:=⟨bA0,oA0+1,none⟩) yA0).trans a1;have zc8:=(hSw.cell (p:=⟨cb,q,none⟩) yCA).trans hcc;go_simp
     try rfl
    try simp only [Act.put,sT,sZ,sS]
    refine' tkR 11 31 hH0 ?o12
    refine' tkQ 12 32 hH0 ?hyv ?o13
    case hyv=>
     intro wz hSw;have zc0:=(hSw.cell (p:=⟨rb,4,none⟩) yB).trans k4;have zc1:=(hSw.cell (p:=⟨wr.heap.size,0,none⟩) yV).trans v0;have zc2:=(hSw.cell (p:=⟨wr.heap.size,1,none⟩) yV).trans v1;have zc3:=(hSw.cell (p:=⟨wr.heap.size,2,none⟩) yV).trans v2;have zc4:=(hSw.cell (p:=⟨wr.heap.size,3,none⟩) yV).trans v3;have zc5:=(hSw.cell (p:=⟨wr.heap.size,4,none⟩) yV).trans v4;have zc6:=(hSw.cell (p:=⟨wr.heap.size,5,none⟩) yV).trans v5;have zc7:=(hSw.cell (p:=⟨bA0,oA0+1,none⟩) yA0).trans a1;have zc8:=(hSw.cell (p:=⟨cb,q,none⟩) yCA).trans hcc;go_simp
     try rfl
    try simp only [Act.put,sT,sZ,sS]
    refine' tkR 13 33 hH0 ?o14
    refine' tkQ 14 34 hH0 ?hyv ?o15
    case hyv=>
     intro wz hSw;have zc0:=(hSw.cell (p:=⟨rb,4,none⟩) yB).trans k4;have zc1:=(hSw.cell (p:=⟨wr.heap.size,0,none⟩) yV).trans v0;have zc2:=(hSw.cell (p:=⟨wr.heap.size,1,none⟩) yV).trans v1;have zc3:=(hSw.cell (p:=⟨wr.heap.size,2,none⟩) yV).trans v2;have zc4:=(hSw.cell (p:=⟨wr.heap.size,3,none⟩) yV).trans v3;have zc5:=(hSw.cell (p:=⟨wr.heap.size,4,none⟩) yV).trans v4;have zc6:=(hSw.cell (p:=⟨wr.heap.size,5,none⟩) yV).trans v5;have zc7:=(hSw.cell (p:=⟨bA0,oA0+1,none⟩) yA0).trans a1;have zc8:=(hSw.cell (p:=⟨cb,q,none⟩) yCA).trans hcc;go_simp
     try rfl
    try simp only [Act.put,sT,sZ,sS]
    refine tnQ 15 (fun K hK=>?_);obtain ⟨wz,hrun,hm2,hg⟩:=(HMA.out.keep (hH0.block _ (Nat.lt_of_lt_of_le yMp bA.size))).put (x:=(q:Int)) (by unfold maxLen;omega) (by simp [Lit.wf,IntKind.min,IntKind.max,IntKind.signed,IntKind.bits];omega) (.slice ca cn cc);have AS:Below w.heap.size w wz:=(BA.trans (hH0.mono BA.size)).trans ((jZ (S:=[w.heap.size]) (B:=w.heap.size) (by simp) hg (Nat.le_trans BA.size hH0.size)).below (by simp));have AS2:Below w.heap.size wA wz:=(hH0.mono BA.size).trans ((jZ (S:=[w.heap.size]) (B:=w.heap.size) (by simp) hg (Nat.le_trans BA.size hH0.size)).below (by simp));have hk2:∀ i,(ok i/\i<w.heap.size)->i<wA.heap.size->wz.heap[i]?=wA.heap[i]?:=fun i hi _=>AS2.block i hi.2;have HA2:=zD ((HAA.out.keep AS2.size hk2).put (q:Int) (HCI.out.keep AS2.size hk2));have HM2:=zD hm2;clear hm2 hg hk2 AS2;refine oper_put _ _ _ rfl _ _ _ (by rfl) (by rfl) (by rfl) hrun ?_;refine hK.out _ _ (fun h=>absurd h (by decide)) ?_;clear hK K hrun
    try simp only [Act.put,sT,sZ,sS]
    refine zJ (by kernel_rfl) ?_ _;clear k4 v0 v1 v2 v3 v4 v5 kV a1 hcc;go_wp2_with fail;go_roundg (S.R.length-(i+1))
    case measure=>omega
    case rel=>exact ⟨i+1,n+1,_,_,by omega,by omega,rfl,by go_num,HR2,HM2,HA2,AS⟩
end Go.Proofs.YtnhmcpnbaajjcaaGreatDoor
