import Derived.Test.YtegakbobaecdlaaGreatDoorG31
set_option linter.unusedVariables false
set_option linter.unusedSimpArgs false
set_option maxHeartbeats 64000000
set_option maxRecDepth 100000
namespace Go.Proofs.YtegakbobaecdlaaGreatDoor
open Go.RowKit Go.IntWalk
theorem zAK (p:Pu) (u:Int) (w:World):Calls Tryz.prog 111 #[.agg #[.int .i64 p.op,.int .i64 p.k,.int .i64 p.v,.int .i64 p.n],.int .i64 u] w fun e w'=>e=.returned (.bool (Sk.usesOther u p))/\Below w.heap.size w w':=by
 obtain ⟨op,k,v,n⟩:=p;have b1:Below w.heap.size w (w.alloc (.cells #[.int .i64 op,.int .i64 k,.int .i64 v,.int .i64 n] 79 (0,0))):=(Below.refl _ _).alloc zL _;have kP:=zJ w (.cells #[.int .i64 op,.int .i64 k,.int .i64 v,.int .i64 n] 79 (0,0));unfold Sk.usesOther
 dsimp only
 go_enter Tryz.func111,Tryz.ntmps111;go_upto_region 1 with fail;generalize w.alloc (.cells #[.int .i64 op,.int .i64 k,.int .i64 v,.int .i64 n] 79 (0,0))=w1 at b1 kP ⊢;have a0:=coQ kP 0;have a2:=coQ kP 2;have a3:=coQ kP 3;simp at a0 a2 a3;by_cases hv:v=u
 case neg=>
  go_wp2;go_ret;exact ⟨by simp [hv],b1⟩
 case pos=>
  subst hv;by_cases h8:op=8
  case pos=>
   subst h8;go_wp2;go_ret;exact ⟨by simp,b1⟩
  case neg=>
   by_cases h3:op=3
   case neg=>
    go_wp2;go_ret;exact ⟨by simp [h8,h3],b1⟩
   case pos=>
    subst h3;by_cases h0:n=0
    case pos=>
     subst h0;go_wp2;go_ret;exact ⟨by simp,b1⟩
    case neg=>
     go_wp2;go_ret;exact ⟨by simp [h0,bne],b1⟩
theorem eg110:∀ args w,(callFunc 110 args).run Tryz.prog w=.ok (.enter 110 args) w:=enters_of Tryz.func110 (by kernel_rfl) rfl
theorem overC_any {w:World} {ub:Nat} {u:Int} (hn:w.heap[ub]?=some (.cells #[.int .i64 u] 3 (0,0))) (p:Pu):Calls Tryz.prog 110 #[.agg #[.int .i64 p.op,.int .i64 p.k,.int .i64 p.v,.int .i64 p.n],.pointer (some ⟨ub,0,none⟩)] w fun e w'=>e=.returned (.bool (Sk.usesOther u p))/\Below w.heap.size w w':=by
 obtain ⟨op,k,v,n⟩:=p;have b1:Below w.heap.size w (w.alloc (.cells #[.int .i64 op,.int .i64 k,.int .i64 v,.int .i64 n] 79 (0,0))):=(Below.refl _ _).alloc zL _;have kP:=zJ w (.cells #[.int .i64 op,.int .i64 k,.int .i64 v,.int .i64 n] 79 (0,0));have kU:=(b1.block _ (zH hn)).trans hn;have hc:=fun W=>zAK ⟨op,k,v,n⟩ u W
 dsimp only at hc ⊢
 generalize Sk.usesOther u ⟨op,k,v,n⟩=q at hc ⊢;go_enter Tryz.func110,Tryz.ntmps110;go_upto_region 1 with fail;generalize w.alloc (.cells #[.int .i64 op,.int .i64 k,.int .i64 v,.int .i64 n] 79 (0,0))=w1 at b1 kP kU ⊢;have a0:=coQ kP 0;have a1:=coQ kP 1;have a2:=coQ kP 2;have a3:=coQ kP 3;have c0:=coQ kU 0;simp at a0 a1 a2 a3 c0;go_wp2_with fail;refine (hc w1).mono ?_;rintro e w2 ⟨rfl,b2⟩;clear hc;go_wp2;go_ret;exact ⟨rfl,b1.trans (b2.mono b1.size)⟩
theorem indexPu_any {ok:Nat->Prop} {w:World} {v:Value} {l:List Pu} {N:Nat} {a:Value} {p:Pu->Bool} (eg:∀ args w,(callFunc N args).run Tryz.prog w=.ok (.enter N args) w) (hl:HPu ok w v l) (hp:∀ x ∈ l,∀ W,Below w.heap.size w W->Calls Tryz.prog N #[.agg #[.int .i64 x.op,.int .i64 x.k,.int .i64 x.v,.int .i64 x.n],a] W fun e W'=>e=.returned (.bool (p x))/\Below W.heap.size W W') :
  Calls Tryz.prog 132 #[v,.func (.func N) #[] #[a]] w fun e w'=>∃ R:Int,e=.returned (.int .i64 R)/\(l.any p=true->0<=R)/\(l.any p=false->R = -1)/\Below w.heap.size w w':=by
 obtain ⟨ao,cap,rfl,hc1,hc2,-⟩:=hl.at;unfold maxLen at hc2;have HL:=zG hl;have HP:=zG hp;clear hl hp;obtain ⟨n,hn⟩:=nmQ (l.length);rw [<-hn] at hc1 ⊢;have HN:=zG hn;clear hn;go_enter Tryz.func132,Tryz.ntmps132;go_wp2_with fail;go_loopg [8] n (fun k v wr=>∃ i,i<=n/\k=n-i/\v=.int .i64 (i:Nat)/\Hid (l.any p=(l.drop i).any p)/\Below w.heap.size w wr)
 case atStart=>exact ⟨0,Nat.zero_le _,rfl,rfl,zG (by rw [List.drop_zero]),Below.refl _ _⟩
 case round=>
  obtain ⟨i,hi,rfl,rfl,H,hbr⟩:=hrel;by_cases hlt:i<n
  case neg=>
   have hin:i=n:=(by omega);subst hin;have e1:l.drop i=[]:=List.drop_of_length_le (by have:=HN.out;omega);have HZ:=zG (show l.any p=false by rw [H.out,e1];rfl);clear e1;go_wp2;go_ret;exact ⟨-1,rfl,fun h=>absurd h (by rw [HZ.out];simp),fun _=>rfl,hbr⟩
  case pos=>
   have hil:i<l.length:=(by have:=HN.out;omega);have hdr:l.drop i=l[i] :: l.drop (i+1):=List.drop_eq_getElem_cons hil;have hR1:=H.out;rw [hdr,List.any_cons] at hR1;obtain ⟨ao',cap',eqs,-,-,hat2⟩:=(HL.out.under hbr).at;injection eqs with q1 q2 q3;subst q1;obtain ⟨bb,o,rfl,hb,e0,e1,e2,e3⟩:=hat2 i hil;obtain ⟨y,hy⟩:=nmQ (l[i]);have hc:=HP.out y (by rw [hy];exact List.getElem_mem hil) wr hbr;rw [<-hy] at e0 e1 e2 e3 hR1;generalize p y=q at hc hR1;have HR1:=zG hR1;clear hat2 q2 q3 hy hdr hR1 H;go_wp2_with fail;refine hc.mono ?_;rintro e w4 ⟨rfl,b4⟩;have B4:=hbr.trans (b4.mono hbr.size);clear hc e0 e1 e2 e3
   cases q
   case false=>
    have HZ:Hid (l.any p=(l.drop (i+1)).any p):=zG (by rw [HR1.out];simp);clear HR1;go_wp2_with fail;go_roundg (n-(i+1))
    case measure=>omega
    case rel=>exact ⟨i+1,by omega,rfl,by go_num,HZ,B4⟩
   case true=>
    have HZ:Hid (l.any p=true):=zG (by rw [HR1.out];simp);clear HR1;go_wp2;go_ret;exact ⟨_,rfl,fun _=>by omega,fun h=>absurd h (by rw [HZ.out];simp),B4⟩
theorem jF {ok:Nat->Prop} {w:World} {v:Value} {l:List Pu} {N:Nat} {a:Value} {p:Pu->Bool} (eg:∀ args w,(callFunc N args).run Tryz.prog w=.ok (.enter N args) w) (hl:HPu ok w v l) (hp:∀ x ∈ l,∀ W,Below w.heap.size w W->Calls Tryz.prog N #[.agg #[.int .i64 x.op,.int .i64 x.k,.int .i64 x.v,.int .i64 x.n],a] W fun e W'=>e=.returned (.bool (p x))/\Below W.heap.size W W') :
  Calls Tryz.prog 109 #[v,.func (.func N) #[] #[a]] w fun e w'=>e=.returned (.bool (l.any p))/\Below w.heap.size w w':=by
 have hc:=indexPu_any eg hl hp;obtain ⟨ao,cap,rfl,-,-,-⟩:=hl.at;clear hl hp eg;generalize l.any p=q at hc ⊢;go_enter Tryz.func109,Tryz.ntmps109;go_wp2_with fail;refine hc.mono ?_;rintro e w4 ⟨R,rfl,h1,h2,b4⟩;clear hc
 cases q
 case false=>
  have hR:=h2 rfl;clear h1 h2;subst hR;go_wp2;go_ret;exact ⟨rfl,b4⟩
 case true=>
  have hR:=h1 rfl;clear h1 h2;go_wp2;go_ret;exact ⟨by simp [hR],b4⟩
theorem xZ {aV:Option Addr} {nV cV:Nat} (x:Int) (w:World) (hc:nV<=maxLen):Calls Tryz.prog 131 #[.slice aV nV cV,.int .i64 x] w fun e w'=>e=.returned (.bool (decide (0<=x)&&decide (x<nV)))/\w=w':=by
 unfold maxLen at hc;by_cases h0:0<=x
 case neg=>
  have hf:(decide (0<=x)&&decide (x<(nV:Int)))=false:=(by simp [h0]);rw [hf];go_enter Tryz.func131,Tryz.ntmps131;go_wp2;go_ret;exact ⟨rfl,rfl⟩
 case pos=>
  by_cases h1:x<(nV:Int)
  case neg=>
   have hf:(decide (0<=x)&&decide (x<(nV:Int)))=false:=(by simp [h1]);rw [hf];go_enter Tryz.func131,Tryz.ntmps131;go_wp2;go_ret;exact ⟨rfl,rfl⟩
  case pos=>
   have hf:(decide (0<=x)&&decide (x<(nV:Int)))=true:=(by simp [h0,h1]);rw [hf];go_enter Tryz.func131,Tryz.ntmps131;go_wp2;go_ret;exact ⟨rfl,rfl⟩
theorem sameSize_any {ok:Nat->Prop} {w:World} {aV:Option Addr} {cV:Nat} {V:List Sk.Vr} (hV:HVars ok w (.slice aV V.length cV) V) (x y:Nat) (hx:x<V.length) (hy:y<V.length):Calls Tryz.prog 108 #[.slice aV V.length cV,.int .i64 (x:Int),.int .i64 (y:Int)] w fun e w'=>e=.returned (.bool ((V[x]).n==(V[y]).n))/\Below w.heap.size w w':=by
 obtain ⟨ao,cap,ev,hv1,hv2,hat⟩:=hV.at;injection ev with q1 q2 q3;subst q1 q3;obtain ⟨bx,ox,eb,yV,-,cx⟩:=hat x hx;obtain ⟨by_,oy,eb2,-,-,cy⟩:=hat y hy;rw [eb] at eb2;injection eb2 with eb2;injection eb2 with e1 e2;subst e1 e2;subst eb;have i1:=fun W=>xZ (aV:=some ⟨bx,ox,none⟩) (cV:=cV) (x:Int) W (Nat.le_trans hv1 hv2);have i2:=fun W=>xZ (aV:=some ⟨bx,ox,none⟩) (cV:=cV) (y:Int) W (Nat.le_trans hv1 hv2);have t1:(decide ((0:Int)<=(x:Int))&&decide ((x:Int)<(V.length:Int)))=true:=(by simp;omega);have t2:(decide ((0:Int)<=(y:Int))&&decide ((y:Int)<(V.length:Int)))=true:=(by simp;omega);rw [t1] at i1;rw [t2] at i2;unfold maxLen at hv2;generalize (V[x]).n=nx at cx ⊢;generalize (V[y]).n=ny at cy ⊢;obtain ⟨n,hn⟩:=nmQ (V.length);rw [<-hn] at hx hy hv1 i1 i2 ⊢;clear hat hV t1 t2 hn q2;go_enter Tryz.func108,Tryz.ntmps108;go_upto_region 1 with fail;refine zK (fun w'=>Below w.heap.size w w') (fun _=>false) (by kernel_rfl) ?_;have hH0:Below w.heap.size w w.drew:=(Below.refl _ _).drew;generalize w.drew=wd0 at hH0 ⊢;refine' tkR 0 7 hH0 ?o1
 refine' tkR 1 8 hH0 ?o2
 refine tnQ 2 (fun K hK=>?_);go_simp;refine (i1 wd0).mono ?_;rintro eq wd1 ⟨rfl,hq1⟩;have hH1:Below w.heap.size w wd1:=hq1 ▸ hH0;refine hK.out _ _ (fun _=>hH1) ?_;clear hK K
 try simp only [Act.put,sT,sZ,sS]
 refine' tkR 3 10 hH1 ?o3
 refine' tkR 4 11 hH1 ?o4
 refine' tkR 5 12 hH1 ?o5
 refine tnQ 6 (fun K hK=>?_);go_simp;refine (i2 wd1).mono ?_;rintro eq wd2 ⟨rfl,hq2⟩;have hH2:Below w.heap.size w wd2:=hq2 ▸ hH1;refine hK.out _ _ (fun _=>hH2) ?_;clear hK K
 try simp only [Act.put,sT,sZ,sS]
 refine' tkR 7 14 hH2 ?o6
 refine' tkR 8 15 hH2 ?o7
 refine' tkR 9 16 hH2 ?o8
 refine' tkR 10 17 hH2 ?o9
 refine' tkR 11 18 hH2 ?o10
 refine' tkR 12 19 hH2 ?o11
 refine' tkQ 13 20 hH2 ?hyv ?o12
 case hyv=>
  intro wz hSw;have zc0:=(hSw.cell (p:=⟨bx,ox+x*2+1,none⟩) yV).trans cx;have zc1:=(hSw.cell (p:=⟨bx,ox+y*2+1,none⟩) yV).trans cy;go_simp
  try rfl
 try simp only [Act.put,sT,sZ,sS]
 refine' tkR 14 21 hH2 ?o13
 refine' tkR 15 22 hH2 ?o14
 refine' tkR 16 23 hH2 ?o15
 refine' tkR 17 24 hH2 ?o16
 refine' tkQ 18 25 hH2 ?hyv ?o17
 case hyv=>
  intro wz hSw;have zc0:=(hSw.cell (p:=⟨bx,ox+x*2+1,none⟩) yV).trans cx;have zc1:=(hSw.cell (p:=⟨bx,ox+y*2+1,none⟩) yV).trans cy;go_simp
  try rfl
 try simp only [Act.put,sT,sZ,sS]
 refine' tkR 19 26 hH2 ?o18
 refine' tkR 20 27 hH2 ?o19
 refine' tkR 21 6 hH2 ?o20
 refine zI (by kernel_rfl) ?_ _;go_wp2;go_ret;exact ⟨by rfl,hH2⟩
theorem over_any {ok:Nat->Prop} {w:World} {aV aI aO aR:Option Addr} {cV cI cO cR:Nat} {S:Sk.Sys} {r:Sk.Ru} {y:RuV} (hS:HSys ok w aV aI aO aR cV cI cO cR S) (hR:HRu ok w y r) (ho:0<=r.out/\r.out<S.V.length) (u:Nat) (hu:u<S.V.length) :
  Calls Tryz.prog 76 #[.agg #[.slice aV S.V.length cV,.slice aI S.I.length cI,.slice aO S.O.length cO,.slice aR S.R.length cR],.agg #[.int .i64 r.op,.int .i64 r.k,.int .i64 r.out,.int .i64 r.n,.slice y.aA y.nA y.cA,.slice y.aE y.nE y.cE],.int .i64 (u:Int)] w fun e w'=>e=.returned (.bool (Sk.over S r (u:Int)))/\Below w.heap.size w w':=by
 obtain ⟨x,hx⟩:∃ x:Nat,(x:Int)=r.out:=⟨r.out.toNat,by omega⟩;have hxl:x<S.V.length:=(by omega);have e1:Sk.over S r (u:Int)=((((r.op==14) || (r.op==16))&&(((S.V[x]).n==(S.V[u]).n) && !(r.A.any fun z=>(u:Int)==z))) && !(r.E.any (Sk.usesOther (u:Int)))):=by
  unfold Sk.over Sk.vAt;rw [<-hx,Int.toNat_natCast,Int.toNat_natCast,List.getD_eq_getElem?_getD,List.getD_eq_getElem?_getD,List.getElem?_eq_getElem hxl,List.getElem?_eq_getElem hu];rfl
 rw [e1];clear e1;have b0:Below w.heap.size w (w.alloc (.cells #[.slice aV S.V.length cV,.slice aI S.I.length cI,.slice aO S.O.length cO,.slice aR S.R.length cR] 26 (0,0))):=(Below.refl _ _).alloc zL _;have b1:Below w.heap.size w ((w.alloc (.cells #[.slice aV S.V.length cV,.slice aI S.I.length cI,.slice aO S.O.length cO,.slice aR S.R.length cR] 26 (0,0))).alloc (.cells #[.int .i64 r.op,.int .i64 r.k,.int .i64 r.out,.int .i64 r.n,.slice y.aA y.nA y.cA,.slice y.aE y.nE y.cE] 40 (0,0))):=b0.alloc b0.size _;have b2:Below w.heap.size w (((w.alloc (.cells #[.slice aV S.V.length cV,.slice aI S.I.length cI,.slice aO S.O.length cO,.slice aR S.R.length cR] 26 (0,0))).alloc (.cells #[.int .i64 r.op,.int .i64 r.k,.int .i64 r.out,.int .i64 r.n,.slice y.aA y.nA y.cA,.slice y.aE y.nE y.cE] 40 (0,0))).alloc (.cells #[.int .i64 (u:Int)] 3 (0,0))):=b1.alloc b1.size _;have kS:(((w.alloc (.cells #[.slice aV S.V.length cV,.slice aI S.I.length cI,.slice aO S.O.length cO,.slice aR S.R.length cR] 26 (0,0))).alloc (.cells #[.int .i64 r.op,.int .i64 r.k,.int .i64 r.out,.int .i64 r.n,.slice y.aA y.nA y.cA,.slice y.aE y.nE y.cE] 40 (0,0))).alloc (.cells #[.int .i64 (u:Int)] 3 (0,0))).heap[w.heap.size]?=some (.cells #[.slice aV S.V.length cV,.slice aI S.I.length cI,.slice aO S.O.length cO,.slice aR S.R.length cR] 26 (0,0)):=(Below.heap_alloc _ _ _ (by simp;omega)).trans ((Below.heap_alloc _ _ _ (by simp)).trans (zJ w _));have kR:(((w.alloc (.cells #[.slice aV S.V.length cV,.slice aI S.I.length cI,.slice aO S.O.length cO,.slice aR S.R.length cR] 26 (0,0))).alloc (.cells #[.int .i64 r.op,.int .i64 r.k,.int .i64 r.out,.int .i64 r.n,.slice y.aA y.nA y.cA,.slice y.aE y.nE y.cE] 40 (0,0))).alloc (.cells #[.int .i64 (u:Int)] 3 (0,0))).heap[w.heap.size+1]?=some (.cells #[.int .i64 r.op,.int .i64 r.k,.int .i64 r.out,.int .i64 r.n,.slice y.aA y.nA y.cA,.slice y.aE y.nE y.cE] 40 (0,0)):=(Below.heap_alloc _ _ _ (by simp)).trans (by have:=zJ (w.alloc (.cells #[.slice aV S.V.length cV,.slice aI S.I.length cI,.slice aO S.O.length cO,.slice aR S.R.length cR] 26 (0,0))) (.cells #[.int .i64 r.op,.int .i64 r.k,.int .i64 r.out,.int .i64 r.n,.slice y.aA y.nA y.cA,.slice y.aE y.nE y.cE] 40 (0,0));simpa using this);have kU:(((w.alloc (.cells #[.slice aV S.V.length cV,.slice aI S.I.length cI,.slice aO S.O.length cO,.slice aR S.R.length cR] 26 (0,0))).alloc (.cells #[.int .i64 r.op,.int .i64 r.k,.int .i64 r.out,.int .i64 r.n,.slice y.aA y.nA y.cA,.slice y.aE y.nE y.cE] 40 (0,0))).alloc (.cells #[.int .i64 (u:Int)] 3 (0,0))).heap[w.heap.size+2]?=some (.cells #[.int .i64 (u:Int)] 3 (0,0)):=by
  have:=zJ ((w.alloc (.cells #[.slice aV S.V.length cV,.slice aI S.I.length cI,.slice aO S.O.length cO,.slice aR S.R.length cR] 26 (0,0))).alloc (.cells #[.int .i64 r.op,.int .i64 r.k,.int .i64 r.out,.int .i64 r.n,.slice y.aA y.nA y.cA,.slice y.aE y.nE y.cE] 40 (0,0))) (.cells #[.int .i64 (u:Int)] 3 (0,0))
  simpa using this
 have hV2:=hS.V.under b2;have HR2:=zG (hR.under b2);have HXL:=zG hxl;have HU:=zG hu;obtain ⟨op,rk,out,rn,A,E⟩:=r;obtain ⟨aA,nA,cA,aE,nE,cE⟩:=y
 dsimp only at hx HR2 kR kS kU hV2 b2 ⊢
 subst hx;have hsz:=sameSize_any hV2 x u hxl hu;clear b0 b1 hS hR ho;have hct:=fun (W:World) (hW:Below (((w.alloc (.cells #[.slice aV S.V.length cV,.slice aI S.I.length cI,.slice aO S.O.length cO,.slice aR S.R.length cR] 26 (0,0))).alloc (.cells #[.int .i64 op,.int .i64 rk,.int .i64 (x:Int),.int .i64 rn,.slice aA nA cA,.slice aE nE cE] 40 (0,0))).alloc (.cells #[.int .i64 (u:Int)] 3 (0,0))).heap.size (((w.alloc (.cells #[.slice aV S.V.length cV,.slice aI S.I.length cI,.slice aO S.O.length cO,.slice aR S.R.length cR] 26 (0,0))).alloc (.cells #[.int .i64 op,.int .i64 rk,.int .i64 (x:Int),.int .i64 rn,.slice aA nA cA,.slice aE nE cE] 40 (0,0))).alloc (.cells #[.int .i64 (u:Int)] 3 (0,0))) W)=>jE (u:Int) (HR2.out.A.under hW)
 dsimp only at hct
 have hcf:=fun (W:World) (hW:Below (((w.alloc (.cells #[.slice aV S.V.length cV,.slice aI S.I.length cI,.slice aO S.O.length cO,.slice aR S.R.length cR] 26 (0,0))).alloc (.cells #[.int .i64 op,.int .i64 rk,.int .i64 (x:Int),.int .i64 rn,.slice aA nA cA,.slice aE nE cE] 40 (0,0))).alloc (.cells #[.int .i64 (u:Int)] 3 (0,0))).heap.size (((w.alloc (.cells #[.slice aV S.V.length cV,.slice aI S.I.length cI,.slice aO S.O.length cO,.slice aR S.R.length cR] 26 (0,0))).alloc (.cells #[.int .i64 op,.int .i64 rk,.int .i64 (x:Int),.int .i64 rn,.slice aA nA cA,.slice aE nE cE] 40 (0,0))).alloc (.cells #[.int .i64 (u:Int)] 3 (0,0))) W)=>jF (p:=Sk.usesOther (u:Int)) eg110 (HR2.out.E.under hW) (fun p _ V hV=>overC_any ((hV.block _ (zH ((hW.block _ (zH kU)).trans kU))).trans ((hW.block _ (zH kU)).trans kU)) p)
 dsimp only at hcf
 generalize (A.any fun z=>(u:Int)==z)=q2 at hct ⊢;generalize (E.any (Sk.usesOther (u:Int)))=q3 at hcf ⊢;generalize ((S.V[x]).n==(S.V[u]).n)=q1 at hsz ⊢;have HCT:=zG hct;have HCF:=zG hcf;clear hct hcf hV2 HR2;by_cases hop:op=14\/op=16
 case neg=>
  rw [not_or] at hop;have hop1:=hop.1;have hop2:=hop.2;have hf:((op==14) || (op==16))=false:=(by simp [hop1,hop2]);rw [hf];have n1:(op != 14)=true:=(by simp [hop1]);have n2:(op != 16)=true:=(by simp [hop2]);clear hop hf hop1 hop2;go_enter Tryz.func76,Tryz.ntmps76;go_upto_region 1 with fail;generalize (((w.alloc (.cells #[.slice aV S.V.length cV,.slice aI S.I.length cI,.slice aO S.O.length cO,.slice aR S.R.length cR] 26 (0,0))).alloc (.cells #[.int .i64 op,.int .i64 rk,.int .i64 (x:Int),.int .i64 rn,.slice aA nA cA,.slice aE nE cE] 40 (0,0))).alloc (.cells #[.int .i64 (u:Int)] 3 (0,0)))=w1 at b2 kS kR kU hsz HCT HCF ⊢;have r0:=coQ kR 0;simp at r0;go_wp2;go_ret;exact ⟨by simp,b2⟩
 case pos=>
  have hopB:((op==14) || (op==16))=true:=by rcases hop with h | h<;>simp [h]
  rw [hopB];clear hopB;rw [Bool.true_and];have hrs:∀ q1 q2 q3:Bool,(q1 && !q2 && !q3)=(q1 && !q2 && !q3):=fun _ _ _=>rfl;clear hrs;rcases hop with hop | hop
  ·subst hop
   go_enter Tryz.func76,Tryz.ntmps76;go_upto_region 1 with fail;generalize (((w.alloc (.cells #[.slice aV S.V.length cV,.slice aI S.I.length cI,.slice aO S.O.length cO,.slice aR S.R.length cR] 26 (0,0))).alloc (.cells #[.int .i64 14,.int .i64 rk,.int .i64 (x:Int),.int .i64 rn,.slice aA nA cA,.slice aE nE cE] 40 (0,0))).alloc (.cells #[.int .i64 (u:Int)] 3 (0,0)))=w1 at b2 kS kR kU hsz HCT HCF ⊢;have s0:=coQ kS 0;have r0:=coQ kR 0;have r2:=coQ kR 2;have r4:=coQ kR 4;have r5:=coQ kR 5;have u0:=coQ kU 0;simp at s0 r0 r2 r4 r5 u0;go_wp2_with fail;refine hsz.mono ?_;rintro e w2 ⟨rfl,b3⟩;clear hsz;have B3:=b2.trans (b3.mono b2.size)
   cases q1
   case false=>
    go_wp2;go_ret;exact ⟨by simp,B3⟩
   case true=>
    have kR2:=(b3.block _ (zH kR)).trans kR;have kU2:=(b3.block _ (zH kU)).trans kU;have r4':=coQ kR2 4;have r5':=coQ kR2 5;have u0':=coQ kU2 0;simp at r4' r5' u0';have hct:=HCT.out w2 b3;clear s0 r0 r2 r4 r5 u0 HCT;go_wp2_with fail;refine hct.mono ?_;rintro e w3 ⟨rfl,b4⟩;clear hct;have B4:=B3.trans (b4.mono B3.size);have C4:=b3.trans (b4.mono b3.size)
    cases q2
    case true=>
     clear r4' r5' u0';go_wp2;go_ret;exact ⟨by simp,B4⟩
    case false=>
     have kR3:=(b4.block _ (zH kR2)).trans kR2;have kU3:=(b4.block _ (zH kU2)).trans kU2;have s5:=coQ kR3 5;simp at s5;have hcf:=HCF.out w3 C4;clear r4' r5' u0' HCF;go_wp2_with fail;refine hcf.mono ?_;rintro e w4 ⟨rfl,b5⟩;clear hcf;have B5:=B4.trans (b5.mono B4.size);go_wp2;go_ret;exact ⟨by simp,B5⟩
  ·subst hop
   go_enter Tryz.func76,Tryz.ntmps76;go_upto_region 1 with fail;generalize (((w.alloc (.cells #[.slice aV S.V.length cV,.slice aI S.I.length cI,.slice aO S.O.length cO,.slice aR S.R.length cR] 26 (0,0))).alloc (.cells #[.int .i64 16,.int .i64 rk,.int .i64 (x:Int),.int .i64 rn,.slice aA nA cA,.slice aE nE cE] 40 (0,0))).alloc (.cells #[.int .i64 (u:Int)] 3 (0,0)))=w1 at b2 kS kR kU hsz HCT HCF ⊢;have s0:=coQ kS 0;have r0:=coQ kR 0;have r2:=coQ kR 2;have r4:=coQ kR 4;have r5:=coQ kR 5;have u0:=coQ kU 0;simp at s0 r0 r2 r4 r5 u0;go_wp2_with fail;refine hsz.mono ?_;rintro e w2 ⟨rfl,b3⟩;clear hsz;have B3:=b2.trans (b3.mono b2.size)
   cases q1
   case false=>
    go_wp2;go_ret;exact ⟨by simp,B3⟩
   case true=>
    have kR2:=(b3.block _ (zH kR)).trans kR;have kU2:=(b3.block _ (zH kU)).trans kU;have r4':=coQ kR2 4;have r5':=coQ kR2 5;have u0':=coQ kU2 0;simp at r4' r5' u0';have hct:=HCT.out w2 b3;clear s0 r0 r2 r4 r5 u0 HCT;go_wp2_with fail;refine hct.mono ?_;rintro e w3 ⟨rfl,b4⟩;clear hct;have B4:=B3.trans (b4.mono B3.size);have C4:=b3.trans (b4.mono b3.size)
    cases q2
    case true=>
     clear r4' r5' u0';go_wp2;go_ret;exact ⟨by simp,B4⟩
    case false=>
     have kR3:=(b4.block _ (zH kR2)).trans kR2;have kU3:=(b4.block _ (zH kU2)).trans kU2;have s5:=coQ kR3 5;simp at s5;have hcf:=HCF.out w3 C4;clear r4' r5' u0' HCF;go_wp2_with fail;refine hcf.mono ?_;rintro e w4 ⟨rfl,b5⟩;clear hcf;have B5:=B4.trans (b5.mono B4.size);go_wp2;go_ret;exact ⟨by simp,B5⟩
end Go.Proofs.YtegakbobaecdlaaGreatDoor
