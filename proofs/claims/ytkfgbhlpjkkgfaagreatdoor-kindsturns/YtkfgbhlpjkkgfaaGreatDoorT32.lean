import Derived.Test.YtkfgbhlpjkkgfaaGreatDoorT31
import Derived.Test.YtkfgbhlpjkkgfaaGreatDoorT22
import Derived.Test.YtkfgbhlpjkkgfaaGreatDoorT28
import Derived.Test.YtkfgbhlpjkkgfaaGreatDoorT10
set_option linter.unusedVariables false
set_option linter.unusedSimpArgs false
set_option maxHeartbeats 64000000
set_option maxRecDepth 100000
namespace Go.Proofs.YtkfgbhlpjkkgfaaGreatDoor
open Go.RowKit Go.IntWalk
theorem whole7 (k:Int):WholeDoes 7 k:=by
 intro ok cC w y S vl l dU eU hG hS hl ch fw;have ji:=zAA dU;have jZ:=zAA eU;clear dU eU;obtain ⟨R,hR⟩:=nmQ (Kd.whole 7 k S l);rw [<-hR];have HR:=zAA (show R=Kd.mapT k l by rw [hR];unfold Kd.whole;simp);clear hR;obtain ⟨b1,kD,kZ⟩:=nw2 w (.cells #[.int .i64 y.op,.int .i64 y.k,.int .i64 y.n,.string y.name,.slice y.aS y.nS y.cS,.slice y.aL y.nL y.cL] 54 (0,0)) (.cells #[.int .u8 0,.slice none 0 0] 35 (0,0))
 have eO:=hl.wide (ok':=fun i=>cC i/\i<w.heap.size) (fun i hi ak=>⟨hi,ak⟩);have cG:∃ t r,l=t :: r:=by
  have h1:=ch.lo;have e1:(Rn.shp (7:Int).toNat).2.1=1:=(by decide);rw [e1] at h1
  cases l with
  | nil=>simp at h1
  | cons t r=>exact ⟨t,r,rfl⟩
 obtain ⟨t,r,ak⟩:=cG;have hc:=zFp k (by rw [<-ak];exact eO.under b1) (hG.under b1);rw [<-ak] at hc;clear eO ak;obtain ⟨la,lc,rfl,_,_,_⟩:=hl.at;rw [<-HR.out] at hc;obtain ⟨n,hn⟩:=nmQ (l.length);rw [<-hn] at hc ⊢;clear hl hG hS fw ch hn HR;go_enter Tryz.func123,Tryz.ntmps123;go_upto_region 1 with fail;generalize (w.alloc (.cells #[.int .i64 y.op,.int .i64 y.k,.int .i64 y.n,.string y.name,.slice y.aS y.nS y.cS,.slice y.aL y.nL y.cL] 54 (0,0))).alloc (.cells #[.int .u8 0,.slice none 0 0] 35 (0,0))=w1 at b1 kD kZ hc ⊢;have g0:=co kD 0;have g1:=co kD 1;simp at g0 g1;rw [ji.out] at g0;rw [jZ.out] at g1;go_upto_region 3 with fail;go_wp2_with fail;refine hc.mono ?_;rintro e w2 ⟨u,c,rfl,hT,b2⟩;clear hc;have Bn:=b1.trans (b2.mono b1.size);have aT:=(b2.block _ (zAB kZ)).trans kZ;have z2:=zAB kZ;obtain ⟨te,ta,tn,tc,rfl⟩:=hT.form;have cF:¬((cC (w.heap.size+1)/\w.heap.size+1<w.heap.size)\/w1.heap.size<=w.heap.size+1):=(by omega);have aX:=co aT 0;have st1:=co aT 1;have dr:=fo aT 0;have dp:=fo aT 1;simp at aX st1;have KR:=zAD (zAD aT 0 (.int .u8 te)) 1 (.slice ta tn tc);have r0:=co KR 0;have r1:=co KR 1;simp at r0 r1;have BR:=(Bn.setCell (p:=⟨w.heap.size+1,0,none⟩) (by simp) (.int .u8 te)).setCell (p:=⟨w.heap.size+1,1,none⟩) (by simp) (.slice ta tn tc);have HT:=zAA ((hT.set (p:=⟨w.heap.size+1,0,none⟩) cF (.int .u8 te)).set (p:=⟨w.heap.size+1,1,none⟩) cF (.slice ta tn tc));clear KR aT hT;go_wp2;exact bodyPost_ret (v:=.tuple #[.agg #[.int .u8 te,.slice ta tn tc],.int .i64 c]) (by simp [results,Tryz.results123,go_sem,r0,r1]) rfl ⟨_,_,rfl,HT.out.wide (fun i hi=>.inr (hi.elim (fun h=>.inl h.1) (fun h=>.inr (Nat.le_trans b1.size h)))),BR⟩
theorem codeNm_cons (l:List De) (x:ByteArray) (r:List ByteArray) (t:Kd.Ty) (s:List Kd.Ty):Kd.codeNm l (x :: r) (t :: s)=if Kd.same (Kd.typ l x) t=true then Kd.codeNm l r s else 10:=rfl
theorem codeNm_nil (l:List De) (s:List Kd.Ty):Kd.codeNm l [] s=0:=by
 unfold Kd.codeNm;rfl
theorem zEY {ok ky He:Nat->Prop} {w:World} {x:SB} {E:Kd.Env} {mk done:List ByteArray} (hS:Scp ok w x E mk done) {v vt:Value} {l:List ByteArray} {T:List Kd.Ty} (hl:HNames ky w v l) (hT:HTys He w vt T) (tu:T.length=l.length) (hF:∀ s ∈ l,s.size<=maxLen) :
  Calls Tryz.prog 120 #[.pointer (some ⟨x.b,0,none⟩),v,vt] w fun r w'=>r=.returned (.int .i64 (Kd.codeNm E.types l T))/\Below w.heap.size w w':=by
 obtain ⟨ao,cap,rfl,aC,av,ai⟩:=hl.at;obtain ⟨at',Em,rfl,nJ,jz,vf⟩:=hT.at;unfold maxLen at av jz;obtain ⟨R,hR⟩:=nmQ (Kd.codeNm E.types l T);rw [<-hR];have HR:=zAA hR;have HF:=zAA hF;have HS:=zAA hS;have HL:=zAA hl;have HT:=zAA hT;have EV:=zAA tu;clear hR hF hS ai vf hl hT;obtain ⟨n,hn⟩:=nmQ (l.length);rw [tu] at nJ ⊢;rw [<-hn] at aC nJ ⊢;have HN:=zAA hn;clear hn tu;go_enter Tryz.func120,Tryz.ntmps120;go_wp2_with fail;go_loopg [11] n (fun k v wr=>∃ i,i<=n/\k=n-i/\v=.int .i64 (i:Nat)/\Hid (R=Kd.codeNm E.types (l.drop i) (T.drop i))/\Below w.heap.size w wr)
 case atStart=>exact ⟨0,Nat.zero_le _,rfl,rfl,zAA (by simpa using HR.out),Below.refl _ _⟩
 case round=>
  obtain ⟨i,hi,rfl,rfl,H,aj⟩:=hrel;by_cases ak:i<n
  case neg=>
   have bH:i=n:=(by omega);subst bH;have e1:l.drop i=[]:=List.drop_of_length_le (by have:=HN.out;omega);have hz:R=0:=(by rw [H.out,e1,codeNm_nil]);have HZ:=zAA hz;clear hz;go_wp2;go_ret;exact ⟨by rw [HZ.out];rfl,aj⟩
  case pos=>
   have ap:i<l.length:=(by have:=HN.out;omega);have Aw:i<T.length:=(by have:=HN.out;have:=EV.out;omega);have aY:=H.out;rw [List.drop_eq_getElem_cons ap,List.drop_eq_getElem_cons Aw,codeNm_cons] at aY;obtain ⟨te,ta,tn,tc,_,kh,dD⟩:=(HS.out.keep aj).lookType (HF.out _ (List.getElem_mem ap));obtain ⟨fj,bE,eqs,_,_,br⟩:=(HL.out.under aj).at;injection eqs with q1 q2 q3;subst q1;obtain ⟨bn,on,rfl,jm,en⟩:=br i ap;obtain ⟨fj,bE,eqs,_,_,pi⟩:=(HT.out.under aj).at;injection eqs with p1 p2 p3;subst p1;obtain ⟨bt,ot,au,nu,cu,rfl,wO,e0,e1,oZ⟩:=pi i Aw;have kS:=(HS.out.keep aj).blk;have yS:=zAB kS;have j2:=co kS 2;simp at j2;have Ck:=zAA kh;have mr:=zAA dD;have EH:=zAA oZ;obtain ⟨qs,hq⟩:∃ qs,Kd.same (Kd.typ E.types l[i]) T[i]=qs:=⟨_,rfl⟩;rw [hq] at aY;have HQ:=zAA hq;have DB:=zAA aY;clear br pi q2 q3 p2 p3 kh dD oZ hq aY kS;go_upto_region 4 with fail;go_cut [27] (fun Ev wd=>Ev=.bool (!qs)/\Below wr.heap.size wr wd)
   case first=>
    refine zAE (fun w'=>Below wr.heap.size wr w') (fun _=>false) (by kernel_rfl) ?_;have af:Below wr.heap.size wr wr.drew:=(Below.refl _ _).drew;generalize wr.drew=aW at af ⊢;refine' tkR 0 16 af ?o1
    refine' tkR 1 17 af ?o2
    refine' tkR 2 18 af ?o3
    refine' tkQ 3 19 af ?hyv ?o4
    case hyv=>
     intro wz ae;have bI:=(ae.cell (p:=⟨x.b,2,none⟩) yS).trans j2;go_simp
     try rfl
    try simp only [Act.put,sT,sZ,sS]
    refine' tkR 4 20 af ?o5
    refine' tkQ 5 21 af ?hyv ?o6
    case hyv=>
     intro wz ae;have wv:=Ck.out _ ae;go_simp
     try rfl
    try simp only [Act.put,sT,sZ,sS]
    refine' tkR 6 22 af ?o7
    refine' tkR 7 23 af ?o8
    refine' tkR 8 24 af ?o9
    refine' tkQ 9 25 af ?hyv ?o10
    case hyv=>
     intro wz ae;have bI:=(ae.cell (p:=⟨bt,ot+i*2,none⟩) wO).trans e0;have d9:=(ae.cell (p:=⟨bt,ot+i*2+1,none⟩) wO).trans e1;go_simp
     try rfl
    try simp only [Act.put,sT,sZ,sS]
    refine tnQ 10 (fun K hK=>?_);go_simp;refine (zBT (mr.out.under af) (EH.out.under af)).mono ?_;rintro eq cW ⟨rfl,dL⟩;have al:Below wr.heap.size wr cW:=af.trans (dL.mono af.size);rw [HQ.out];refine hK.out _ _ (fun _=>al) ?_;clear hK K
    try simp only [Act.put,sT,sZ,sS]
    refine' tkR 11 27 al ?o11
    refine zAF (by kernel_rfl) ?_ _;go_wp2_with fail;go_meet
    case rel=>exact ⟨rfl,al⟩
   case rest=>
    obtain ⟨rfl,bc⟩:=hcut;have BC:=aj.trans (bc.mono aj.size)
    cases qs
    case false=>
     have HZ:=zAA (show R=10 by rw [DB.out];rfl);go_wp2;go_ret;exact ⟨by rw [HZ.out];rfl,BC⟩
    case true=>
     go_wp2_with fail;go_roundg (n-(i+1))
     case measure=>omega
     case rel=>exact ⟨i+1,by omega,rfl,by go_num,zAA (by rw [DB.out];rfl),BC⟩
structure PutC (ky cC:Nat->Prop) (w:World) (bn bs:Nat) (names:List ByteArray) (S:List (List Tm)):Prop where
 n:∃ v,w.heap[bn]?=some (.cells #[v] 43 (0,0))/\HNames ky w v names
 s:∃ v,w.heap[bs]?=some (.cells #[v] 51 (0,0))/\HSizes cC w v S
theorem PutC.keep {ky cC:Nat->Prop} {w w':World} {bn bs:Nat} {names:List ByteArray} {S:List (List Tm)} (h:PutC ky cC w bn bs names S) (b:Below w.heap.size w w'):PutC ky cC w' bn bs names S:=by
 obtain ⟨⟨v,k,hv⟩,⟨u,k2,hu⟩⟩:=h;exact ⟨⟨v,(b.block _ (zAB k)).trans k,hv.keep b.size (fun i _ hl=>b.block i hl)⟩,⟨u,(b.block _ (zAB k2)).trans k2,hu.under b⟩⟩
structure PutF (names:List ByteArray) (S:List (List Tm)):Prop where
 n:∀ x ∈ names,x.size<=maxLen
 l:S.length<=1000000
 m:∀ m ∈ S,m.length<=1000000
theorem here_any {ok ky cC:Nat->Prop} {w:World} {bn bs:Nat} {names:List ByteArray} {S:List (List Tm)} {d:De} {ao:Option Addr} {n cap:Nat} (hP:PutC ky cC w bn bs names S) (hF:PutF names S) (hu:HTerms ok w (.slice ao n cap) d.n) (hD:∀ t ∈ d.n,t.2.size<=maxLen) :
  Calls Tryz.prog 164 #[.agg #[.string d.name,.int .u8 d.elem,.slice ao n cap],.pointer (some ⟨bn,0,none⟩),.pointer (some ⟨bs,0,none⟩)] w fun r w'=>∃ u c,r=.returned (.tuple #[u,.int .i64 c])/\TRes (okU ok w.heap.size) w' u c (Kd.called names S d)/\Below w.heap.size w w':=by
 obtain ⟨R,hR⟩:=nmQ (Kd.called names S d);rw [<-hR];unfold Kd.called at hR;have HR:=zAA hR;clear hR;obtain ⟨b1,kD,kZ⟩:=nw2 w (.cells #[.string d.name,.int .u8 d.elem,.slice ao n cap] 50 (0,0)) (.cells #[.int .u8 0,.slice none 0 0] 35 (0,0))
 have Hq:=hu.wide (ok':=fun i=>ok i/\i<w.heap.size) (fun i hi ak=>⟨hi,ak⟩);have dD:HTy (fun i=>ok i/\i<w.heap.size) w (.agg #[.int .u8 d.elem,.slice ao n cap]) (Kd.tyD d):=⟨_,rfl,Hq⟩;have mr:=zAA (dD.under b1);have HU:=zAA (Hq.under b1);have HP:=zAA (hP.keep b1);have HF:=zAA hF;have HD:=zAA hD;clear hu Hq dD hP hF hD;go_enter Tryz.func164,Tryz.ntmps164;go_upto_region 1 with fail;generalize (w.alloc (.cells #[.string d.name,.int .u8 d.elem,.slice ao n cap] 50 (0,0))).alloc (.cells #[.int .u8 0,.slice none 0 0] 35 (0,0))=w1 at b1 kD kZ mr HU HP ⊢;have d1:=co kD 1;have d2:=co kD 2;simp at d1 d2;have yD:=zAB kD;have yZ:=zAB kZ;have hc:=zAP mr.out;have hq:Kd.arr (Kd.tyD d)=decide (0<d.n.length):=rfl;generalize Kd.arr (Kd.tyD d)=qa at hc hq;have HQ:=zAA hq;clear hq;go_wp2_with fail;refine hc.mono ?_;rintro e w2 ⟨rfl,b2⟩;clear hc;have B2:=b1.trans (b2.mono b1.size);have e1:=(b2.cell (p:=⟨w.heap.size,1,none⟩) yD).trans d1;have e2:=(b2.cell (p:=⟨w.heap.size,2,none⟩) yD).trans d2;have fZ:=(b2.block _ yZ).trans kZ;have Iv:=Nat.lt_of_lt_of_le yD b2.size;have L8:=Nat.lt_of_lt_of_le yZ b2.size;clear d1 d2 kD kZ
 cases qa
 case false=>
  have eO:d.n.length=0:=by
   have:=HQ.out;simp at this;simp [this]
  have HZ:=zAA (show R=.ok (Kd.tyD d) by rw [HR.out,if_pos eO]);have hT:TRes (fun i=>ok i/\i<w.heap.size) w2 (.agg #[.int .u8 d.elem,.slice ao n cap]) 0 (.ok (Kd.tyD d)):=⟨rfl,mr.out.under b2⟩;rw [<-HZ.out] at hT;have cF:¬(ok (w.heap.size+1)/\w.heap.size+1<w.heap.size):=fun h=>absurd h.2 (by omega);have aX:=co fZ 0;have st1:=co fZ 1;have dr:=fo fZ 0;have dp:=fo fZ 1;simp at aX st1;have KR:=zAD (zAD fZ 0 (.int .u8 d.elem)) 1 (.slice ao n cap);have r0:=co KR 0;have r1:=co KR 1;simp at r0 r1;have BR:=(B2.setCell (p:=⟨w.heap.size+1,0,none⟩) (by simp) (.int .u8 d.elem)).setCell (p:=⟨w.heap.size+1,1,none⟩) (by simp) (.slice ao n cap);have HT:=zAA ((hT.set (p:=⟨w.heap.size+1,0,none⟩) cF (.int .u8 d.elem)).set (p:=⟨w.heap.size+1,1,none⟩) cF (.slice ao n cap));clear KR fZ hT eO;go_wp2;exact bodyPost_ret (v:=.tuple #[.agg #[.int .u8 d.elem,.slice ao n cap],.int .i64 0]) (by simp [results,Tryz.results164,go_sem,r0,r1]) rfl ⟨_,_,rfl,HT.out.wide (fun i hi=>.inl hi.1),BR⟩
 case true=>
  have eO:¬d.n.length=0:=by
   have:=HQ.out;simp at this;omega
  have j0:=zAA (show R=if wcode names S d.n≠0\/Kd.okB (withL names S d.n)=false then .error 16 else .ok (Kd.mkA d.elem (withL names S d.n)) by rw [HR.out,if_neg eO]);clear eO;obtain ⟨⟨vn,kn,Hp⟩,⟨vs,ks,DO⟩⟩:=HP.out.keep b2;have c0:=co kn 0;have c1:=co ks 0;simp at c0 c1;have Iy:=zAA Hp;have Lm:=zAA DO;obtain ⟨na,nc,rfl,_,_,_⟩:=Hp.at;obtain ⟨sa,sc,rfl,_,_,_⟩:=DO.at;have hc:=with_any (HU.out.under b2) Iy.out Lm.out HD.out HF.out.n HF.out.l HF.out.m;generalize Nh:names.length=nl at c0 hc;generalize MC:S.length=sl at c1 hc;clear Nh MC Hp DO kn ks Iy Lm;go_wp2_with fail;refine hc.mono ?_;rintro e w3 ⟨u,c,a,rfl,hW,b3⟩;clear hc c0 c1;have B3:=B2.trans (b3.mono B2.size);have bF:Below w3.heap.size w3 (w3.alloc (.cells #[.int .i64 c,.int .i64 a] 29 (0,0))):=(Below.refl _ _).alloc nR _;have kF:=zAC w3 (.cells #[.int .i64 c,.int .i64 a] 29 (0,0));have BF:=B3.trans (bF.mono B3.size);have e1:=((b3.trans (bF.mono b3.size)).cell (p:=⟨w.heap.size,1,none⟩) Iv).trans e1;have dF:=((b3.trans (bF.mono b3.size)).block _ L8).trans fZ;have LL:=Nat.le_trans b1.size b2.size;obtain ⟨eQ,hW⟩:=hW;rcases hW with ⟨uU,rfl,rfl⟩ | ⟨qt,rfl,hO⟩
  ·have hz:R=.error 16:=by rw [j0.out,if_pos (.inl (by rw [<-eQ];exact uU))]
   have uZ:(c != 0)=true:=(by simpa using uU);have KT:=zAA eQ;have PJ:=zAA uU;clear eQ uU;go_upto_region 4 with fail;generalize w3.alloc (.cells #[.int .i64 c,.int .i64 (-1)] 29 (0,0))=w4 at bF kF BF e1 dF ⊢;have f0:=co kF 0;simp at f0;have HZ:=zAA hz;clear hz;have aX:=co dF 0;have st1:=co dF 1;have dr:=fo dF 0;have dp:=fo dF 1;simp at aX st1;have KR:=zAD (zAD dF 0 (.int .u8 0)) 1 (.slice none 0 0);have r0:=co KR 0;have r1:=co KR 1;simp at r0 r1;have BR:=(BF.setCell (p:=⟨w.heap.size+1,0,none⟩) (by simp) (.int .u8 0)).setCell (p:=⟨w.heap.size+1,1,none⟩) (by simp) (.slice none 0 0);clear KR dF;go_wp2;exact bodyPost_ret (v:=.tuple #[.agg #[.int .u8 0,.slice none 0 0],.int .i64 16]) (by simp [results,Tryz.results164,go_sem,r0,r1]) rfl ⟨_,_,rfl,by rw [HZ.out];exact ⟨rfl,by decide,rfl⟩,BR⟩
  ·subst qt
   have hH:=(zBj hO.row).under bF;have HH:=zAA hH;obtain ⟨ua,uc,rfl,_,_,_⟩:=hH.at;have KT:=zAA eQ;have hc:=zBP HH.out;generalize Jj:(withL names S d.n).length=ql at hc ⊢;have LS:=zAA Jj;clear eQ hH hO Jj;go_upto_region 4 with fail;generalize w3.alloc (.cells #[.int .i64 0,.int .i64 0] 29 (0,0))=w4 at bF kF BF e1 dF HH hc ⊢;have f0:=co kF 0;simp at f0;unfold Kd.rng at hc;obtain ⟨qo,GG⟩:∃ qo,Kd.okB (withL names S d.n)=qo:=⟨_,rfl⟩;rw [GG] at hc;have Lh:=zAA GG;clear GG
   cases qo
   case false=>
    rw [if_neg (by simp)] at hc;go_wp2_with fail;refine hc.mono ?_;rintro e w5 ⟨rfl,b5⟩;clear hc;have B5:=BF.trans (b5.mono BF.size);have iH:=(b5.block _ (zAB dF)).trans dF;have HZ:=zAA (show R=.error 16 by rw [j0.out,if_pos (.inr Lh.out)]);have aX:=co iH 0;have st1:=co iH 1;have dr:=fo iH 0;have dp:=fo iH 1;simp at aX st1;have KR:=zAD (zAD iH 0 (.int .u8 0)) 1 (.slice none 0 0);have r0:=co KR 0;have r1:=co KR 1;simp at r0 r1;have BR:=(B5.setCell (p:=⟨w.heap.size+1,0,none⟩) (by simp) (.int .u8 0)).setCell (p:=⟨w.heap.size+1,1,none⟩) (by simp) (.slice none 0 0);clear KR iH dF;go_wp2;exact bodyPost_ret (v:=.tuple #[.agg #[.int .u8 0,.slice none 0 0],.int .i64 16]) (by simp [results,Tryz.results164,go_sem,r0,r1]) rfl ⟨_,_,rfl,by rw [HZ.out];exact ⟨rfl,by decide,rfl⟩,BR⟩
   case true=>
    rw [if_pos rfl] at hc;go_wp2_with fail;refine hc.mono ?_;rintro e w5 ⟨rfl,b5⟩;clear hc;have B5:=BF.trans (b5.mono BF.size);have iH:=(b5.block _ (zAB dF)).trans dF;have yF:=Nat.lt_of_lt_of_le Iv (Nat.le_trans b3.size bF.size);have PK:=(b5.cell (p:=⟨w.heap.size,1,none⟩) yF).trans e1;have HZ:=zAA (show R=.ok (Kd.mkA d.elem (withL names S d.n)) by rw [j0.out,if_neg (by rw [<-KT.out,Lh.out];simp)]);have hc:=zBL (HH.out.under b5) d.elem;rw [LS.out] at hc;clear dF e1 f0;go_wp2_with fail;refine hc.mono ?_;rintro e w6 ⟨uz,rfl,hz,b6⟩;clear hc;have B6:=B5.trans (b6.mono B5.size);have gG:=(b6.block _ (zAB iH)).trans iH;have hT:TRes (okU (fun i=>w2.heap.size<=i) w5.heap.size) w6 uz 0 (.ok (Kd.mkA d.elem (withL names S d.n))):=⟨rfl,hz⟩;rw [<-HZ.out] at hT;have PN:=Nat.le_trans b3.size (Nat.le_trans bF.size b5.size);have cF:¬okU (fun i=>w2.heap.size<=i) w5.heap.size (w.heap.size+1):=by
     rintro (h | h)<;>omega
    clear hz iH;have iw:=gG;obtain ⟨te,ta,tn,tc,rfl⟩:=hT.form;have aX:=co iw 0;have st1:=co iw 1;have dr:=fo iw 0;have dp:=fo iw 1;simp at aX st1;have KR:=zAD (zAD iw 0 (.int .u8 te)) 1 (.slice ta tn tc);have r0:=co KR 0;have r1:=co KR 1;simp at r0 r1;have BR:=(B6.setCell (p:=⟨w.heap.size+1,0,none⟩) (by simp) (.int .u8 te)).setCell (p:=⟨w.heap.size+1,1,none⟩) (by simp) (.slice ta tn tc);have HT:=zAA ((hT.set (p:=⟨w.heap.size+1,0,none⟩) cF (.int .u8 te)).set (p:=⟨w.heap.size+1,1,none⟩) cF (.slice ta tn tc));clear KR iw hT;go_wp2;exact bodyPost_ret (v:=.tuple #[.agg #[.int .u8 te,.slice ta tn tc],.int .i64 0]) (by simp [results,Tryz.results164,go_sem,r0,r1]) rfl ⟨_,_,rfl,HT.out.wide (fun i hi=>.inr (hi.elim (fun h=>by omega) (fun h=>by omega))),BR⟩
theorem putIn_any {ky cC:Nat->Prop} {w:World} {vn vs:Value} {names:List ByteArray} {S:List (List Tm)} (hn:HNames ky w vn names) (hs:HSizes cC w vs S) :
  Calls Tryz.prog 117 #[vn,vs] w fun r w'=>∃ bn bs,r=.returned (.func (.func 164) #[] #[.pointer (some ⟨bn,0,none⟩),.pointer (some ⟨bs,0,none⟩)])/\PutC ky cC w' bn bs names S/\Below w.heap.size w w':=by
 have HN:=zAA hn;have HS:=zAA hs;obtain ⟨na,nc,rfl,_,_,_⟩:=hn.at;obtain ⟨sa,sc,rfl,_,_,_⟩:=hs.at;generalize names.length=nl at HN ⊢;generalize S.length=sl at HS ⊢;clear hn hs;go_enter Tryz.func117,Tryz.ntmps117;go_wp2;go_ret;have b1:Below w.heap.size w (w.alloc (.cells #[.slice na nl nc] 43 (0,0))):=(Below.refl _ _).alloc nR _;have b2:Below w.heap.size w ((w.alloc (.cells #[.slice na nl nc] 43 (0,0))).alloc (.cells #[.slice sa sl sc] 51 (0,0))):=b1.alloc (by simp) _;refine ⟨_,_,rfl,⟨⟨_,?_,HN.out.keep b2.size (fun i _ hl=>b2.block i hl)⟩,⟨_,?_,HS.out.under b2⟩⟩,b2⟩
 ·exact (Below.heap_alloc _ _ _ (by simp)).trans (zAC w _)
 ·have:=zAC (w.alloc (.cells #[.slice na nl nc] 43 (0,0))) (.cells #[.slice sa sl sc] 51 (0,0))
  simpa using this
noncomputable def caTo (names:List ByteArray) (S:List (List Tm)) (T:List Kd.Ty) (r:List De):Except Int (List Kd.Ty):=match Kd.calledL names S r with
 | .error c=>.error c
 | .ok l=>.ok (T++l)
theorem caTo_nil (names:List ByteArray) (S:List (List Tm)) (T:List Kd.Ty):caTo names S T []=.ok T:=by simp [caTo,Kd.calledL]
theorem caTo_err {names:List ByteArray} {S:List (List Tm)} {T:List Kd.Ty} {x:De} {r:List De} {c:Int} (h:Kd.called names S x=.error c):caTo names S T (x :: r)=.error c:=by
 simp [caTo,Kd.calledL,h]
theorem caTo_ok {names:List ByteArray} {S:List (List Tm)} {T:List Kd.Ty} {x:De} {r:List De} {t:Kd.Ty} (h:Kd.called names S x=.ok t):caTo names S T (x :: r)=caTo names S (T++[t]) r:=by
 unfold caTo;simp only [Kd.calledL,h]
 cases Kd.calledL names S r with
 | error c=>rfl
 | ok l=>simp
theorem typesOfD_any {ok ky cC:Nat->Prop} {w:World} {bn bs:Nat} {names:List ByteArray} {S:List (List Tm)} (hP:PutC ky cC w bn bs names S) (hF:PutF names S) {v:Value} {L:List De} (hl:HDes ok w v L) (bm:∀ i,ok i->i<w.heap.size) (hD:∀ d ∈ L,∀ t ∈ d.n,t.2.size<=maxLen) (aP:L.length<=1000000) :
  Calls Tryz.prog 119 #[v,.func (.func 164) #[] #[.pointer (some ⟨bn,0,none⟩),.pointer (some ⟨bs,0,none⟩)]] w fun r w'=>∃ u c,r=.returned (.tuple #[u,.int .i64 c])/\LRes (okU ok w.heap.size) w' u c (Kd.calledL names S L)/\Below w.heap.size w w':=by
 obtain ⟨i0,hi,db,bP,bY⟩:=info_parts info35k;obtain ⟨M,hM⟩:=nmQ (madeCells (Value.agg #[.int .u8 0,.slice none 0 0]).cells (L.length*i0.size));have mV:∀ W:World,(Instr.makeSlice 144 (.int .i64 (L.length:Int)) (.int .i64 (L.length:Int))).run Tryz.prog W=.ok (.slice (some ⟨W.heap.size,0,none⟩) L.length L.length) (W.alloc (.cells M 35)):=fun W=>by
  have h:=run_make (P:=Tryz.prog) W 144 35 i0 (.agg #[.int .u8 0,.slice none 0 0]) Tryz.underlying144 hi db .i64 .i64 (L.length:Int) (L.length:Int) (by omega) (by omega) (by rw [bY];omega) (by omega)
  simpa [hM] using h
 have xb:M.size=L.length*2:=(by rw [hM,size_madeCells,bP]);obtain ⟨ao,cap,rfl,aC,av,ai⟩:=hl.at;unfold maxLen at av;obtain ⟨R,hR⟩:=nmQ (Kd.calledL names S L);rw [<-hR];have HR:=zAA (show R=caTo names S [] L by rw [hR];unfold caTo;cases Kd.calledL names S L<;>simp);have HX:=zAA hD;have HP:=zAA hP;have HF:=zAA hF;have tS:=zAA ai;have HL:=zAA hl;have HO:=zAA bm;have D0:¬ok w.heap.size:=fun h=>absurd (bm _ h) (Nat.lt_irrefl _);clear hD hP hF hl bm ai hR hM hi db bP bY;obtain ⟨n,hn⟩:=nmQ (L.length);rw [<-hn] at aC mV xb aP ⊢;have HN:=zAA hn;clear hn;go_enter Tryz.func119,Tryz.ntmps119;go_wp2_with fail;go_loopg [16] n (fun gh v wr=>∃ (i:Nat) (T:List Kd.Ty),i<=n/\gh=n-i/\v=.int .i64 (i:Nat)/\T.length=i/\Hid (R=caTo names S T (L.drop i))/\Hid (RowT (fun j=>ok j\/w.heap.size+1<=j) wr w.heap.size n T)/\Below w.heap.size w wr)
 case atStart=>exact ⟨0,[],Nat.zero_le _,rfl,rfl,rfl,zAA (by simpa using HR.out),zAA ⟨M,zAC w _,xb,fun j h=>absurd h (Nat.not_lt_zero _)⟩,(Below.refl _ _).alloc nR _⟩
 case round=>
  obtain ⟨i,T,hi,rfl,rfl,oJ,H,HRow,aj⟩:=hrel;by_cases ak:i<n
  case neg=>
   have bH:i=n:=(by omega);subst bH;have e1:L.drop i=[]:=List.drop_of_length_le (by have:=HN.out;omega);have hz:R=.ok T:=(by rw [H.out,e1,caTo_nil]);go_wp2
   go_ret2
   refine ⟨_,_,rfl,?_,aj⟩;rw [hz];exact ⟨rfl,HRow.out.full oJ (by unfold maxLen;omega) (fun j hj=>hj.imp id (fun h=>by omega)) (.inr nR)⟩
  case pos=>
   have ap:i<L.length:=(by have:=HN.out;omega);have jG:L.drop i=L[i] :: L.drop (i+1):=List.drop_eq_getElem_cons ap;have hX:=HX.out _ (List.getElem_mem ap);have aY:=H.out;rw [jG] at aY;obtain ⟨fj,bE,eqs,_,_,br⟩:=(HL.out.under aj).at;injection eqs with q1 q2 q3;subst q1;obtain ⟨b,o,ua,un,uc,rfl,hb,c0,c1,c2,hu⟩:=br i ap;obtain ⟨d,rZ⟩:=nmQ (L[i]);rw [<-rZ] at hX aY hu c0 c1;have bA:Below wr.heap.size wr (wr.alloc (.cells #[.string d.name,.int .u8 d.elem,.slice ua un uc] 50 (0,0))):=(Below.refl _ _).alloc nR _;have BA:=aj.trans (bA.mono aj.size);have ag:=here_any (HP.out.keep BA) HF.out (hu.under bA) hX;have AB:=HRow.out.lt;have aU:=HRow.out.keep bA;have bo:(wr.alloc (.cells #[.string d.name,.int .u8 d.elem,.slice ua un uc] 50 (0,0))).heap.size=wr.heap.size+1:=(by simp);clear br hX hu q2 q3 rZ jG;go_wp2_with fail;refine ag.mono ?_;rintro e w4 ⟨u,c,rfl,hT,b4⟩;have B4:=BA.trans (b4.mono BA.size);clear ag
   cases dD:Kd.called names S d with
   | error k=>
    rw [dD] at hT;obtain ⟨rfl,gm,rfl⟩:=hT;have bY:(c != 0)=true:=(by simpa using gm);have hz:R=.error c:=(by rw [aY,caTo_err dD]);clear aU HRow H aY dD;go_wp2
    go_ret2
    refine ⟨_,_,rfl,?_,?_⟩
    ·rw [hz]
     exact ⟨rfl,gm,rfl⟩
    ·exact B4.alloc B4.size _
   | ok t=>
    rw [dD] at hT;obtain ⟨rfl,uu,rfl,hu⟩:=hT;obtain ⟨ua,un,uc,rfl⟩:=hu.slice;have hz:R=caTo names S (T++[t]) (L.drop (i+1)):=(by rw [aY,caTo_ok dD]);have kC:=aU.keep b4;have AO:=hu.wide (ok':=fun j=>ok j\/w.heap.size+1<=j) (fun j hj _=>hj.imp id (fun h=>by rw [bo] at h;omega));have Dd:¬(ok w.heap.size\/w.heap.size+1<=w.heap.size):=by
     rintro (h | h)
     ·exact D0 h
     ·omega
    have jC:=zAA (kC.put AO Dd (by omega));have HZ:=zAA hz;obtain ⟨A,hA,uj,_⟩:=kC;obtain ⟨a0,aX⟩:∃ a0,w4.cell? ⟨w.heap.size,i*2,none⟩=some a0:=⟨A[i*2]'(by omega),by rw [co hA];exact Array.getElem?_eq_getElem (by omega)⟩;obtain ⟨a1,st1⟩:∃ a1,w4.cell? ⟨w.heap.size,i*2+1,none⟩=some a1:=⟨A[i*2+1]'(by omega),by rw [co hA];exact Array.getElem?_eq_getElem (by omega)⟩;have dr:=fo hA (i*2);have dp:=fo hA (i*2+1);have y4:w.heap.size<w4.heap.size:=zAB hA;clear aU HRow H aY dD hu AO hA uj hz;go_wp2_with fail;go_roundg (n-(i+1))
    case measure=>omega
    case rel=>
     refine ⟨i+1,T++[t],by omega,rfl,by go_num,by simp [oJ],HZ,?_,?_⟩
     ·have:=jC.out
      rw [oJ] at this;exact zAA (this.keep ((Below.refl _ _).alloc nR _))
     ·exact ((B4.setCell (p:=⟨w.heap.size,i*2,none⟩) nR _).setCell (p:=⟨w.heap.size,i*2+1,none⟩) nR _).alloc (by simp;omega) _
theorem codeIn_cons (names:List ByteArray) (S:List (List Tm)) (d:De) (r:List De) (t:Kd.Ty) (s:List Kd.Ty):Kd.codeIn names S (d :: r) (t :: s)=match Kd.called names S d with
  | .error c=>c
  | .ok u=>if Kd.same t u=true then Kd.codeIn names S r s else 10:=rfl
theorem codeIn_nil (names:List ByteArray) (S:List (List Tm)) (s:List Kd.Ty):Kd.codeIn names S [] s=0:=by
 unfold Kd.codeIn;rfl
theorem zDr {ok ky cC He:Nat->Prop} {w:World} {bn bs:Nat} {names:List ByteArray} {S:List (List Tm)} (hP:PutC ky cC w bn bs names S) (hF:PutF names S) {v vt:Value} {L:List De} {T:List Kd.Ty} (hl:HDes ok w v L) (hT:HTys He w vt T) (tu:T.length=L.length) (hD:∀ d ∈ L,∀ t ∈ d.n,t.2.size<=maxLen) :
  Calls Tryz.prog 118 #[v,vt,.func (.func 164) #[] #[.pointer (some ⟨bn,0,none⟩),.pointer (some ⟨bs,0,none⟩)]] w fun r w'=>r=.returned (.int .i64 (Kd.codeIn names S L T))/\Below w.heap.size w w':=by
 obtain ⟨ao,cap,rfl,aC,av,ai⟩:=hl.at;obtain ⟨at',Em,rfl,nJ,jz,vf⟩:=hT.at;unfold maxLen at av jz;obtain ⟨R,hR⟩:=nmQ (Kd.codeIn names S L T);rw [<-hR];have HR:=zAA hR;have HF:=zAA hF;have HP:=zAA hP;have HD:=zAA hD;have HL:=zAA hl;have HT:=zAA hT;have EV:=zAA tu;clear hR hF hP ai vf hl hT hD;obtain ⟨n,hn⟩:=nmQ (L.length);rw [tu] at nJ ⊢;rw [<-hn] at aC nJ ⊢;have HN:=zAA hn;clear hn tu;go_enter Tryz.func118,Tryz.ntmps118;go_wp2_with fail;go_loopg [13] n (fun k v wr=>∃ i,i<=n/\k=n-i/\v=.int .i64 (i:Nat)/\Hid (R=Kd.codeIn names S (L.drop i) (T.drop i))/\Below w.heap.size w wr)
 case atStart=>exact ⟨0,Nat.zero_le _,rfl,rfl,zAA (by simpa using HR.out),Below.refl _ _⟩
 case round=>
  obtain ⟨i,hi,rfl,rfl,H,aj⟩:=hrel;by_cases ak:i<n
  case neg=>
   have bH:i=n:=(by omega);subst bH;have e1:L.drop i=[]:=List.drop_of_length_le (by have:=HN.out;omega);have hz:R=0:=(by rw [H.out,e1,codeIn_nil]);have HZ:=zAA hz;clear hz;go_wp2;go_ret;exact ⟨by rw [HZ.out];rfl,aj⟩
  case pos=>
   have ap:i<L.length:=(by have:=HN.out;omega);have Aw:i<T.length:=(by have:=HN.out;have:=EV.out;omega);have aY:=H.out;rw [List.drop_eq_getElem_cons ap,List.drop_eq_getElem_cons Aw,codeIn_cons] at aY;have hX:=HD.out _ (List.getElem_mem ap);obtain ⟨fj,bE,eqs,_,_,br⟩:=(HL.out.under aj).at;injection eqs with q1 q2 q3;subst q1;obtain ⟨b,o,ua,un,uc,rfl,hb,c0,c1,c2,hu⟩:=br i ap;obtain ⟨fj,bE,eqs,_,_,pi⟩:=(HT.out.under aj).at;injection eqs with p1 p2 p3;subst p1;obtain ⟨bt,ot,au,nu,cu,rfl,wO,e0,e1,oZ⟩:=pi i Aw;obtain ⟨d,rZ⟩:=nmQ (L[i]);rw [<-rZ] at hX aY hu c0 c1;have bA:Below wr.heap.size wr (wr.alloc (.cells #[.string d.name,.int .u8 d.elem,.slice ua un uc] 50 (0,0))):=(Below.refl _ _).alloc nR _;have BA:=aj.trans (bA.mono aj.size);have ag:=here_any (HP.out.keep BA) HF.out (hu.under bA) hX;have EH:=zAA oZ;have DB:=zAA aY;clear br pi q2 q3 p2 p3 oZ aY hX hu rZ;go_wp2_with fail;refine ag.mono ?_;rintro e w4 ⟨u,c,rfl,pm,b4⟩;have J9:=bA.trans (b4.mono bA.size);have B4:=BA.trans (b4.mono BA.size);clear ag;obtain ⟨ue,va,vn,vc,rfl⟩:=pm.form;have aY:=DB.out;generalize Kd.called names S d=RT at pm aY
   cases RT with
   | error k=>
    obtain ⟨rfl,gm,_⟩:=pm;simp only at aY;have HZ:=zAA aY;have bY:(c != 0)=true:=(by simpa using gm);clear aY;go_wp2;go_ret;exact ⟨by rw [HZ.out];rfl,B4.alloc B4.size _⟩
   | ok tt=>
    obtain ⟨rfl,oZ⟩:=pm;simp only at aY;have b5:Below w4.heap.size w4 (w4.alloc (.cells #[.int .u8 ue,.slice va vn vc] 35 (0,0))):=(Below.refl _ _).alloc nR _;have k5:=zAC w4 (.cells #[.int .u8 ue,.slice va vn vc] 35 (0,0));have zy:=J9.trans (b5.mono J9.size);have B5:=B4.trans (b5.mono B4.size);have kx:=zAA (oZ.under b5);have zx:=zAA (EH.out.under zy);have z0:=(zy.cell (p:=⟨bt,ot+i*2,none⟩) wO).trans e0;have z1:=(zy.cell (p:=⟨bt,ot+i*2+1,none⟩) wO).trans e1;have yt:=Nat.lt_of_lt_of_le wO zy.size;obtain ⟨qs,hq⟩:∃ qs,Kd.same T[i] tt=qs:=⟨_,rfl⟩;rw [hq] at aY;have HQ:=zAA hq;have j0:=zAA aY;clear oZ aY hq e0 e1 c0 c1 c2;go_upto_region 7 with fail;generalize w4.alloc (.cells #[.int .u8 ue,.slice va vn vc] 35 (0,0))=w5 at b5 k5 B5 zy kx zx z0 z1 yt ⊢;have y5:=zAB k5;have m0:=co k5 0;have m1:=co k5 1;simp at m0 m1;go_cut [28] (fun Oq wd=>Oq=.bool (!qs)/\Below w5.heap.size w5 wd)
    case first=>
     refine zAE (fun w'=>Below w5.heap.size w5 w') (fun _=>false) (by kernel_rfl) ?_;have af:Below w5.heap.size w5 w5.drew:=(Below.refl _ _).drew;generalize w5.drew=aW at af ⊢;refine' tkR 0 29 af ?o1
     refine' tkR 1 30 af ?o2
     refine' tkR 2 31 af ?o3
     refine' tkQ 3 32 af ?hyv ?o4
     case hyv=>
      intro wz ae;have bI:=(ae.cell (p:=⟨bt,ot+i*2,none⟩) yt).trans z0;have d9:=(ae.cell (p:=⟨bt,ot+i*2+1,none⟩) yt).trans z1;go_simp
      try rfl
     try simp only [Act.put,sT,sZ,sS]
     refine' tkQ 4 33 af ?hyv ?o5
     case hyv=>
      intro wz ae;have bI:=(ae.cell (p:=⟨w4.heap.size,0,none⟩) y5).trans m0;have d9:=(ae.cell (p:=⟨w4.heap.size,1,none⟩) y5).trans m1;go_simp
      try rfl
     try simp only [Act.put,sT,sZ,sS]
     refine tnQ 5 (fun K hK=>?_);go_simp;refine (zBT (zx.out.under af) (kx.out.under af)).mono ?_;rintro eq cW ⟨rfl,dL⟩;have al:Below w5.heap.size w5 cW:=af.trans (dL.mono af.size);rw [HQ.out];refine hK.out _ _ (fun _=>al) ?_;clear hK K
     try simp only [Act.put,sT,sZ,sS]
     refine' tkR 6 35 al ?o6
     refine' tkR 7 28 al ?o7
     refine zAF (by kernel_rfl) ?_ _;go_wp2_with fail;go_meet
     case rel=>exact ⟨rfl,al⟩
    case rest=>
     obtain ⟨rfl,bc⟩:=hcut;have BC:=B5.trans (bc.mono B5.size)
     cases qs
     case false=>
      have HZ:=zAA (show R=10 by rw [j0.out];rfl);go_wp2;go_ret;exact ⟨by rw [HZ.out];rfl,BC⟩
     case true=>
      go_wp2_with fail;go_roundg (n-(i+1))
      case measure=>omega
      case rel=>exact ⟨i+1,by omega,rfl,by go_num,zAA (by rw [j0.out];rfl),BC⟩
end Go.Proofs.YtkfgbhlpjkkgfaaGreatDoor
