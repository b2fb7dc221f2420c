import Derived.Test.YtkfgbhlpjkkgfaaGreatDoorT20
import Derived.Test.YtkfgbhlpjkkgfaaGreatDoorT19
import Derived.Test.YtkfgbhlpjkkgfaaGreatDoorT13
set_option linter.unusedVariables false
set_option linter.unusedSimpArgs false
set_option maxHeartbeats 64000000
set_option maxRecDepth 100000
namespace Go.Proofs.YtkfgbhlpjkkgfaaGreatDoor
open Go.RowKit Go.IntWalk
mutual
def AllX (P:Int->Int->Prop):Ex->Prop
 | .mk op k _ _ _ L=>(4<=op->P op k)/\AllL P L
def AllL (P:Int->Int->Prop):List Ex->Prop
 | []=>True
 | x :: r=>AllX P x/\AllL P r
end
theorem shp_le:∀ k,k<=15->(Rn.shp k).2.2.1<=3:=by decide
mutual
theorem zDA {x:SB} {E:Kd.Env} {P:Int->Int->Prop} (hE:∀ d ∈ E.types,d.n.length<=1000) (hW:∀ op k,P op k->WholeDoes op k):∀ (e:Ex),Rn.partC e=0->Rn.exF e->AllX P e->TyDoes x E e
 | .mk op k n name S L,h1,h2,h3=>by
  have hp:=Bk.part_of h1;obtain ⟨f1,f2,f3,f4,_⟩:=Bk.form_of hp.form;simp only [Rn.exF] at h2;simp only [AllX] at h3;refine typeOf_step hE (zEF hE hW L hp.parts h2.2.2 h3.2) (fun h=>hW op k (h3.1 h)) f1.1 ⟨f2,f3,f4⟩ h2.1 h2.2.1 ?_;have:=shp_le op.toNat (by omega);omega
theorem zEF {x:SB} {E:Kd.Env} {P:Int->Int->Prop} (hE:∀ d ∈ E.types,d.n.length<=1000) (hW:∀ op k,P op k->WholeDoes op k):∀ (L:List Ex),(∀ e ∈ L,Rn.partC e=0)->Rn.exsF L->AllL P L->∀ e ∈ L,TyDoes x E e
 | [],_,_,_,e,he=>by simp at he
 | y :: r,h1,h2,h3,e,he=>by
  simp only [Rn.exsF] at h2;simp only [AllL] at h3;rcases List.mem_cons.1 he with h | he
  ·rw [h]
   exact zDA hE hW y (h1 y (by simp)) h2.1 h3.1
  ·exact zEF hE hW r (fun z hz=>h1 z (by simp [hz])) h2.2 h3.2 e he
end
end Go.Proofs.YtkfgbhlpjkkgfaaGreatDoor
namespace Go.Proofs.YtkfgbhlpjkkgfaaGreatDoor
open Go.RowKit Go.IntWalk
namespace Kd
def declC1 (E:Env) (d:De):Int:=if ((findD E.types d.name).isSome || hasN E.sizes d.name)=true then 8 else codeSz E.sizes d.n
end Kd
structure DeclP (ok:Nat->Prop) (w:World) (x:SB) (E:Kd.Env) (mk done:List ByteArray) (d:De) (r:Ending) (w':World):Prop where
 ret:r=.returned (.int .i64 (Kd.declC1 E d))
 asd:Aside x.maps w.heap.size w w'
 scp:Kd.declC1 E d=0->Scp ok w' x ⟨E.above,E.sizes,E.types++[d]⟩ mk done
theorem zEG {ok:Nat->Prop} {w:World} {x:SB} {E:Kd.Env} {mk done:List ByteArray} (hS:Scp ok w x E mk done) {d:De} {ao:Option Addr} {n cap:Nat} (hu:HTerms ok w (.slice ao n cap) d.n) (bp:d.name.size<=maxLen) (hF:Rn.szF d.n) (aP:E.types.length<1000000) :
  Calls Tryz.prog 82 #[.pointer (some ⟨x.b,0,none⟩),.agg #[.string d.name,.int .u8 d.elem,.slice ao n cap]] w (DeclP ok w x E mk done d):=by
 obtain ⟨R,hR⟩:=nmQ (Kd.declC1 E d);have HR:=zAA hR;unfold Kd.declC1 at hR;have bA:Below w.heap.size w (w.alloc (.cells #[.string d.name,.int .u8 d.elem,.slice ao n cap] 50 (0,0))):=(Below.refl _ _).alloc nR _;have h1:=hS.keep bA;have qI:=hu.under bA;have kA:=zAC w (.cells #[.string d.name,.int .u8 d.elem,.slice ao n cap] 50 (0,0));have y2:x.m2<w.heap.size:=(by obtain ⟨f,a,_⟩:=hS.h2;exact a.lt);clear hS hu;go_enter Tryz.func82,Tryz.ntmps82;go_upto_region 1 with fail;generalize w.alloc (.cells #[.string d.name,.int .u8 d.elem,.slice ao n cap] 50 (0,0))=w1 at bA h1 kA qI ⊢;obtain ⟨te,ta,tn,tc,hv,_,_⟩:=h1.lookType bp;obtain ⟨v2,np⟩:=h1.lookSize bp;have kS:=h1.blk;have yA:=zAB kA;have yS:=zAB kS;have c0:=co kA 0;have c1:=co kA 1;have c2:=co kA 2;have e1:=co kS 1;have e2:=co kS 2;simp at c0 c1 c2 e1 e2;have kX:=zAA h1;have Cg:=zAA qI;have Db:=zAA (show (Kd.findD E.types d.name).isSome=false->Kd.findD E.types d.name=none from fun h=>by simpa using h);generalize dh:(Kd.findD E.types d.name).isSome=q1 at hv hR Db;generalize dK:Kd.hasN E.sizes d.name=q2 at np hR;clear h1 kS qI;go_cut [6] (fun v6 wd=>v6=.bool q1/\Below w1.heap.size w1 wd)
 case first=>
  refine zAE (fun w'=>Below w1.heap.size w1 w') (fun _=>false) (by kernel_rfl) ?_;have af:Below w1.heap.size w1 w1.drew:=(Below.refl _ _).drew;generalize w1.drew=aW at af ⊢;refine' tkR 0 10 af ?o1
  refine' tkR 1 11 af ?o2
  refine' tkR 2 12 af ?o3
  refine' tkQ 3 13 af ?hyv ?o4
  case hyv=>
   intro wz ae;have bI:=(ae.cell (p:=⟨x.b,2,none⟩) yS).trans e2;go_simp
   try rfl
  try simp only [Act.put,sT,sZ,sS]
  refine' tkR 4 14 af ?o5
  refine' tkQ 5 15 af ?hyv ?o6
  case hyv=>
   intro wz ae;have bI:=(ae.cell (p:=⟨w.heap.size,0,none⟩) yA).trans c0;go_simp
   try rfl
  try simp only [Act.put,sT,sZ,sS]
  refine' tkQ 6 16 af ?hyv ?o7
  case hyv=>
   intro wz ae;have hl:=hv _ ae;go_simp
   try rfl
  try simp only [Act.put,sT,sZ,sS]
  refine' tkR 7 9 af ?o8
  refine' tkR 8 17 af ?o9
  refine' tkR 9 18 af ?o10
  refine tnQ 10 (fun K hK=>?_);go_simp;have al:Below w1.heap.size w1 (aW.alloc (.cells #[.int .u8 0,.slice none 0 0] 35 (0,0))):=af.alloc af.size _;have dJ:=zAC aW (.cells #[.int .u8 0,.slice none 0 0] 35 (0,0));have jA:w1.heap.size<=aW.heap.size:=af.size;refine hK.out _ _ (fun _=>al) ?_;clear hK K
  try simp only [Act.put,sT,sZ,sS]
  generalize aW.alloc (.cells #[.int .u8 0,.slice none 0 0] 35 (0,0))=cW at al dJ ⊢;refine tnQ 11 (fun K hK=>?_);have aX:=co dJ 0;have st1:=co dJ 1;have dr:=fo dJ 0;have dp:=fo dJ 1;simp at aX st1;go_simp;have aK:Below w1.heap.size w1 ((cW.setCell ⟨aW.heap.size,0,none⟩ (.int .u8 te)).setCell ⟨aW.heap.size,1,none⟩ (.slice ta tn tc)):=(Below.setCell (Below.setCell al (p:=⟨aW.heap.size,0,none⟩) jA (.int .u8 te)) (p:=⟨aW.heap.size,1,none⟩) jA (.slice ta tn tc));refine hK.out _ _ (fun _=>aK) ?_;clear hK K
  try simp only [Act.put,sT,sZ,sS]
  generalize ((cW.setCell ⟨aW.heap.size,0,none⟩ (.int .u8 te)).setCell ⟨aW.heap.size,1,none⟩ (.slice ta tn tc))=fY at aK ⊢;clear dJ jA aX dr st1 dp;refine' tkR 12 6 aK ?o11
  refine zAF (by kernel_rfl) ?_ _;go_wp2_with fail;go_meet
  case rel=>exact ⟨rfl,aK⟩
 case rest=>
  obtain ⟨rfl,bc⟩:=hcut;obtain ⟨w2,gX⟩:=nmQ (wc);rw [<-gX] at bc ⊢;clear gX;have f0:=(bc.cell (p:=⟨w.heap.size,0,none⟩) yA).trans c0;have f1:=(bc.cell (p:=⟨x.b,1,none⟩) yS).trans e1;have zA:=Nat.lt_of_lt_of_le yA bc.size;have zS:=Nat.lt_of_lt_of_le yS bc.size;have sP:=fun w' (hb:Below w2.heap.size w2 w')=>np w' (bc.trans (hb.mono bc.size));clear hv np;go_upto_region 2 with fail;go_cut [8] (fun v8 wd=>v8=.bool q2/\Below w2.heap.size w2 wd)
  case first=>
   refine zAE (fun w'=>Below w2.heap.size w2 w') (fun _=>false) (by kernel_rfl) ?_;have af:Below w2.heap.size w2 w2.drew:=(Below.refl _ _).drew;generalize w2.drew=aW at af ⊢;refine' tkR 0 20 af ?o12
   refine' tkR 1 21 af ?o13
   refine' tkR 2 22 af ?o14
   refine' tkQ 3 23 af ?hyv ?o15
   case hyv=>
    intro wz ae;have bI:=(ae.cell (p:=⟨x.b,1,none⟩) zS).trans f1;go_simp
    try rfl
   try simp only [Act.put,sT,sZ,sS]
   refine' tkR 4 24 af ?o16
   refine' tkQ 5 25 af ?hyv ?o17
   case hyv=>
    intro wz ae;have bI:=(ae.cell (p:=⟨w.heap.size,0,none⟩) zA).trans f0;go_simp
    try rfl
   try simp only [Act.put,sT,sZ,sS]
   refine' tkQ 6 26 af ?hyv ?o18
   case hyv=>
    intro wz ae;have hl:=sP _ ae;go_simp
    try rfl
   try simp only [Act.put,sT,sZ,sS]
   refine' tkR 7 19 af ?o19
   refine' tkR 8 27 af ?o20
   refine' tkR 9 28 af ?o21
   refine' tkR 10 7 af ?o22
   refine' tkR 11 8 af ?o23
   refine zAF (by kernel_rfl) ?_ _;go_wp2_with fail;go_meet
   case rel=>exact ⟨rfl,af⟩
  case rest=>
   obtain ⟨rfl,bd⟩:=hcut;obtain ⟨w3,lf⟩:=nmQ (wc);rw [<-lf] at bd ⊢;clear lf sP f0 f1;have B3:Below w1.heap.size w1 w3:=bc.trans (bd.mono bc.size);have BW:=bA.trans (B3.mono bA.size);by_cases hq:(q1 || q2)=true
   case pos=>
    rw [if_pos hq] at hR
    cases q1
    ·cases q2
     ·cases hq
     ·go_wp2
      go_ret;exact ⟨by rw [<-HR.out,hR];rfl,aside BW,fun h=>by rw [<-HR.out,hR] at h;cases h⟩
    ·go_wp2
     go_ret;exact ⟨by rw [<-HR.out,hR];rfl,aside BW,fun h=>by rw [<-HR.out,hR] at h;cases h⟩
   case neg=>
    rw [if_neg hq] at hR;obtain ⟨rfl,rfl⟩:q1=false/\q2=false:=by cases q1<;>cases q2<;>simp at hq ⊢
    clear hq;have jE:=kX.out.keep B3;have KW:=Cg.out.under B3;have wI:=(B3.block _ yA).trans kA;have Fg:=jE.blk;have zA:=zAB wI;have zS:=zAB Fg;have g0:=co wI 0;have g1:=co wI 1;have g2:=co wI 2;have j2:=co Fg 2;simp at g0 g1 g2 j2;obtain ⟨ff,hm,hT⟩:=jE.h2;have rq:=zAA hT;have qV:=zAA jE;have En:=zAA KW;have Ey:=zAA wI;have M0:w3.drew=w3.drew:=rfl;obtain ⟨w4,dE,JE,wu⟩:=MapIs.put (w:=w3.drew) (hm.keep rfl) u134 (by unfold maxLen;omega) bp (.agg #[.int .u8 d.elem,.slice ao n cap]);have JK:=zAA JE;have Mv:=zAA wu;clear jE KW wI Fg hT hm JE wu M0;go_upto_region 5 with fail;go_cut [] (fun wd=>wd=w4)
    case first=>
     refine zAE (fun w'=>w'=w3.drew) (fun j=>j==8) (by kernel_rfl) ?_;have af:w3.drew=w3.drew:=rfl;refine' tkQ 0 33 af ?hyv ?o24
     case hyv=>
      intro wz ae;subst ae;go_simp
      try rfl
     try simp only [Act.put,sT,sZ,sS]
     refine' tkQ 1 34 af ?hyv ?o25
     case hyv=>
      intro wz ae;subst ae;go_simp
      try rfl
     try simp only [Act.put,sT,sZ,sS]
     refine' tkQ 2 35 af ?hyv ?o26
     case hyv=>
      intro wz ae;subst ae;go_simp
      try rfl
     try simp only [Act.put,sT,sZ,sS]
     refine' tkQ 3 36 af ?hyv ?o27
     case hyv=>
      intro wz ae;subst ae;have bI:w3.drew.cell? ⟨x.b,2,none⟩=_:=j2;go_simp
      try rfl
     try simp only [Act.put,sT,sZ,sS]
     refine' tkQ 4 37 af ?hyv ?o28
     case hyv=>
      intro wz ae;subst ae;go_simp
      try rfl
     try simp only [Act.put,sT,sZ,sS]
     refine' tkQ 5 38 af ?hyv ?o29
     case hyv=>
      intro wz ae;subst ae;have bI:w3.drew.cell? ⟨w.heap.size,0,none⟩=_:=g0;go_simp
      try rfl
     try simp only [Act.put,sT,sZ,sS]
     refine' tkQ 6 39 af ?hyv ?o30
     case hyv=>
      intro wz ae;subst ae;go_simp
      try rfl
     try simp only [Act.put,sT,sZ,sS]
     refine' tkQ 7 40 af ?hyv ?o31
     case hyv=>
      intro wz ae;subst ae;have bI:w3.drew.cell? ⟨w.heap.size,1,none⟩=_:=g1;have d9:w3.drew.cell? ⟨w.heap.size,1+1,none⟩=_:=g2;go_simp
      try rfl
     try simp only [Act.put,sT,sZ,sS]
     refine tnQ 8 (fun K hK=>?_);go_simp;refine hK.out _ _ (fun h=>absurd h (by decide)) ?_;clear hK K
     try simp only [Act.put,sT,sZ,sS]
     refine zAF (by kernel_rfl) ?_ _;go_wp2_with fail;go_meet
     case rel=>exact rfl
    case rest=>
     obtain rfl:=hcut;have hg:=Mv.out;have e9:Scp ok wc x ⟨E.above,E.sizes,E.types++[d]⟩ mk done:=(qV.out.keep (Below.drew (Below.refl _ _))).afterType (f:=ff) (rq.out.keep nR (fun _ _ _=>rfl)) JK.out hg ⟨_,rfl,En.out.under (Below.drew (Below.refl _ _))⟩ (Db.out rfl);have EB:=(qV.out).n2;have sf:=zDP hg (show w3.drew.heap[w.heap.size]?=_ from Ey.out) (fun e=>by omega);have nT:HTerms ok wc (.slice ao n cap) d.n:=(En.out.under (Below.drew (Below.refl _ _))).keep (w':=wc) hg.size (zDO EB hg);have hc:=zCL e9 nT hF;have l0:=co sf 0;have l1:=co sf 1;have l2:=co sf 2;simp at l0 l1 l2;clear rq qV En JK nT sf;go_wp2_with fail;refine hc.mono ?_;rintro r w5 ⟨rfl,b5⟩;go_wp2;go_ret;refine ⟨by rw [<-HR.out,hR];rfl,?_,fun _=>e9.keep b5⟩;have a1:Aside x.maps w.heap.size w w3.drew:=aside (Below.drew BW);have a2:Aside x.maps w.heap.size w3.drew wc:=zBd (by simp [SB.maps]) hg a1.size;have a3:Aside x.maps wc.heap.size wc w5:=aside b5;exact (a1.trans a2 nR).trans a3 (Nat.le_trans a1.size a2.size)
end Go.Proofs.YtkfgbhlpjkkgfaaGreatDoor
namespace Go.Proofs.YtkfgbhlpjkkgfaaGreatDoor
open Go.RowKit Go.IntWalk
theorem Scp.okOut {ok:Nat->Prop} {w:World} {x:SB} {E:Kd.Env} {mk done:List ByteArray} (h:Scp ok w x E mk done):∀ i,ok i->i ∉ x.maps:=by
 intro i hi hm;simp only [SB.maps,List.mem_cons,List.not_mem_nil,or_false] at hm;rcases hm with rfl | rfl | rfl | rfl
 ·exact h.n0 hi
 ·exact h.n1 hi
 ·exact h.n2 hi
 ·exact h.n3 hi
theorem zDR {ok:Nat->Prop} {w:World} {x:SB} {E:Kd.Env} {mk:List ByteArray} (hS:Scp ok w x E mk []) {d:De} {ao:Option Addr} {n cap:Nat} (hu:HTerms ok w (.slice ao n cap) d.n) (bp:d.name.size<=maxLen) (hF:Rn.szF d.n) (aP:E.types.length<1000000) (mV:mk.length<1000000) :
  Calls Tryz.prog 83 #[.pointer (some ⟨x.b,0,none⟩),.agg #[.string d.name,.int .u8 d.elem,.slice ao n cap]] w (DeclP ok w x E (mk++[d.name]) [] d):=by
 have bA:Below w.heap.size w (w.alloc (.cells #[.string d.name,.int .u8 d.elem,.slice ao n cap] 50 (0,0))):=(Below.refl _ _).alloc nR _;have h1:=hS.keep bA;have qI:=hu.under bA;have kA:=zAC w (.cells #[.string d.name,.int .u8 d.elem,.slice ao n cap] 50 (0,0));have y3:x.m3<w.heap.size:=(by obtain ⟨f,a,_⟩:=hS.h3;exact a.lt);clear hS hu;go_enter Tryz.func83,Tryz.ntmps83;go_upto_region 1 with fail;generalize w.alloc (.cells #[.string d.name,.int .u8 d.elem,.slice ao n cap] 50 (0,0))=w1 at bA h1 kA qI ⊢;have kS:=h1.blk;have g0:=co kA 0;have j3:=co kS 3;simp at g0 j3;obtain ⟨ff,hm,hT⟩:=h1.h3;have rq:=zAA hT;have kX:=zAA h1;have Cg:=zAA qI;have Dg:=zAA kA;obtain ⟨w2,dE,GR,ow⟩:=MapIs.put (w:=w1.drew) (hm.keep rfl) u133 (by unfold maxLen;simp;omega) bp (.int .i64 0);have wh:=zAA GR;have mo:=zAA ow;clear h1 qI kA kS hT hm GR ow;go_cut [] (fun wd=>wd=w2)
 case first=>
  refine zAE (fun w'=>w'=w1.drew) (fun j=>j==6) (by kernel_rfl) ?_;have af:w1.drew=w1.drew:=rfl;refine' tkQ 0 5 af ?hyv ?o1
  case hyv=>
   intro wz ae;subst ae;go_simp
   try rfl
  try simp only [Act.put,sT,sZ,sS]
  refine' tkQ 1 6 af ?hyv ?o2
  case hyv=>
   intro wz ae;subst ae;go_simp
   try rfl
  try simp only [Act.put,sT,sZ,sS]
  refine' tkQ 2 7 af ?hyv ?o3
  case hyv=>
   intro wz ae;subst ae;go_simp
   try rfl
  try simp only [Act.put,sT,sZ,sS]
  refine' tkQ 3 8 af ?hyv ?o4
  case hyv=>
   intro wz ae;subst ae;have bI:w1.drew.cell? ⟨x.b,3,none⟩=_:=j3;go_simp
   try rfl
  try simp only [Act.put,sT,sZ,sS]
  refine' tkQ 4 9 af ?hyv ?o5
  case hyv=>
   intro wz ae;subst ae;go_simp
   try rfl
  try simp only [Act.put,sT,sZ,sS]
  refine' tkQ 5 10 af ?hyv ?o6
  case hyv=>
   intro wz ae;subst ae;have bI:w1.drew.cell? ⟨w.heap.size,0,none⟩=_:=g0;go_simp
   try rfl
  try simp only [Act.put,sT,sZ,sS]
  refine tnQ 6 (fun K hK=>?_);go_simp;refine hK.out _ _ (fun h=>absurd h (by decide)) ?_;clear hK K
  try simp only [Act.put,sT,sZ,sS]
  refine zAF (by kernel_rfl) ?_ _;go_wp2_with fail;go_meet
  case rel=>exact rfl
 case rest=>
  obtain rfl:=hcut;have hg:=mo.out;have fc:Scp ok wc x E (mk++[d.name]) []:=(kX.out.keep (Below.drew (Below.refl _ _))).afterMk (f:=ff) rq.out (by simpa using wh.out) hg;have s9:=zDP hg (show w1.drew.heap[w.heap.size]?=_ from Dg.out) (fun e=>by omega);have Iu:HTerms ok wc (.slice ao n cap) d.n:=(Cg.out.under (Below.drew (Below.refl _ _))).keep (w':=wc) hg.size (zDO kX.out.n3 hg);have hc:=zEG fc Iu bp hF aP;have l0:=co s9 0;have l1:=co s9 1;have l2:=co s9 2;simp at l0 l1 l2;clear rq kX Cg wh Iu s9 fc;go_wp2_with fail;refine hc.mono ?_;rintro r w5 ⟨rfl,a5,jy⟩;go_wp2;go_ret;refine ⟨rfl,?_,jy⟩;have a1:Aside x.maps w.heap.size w w1.drew:=aside (Below.drew bA);have a2:Aside x.maps w.heap.size w1.drew wc:=zBd (by simp [SB.maps]) hg a1.size;exact (a1.trans a2 nR).trans a5 (Nat.le_trans a1.size a2.size)
theorem zBv (sizes:List ByteArray) (ab:List Nd) (had:List De) (d:De) (r:List De):Kd.declC sizes had (d :: r)=if Kd.declC1 ⟨ab,sizes,had⟩ d≠0 then Kd.declC1 ⟨ab,sizes,had⟩ d else Kd.declC sizes (had++[d]) r:=by
 show (if ((Kd.findD had d.name).isSome || Kd.hasN sizes d.name)=true then 8 else if Kd.codeSz sizes d.n≠0 then Kd.codeSz sizes d.n else Kd.declC sizes (had++[d]) r)=_
 unfold Kd.declC1
 dsimp only
 by_cases h:((Kd.findD had d.name).isSome || Kd.hasN sizes d.name)=true
 ·rw [if_pos h,if_pos h,if_pos (by simp)]
 ·rw [if_neg h,if_neg h]
structure DeclsP (ok:Nat->Prop) (w:World) (x:SB) (E:Kd.Env) (mk done:List ByteArray) (l:List De) (r:Ending) (w':World):Prop where
 ret:r=.returned (.int .i64 (Kd.declC E.sizes E.types l))
 asd:Aside x.maps w.heap.size w w'
 scp:Kd.declC E.sizes E.types l=0->Scp ok w' x ⟨E.above,E.sizes,E.types++l⟩ mk done
theorem kdecls_any {ok:Nat->Prop} {w:World} {x:SB} {E:Kd.Env} {mk done:List ByteArray} (hS:Scp ok w x E mk done) {v:Value} {l:List De} (hl:HDes ok w v l) (hF:∀ d ∈ l,Rn.deF d) (aP:E.types.length+l.length<1000000) :
  Calls Tryz.prog 81 #[v,.func (.func 82) #[.pointer (some ⟨x.b,0,none⟩)] #[]] w (DeclsP ok w x E mk done l):=by
 obtain ⟨ao,cap,rfl,aC,av,ai⟩:=hl.at;unfold maxLen at av;obtain ⟨R,hR⟩:=nmQ (Kd.declC E.sizes E.types l);have HR:=zAA hR;have HF:=zAA hF;have HS:=zAA hS;have sJ:=zAA hS.okOut;clear hR hF hS;obtain ⟨n,hn⟩:=nmQ (l.length);rw [<-hn] at aC aP ⊢;have HN:=zAA hn;have tS:=zAA ai;have HL:=zAA hl;clear hn ai hl;go_enter Tryz.func81,Tryz.ntmps81;go_wp2_with fail;go_loopg [10] n (fun k v wr=>∃ i,i<=n/\k=n-i/\v=.int .i64 (i:Nat)/\Hid (R=Kd.declC E.sizes (E.types++l.take i) (l.drop i))/\Hid (Scp ok wr x ⟨E.above,E.sizes,E.types++l.take i⟩ mk done)/\Aside x.maps w.heap.size w wr)
 case atStart=>exact ⟨0,Nat.zero_le _,rfl,rfl,zAA (by simpa using HR.out),zAA (by simpa using HS.out),Aside.refl _⟩
 case round=>
  obtain ⟨i,hi,rfl,rfl,H,ni,aj⟩:=hrel;by_cases ak:i<n
  case neg=>
   have bH:i=n:=(by omega);subst bH;have e0:l.take i=l:=List.take_of_length_le (by have:=HN.out;omega);have e1:l.drop i=[]:=List.drop_of_length_le (by have:=HN.out;omega);have hz:R=0:=(by rw [H.out,e1];rfl);go_wp2;go_ret;refine ⟨by rw [<-HR.out,hz];rfl,aj,fun _=>?_⟩;have:=ni.out;rw [e0] at this;exact this
  case pos=>
   have ap:i<l.length:=(by have:=HN.out;omega);have cw:=HF.out _ (List.getElem_mem ap);have jG:l.drop i=l[i] :: l.drop (i+1):=List.drop_eq_getElem_cons ap;have g7:l.take (i+1)=l.take i++[l[i]]:=List.take_succ_eq_append_getElem ap;have aY:=H.out;rw [jG,zBv E.sizes E.above] at aY;have ek:HDes ok wr (.slice ao l.length cap) l:=HL.out.keep aj.size (fun j hj cM=>aj.block j cM (sJ.out j hj));obtain ⟨fj,bE,eqs,_,_,br⟩:=ek.at;injection eqs with q1 q2 q3;subst q1;obtain ⟨b,o,ua,un,uc,rfl,hb,c0,c1,c2,hu⟩:=br i ap;obtain ⟨d,hd⟩:=nmQ (l[i]);rw [<-hd] at cw aY g7 c0 c1 hu;clear br ek q2 q3 jG hd;have bA:Below wr.heap.size wr (wr.alloc (.cells #[.string d.name,.int .u8 d.elem,.slice ua un uc] 50 (0,0))):=(Below.refl _ _).alloc nR _;have lB:(l.take i).length=i:=(by rw [List.length_take];omega);have ag:=zEG (ni.out.keep bA) (hu.under bA) cw.1 cw.2 (by show (E.types++l.take i).length<_;rw [List.length_append,lB];omega);have aA:Aside x.maps w.heap.size w (wr.alloc (.cells #[.string d.name,.int .u8 d.elem,.slice ua un uc] 50 (0,0))):=aj.trans (aside (S:=x.maps) (B:=wr.heap.size) bA) aj.size;clear hu;go_wp2_with fail;refine ag.mono ?_;rintro e w4 ⟨rfl,a4,e9⟩;have AW:=aA.trans a4 aA.size;obtain ⟨c,cR⟩:=nmQ (Kd.declC1 ⟨E.above,E.sizes,E.types++l.take i⟩ d);rw [<-cR] at e9 aY;have HC:=zAA cR
   try rw [<-cR]
   clear cR ag;by_cases hz:c=0
   ·subst hz
    rw [if_neg (by simp)] at aY;have jy:=zAA (e9 rfl);clear e9;go_wp2_with fail;go_roundg (n-(i+1))
    case measure=>omega
    case rel=>
     refine ⟨i+1,by omega,rfl,by go_num,zAA ?_,zAA ?_,AW⟩
     ·rw [aY,g7,<-List.append_assoc]
     ·have:=jy.out
      rw [g7,<-List.append_assoc]
      skip
      exact this
   ·rw [if_pos hz] at aY
    have bY:(c != 0)=true:=(by simpa using hz);clear e9;go_wp2;go_ret;exact ⟨by rw [<-HR.out,aY];rfl,AW,fun h=>absurd (by rw [<-HR.out,aY] at h;exact h) hz⟩
theorem zEH {ok:Nat->Prop} {w:World} {x:SB} {E:Kd.Env} {mk:List ByteArray} (hS:Scp ok w x E mk []) {v:Value} {l:List De} (hl:HDes ok w v l) (hF:∀ d ∈ l,Rn.deF d) (aP:E.types.length+l.length<1000000) (mV:mk.length+l.length<1000000) :
  Calls Tryz.prog 81 #[v,.func (.func 83) #[.pointer (some ⟨x.b,0,none⟩)] #[]] w (DeclsP ok w x E (mk++l.map De.name) [] l):=by
 obtain ⟨ao,cap,rfl,aC,av,ai⟩:=hl.at;unfold maxLen at av;obtain ⟨R,hR⟩:=nmQ (Kd.declC E.sizes E.types l);have HR:=zAA hR;have HF:=zAA hF;have HS:=zAA hS;have sJ:=zAA hS.okOut;clear hR hF hS;obtain ⟨n,hn⟩:=nmQ (l.length);rw [<-hn] at aC aP mV ⊢;have HN:=zAA hn;have tS:=zAA ai;have HL:=zAA hl;clear hn ai hl;go_enter Tryz.func81,Tryz.ntmps81;go_wp2_with fail;go_loopg [10] n (fun k v wr=>∃ i,i<=n/\k=n-i/\v=.int .i64 (i:Nat)/\Hid (R=Kd.declC E.sizes (E.types++l.take i) (l.drop i))/\Hid (Scp ok wr x ⟨E.above,E.sizes,E.types++l.take i⟩ (mk++(l.take i).map De.name) [])/\Aside x.maps w.heap.size w wr)
 case atStart=>exact ⟨0,Nat.zero_le _,rfl,rfl,zAA (by simpa using HR.out),zAA (by simpa using HS.out),Aside.refl _⟩
 case round=>
  obtain ⟨i,hi,rfl,rfl,H,ni,aj⟩:=hrel;by_cases ak:i<n
  case neg=>
   have bH:i=n:=(by omega);subst bH;have e0:l.take i=l:=List.take_of_length_le (by have:=HN.out;omega);have e1:l.drop i=[]:=List.drop_of_length_le (by have:=HN.out;omega);have hz:R=0:=(by rw [H.out,e1];rfl);go_wp2;go_ret;refine ⟨by rw [<-HR.out,hz];rfl,aj,fun _=>?_⟩;have:=ni.out;rw [e0] at this;exact this
  case pos=>
   have ap:i<l.length:=(by have:=HN.out;omega);have cw:=HF.out _ (List.getElem_mem ap);have jG:l.drop i=l[i] :: l.drop (i+1):=List.drop_eq_getElem_cons ap;have g7:l.take (i+1)=l.take i++[l[i]]:=List.take_succ_eq_append_getElem ap;have aY:=H.out;rw [jG,zBv E.sizes E.above] at aY;have ek:HDes ok wr (.slice ao l.length cap) l:=HL.out.keep aj.size (fun j hj cM=>aj.block j cM (sJ.out j hj));obtain ⟨fj,bE,eqs,_,_,br⟩:=ek.at;injection eqs with q1 q2 q3;subst q1;obtain ⟨b,o,ua,un,uc,rfl,hb,c0,c1,c2,hu⟩:=br i ap;obtain ⟨d,hd⟩:=nmQ (l[i]);rw [<-hd] at cw aY g7 c0 c1 hu;clear br ek q2 q3 jG hd;have bA:Below wr.heap.size wr (wr.alloc (.cells #[.string d.name,.int .u8 d.elem,.slice ua un uc] 50 (0,0))):=(Below.refl _ _).alloc nR _;have lB:(l.take i).length=i:=(by rw [List.length_take];omega);have ag:=zDR (ni.out.keep bA) (hu.under bA) cw.1 cw.2 (by show (E.types++l.take i).length<_;rw [List.length_append,lB];omega) (by rw [List.length_append,List.length_map,lB];omega);have aA:Aside x.maps w.heap.size w (wr.alloc (.cells #[.string d.name,.int .u8 d.elem,.slice ua un uc] 50 (0,0))):=aj.trans (aside (S:=x.maps) (B:=wr.heap.size) bA) aj.size;clear hu;go_wp2_with fail;refine ag.mono ?_;rintro e w4 ⟨rfl,a4,e9⟩;have AW:=aA.trans a4 aA.size;obtain ⟨c,cR⟩:=nmQ (Kd.declC1 ⟨E.above,E.sizes,E.types++l.take i⟩ d);rw [<-cR] at e9 aY;have HC:=zAA cR
   try rw [<-cR]
   clear cR ag;by_cases hz:c=0
   ·subst hz
    rw [if_neg (by simp)] at aY;have jy:=zAA (e9 rfl);clear e9;go_wp2_with fail;go_roundg (n-(i+1))
    case measure=>omega
    case rel=>
     refine ⟨i+1,by omega,rfl,by go_num,zAA ?_,zAA ?_,AW⟩
     ·rw [aY,g7,<-List.append_assoc]
     ·have:=jy.out
      rw [g7,<-List.append_assoc];rw [List.map_append,<-List.append_assoc];exact this
   ·rw [if_pos hz] at aY
    have bY:(c != 0)=true:=(by simpa using hz);clear e9;go_wp2;go_ret;exact ⟨by rw [<-HR.out,aY];rfl,AW,fun h=>absurd (by rw [<-HR.out,aY] at h;exact h) hz⟩
end Go.Proofs.YtkfgbhlpjkkgfaaGreatDoor
