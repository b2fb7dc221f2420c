import Derived.Test.YtkfgbhlpjkkgfaaGreatDoorT39
import Derived.Test.YtkfgbhlpjkkgfaaGreatDoorT06
set_option linter.unusedVariables false
set_option linter.unusedSimpArgs false
set_option maxHeartbeats 64000000
set_option maxRecDepth 100000
namespace Go.Proofs.YtkfgbhlpjkkgfaaGreatDoor
open Go.RowKit Go.IntWalk
def LineSt (N0 nb:Nat) (s:ByteArray) (pl:Int) (vZ vI vO:Value) (w:World) (loc:List De) (eqs:List Eqn):Prop :=
 ∃ (vL vE:Value) (okL okE:Nat->Prop),w.heap[nb]?=some (.cells #[.string s,.int .i64 pl,vZ,vI,vO,vL,vE] 47 (0,0))/\OwnX kDecl okL w vL loc/\OwnX kEq okE w vE eqs/\(∀ i,okL i->N0<=i)/\(∀ i,okE i->N0<=i)/\∀ i,okL i->¬okE i
def PostL (b g cap nb N0:Nat) (I:Inp) (s:ByteArray) (pl:Int) (vZ vI vO:Value) (nx:Nat) (w:World) (res:Res (List De × List Eqn)) (r:Ending) (w':World):Prop :=
 Aside [b,nb] N0 w w' /\
 match res with
 | .ok p n1=>nx+1<=n1/\Rd w' b g cap I.L I.len n1 0/\r=.returned (.tuple #[])/\LineSt N0 nb s pl vZ vI vO w' p.1 p.2
 | .err c a=>r=upE c a
theorem PostL.fail {b g cap nb N0:Nat} {I:Inp} {s:ByteArray} {pl:Int} {vZ vI vO:Value} {nx:Nat} {w:World} {res:Res (List De × List Eqn)} {w':World} {c a:Nat} (h:res=.err c a) (hA:Aside [b,nb] N0 w w'):PostL b g cap nb N0 I s pl vZ vI vO nx w res (upE c a) w':=by
 subst h;exact ⟨hA,rfl⟩
theorem PostL.good {b g cap nb N0:Nat} {I:Inp} {s:ByteArray} {pl:Int} {vZ vI vO:Value} {nx:Nat} {w:World} {res:Res (List De × List Eqn)} {w':World} {loc:List De} {eqs:List Eqn} {n1:Nat} (h:res=.ok (loc,eqs) n1) (hA:Aside [b,nb] N0 w w') (hn:nx+1<=n1) (hR:Rd w' b g cap I.L I.len n1 0) (hS:LineSt N0 nb s pl vZ vI vO w' loc eqs):PostL b g cap nb N0 I s pl vZ vI vO nx w res (.returned (.tuple #[])) w':=by
 subst h;exact ⟨hA,hn,hR,rfl,hS⟩
theorem zCP {b nb B:Nat} {w w':World} (h:Aside [b] B w w'):Aside [b,nb] B w w':=h.wide fun k _ hk hm=>hk (by simp at hm ⊢;exact .inl hm)
theorem zDU {I:Inp} {n:Nat} (h:(I.pk n).kind≠2) {q:Eqn} {m:Nat} (hq:Ps.equation I n=.ok q m):False:=by
 unfold Ps.equation at hq;obtain ⟨l,k,h1,_⟩:=Res.bind_ok hq;rw [show (30:Nat)=29+1 from rfl,zBA] at h1;obtain ⟨x,j,h2,_⟩:=Res.bind_ok h1;unfold Ps.name at h2;rw [if_neg h] at h2;exact zBu h2
theorem line_any (aV:FormC) {b g cap nb N0:Nat} {I:Inp} (hL:I.L.length<=1099511627776) {nx:Nat} {s:ByteArray} {pl:Int} {vZ vI vO:Value} {loc:List De} {eqs:List Eqn} {w:World} (h:Rd w b g cap I.L I.len nx 0) (hG:GlobB b w) (cP:7<nb)
  (iE:b<N0) (bV:g<N0) (uS:nb<N0) (jm:nb≠b) (Dd:nb≠g) (dO:N0<=w.heap.size) (hS:LineSt N0 nb s pl vZ vI vO w loc eqs) :
  Calls Tryz.prog 145 #[.pointer (some ⟨b,0,none⟩),.pointer (some ⟨nb,0,none⟩)] w (PostL b g cap nb N0 I s pl vZ vI vO nx w (Ps.line I loc eqs nx)):=by
 obtain ⟨vL,vE,okL,okE,xc,oF,pR,aM,de,cY⟩:=hS;have hb:=h.bb;have hg:=h.gb;go_enter Tryz.func145,Tryz.ntmps145;go_wp2_with fail;refine (zAH h ⟨#[118,97,114]⟩ (by decide)).mono ?_;rintro e w5 ⟨rfl,h5,a5⟩;have es:(⟨#[118,97,114]⟩:ByteArray).data.toList=[118,97,114]:=rfl;rw [es] at h5;simp only [es];clear es;have z5:=a5.size;have A5:Aside [b,nb] N0 w w5:=zCP (a5.mono dO);have hI:=a5.keep xc (zAB xc) (by simp;omega);have cB:=oF.past a5 (fun i hi=>by have:=aM i hi;simp;omega);have cy:=pR.past a5 (fun i hi=>by have:=de i hi;simp;omega);clear oF pR xc a5;obtain ⟨aL,cL,rfl,ry,mx⟩:=cB.form;obtain ⟨aE,cE,rfl,Me,G5⟩:=cy.form;unfold maxLen at mx G5;have Fp:=co hI 5;have vh:=co hI 6;simp only [gT,gZ,gS] at Fp vh
 cases hq:Ps.sees I [118,97,114] nx with
 | true=>
  rw [hq] at h5;simp only [if_true] at h5;by_cases aP:30<=loc.length
  ·go_wp2_with fail
   refine (zAy h5 _ _ (by omega)).mono ?_;rintro e w6 ⟨rfl,b6⟩;exact ⟨rfl,PostL.fail (by unfold Ps.line;rw [hq,if_pos rfl,if_pos aP];rfl) (A5.trans (aside b6) (by omega))⟩
  ·have m0:Hid (Ps.line I loc eqs nx=((Ps.decl I (nx+1)).bind fun d n1=>.ok (loc++[d],eqs) n1).bind fun p n2=>(Ps.need I [59] n2).bind fun _ n3=>.ok p n3):=by
    show Ps.line I loc eqs nx=_
    unfold Ps.line;rw [hq,if_pos rfl,if_neg aP]
   go_wp2_with fail;refine (zAl _ _ _ (by omega) _).mono ?_;rintro e w5 ⟨rfl,rfl⟩;clear Fp vh;have iB:Rd w5.drew b g cap I.L I.len (nx+1) 0:=h5.drew;have eP:w5.drew.heap[nb]?=some (.cells #[.string s,.int .i64 pl,vZ,vI,vO,.slice aL loc.length cL,.slice aE eqs.length cE] 47 (0,0)):=hI;have gJ:=A5.drew;have qx:w5.drew.heap.size=w5.heap.size:=rfl;have iR:=(cB.under (Below.refl _ w5).drew).wide (ok':=fun i=>okL i/\i<w5.heap.size) (fun i hi hl=>⟨hi,hl⟩);have iL:=(cy.under (Below.refl _ w5).drew).wide (ok':=fun i=>okE i/\i<w5.heap.size) (fun i hi hl=>⟨hi,hl⟩);go_wp2_with fail;refine zAE (fun w'=>w'.cell? ⟨nb,5,none⟩=some (.slice aL loc.length cL)) (fun j=>decide (j=11)) (by kernel_rfl) ?_;generalize w5.drew=wd at iB eP gJ qx iR iL ⊢;clear h5 hI A5 cB cy;have hH:=co eP 5;simp only [gT,gZ,gS] at hH;refine' tjR 0 hH ?o1
   refine' tjR 1 hH ?o2
   refine' tjR 2 hH ?o3
   refine' tjR 3 hH ?o4
   refine' tjR 4 hH ?o5
   refine' tjR 5 hH ?o6
   refine tnQ 6 (fun K hK=>?_);go_simp;refine (zFa _ _ iB (hG.far2 gJ cP uS)).mono ?_;rintro e w6 ⟨a6,hres⟩;have z6:=a6.size;have A6:Aside [b,nb] N0 w w6:=gJ.trans (zCP a6) (by omega);have dN:=a6.keep eP (by omega) (by simp;omega);have iy:=iR.past a6 (fun i hi=>by have:=aM i hi.1;simp;omega);have jJ:=iL.past a6 (fun i hi=>by have:=de i hi.1;simp;omega);clear iB eP gJ iR iL hH a6
   cases ht:Ps.decl I (nx+1) with
   | err c0 a0=>
    rw [ht] at hres;obtain rfl:e=_:=hres;exact ⟨rfl,PostL.fail (by rw [m0.out,ht];rfl) A6⟩
   | ok y n2=>
    rw [ht] at hres;obtain ⟨od,h6,_,rfl,hV⟩:=hres;obtain ⟨ad,nd,cd,rfl,Ob⟩:=hV;have m6:Hid (Ps.line I loc eqs nx=(Ps.need I [59] n2).bind fun _ n3=>.ok (loc++[y],eqs) n3):=by
     show Ps.line I loc eqs nx=_
     rw [m0.out,ht];rfl
    clear ht m0;have hH:=co dN 5;simp only [gT,gZ,gS] at hH;refine hK.out _ _ (fun _=>hH) ?_;clear hK K
    try simp only [Act.put,sT,sZ,sS]
    have H7:=co (kA dN (.cells #[.string y.name,.int .u8 y.elem,.slice ad nd cd] 50 (0,0))) 5;simp only [gT,gZ,gS] at H7;have mB:=zAA H7;clear H7;have q1:kDecl.E (fun i=>wd.heap.size<=i) w6 [.string y.name,.int .u8 y.elem,.slice ad nd cd] y:=⟨_,rfl,Ob⟩;have q2:(loc.length+1)*kDecl.bytes<=140737488355328:=(by show (loc.length+1)*48<=_;omega);have q3:loc.length+1<=maxLen:=(by unfold maxLen;omega);refine tnQ 7 (fun K hK=>?_);go_simp;refine hK.out _ _ (fun _=>mB.out) ?_;clear hK K
    try simp only [Act.put,sT,sZ,sS]
    refine tnQ 8 (fun K hK=>?_);refine zBx kDecl _ _ 44 50 rfl Tryz.underlying44 wd.heap.size _ _ loc (by rfl) iy [.string y.name,.int .u8 y.elem,.slice ad nd cd] y q1 (by rfl) (fun i hi=>by omega) z6 q2 q3 ?_;intro v8 w8 i7 g8;have eL:=fun k hk=>(iy.lt k hk).1;obtain ⟨z8,bf⟩:=zAu (ok:=fun i=>okL i/\i<w5.heap.size) g8 eL;have A8:Aside [b,nb] N0 w w8:=A6.trans (zBb (S:=[b,nb]) g8 eL (fun i hi=>aM i hi.1) (by omega)) nR;have ik:=(bf nb (zAB dN) (fun hh=>by have:=aM nb hh.1;omega)).trans dN;have mX:=jJ.keep z8 (fun i hi hl=>bf i hl (fun hh=>cY i hh.1 hi.1));have h8:Rd w8 b g cap I.L I.len n2 0:=⟨(bf b h6.bb (fun hh=>by have:=aM b hh.1;omega)).trans h6.here,h6.toks.keep (bf g h6.gb (fun hh=>by have:=aM g hh.1;omega)),h6.apart,Nat.lt_of_lt_of_le h6.gb z8,h6.le,h6.lc,h6.cm⟩;clear A6 dN iy jJ h6 q1 hH mB g8 bf eL;have hH:=co ik 5;simp only [gT,gZ,gS] at hH;refine hK.out _ _ (fun _=>hH) ?_;clear hK K
    try simp only [Act.put,sT,sZ,sS]
    obtain ⟨gQ,gO,km,_,_⟩:=i7.form;rw [List.length_append,List.length_singleton] at km;subst km;have f8:=fun o=>fo ik o;refine tnQ 9 (fun K hK=>?_);go_simp;refine hK.out _ _ (fun _=>hH) ?_;clear hK K
    try simp only [Act.put,sT,sZ,sS]
    refine tnQ 10 (fun K hK=>?_);go_simp;refine hK.out _ _ (fun _=>hH) ?_;clear hK K
    try simp only [Act.put,sT,sZ,sS]
    refine tnQ 11 (fun K hK=>?_);go_simp;refine hK.out _ _ (fun h=>by cases h) ?_;clear hK K
    try simp only [Act.put,sT,sZ,sS]
    refine zAF (by kernel_rfl) ?_ _;have eo:=zAD ik 5 (.slice gQ (loc.length+1) gO);have h9:=h8.set (p:=⟨nb,5,none⟩) (by simp;omega) (by simp;omega) (.slice gQ (loc.length+1) gO);have A9:Aside [b,nb] N0 w (w8.setCell ⟨nb,5,none⟩ (.slice gQ (loc.length+1) gO)):=A8.trans (Aside.setCell (by simp) _) nR;have iM:=i7.set (p:=⟨nb,5,none⟩) (by intro hh;have eY:(okL nb/\nb<w5.heap.size)\/wd.heap.size<=nb:=hh;rcases eY with q | q;exact absurd (aM nb q.1) (by omega);omega) (.slice gQ (loc.length+1) gO);have jq:=mX.set (p:=⟨nb,5,none⟩) (by intro hh;have eY:okE nb/\nb<w5.heap.size:=hh;have:=de nb eY.1;omega) (.slice gQ (loc.length+1) gO);have z9:(w8.setCell ⟨nb,5,none⟩ (.slice gQ (loc.length+1) gO)).heap.size=w8.heap.size:=(by simp [World.setCell]);simp only [sT,sZ,sS] at eo;go_wp2_with fail;generalize w8.setCell ⟨nb,5,none⟩ (.slice gQ (loc.length+1) gO)=w9 at eo h9 A9 iM jq z9 ⊢;refine (zAJ h9 ⟨#[59]⟩ (by decide)).mono ?_;rintro e ru ⟨dT,hres⟩;have es:(⟨#[59]⟩:ByteArray).data.toList=[59]:=rfl;rw [es] at hres;clear es;have fI:Aside [b,nb] N0 w ru:=A9.trans (zCP dT) (by omega);have pT:=dT.keep eo (zAB eo) (by simp;omega);have pI:=iM.past dT (fun i hi=>by rcases hi with q | q;have:=aM i q.1;simp;omega;simp;omega);have oY:=jq.past dT (fun i hi=>by have:=de i hi.1;simp;omega)
    cases ht:Ps.need I [59] n2 with
    | err c0 a0=>
     rw [ht] at hres;obtain rfl:e=_:=hres;exact ⟨rfl,PostL.fail (by rw [m6.out,ht];rfl) fI⟩
    | ok u n3=>
     rw [ht] at hres;obtain ⟨Ap,cQ,_,rfl,rfl⟩:=hres;have wm:=zBB ht;have zI:Hid (Ps.line I loc eqs nx=.ok (loc++[y],eqs) n3):=by
      show Ps.line I loc eqs nx=_
      rw [m6.out,ht];rfl
     clear ht m6;go_wp2;go_end0;exact PostL.good zI.out fI (by omega) cQ ⟨_,_,fun i=>(okL i/\i<w5.heap.size)\/wd.heap.size<=i,fun i=>okE i/\i<w5.heap.size,pT,pI,oY,fun i hi=>hi.elim (fun q=>aM i q.1) (fun q=>by omega),fun i hi=>de i hi.1,fun i hi hj=>hi.elim (fun q=>cY i q.1 hj.1) (fun q=>by omega)⟩
 | false=>
  rw [hq] at h5;simp only [Bool.false_eq_true,if_false] at h5;have m0:Hid (¬((I.pk nx).kind=2/\60<=eqs.length)->Ps.line I loc eqs nx=((Ps.equation I nx).bind fun q n1=>.ok (loc,eqs++[q]) n1).bind fun p n2=>(Ps.need I [59] n2).bind fun _ n3=>.ok p n3):=by
   show _->Ps.line I loc eqs nx=_
   intro hh;unfold Ps.line;rw [hq,if_neg (by simp),if_neg hh]
  have hp:=@zAT _ _ _ _ _ _ _ _ h5;obtain ⟨t,ht⟩:=nmQ (I.pk nx);have jH:peekT I.L I.len nx=t:=ht.symm;rw [jH] at hp;unfold tokV at hp;have HT:=zAA ht;clear jH ht;have hf:=fun x w=>tokF0 t x w;go_wp2_with fail;refine hp.mono ?_;rintro e w6 ⟨rfl,b6⟩;have z6:=b6.size;have h6:=h5.below b6;have A6:Aside [b,nb] N0 w w6:=A5.trans (aside b6) (by omega);have oV:=(aside b6 (S:=[])).keep hI (zAB hI) (by simp);have iS:=cB.under b6;have iJ:=cy.under b6;clear hp h5 A5 hI cB cy Fp vh b6;have vh:=co oV 6;simp only [gT,gZ,gS] at vh;by_cases hk:t.kind=2
  ·have pJ:(t.kind==2)=true:=beq_iff_eq.2 hk
   have MK:=zAA hk;clear hk;by_cases aP:60<=eqs.length
   ·go_wp2_with fail
    refine (zAy h6 _ _ (by omega)).mono ?_;rintro e w7 ⟨rfl,b7⟩;exact ⟨rfl,PostL.fail (by unfold Ps.line;rw [hq,if_neg (by simp),if_pos ⟨by rw [<-HT.out];exact MK.out,aP⟩];rfl) (A6.trans (aside b7) (by omega))⟩
   ·have m1:=zAA (m0.out (fun hh=>aP hh.2))
    have oT:(I.pk nx).kind=2->eqs.length<60:=fun _=>by omega
    go_wp2_with fail;refine (zAl _ _ _ (by omega) _).mono ?_;rintro e w6 ⟨rfl,rfl⟩;clear vh m0 aP;have m0:=m1;clear m1;obtain ⟨w5,GY⟩:=nmQ (w6);subst GY;have h5:=h6;have A5:=A6;have hI:=oV;have cB:=iS;have cy:=iJ;clear h6 A6 oV iS iJ;have iB:Rd w5.drew b g cap I.L I.len nx 0:=h5.drew;have eP:w5.drew.heap[nb]?=some (.cells #[.string s,.int .i64 pl,vZ,vI,vO,.slice aL loc.length cL,.slice aE eqs.length cE] 47 (0,0)):=hI;have gJ:=A5.drew;have qx:w5.drew.heap.size=w5.heap.size:=rfl;have iR:=(cy.under (Below.refl _ w5).drew).wide (ok':=fun i=>okE i/\i<w5.heap.size) (fun i hi hl=>⟨hi,hl⟩);have iL:=(cB.under (Below.refl _ w5).drew).wide (ok':=fun i=>okL i/\i<w5.heap.size) (fun i hi hl=>⟨hi,hl⟩);go_wp2_with fail;refine zAE (fun w'=>w'.cell? ⟨nb,6,none⟩=some (.slice aE eqs.length cE)) (fun j=>decide (j=11)) (by kernel_rfl) ?_;generalize w5.drew=wd at iB eP gJ qx iR iL ⊢;clear h5 hI A5 cy cB;have hH:=co eP 6;simp only [gT,gZ,gS] at hH;refine' tjR 0 hH ?o7
    refine' tjR 1 hH ?o8
    refine' tjR 2 hH ?o9
    refine' tjR 3 hH ?o10
    refine' tjR 4 hH ?o11
    refine' tjR 5 hH ?o12
    refine tnQ 6 (fun K hK=>?_);go_simp;refine (zDV aV hL _ _ iB (hG.far2 gJ cP uS)).mono ?_;rintro e w6 ⟨a6,hres⟩;have z6:=a6.size;have A6:Aside [b,nb] N0 w w6:=gJ.trans (zCP a6) (by omega);have dN:=a6.keep eP (by omega) (by simp;omega);have iy:=iR.past a6 (fun i hi=>by have:=de i hi.1;simp;omega);have jJ:=iL.past a6 (fun i hi=>by have:=aM i hi.1;simp;omega);clear iB eP gJ iR iL hH a6
    cases ht:Ps.equation I nx with
    | err c0 a0=>
     rw [ht] at hres;obtain rfl:e=_:=hres;exact ⟨rfl,PostL.fail (by rw [m0.out,ht];rfl) A6⟩
    | ok y n2=>
     have nK:(I.pk nx).kind=2:=Classical.byContradiction fun hh=>zDU hh ht;have aP:eqs.length<60:=oT nK;rw [ht] at hres;obtain ⟨od,h6,_,rfl,hV⟩:=hres;obtain ⟨q,rfl,hq⟩:=hV;have m6:Hid (Ps.line I loc eqs nx=(Ps.need I [59] n2).bind fun _ n3=>.ok (loc,eqs++[y]) n3):=by
      show Ps.line I loc eqs nx=_
      rw [m0.out,ht];rfl
     clear ht m0;have hH:=co dN 6;simp only [gT,gZ,gS] at hH;refine hK.out _ _ (fun _=>hH) ?_;clear hK K
     try simp only [Act.put,sT,sZ,sS]
     have H7:=co (kA dN (.cells #[.int .i64 q.place,.slice q.aN q.nN q.cN,.string q.node,.slice q.aS q.nS q.cS,.slice q.aE q.nE q.cE] 56 (0,0))) 6;simp only [gT,gZ,gS] at H7;have mB:=zAA H7;clear H7;have q1:kEq.E (fun i=>wd.heap.size<=i) w6 [.int .i64 q.place,.slice q.aN q.nN q.cN,.string q.node,.slice q.aS q.nS q.cS,.slice q.aE q.nE q.cE] y:=⟨q,rfl,hq⟩;have q2:(eqs.length+1)*kEq.bytes<=140737488355328:=(by show (eqs.length+1)*96<=_;omega);have q3:eqs.length+1<=maxLen:=(by unfold maxLen;omega);refine tnQ 7 (fun K hK=>?_);go_simp;refine hK.out _ _ (fun _=>mB.out) ?_;clear hK K
     try simp only [Act.put,sT,sZ,sS]
     refine tnQ 8 (fun K hK=>?_);refine zBx kEq _ _ 45 56 rfl Tryz.underlying45 wd.heap.size _ _ eqs (by rfl) iy [.int .i64 q.place,.slice q.aN q.nN q.cN,.string q.node,.slice q.aS q.nS q.cS,.slice q.aE q.nE q.cE] y q1 (by rfl) (fun i hi=>by omega) z6 q2 q3 ?_;intro v8 w8 i7 g8;have eL:=fun k hk=>(iy.lt k hk).1;obtain ⟨z8,bf⟩:=zAu (ok:=fun i=>okE i/\i<w5.heap.size) g8 eL;have A8:Aside [b,nb] N0 w w8:=A6.trans (zBb (S:=[b,nb]) g8 eL (fun i hi=>de i hi.1) (by omega)) nR;have ik:=(bf nb (zAB dN) (fun hh=>by have:=de nb hh.1;omega)).trans dN;have mX:=jJ.keep z8 (fun i hi hl=>bf i hl (fun hh=>cY i hi.1 hh.1));have h8:Rd w8 b g cap I.L I.len n2 0:=⟨(bf b h6.bb (fun hh=>by have:=de b hh.1;omega)).trans h6.here,h6.toks.keep (bf g h6.gb (fun hh=>by have:=de g hh.1;omega)),h6.apart,Nat.lt_of_lt_of_le h6.gb z8,h6.le,h6.lc,h6.cm⟩;clear A6 dN iy jJ h6 q1 hH mB g8 bf eL;have hH:=co ik 6;simp only [gT,gZ,gS] at hH;refine hK.out _ _ (fun _=>hH) ?_;clear hK K
     try simp only [Act.put,sT,sZ,sS]
     obtain ⟨gQ,gO,km,_,_⟩:=i7.form;rw [List.length_append,List.length_singleton] at km;subst km;have f8:=fun o=>fo ik o;refine tnQ 9 (fun K hK=>?_);go_simp;refine hK.out _ _ (fun _=>hH) ?_;clear hK K
     try simp only [Act.put,sT,sZ,sS]
     refine tnQ 10 (fun K hK=>?_);go_simp;refine hK.out _ _ (fun _=>hH) ?_;clear hK K
     try simp only [Act.put,sT,sZ,sS]
     refine tnQ 11 (fun K hK=>?_);go_simp;refine hK.out _ _ (fun h=>by cases h) ?_;clear hK K
     try simp only [Act.put,sT,sZ,sS]
     refine zAF (by kernel_rfl) ?_ _;have eo:=zAD ik 6 (.slice gQ (eqs.length+1) gO);have h9:=h8.set (p:=⟨nb,6,none⟩) (by simp;omega) (by simp;omega) (.slice gQ (eqs.length+1) gO);have A9:Aside [b,nb] N0 w (w8.setCell ⟨nb,6,none⟩ (.slice gQ (eqs.length+1) gO)):=A8.trans (Aside.setCell (by simp) _) nR;have iM:=i7.set (p:=⟨nb,6,none⟩) (by intro hh;have eY:(okE nb/\nb<w5.heap.size)\/wd.heap.size<=nb:=hh;rcases eY with q | q;exact absurd (de nb q.1) (by omega);omega) (.slice gQ (eqs.length+1) gO);have jq:=mX.set (p:=⟨nb,6,none⟩) (by intro hh;have eY:okL nb/\nb<w5.heap.size:=hh;have:=aM nb eY.1;omega) (.slice gQ (eqs.length+1) gO);have z9:(w8.setCell ⟨nb,6,none⟩ (.slice gQ (eqs.length+1) gO)).heap.size=w8.heap.size:=(by simp [World.setCell]);simp only [sT,sZ,sS] at eo;go_wp2_with fail;generalize w8.setCell ⟨nb,6,none⟩ (.slice gQ (eqs.length+1) gO)=w9 at eo h9 A9 iM jq z9 ⊢;refine (zAJ h9 ⟨#[59]⟩ (by decide)).mono ?_;rintro e ru ⟨dT,hres⟩;have es:(⟨#[59]⟩:ByteArray).data.toList=[59]:=rfl;rw [es] at hres;clear es;have fI:Aside [b,nb] N0 w ru:=A9.trans (zCP dT) (by omega);have pT:=dT.keep eo (zAB eo) (by simp;omega);have pI:=iM.past dT (fun i hi=>by rcases hi with q | q;have:=de i q.1;simp;omega;simp;omega);have oY:=jq.past dT (fun i hi=>by have:=aM i hi.1;simp;omega)
     cases ht:Ps.need I [59] n2 with
     | err c0 a0=>
      rw [ht] at hres;obtain rfl:e=_:=hres;exact ⟨rfl,PostL.fail (by rw [m6.out,ht];rfl) fI⟩
     | ok u n3=>
      rw [ht] at hres;obtain ⟨Ap,cQ,_,rfl,rfl⟩:=hres;have wm:=zBB ht;have zI:Hid (Ps.line I loc eqs nx=.ok (loc,eqs++[y]) n3):=by
       show Ps.line I loc eqs nx=_
       rw [m6.out,ht];rfl
      clear ht m6;go_wp2;go_end0;exact PostL.good zI.out fI (by omega) cQ ⟨_,_,fun i=>okL i/\i<w5.heap.size,fun i=>(okE i/\i<w5.heap.size)\/wd.heap.size<=i,pT,oY,pI,fun i hi=>aM i hi.1,fun i hi=>hi.elim (fun q=>de i q.1) (fun q=>by omega),fun i hi hj=>hj.elim (fun q=>cY i hi.1 q.1) (fun q=>by omega)⟩
  ·have pJ:(t.kind==2)=false:=beq_eq_false_iff_ne.2 hk
   have m1:=zAA (m0.out (fun hh=>hk (by rw [HT.out];exact hh.1)));have oT:(I.pk nx).kind=2->eqs.length<60:=fun hh=>absurd (by rw [HT.out];exact hh) hk;clear vh m0;have m0:=m1;clear m1;obtain ⟨w5,GY⟩:=nmQ (w6);subst GY;have h5:=h6;have A5:=A6;have hI:=oV;have cB:=iS;have cy:=iJ;clear h6 A6 oV iS iJ;have iB:Rd w5.drew b g cap I.L I.len nx 0:=h5.drew;have eP:w5.drew.heap[nb]?=some (.cells #[.string s,.int .i64 pl,vZ,vI,vO,.slice aL loc.length cL,.slice aE eqs.length cE] 47 (0,0)):=hI;have gJ:=A5.drew;have qx:w5.drew.heap.size=w5.heap.size:=rfl;have iR:=(cy.under (Below.refl _ w5).drew).wide (ok':=fun i=>okE i/\i<w5.heap.size) (fun i hi hl=>⟨hi,hl⟩);have iL:=(cB.under (Below.refl _ w5).drew).wide (ok':=fun i=>okL i/\i<w5.heap.size) (fun i hi hl=>⟨hi,hl⟩);go_wp2_with fail;refine zAE (fun w'=>w'.cell? ⟨nb,6,none⟩=some (.slice aE eqs.length cE)) (fun j=>decide (j=11)) (by kernel_rfl) ?_;generalize w5.drew=wd at iB eP gJ qx iR iL ⊢;clear h5 hI A5 cy cB;have hH:=co eP 6;simp only [gT,gZ,gS] at hH;refine' tjR 0 hH ?o13
   refine' tjR 1 hH ?o14
   refine' tjR 2 hH ?o15
   refine' tjR 3 hH ?o16
   refine' tjR 4 hH ?o17
   refine' tjR 5 hH ?o18
   refine tnQ 6 (fun K hK=>?_);go_simp;refine (zDV aV hL _ _ iB (hG.far2 gJ cP uS)).mono ?_;rintro e w6 ⟨a6,hres⟩;have z6:=a6.size;have A6:Aside [b,nb] N0 w w6:=gJ.trans (zCP a6) (by omega);have dN:=a6.keep eP (by omega) (by simp;omega);have iy:=iR.past a6 (fun i hi=>by have:=de i hi.1;simp;omega);have jJ:=iL.past a6 (fun i hi=>by have:=aM i hi.1;simp;omega);clear iB eP gJ iR iL hH a6
   cases ht:Ps.equation I nx with
   | err c0 a0=>
    rw [ht] at hres;obtain rfl:e=_:=hres;exact ⟨rfl,PostL.fail (by rw [m0.out,ht];rfl) A6⟩
   | ok y n2=>
    have nK:(I.pk nx).kind=2:=Classical.byContradiction fun hh=>zDU hh ht;have aP:eqs.length<60:=oT nK;rw [ht] at hres;obtain ⟨od,h6,_,rfl,hV⟩:=hres;obtain ⟨q,rfl,hq⟩:=hV;have m6:Hid (Ps.line I loc eqs nx=(Ps.need I [59] n2).bind fun _ n3=>.ok (loc,eqs++[y]) n3):=by
     show Ps.line I loc eqs nx=_
     rw [m0.out,ht];rfl
    clear ht m0;have hH:=co dN 6;simp only [gT,gZ,gS] at hH;refine hK.out _ _ (fun _=>hH) ?_;clear hK K
    try simp only [Act.put,sT,sZ,sS]
    have H7:=co (kA dN (.cells #[.int .i64 q.place,.slice q.aN q.nN q.cN,.string q.node,.slice q.aS q.nS q.cS,.slice q.aE q.nE q.cE] 56 (0,0))) 6;simp only [gT,gZ,gS] at H7;have mB:=zAA H7;clear H7;have q1:kEq.E (fun i=>wd.heap.size<=i) w6 [.int .i64 q.place,.slice q.aN q.nN q.cN,.string q.node,.slice q.aS q.nS q.cS,.slice q.aE q.nE q.cE] y:=⟨q,rfl,hq⟩;have q2:(eqs.length+1)*kEq.bytes<=140737488355328:=(by show (eqs.length+1)*96<=_;omega);have q3:eqs.length+1<=maxLen:=(by unfold maxLen;omega);refine tnQ 7 (fun K hK=>?_);go_simp;refine hK.out _ _ (fun _=>mB.out) ?_;clear hK K
    try simp only [Act.put,sT,sZ,sS]
    refine tnQ 8 (fun K hK=>?_);refine zBx kEq _ _ 45 56 rfl Tryz.underlying45 wd.heap.size _ _ eqs (by rfl) iy [.int .i64 q.place,.slice q.aN q.nN q.cN,.string q.node,.slice q.aS q.nS q.cS,.slice q.aE q.nE q.cE] y q1 (by rfl) (fun i hi=>by omega) z6 q2 q3 ?_;intro v8 w8 i7 g8;have eL:=fun k hk=>(iy.lt k hk).1;obtain ⟨z8,bf⟩:=zAu (ok:=fun i=>okE i/\i<w5.heap.size) g8 eL;have A8:Aside [b,nb] N0 w w8:=A6.trans (zBb (S:=[b,nb]) g8 eL (fun i hi=>de i hi.1) (by omega)) nR;have ik:=(bf nb (zAB dN) (fun hh=>by have:=de nb hh.1;omega)).trans dN;have mX:=jJ.keep z8 (fun i hi hl=>bf i hl (fun hh=>cY i hi.1 hh.1));have h8:Rd w8 b g cap I.L I.len n2 0:=⟨(bf b h6.bb (fun hh=>by have:=de b hh.1;omega)).trans h6.here,h6.toks.keep (bf g h6.gb (fun hh=>by have:=de g hh.1;omega)),h6.apart,Nat.lt_of_lt_of_le h6.gb z8,h6.le,h6.lc,h6.cm⟩;clear A6 dN iy jJ h6 q1 hH mB g8 bf eL;have hH:=co ik 6;simp only [gT,gZ,gS] at hH;refine hK.out _ _ (fun _=>hH) ?_;clear hK K
    try simp only [Act.put,sT,sZ,sS]
    obtain ⟨gQ,gO,km,_,_⟩:=i7.form;rw [List.length_append,List.length_singleton] at km;subst km;have f8:=fun o=>fo ik o;refine tnQ 9 (fun K hK=>?_);go_simp;refine hK.out _ _ (fun _=>hH) ?_;clear hK K
    try simp only [Act.put,sT,sZ,sS]
    refine tnQ 10 (fun K hK=>?_);go_simp;refine hK.out _ _ (fun _=>hH) ?_;clear hK K
    try simp only [Act.put,sT,sZ,sS]
    refine tnQ 11 (fun K hK=>?_);go_simp;refine hK.out _ _ (fun h=>by cases h) ?_;clear hK K
    try simp only [Act.put,sT,sZ,sS]
    refine zAF (by kernel_rfl) ?_ _;have eo:=zAD ik 6 (.slice gQ (eqs.length+1) gO);have h9:=h8.set (p:=⟨nb,6,none⟩) (by simp;omega) (by simp;omega) (.slice gQ (eqs.length+1) gO);have A9:Aside [b,nb] N0 w (w8.setCell ⟨nb,6,none⟩ (.slice gQ (eqs.length+1) gO)):=A8.trans (Aside.setCell (by simp) _) nR;have iM:=i7.set (p:=⟨nb,6,none⟩) (by intro hh;have eY:(okE nb/\nb<w5.heap.size)\/wd.heap.size<=nb:=hh;rcases eY with q | q;exact absurd (de nb q.1) (by omega);omega) (.slice gQ (eqs.length+1) gO);have jq:=mX.set (p:=⟨nb,6,none⟩) (by intro hh;have eY:okL nb/\nb<w5.heap.size:=hh;have:=aM nb eY.1;omega) (.slice gQ (eqs.length+1) gO);have z9:(w8.setCell ⟨nb,6,none⟩ (.slice gQ (eqs.length+1) gO)).heap.size=w8.heap.size:=(by simp [World.setCell]);simp only [sT,sZ,sS] at eo;go_wp2_with fail;generalize w8.setCell ⟨nb,6,none⟩ (.slice gQ (eqs.length+1) gO)=w9 at eo h9 A9 iM jq z9 ⊢;refine (zAJ h9 ⟨#[59]⟩ (by decide)).mono ?_;rintro e ru ⟨dT,hres⟩;have es:(⟨#[59]⟩:ByteArray).data.toList=[59]:=rfl;rw [es] at hres;clear es;have fI:Aside [b,nb] N0 w ru:=A9.trans (zCP dT) (by omega);have pT:=dT.keep eo (zAB eo) (by simp;omega);have pI:=iM.past dT (fun i hi=>by rcases hi with q | q;have:=de i q.1;simp;omega;simp;omega);have oY:=jq.past dT (fun i hi=>by have:=aM i hi.1;simp;omega)
    cases ht:Ps.need I [59] n2 with
    | err c0 a0=>
     rw [ht] at hres;obtain rfl:e=_:=hres;exact ⟨rfl,PostL.fail (by rw [m6.out,ht];rfl) fI⟩
    | ok u n3=>
     rw [ht] at hres;obtain ⟨Ap,cQ,_,rfl,rfl⟩:=hres;have wm:=zBB ht;have zI:Hid (Ps.line I loc eqs nx=.ok (loc,eqs++[y]) n3):=by
      show Ps.line I loc eqs nx=_
      rw [m6.out,ht];rfl
     clear ht m6;go_wp2;go_end0;exact PostL.good zI.out fI (by omega) cQ ⟨_,_,fun i=>okL i/\i<w5.heap.size,fun i=>(okE i/\i<w5.heap.size)\/wd.heap.size<=i,pT,oY,pI,fun i hi=>aM i hi.1,fun i hi=>hi.elim (fun q=>de i q.1) (fun q=>by omega),fun i hi hj=>hj.elim (fun q=>cY i hi.1 q.1) (fun q=>by omega)⟩
end Go.Proofs.YtkfgbhlpjkkgfaaGreatDoor
