import Derived.Test.YtkfgbhlpjkkgfaaGreatDoorN39
import Derived.Test.YtkfgbhlpjkkgfaaGreatDoorN07
set_option linter.unusedVariables false
set_option linter.unusedSimpArgs false
set_option maxHeartbeats 64000000
set_option maxRecDepth 100000
namespace Go.Proofs.YtkfgbhlpjkkgfaaGreatDoor
open Go.RowKit Go.IntWalk
def LineSt (N0 nb:Nat) (s:ByteArray) (pl:Int) (vZ vI vO:Value) (w:World) (loc:List De) (eqs:List Eqn):Prop :=
 ∃ (vL vE:Value) (okL okE:Nat→Prop),w.heap[nb]?=some (.cells #[.string s,.int .i64 pl,vZ,vI,vO,vL,vE] 47 (0,0))∧OwnX kDecl okL w vL loc∧OwnX kEq okE w vE eqs∧(∀ i,okL i→N0≤i)∧(∀ i,okE i→N0≤i)∧∀ i,okL i→¬okE i
def PostL (b g cap nb N0:Nat) (I:Inp) (s:ByteArray) (pl:Int) (vZ vI vO:Value) (nx:Nat) (w:World) (res:Res (List De × List Eqn)) (r:Ending) (w':World):Prop :=
 Aside [b,nb] N0 w w' ∧
 match res with
 | .ok p n1=>nx+1≤n1∧Rd w' b g cap I.L I.len n1 0∧r=.returned (.tuple #[])∧LineSt N0 nb s pl vZ vI vO w' p.1 p.2
 | .err c a=>r=upE c a
theorem PostL.fail {b g cap nb N0:Nat} {I:Inp} {s:ByteArray} {pl:Int} {vZ vI vO:Value} {nx:Nat} {w:World} {res:Res (List De × List Eqn)} {w':World} {c a:Nat} (h:res=.err c a) (hA:Aside [b,nb] N0 w w'):PostL b g cap nb N0 I s pl vZ vI vO nx w res (upE c a) w':=by
 subst h;exact ⟨hA,rfl⟩
theorem PostL.good {b g cap nb N0:Nat} {I:Inp} {s:ByteArray} {pl:Int} {vZ vI vO:Value} {nx:Nat} {w:World} {res:Res (List De × List Eqn)} {w':World} {loc:List De} {eqs:List Eqn} {n1:Nat} (h:res=.ok (loc,eqs) n1) (hA:Aside [b,nb] N0 w w') (hn:nx+1≤n1) (hR:Rd w' b g cap I.L I.len n1 0) (hS:LineSt N0 nb s pl vZ vI vO w' loc eqs):PostL b g cap nb N0 I s pl vZ vI vO nx w res (.returned (.tuple #[])) w':=by
 subst h;exact ⟨hA,hn,hR,rfl,hS⟩
theorem aside2 {b nb B:Nat} {w w':World} (h:Aside [b] B w w'):Aside [b,nb] B w w':=h.wide fun k _ hk hm=>hk (by simp at hm ⊢;exact .inl hm)
theorem equation_not {I:Inp} {n:Nat} (h:(I.pk n).kind≠2) {q:Eqn} {m:Nat} (hq:Ps.equation I n=.ok q m):False:=by
 unfold Ps.equation at hq;obtain ⟨l,k,h1,_⟩:=Res.bind_ok hq;rw [show (30:Nat)=29+1 from rfl,row_succ] at h1;obtain ⟨x,j,h2,_⟩:=Res.bind_ok h1;unfold Ps.name at h2;rw [if_neg h] at h2;exact refuse_no h2
theorem line_any (hform:FormC) {b g cap nb N0:Nat} {I:Inp} (hL:I.L.length≤1099511627776) {nx:Nat} {s:ByteArray} {pl:Int} {vZ vI vO:Value} {loc:List De} {eqs:List Eqn} {w:World} (h:Rd w b g cap I.L I.len nx 0) (hG:GlobB b w) (hone:7<nb)
  (hb0:b<N0) (hg0:g<N0) (hnb0:nb<N0) (hbn:nb≠b) (hgn:nb≠g) (hN0:N0≤w.heap.size) (hS:LineSt N0 nb s pl vZ vI vO w loc eqs) :
  Calls Tryz.prog 145 #[.pointer (some ⟨b,0,none⟩),.pointer (some ⟨nb,0,none⟩)] w (PostL b g cap nb N0 I s pl vZ vI vO nx w (Ps.line I loc eqs nx)):=by
 obtain ⟨vL,vE,okL,okE,hnb,ownloc,owneqs,hokL,hokE,hdis⟩:=hS;have hb:=h.bb;have hg:=h.gb;go_enter Tryz.func145,Tryz.ntmps145;go_wp2_with fail;refine (take_any h ⟨#[118,97,114]⟩ (by decide)).mono ?_;rintro e w5 ⟨rfl,h5,a5⟩;have es:(⟨#[118,97,114]⟩:ByteArray).data.toList=[118,97,114]:=rfl;rw [es] at h5;simp only [es];clear es;have z5:=a5.size;have A5:Aside [b,nb] N0 w w5:=aside2 (a5.mono hN0);have hnb5:=a5.keep hnb (lt_of hnb) (by simp;omega);have ownloc5:=ownloc.past a5 (fun i hi=>by have:=hokL i hi;simp;omega);have owneqs5:=owneqs.past a5 (fun i hi=>by have:=hokE i hi;simp;omega);clear ownloc owneqs hnb a5;obtain ⟨aL,cL,rfl,hL1,hL2⟩:=ownloc5.form;obtain ⟨aE,cE,rfl,hE1,hE2⟩:=owneqs5.form;unfold maxLen at hL2 hE2;have cl5:=co hnb5 5;have cl6:=co hnb5 6;simp only [gT,gZ,gS] at cl5 cl6
 cases hq:Ps.sees I [118,97,114] nx with
 | true=>
  rw [hq] at h5;simp only [if_true] at h5;by_cases hlen:30≤loc.length
  ·go_wp2_with fail
   refine (allow_no h5 _ _ (by omega)).mono ?_;rintro e w6 ⟨rfl,b6⟩;exact ⟨rfl,PostL.fail (by unfold Ps.line;rw [hq,if_pos rfl,if_pos hlen];rfl) (A5.trans (aside b6) (by omega))⟩
  ·have m0:Hid (Ps.line I loc eqs nx=((Ps.decl I (nx+1)).bind fun d n1=>.ok (loc++[d],eqs) n1).bind fun p n2=>(Ps.need I [59] n2).bind fun _ n3=>.ok p n3):=by
    show Ps.line I loc eqs nx=_
    unfold Ps.line;rw [hq,if_pos rfl,if_neg hlen]
   go_wp2_with fail;refine (allow_yes _ _ _ (by omega) _).mono ?_;rintro e w5 ⟨rfl,rfl⟩;clear cl5 cl6;have hd5:Rd w5.drew b g cap I.L I.len (nx+1) 0:=h5.drew;have hb5:w5.drew.heap[nb]?=some (.cells #[.string s,.int .i64 pl,vZ,vI,vO,.slice aL loc.length cL,.slice aE eqs.length cE] 47 (0,0)):=hnb5;have A5d:=A5.drew;have z5d:w5.drew.heap.size=w5.heap.size:=rfl;have om5:=(ownloc5.under (Below.refl _ w5).drew).wide (ok':=fun i=>okL i∧i<w5.heap.size) (fun i hi hl=>⟨hi,hl⟩);have oo5:=(owneqs5.under (Below.refl _ w5).drew).wide (ok':=fun i=>okE i∧i<w5.heap.size) (fun i hi hl=>⟨hi,hl⟩);go_wp2_with fail;refine wp_region_late (fun w'=>w'.cell? ⟨nb,5,none⟩=some (.slice aL loc.length cL)) (fun j=>decide (j=11)) (by kernel_rfl) ?_;generalize w5.drew=wd at hd5 hb5 A5d z5d om5 oo5 ⊢;clear h5 hnb5 A5 ownloc5 owneqs5;have hH:=co hb5 5;simp only [gT,gZ,gS] at hH;refine' wpAnyL_take (i:=0) (v:=_) rfl (by kernel_rfl) (by kernel_rfl) (by kernel_rfl) (by kernel_rfl) (fun _ _ _ h=>h) hH (by rfl) ?hyv ?o1
   case hyv=>
    intro wz hSw;go_simp
    try rfl
   try simp only [Act.put,sT,sZ,sS]
   refine' wpAnyL_take (i:=1) (v:=_) rfl (by kernel_rfl) (by kernel_rfl) (by kernel_rfl) (by kernel_rfl) (fun _ _ _ h=>h) hH (by rfl) ?hyv ?o2
   case hyv=>
    intro wz hSw;go_simp
    try rfl
   try simp only [Act.put,sT,sZ,sS]
   refine' wpAnyL_take (i:=2) (v:=_) rfl (by kernel_rfl) (by kernel_rfl) (by kernel_rfl) (by kernel_rfl) (fun _ _ _ h=>h) hH (by rfl) ?hyv ?o3
   case hyv=>
    intro wz hSw;go_simp
    try rfl
   try simp only [Act.put,sT,sZ,sS]
   refine' wpAnyL_take (i:=3) (v:=_) rfl (by kernel_rfl) (by kernel_rfl) (by kernel_rfl) (by kernel_rfl) (fun _ _ _ h=>h) hH (by rfl) ?hyv ?o4
   case hyv=>
    intro wz hSw;go_simp
    try rfl
   try simp only [Act.put,sT,sZ,sS]
   refine' wpAnyL_take (i:=4) (v:=_) rfl (by kernel_rfl) (by kernel_rfl) (by kernel_rfl) (by kernel_rfl) (fun _ _ _ h=>h) hH (by rfl) ?hyv ?o5
   case hyv=>
    intro wz hSw;go_simp
    try rfl
   try simp only [Act.put,sT,sZ,sS]
   refine' wpAnyL_take (i:=5) (v:=_) rfl (by kernel_rfl) (by kernel_rfl) (by kernel_rfl) (by kernel_rfl) (fun _ _ _ h=>h) hH (by rfl) ?hyv ?o6
   case hyv=>
    intro wz hSw;go_simp
    try rfl
   try simp only [Act.put,sT,sZ,sS]
   refine wpAnyL_one (i:=6) rfl (by kernel_rfl) (by rfl) (fun K hK=>?_);go_simp;refine (decl_any _ _ hd5 (hG.far2 A5d hone hnb0)).mono ?_;rintro e w6 ⟨a6,hres⟩;have z6:=a6.size;have A6:Aside [b,nb] N0 w w6:=A5d.trans (aside2 a6) (by omega);have hb6:=a6.keep hb5 (by omega) (by simp;omega);have om6:=om5.past a6 (fun i hi=>by have:=hokL i hi.1;simp;omega);have oo6:=oo5.past a6 (fun i hi=>by have:=hokE i hi.1;simp;omega);clear hd5 hb5 A5d om5 oo5 hH a6
   cases ht:Ps.decl I (nx+1) with
   | err c0 a0=>
    rw [ht] at hres;obtain rfl:e=_:=hres;exact ⟨rfl,PostL.fail (by rw [m0.out,ht];rfl) A6⟩
   | ok y n2=>
    rw [ht] at hres;obtain ⟨le6,h6,_,rfl,hV⟩:=hres;obtain ⟨ad,nd,cd,rfl,hTm⟩:=hV;have m6:Hid (Ps.line I loc eqs nx=(Ps.need I [59] n2).bind fun _ n3=>.ok (loc++[y],eqs) n3):=by
     show Ps.line I loc eqs nx=_
     rw [m0.out,ht];rfl
    clear ht m0;have hH:=co hb6 5;simp only [gT,gZ,gS] at hH;refine hK.out _ _ (fun _=>hH) ?_;clear hK K
    try simp only [Act.put,sT,sZ,sS]
    have H7:=co (kA hb6 (.cells #[.string y.name,.int .u8 y.elem,.slice ad nd cd] 50 (0,0))) 5;simp only [gT,gZ,gS] at H7;have H7h:=hide H7;clear H7;have q1:kDecl.E (fun i=>wd.heap.size≤i) w6 [.string y.name,.int .u8 y.elem,.slice ad nd cd] y:=⟨_,rfl,hTm⟩;have q2:(loc.length+1)*kDecl.bytes≤140737488355328:=(by show (loc.length+1)*48≤_;omega);have q3:loc.length+1≤maxLen:=(by unfold maxLen;omega);refine wpAnyL_one (i:=7) rfl (by kernel_rfl) (by rfl) (fun K hK=>?_);go_simp;refine hK.out _ _ (fun _=>H7h.out) ?_;clear hK K
    try simp only [Act.put,sT,sZ,sS]
    refine wpAnyL_one (i:=8) rfl (by kernel_rfl) (by rfl) (fun K hK=>?_);refine oper_moreX kDecl _ _ 44 50 rfl Tryz.underlying44 wd.heap.size _ _ loc (by rfl) om6 [.string y.name,.int .u8 y.elem,.slice ad nd cd] y q1 (by rfl) (fun i hi=>by omega) z6 q2 q3 ?_;intro v8 w8 om8 g8;have hvb:=fun k hk=>(om6.lt k hk).1;obtain ⟨z8,hoth⟩:=grown_other (ok:=fun i=>okL i∧i<w5.heap.size) g8 hvb;have A8:Aside [b,nb] N0 w w8:=A6.trans (grown_aside (S:=[b,nb]) g8 hvb (fun i hi=>hokL i hi.1) (by omega)) nR;have hb8:=(hoth nb (lt_of hb6) (fun hh=>by have:=hokL nb hh.1;omega)).trans hb6;have oo8:=oo6.keep z8 (fun i hi hl=>hoth i hl (fun hh=>hdis i hh.1 hi.1));have h8:Rd w8 b g cap I.L I.len n2 0:=⟨(hoth b h6.bb (fun hh=>by have:=hokL b hh.1;omega)).trans h6.here,h6.toks.keep (hoth g h6.gb (fun hh=>by have:=hokL g hh.1;omega)),h6.apart,Nat.lt_of_lt_of_le h6.gb z8,h6.le,h6.lc,h6.cm⟩;clear A6 hb6 om6 oo6 h6 q1 hH H7h g8 hoth hvb;have hH:=co hb8 5;simp only [gT,gZ,gS] at hH;refine hK.out _ _ (fun _=>hH) ?_;clear hK K
    try simp only [Act.put,sT,sZ,sS]
    obtain ⟨a8v,c8v,hv8,_,_⟩:=om8.form;rw [List.length_append,List.length_singleton] at hv8;subst hv8;have f8:=fun o=>fo hb8 o;refine wpAnyL_one (i:=9) rfl (by kernel_rfl) (by rfl) (fun K hK=>?_);go_simp;refine hK.out _ _ (fun _=>hH) ?_;clear hK K
    try simp only [Act.put,sT,sZ,sS]
    refine wpAnyL_one (i:=10) rfl (by kernel_rfl) (by rfl) (fun K hK=>?_);go_simp;refine hK.out _ _ (fun _=>hH) ?_;clear hK K
    try simp only [Act.put,sT,sZ,sS]
    refine wpAnyL_one (i:=11) rfl (by kernel_rfl) (by rfl) (fun K hK=>?_);go_simp;refine hK.out _ _ (fun h=>by cases h) ?_;clear hK K
    try simp only [Act.put,sT,sZ,sS]
    refine wpAnyL_done (by kernel_rfl) ?_ _;have hb9:=set_in hb8 5 (.slice a8v (loc.length+1) c8v);have h9:=h8.set (p:=⟨nb,5,none⟩) (by simp;omega) (by simp;omega) (.slice a8v (loc.length+1) c8v);have A9:Aside [b,nb] N0 w (w8.setCell ⟨nb,5,none⟩ (.slice a8v (loc.length+1) c8v)):=A8.trans (Aside.setCell (by simp) _) nR;have om9:=om8.set (p:=⟨nb,5,none⟩) (by intro hh;have hh2:(okL nb∧nb<w5.heap.size)∨wd.heap.size≤nb:=hh;rcases hh2 with q | q;exact absurd (hokL nb q.1) (by omega);omega) (.slice a8v (loc.length+1) c8v);have oo9:=oo8.set (p:=⟨nb,5,none⟩) (by intro hh;have hh2:okE nb∧nb<w5.heap.size:=hh;have:=hokE nb hh2.1;omega) (.slice a8v (loc.length+1) c8v);have z9:(w8.setCell ⟨nb,5,none⟩ (.slice a8v (loc.length+1) c8v)).heap.size=w8.heap.size:=(by simp [World.setCell]);simp only [sT,sZ,sS] at hb9;go_wp2_with fail;generalize w8.setCell ⟨nb,5,none⟩ (.slice a8v (loc.length+1) c8v)=w9 at hb9 h9 A9 om9 oo9 z9 ⊢;refine (need_any h9 ⟨#[59]⟩ (by decide)).mono ?_;rintro e w10 ⟨a10,hres⟩;have es:(⟨#[59]⟩:ByteArray).data.toList=[59]:=rfl;rw [es] at hres;clear es;have A10:Aside [b,nb] N0 w w10:=A9.trans (aside2 a10) (by omega);have hb10:=a10.keep hb9 (lt_of hb9) (by simp;omega);have om10:=om9.past a10 (fun i hi=>by rcases hi with q | q;have:=hokL i q.1;simp;omega;simp;omega);have oo10:=oo9.past a10 (fun i hi=>by have:=hokE i hi.1;simp;omega)
    cases ht:Ps.need I [59] n2 with
    | err c0 a0=>
     rw [ht] at hres;obtain rfl:e=_:=hres;exact ⟨rfl,PostL.fail (by rw [m6.out,ht];rfl) A10⟩
    | ok u n3=>
     rw [ht] at hres;obtain ⟨le10,h10,_,rfl,rfl⟩:=hres;have hn3:=need_ok ht;have m10:Hid (Ps.line I loc eqs nx=.ok (loc++[y],eqs) n3):=by
      show Ps.line I loc eqs nx=_
      rw [m6.out,ht];rfl
     clear ht m6;go_wp2;go_end0;exact PostL.good m10.out A10 (by omega) h10 ⟨_,_,fun i=>(okL i∧i<w5.heap.size)∨wd.heap.size≤i,fun i=>okE i∧i<w5.heap.size,hb10,om10,oo10,fun i hi=>hi.elim (fun q=>hokL i q.1) (fun q=>by omega),fun i hi=>hokE i hi.1,fun i hi hj=>hi.elim (fun q=>hdis i q.1 hj.1) (fun q=>by omega)⟩
 | false=>
  rw [hq] at h5;simp only [Bool.false_eq_true,if_false] at h5;have m0:Hid (¬((I.pk nx).kind=2∧60≤eqs.length)→Ps.line I loc eqs nx=((Ps.equation I nx).bind fun q n1=>.ok (loc,eqs++[q]) n1).bind fun p n2=>(Ps.need I [59] n2).bind fun _ n3=>.ok p n3):=by
   show _→Ps.line I loc eqs nx=_
   intro hh;unfold Ps.line;rw [hq,if_neg (by simp),if_neg hh]
  have hp:=@peek_any _ _ _ _ _ _ _ _ h5;obtain ⟨t,ht⟩:=nmQ (I.pk nx);have hpk:peekT I.L I.len nx=t:=ht.symm;rw [hpk] at hp;unfold tokV at hp;have HT:=hide ht;clear hpk ht;have hf:=fun x w=>tokF0 t x w;go_wp2_with fail;refine hp.mono ?_;rintro e w6 ⟨rfl,b6⟩;have z6:=b6.size;have h6:=h5.below b6;have A6:Aside [b,nb] N0 w w6:=A5.trans (aside b6) (by omega);have hnb6:=(aside b6 (S:=[])).keep hnb5 (lt_of hnb5) (by simp);have ownloc6:=ownloc5.under b6;have owneqs6:=owneqs5.under b6;clear hp h5 A5 hnb5 ownloc5 owneqs5 cl5 cl6 b6;have cl6:=co hnb6 6;simp only [gT,gZ,gS] at cl6;by_cases hk:t.kind=2
  ·have hkb:(t.kind==2)=true:=beq_iff_eq.2 hk
   have HK2:=hide hk;clear hk;by_cases hlen:60≤eqs.length
   ·go_wp2_with fail
    refine (allow_no h6 _ _ (by omega)).mono ?_;rintro e w7 ⟨rfl,b7⟩;exact ⟨rfl,PostL.fail (by unfold Ps.line;rw [hq,if_neg (by simp),if_pos ⟨by rw [←HT.out];exact HK2.out,hlen⟩];rfl) (A6.trans (aside b7) (by omega))⟩
   ·have m1:=hide (m0.out (fun hh=>hlen hh.2))
    have hlen0:(I.pk nx).kind=2→eqs.length<60:=fun _=>by omega
    go_wp2_with fail;refine (allow_yes _ _ _ (by omega) _).mono ?_;rintro e w6 ⟨rfl,rfl⟩;clear cl6 m0 hlen;have m0:=m1;clear m1;obtain ⟨w5,hw5⟩:=nmQ (w6);subst hw5;have h5:=h6;have A5:=A6;have hnb5:=hnb6;have ownloc5:=ownloc6;have owneqs5:=owneqs6;clear h6 A6 hnb6 ownloc6 owneqs6;have hd5:Rd w5.drew b g cap I.L I.len nx 0:=h5.drew;have hb5:w5.drew.heap[nb]?=some (.cells #[.string s,.int .i64 pl,vZ,vI,vO,.slice aL loc.length cL,.slice aE eqs.length cE] 47 (0,0)):=hnb5;have A5d:=A5.drew;have z5d:w5.drew.heap.size=w5.heap.size:=rfl;have om5:=(owneqs5.under (Below.refl _ w5).drew).wide (ok':=fun i=>okE i∧i<w5.heap.size) (fun i hi hl=>⟨hi,hl⟩);have oo5:=(ownloc5.under (Below.refl _ w5).drew).wide (ok':=fun i=>okL i∧i<w5.heap.size) (fun i hi hl=>⟨hi,hl⟩);go_wp2_with fail;refine wp_region_late (fun w'=>w'.cell? ⟨nb,6,none⟩=some (.slice aE eqs.length cE)) (fun j=>decide (j=11)) (by kernel_rfl) ?_;generalize w5.drew=wd at hd5 hb5 A5d z5d om5 oo5 ⊢;clear h5 hnb5 A5 owneqs5 ownloc5;have hH:=co hb5 6;simp only [gT,gZ,gS] at hH;refine' wpAnyL_take (i:=0) (v:=_) rfl (by kernel_rfl) (by kernel_rfl) (by kernel_rfl) (by kernel_rfl) (fun _ _ _ h=>h) hH (by rfl) ?hyv ?o7
    case hyv=>
     intro wz hSw;go_simp
     try rfl
    try simp only [Act.put,sT,sZ,sS]
    refine' wpAnyL_take (i:=1) (v:=_) rfl (by kernel_rfl) (by kernel_rfl) (by kernel_rfl) (by kernel_rfl) (fun _ _ _ h=>h) hH (by rfl) ?hyv ?o8
    case hyv=>
     intro wz hSw;go_simp
     try rfl
    try simp only [Act.put,sT,sZ,sS]
    refine' wpAnyL_take (i:=2) (v:=_) rfl (by kernel_rfl) (by kernel_rfl) (by kernel_rfl) (by kernel_rfl) (fun _ _ _ h=>h) hH (by rfl) ?hyv ?o9
    case hyv=>
     intro wz hSw;go_simp
     try rfl
    try simp only [Act.put,sT,sZ,sS]
    refine' wpAnyL_take (i:=3) (v:=_) rfl (by kernel_rfl) (by kernel_rfl) (by kernel_rfl) (by kernel_rfl) (fun _ _ _ h=>h) hH (by rfl) ?hyv ?o10
    case hyv=>
     intro wz hSw;go_simp
     try rfl
    try simp only [Act.put,sT,sZ,sS]
    refine' wpAnyL_take (i:=4) (v:=_) rfl (by kernel_rfl) (by kernel_rfl) (by kernel_rfl) (by kernel_rfl) (fun _ _ _ h=>h) hH (by rfl) ?hyv ?o11
    case hyv=>
     intro wz hSw;go_simp
     try rfl
    try simp only [Act.put,sT,sZ,sS]
    refine' wpAnyL_take (i:=5) (v:=_) rfl (by kernel_rfl) (by kernel_rfl) (by kernel_rfl) (by kernel_rfl) (fun _ _ _ h=>h) hH (by rfl) ?hyv ?o12
    case hyv=>
     intro wz hSw;go_simp
     try rfl
    try simp only [Act.put,sT,sZ,sS]
    refine wpAnyL_one (i:=6) rfl (by kernel_rfl) (by rfl) (fun K hK=>?_);go_simp;refine (equation_any hform hL _ _ hd5 (hG.far2 A5d hone hnb0)).mono ?_;rintro e w6 ⟨a6,hres⟩;have z6:=a6.size;have A6:Aside [b,nb] N0 w w6:=A5d.trans (aside2 a6) (by omega);have hb6:=a6.keep hb5 (by omega) (by simp;omega);have om6:=om5.past a6 (fun i hi=>by have:=hokE i hi.1;simp;omega);have oo6:=oo5.past a6 (fun i hi=>by have:=hokL i hi.1;simp;omega);clear hd5 hb5 A5d om5 oo5 hH a6
    cases ht:Ps.equation I nx with
    | err c0 a0=>
     rw [ht] at hres;obtain rfl:e=_:=hres;exact ⟨rfl,PostL.fail (by rw [m0.out,ht];rfl) A6⟩
    | ok y n2=>
     have hkk:(I.pk nx).kind=2:=Classical.byContradiction fun hh=>equation_not hh ht;have hlen:eqs.length<60:=hlen0 hkk;rw [ht] at hres;obtain ⟨le6,h6,_,rfl,hV⟩:=hres;obtain ⟨q,rfl,hq⟩:=hV;have m6:Hid (Ps.line I loc eqs nx=(Ps.need I [59] n2).bind fun _ n3=>.ok (loc,eqs++[y]) n3):=by
      show Ps.line I loc eqs nx=_
      rw [m0.out,ht];rfl
     clear ht m0;have hH:=co hb6 6;simp only [gT,gZ,gS] at hH;refine hK.out _ _ (fun _=>hH) ?_;clear hK K
     try simp only [Act.put,sT,sZ,sS]
     have H7:=co (kA hb6 (.cells #[.int .i64 q.place,.slice q.aN q.nN q.cN,.string q.node,.slice q.aS q.nS q.cS,.slice q.aE q.nE q.cE] 56 (0,0))) 6;simp only [gT,gZ,gS] at H7;have H7h:=hide H7;clear H7;have q1:kEq.E (fun i=>wd.heap.size≤i) w6 [.int .i64 q.place,.slice q.aN q.nN q.cN,.string q.node,.slice q.aS q.nS q.cS,.slice q.aE q.nE q.cE] y:=⟨q,rfl,hq⟩;have q2:(eqs.length+1)*kEq.bytes≤140737488355328:=(by show (eqs.length+1)*96≤_;omega);have q3:eqs.length+1≤maxLen:=(by unfold maxLen;omega);refine wpAnyL_one (i:=7) rfl (by kernel_rfl) (by rfl) (fun K hK=>?_);go_simp;refine hK.out _ _ (fun _=>H7h.out) ?_;clear hK K
     try simp only [Act.put,sT,sZ,sS]
     refine wpAnyL_one (i:=8) rfl (by kernel_rfl) (by rfl) (fun K hK=>?_);refine oper_moreX kEq _ _ 45 56 rfl Tryz.underlying45 wd.heap.size _ _ eqs (by rfl) om6 [.int .i64 q.place,.slice q.aN q.nN q.cN,.string q.node,.slice q.aS q.nS q.cS,.slice q.aE q.nE q.cE] y q1 (by rfl) (fun i hi=>by omega) z6 q2 q3 ?_;intro v8 w8 om8 g8;have hvb:=fun k hk=>(om6.lt k hk).1;obtain ⟨z8,hoth⟩:=grown_other (ok:=fun i=>okE i∧i<w5.heap.size) g8 hvb;have A8:Aside [b,nb] N0 w w8:=A6.trans (grown_aside (S:=[b,nb]) g8 hvb (fun i hi=>hokE i hi.1) (by omega)) nR;have hb8:=(hoth nb (lt_of hb6) (fun hh=>by have:=hokE nb hh.1;omega)).trans hb6;have oo8:=oo6.keep z8 (fun i hi hl=>hoth i hl (fun hh=>hdis i hi.1 hh.1));have h8:Rd w8 b g cap I.L I.len n2 0:=⟨(hoth b h6.bb (fun hh=>by have:=hokE b hh.1;omega)).trans h6.here,h6.toks.keep (hoth g h6.gb (fun hh=>by have:=hokE g hh.1;omega)),h6.apart,Nat.lt_of_lt_of_le h6.gb z8,h6.le,h6.lc,h6.cm⟩;clear A6 hb6 om6 oo6 h6 q1 hH H7h g8 hoth hvb;have hH:=co hb8 6;simp only [gT,gZ,gS] at hH;refine hK.out _ _ (fun _=>hH) ?_;clear hK K
     try simp only [Act.put,sT,sZ,sS]
     obtain ⟨a8v,c8v,hv8,_,_⟩:=om8.form;rw [List.length_append,List.length_singleton] at hv8;subst hv8;have f8:=fun o=>fo hb8 o;refine wpAnyL_one (i:=9) rfl (by kernel_rfl) (by rfl) (fun K hK=>?_);go_simp;refine hK.out _ _ (fun _=>hH) ?_;clear hK K
     try simp only [Act.put,sT,sZ,sS]
     refine wpAnyL_one (i:=10) rfl (by kernel_rfl) (by rfl) (fun K hK=>?_);go_simp;refine hK.out _ _ (fun _=>hH) ?_;clear hK K
     try simp only [Act.put,sT,sZ,sS]
     refine wpAnyL_one (i:=11) rfl (by kernel_rfl) (by rfl) (fun K hK=>?_);go_simp;refine hK.out _ _ (fun h=>by cases h) ?_;clear hK K
     try simp only [Act.put,sT,sZ,sS]
     refine wpAnyL_done (by kernel_rfl) ?_ _;have hb9:=set_in hb8 6 (.slice a8v (eqs.length+1) c8v);have h9:=h8.set (p:=⟨nb,6,none⟩) (by simp;omega) (by simp;omega) (.slice a8v (eqs.length+1) c8v);have A9:Aside [b,nb] N0 w (w8.setCell ⟨nb,6,none⟩ (.slice a8v (eqs.length+1) c8v)):=A8.trans (Aside.setCell (by simp) _) nR;have om9:=om8.set (p:=⟨nb,6,none⟩) (by intro hh;have hh2:(okE nb∧nb<w5.heap.size)∨wd.heap.size≤nb:=hh;rcases hh2 with q | q;exact absurd (hokE nb q.1) (by omega);omega) (.slice a8v (eqs.length+1) c8v);have oo9:=oo8.set (p:=⟨nb,6,none⟩) (by intro hh;have hh2:okL nb∧nb<w5.heap.size:=hh;have:=hokL nb hh2.1;omega) (.slice a8v (eqs.length+1) c8v);have z9:(w8.setCell ⟨nb,6,none⟩ (.slice a8v (eqs.length+1) c8v)).heap.size=w8.heap.size:=(by simp [World.setCell]);simp only [sT,sZ,sS] at hb9;go_wp2_with fail;generalize w8.setCell ⟨nb,6,none⟩ (.slice a8v (eqs.length+1) c8v)=w9 at hb9 h9 A9 om9 oo9 z9 ⊢;refine (need_any h9 ⟨#[59]⟩ (by decide)).mono ?_;rintro e w10 ⟨a10,hres⟩;have es:(⟨#[59]⟩:ByteArray).data.toList=[59]:=rfl;rw [es] at hres;clear es;have A10:Aside [b,nb] N0 w w10:=A9.trans (aside2 a10) (by omega);have hb10:=a10.keep hb9 (lt_of hb9) (by simp;omega);have om10:=om9.past a10 (fun i hi=>by rcases hi with q | q;have:=hokE i q.1;simp;omega;simp;omega);have oo10:=oo9.past a10 (fun i hi=>by have:=hokL i hi.1;simp;omega)
     cases ht:Ps.need I [59] n2 with
     | err c0 a0=>
      rw [ht] at hres;obtain rfl:e=_:=hres;exact ⟨rfl,PostL.fail (by rw [m6.out,ht];rfl) A10⟩
     | ok u n3=>
      rw [ht] at hres;obtain ⟨le10,h10,_,rfl,rfl⟩:=hres;have hn3:=need_ok ht;have m10:Hid (Ps.line I loc eqs nx=.ok (loc,eqs++[y]) n3):=by
       show Ps.line I loc eqs nx=_
       rw [m6.out,ht];rfl
      clear ht m6;go_wp2;go_end0;exact PostL.good m10.out A10 (by omega) h10 ⟨_,_,fun i=>okL i∧i<w5.heap.size,fun i=>(okE i∧i<w5.heap.size)∨wd.heap.size≤i,hb10,oo10,om10,fun i hi=>hokL i hi.1,fun i hi=>hi.elim (fun q=>hokE i q.1) (fun q=>by omega),fun i hi hj=>hj.elim (fun q=>hdis i hi.1 q.1) (fun q=>by omega)⟩
  ·have hkb:(t.kind==2)=false:=beq_eq_false_iff_ne.2 hk
   have m1:=hide (m0.out (fun hh=>hk (by rw [HT.out];exact hh.1)));have hlen0:(I.pk nx).kind=2→eqs.length<60:=fun hh=>absurd (by rw [HT.out];exact hh) hk;clear cl6 m0;have m0:=m1;clear m1;obtain ⟨w5,hw5⟩:=nmQ (w6);subst hw5;have h5:=h6;have A5:=A6;have hnb5:=hnb6;have ownloc5:=ownloc6;have owneqs5:=owneqs6;clear h6 A6 hnb6 ownloc6 owneqs6;have hd5:Rd w5.drew b g cap I.L I.len nx 0:=h5.drew;have hb5:w5.drew.heap[nb]?=some (.cells #[.string s,.int .i64 pl,vZ,vI,vO,.slice aL loc.length cL,.slice aE eqs.length cE] 47 (0,0)):=hnb5;have A5d:=A5.drew;have z5d:w5.drew.heap.size=w5.heap.size:=rfl;have om5:=(owneqs5.under (Below.refl _ w5).drew).wide (ok':=fun i=>okE i∧i<w5.heap.size) (fun i hi hl=>⟨hi,hl⟩);have oo5:=(ownloc5.under (Below.refl _ w5).drew).wide (ok':=fun i=>okL i∧i<w5.heap.size) (fun i hi hl=>⟨hi,hl⟩);go_wp2_with fail;refine wp_region_late (fun w'=>w'.cell? ⟨nb,6,none⟩=some (.slice aE eqs.length cE)) (fun j=>decide (j=11)) (by kernel_rfl) ?_;generalize w5.drew=wd at hd5 hb5 A5d z5d om5 oo5 ⊢;clear h5 hnb5 A5 owneqs5 ownloc5;have hH:=co hb5 6;simp only [gT,gZ,gS] at hH;refine' wpAnyL_take (i:=0) (v:=_) rfl (by kernel_rfl) (by kernel_rfl) (by kernel_rfl) (by kernel_rfl) (fun _ _ _ h=>h) hH (by rfl) ?hyv ?o13
   case hyv=>
    intro wz hSw;go_simp
    try rfl
   try simp only [Act.put,sT,sZ,sS]
   refine' wpAnyL_take (i:=1) (v:=_) rfl (by kernel_rfl) (by kernel_rfl) (by kernel_rfl) (by kernel_rfl) (fun _ _ _ h=>h) hH (by rfl) ?hyv ?o14
   case hyv=>
    intro wz hSw;go_simp
    try rfl
   try simp only [Act.put,sT,sZ,sS]
   refine' wpAnyL_take (i:=2) (v:=_) rfl (by kernel_rfl) (by kernel_rfl) (by kernel_rfl) (by kernel_rfl) (fun _ _ _ h=>h) hH (by rfl) ?hyv ?o15
   case hyv=>
    intro wz hSw;go_simp
    try rfl
   try simp only [Act.put,sT,sZ,sS]
   refine' wpAnyL_take (i:=3) (v:=_) rfl (by kernel_rfl) (by kernel_rfl) (by kernel_rfl) (by kernel_rfl) (fun _ _ _ h=>h) hH (by rfl) ?hyv ?o16
   case hyv=>
    intro wz hSw;go_simp
    try rfl
   try simp only [Act.put,sT,sZ,sS]
   refine' wpAnyL_take (i:=4) (v:=_) rfl (by kernel_rfl) (by kernel_rfl) (by kernel_rfl) (by kernel_rfl) (fun _ _ _ h=>h) hH (by rfl) ?hyv ?o17
   case hyv=>
    intro wz hSw;go_simp
    try rfl
   try simp only [Act.put,sT,sZ,sS]
   refine' wpAnyL_take (i:=5) (v:=_) rfl (by kernel_rfl) (by kernel_rfl) (by kernel_rfl) (by kernel_rfl) (fun _ _ _ h=>h) hH (by rfl) ?hyv ?o18
   case hyv=>
    intro wz hSw;go_simp
    try rfl
   try simp only [Act.put,sT,sZ,sS]
   refine wpAnyL_one (i:=6) rfl (by kernel_rfl) (by rfl) (fun K hK=>?_);go_simp;refine (equation_any hform hL _ _ hd5 (hG.far2 A5d hone hnb0)).mono ?_;rintro e w6 ⟨a6,hres⟩;have z6:=a6.size;have A6:Aside [b,nb] N0 w w6:=A5d.trans (aside2 a6) (by omega);have hb6:=a6.keep hb5 (by omega) (by simp;omega);have om6:=om5.past a6 (fun i hi=>by have:=hokE i hi.1;simp;omega);have oo6:=oo5.past a6 (fun i hi=>by have:=hokL i hi.1;simp;omega);clear hd5 hb5 A5d om5 oo5 hH a6
   cases ht:Ps.equation I nx with
   | err c0 a0=>
    rw [ht] at hres;obtain rfl:e=_:=hres;exact ⟨rfl,PostL.fail (by rw [m0.out,ht];rfl) A6⟩
   | ok y n2=>
    have hkk:(I.pk nx).kind=2:=Classical.byContradiction fun hh=>equation_not hh ht;have hlen:eqs.length<60:=hlen0 hkk;rw [ht] at hres;obtain ⟨le6,h6,_,rfl,hV⟩:=hres;obtain ⟨q,rfl,hq⟩:=hV;have m6:Hid (Ps.line I loc eqs nx=(Ps.need I [59] n2).bind fun _ n3=>.ok (loc,eqs++[y]) n3):=by
     show Ps.line I loc eqs nx=_
     rw [m0.out,ht];rfl
    clear ht m0;have hH:=co hb6 6;simp only [gT,gZ,gS] at hH;refine hK.out _ _ (fun _=>hH) ?_;clear hK K
    try simp only [Act.put,sT,sZ,sS]
    have H7:=co (kA hb6 (.cells #[.int .i64 q.place,.slice q.aN q.nN q.cN,.string q.node,.slice q.aS q.nS q.cS,.slice q.aE q.nE q.cE] 56 (0,0))) 6;simp only [gT,gZ,gS] at H7;have H7h:=hide H7;clear H7;have q1:kEq.E (fun i=>wd.heap.size≤i) w6 [.int .i64 q.place,.slice q.aN q.nN q.cN,.string q.node,.slice q.aS q.nS q.cS,.slice q.aE q.nE q.cE] y:=⟨q,rfl,hq⟩;have q2:(eqs.length+1)*kEq.bytes≤140737488355328:=(by show (eqs.length+1)*96≤_;omega);have q3:eqs.length+1≤maxLen:=(by unfold maxLen;omega);refine wpAnyL_one (i:=7) rfl (by kernel_rfl) (by rfl) (fun K hK=>?_);go_simp;refine hK.out _ _ (fun _=>H7h.out) ?_;clear hK K
    try simp only [Act.put,sT,sZ,sS]
    refine wpAnyL_one (i:=8) rfl (by kernel_rfl) (by rfl) (fun K hK=>?_);refine oper_moreX kEq _ _ 45 56 rfl Tryz.underlying45 wd.heap.size _ _ eqs (by rfl) om6 [.int .i64 q.place,.slice q.aN q.nN q.cN,.string q.node,.slice q.aS q.nS q.cS,.slice q.aE q.nE q.cE] y q1 (by rfl) (fun i hi=>by omega) z6 q2 q3 ?_;intro v8 w8 om8 g8;have hvb:=fun k hk=>(om6.lt k hk).1;obtain ⟨z8,hoth⟩:=grown_other (ok:=fun i=>okE i∧i<w5.heap.size) g8 hvb;have A8:Aside [b,nb] N0 w w8:=A6.trans (grown_aside (S:=[b,nb]) g8 hvb (fun i hi=>hokE i hi.1) (by omega)) nR;have hb8:=(hoth nb (lt_of hb6) (fun hh=>by have:=hokE nb hh.1;omega)).trans hb6;have oo8:=oo6.keep z8 (fun i hi hl=>hoth i hl (fun hh=>hdis i hi.1 hh.1));have h8:Rd w8 b g cap I.L I.len n2 0:=⟨(hoth b h6.bb (fun hh=>by have:=hokE b hh.1;omega)).trans h6.here,h6.toks.keep (hoth g h6.gb (fun hh=>by have:=hokE g hh.1;omega)),h6.apart,Nat.lt_of_lt_of_le h6.gb z8,h6.le,h6.lc,h6.cm⟩;clear A6 hb6 om6 oo6 h6 q1 hH H7h g8 hoth hvb;have hH:=co hb8 6;simp only [gT,gZ,gS] at hH;refine hK.out _ _ (fun _=>hH) ?_;clear hK K
    try simp only [Act.put,sT,sZ,sS]
    obtain ⟨a8v,c8v,hv8,_,_⟩:=om8.form;rw [List.length_append,List.length_singleton] at hv8;subst hv8;have f8:=fun o=>fo hb8 o;refine wpAnyL_one (i:=9) rfl (by kernel_rfl) (by rfl) (fun K hK=>?_);go_simp;refine hK.out _ _ (fun _=>hH) ?_;clear hK K
    try simp only [Act.put,sT,sZ,sS]
    refine wpAnyL_one (i:=10) rfl (by kernel_rfl) (by rfl) (fun K hK=>?_);go_simp;refine hK.out _ _ (fun _=>hH) ?_;clear hK K
    try simp only [Act.put,sT,sZ,sS]
    refine wpAnyL_one (i:=11) rfl (by kernel_rfl) (by rfl) (fun K hK=>?_);go_simp;refine hK.out _ _ (fun h=>by cases h) ?_;clear hK K
    try simp only [Act.put,sT,sZ,sS]
    refine wpAnyL_done (by kernel_rfl) ?_ _;have hb9:=set_in hb8 6 (.slice a8v (eqs.length+1) c8v);have h9:=h8.set (p:=⟨nb,6,none⟩) (by simp;omega) (by simp;omega) (.slice a8v (eqs.length+1) c8v);have A9:Aside [b,nb] N0 w (w8.setCell ⟨nb,6,none⟩ (.slice a8v (eqs.length+1) c8v)):=A8.trans (Aside.setCell (by simp) _) nR;have om9:=om8.set (p:=⟨nb,6,none⟩) (by intro hh;have hh2:(okE nb∧nb<w5.heap.size)∨wd.heap.size≤nb:=hh;rcases hh2 with q | q;exact absurd (hokE nb q.1) (by omega);omega) (.slice a8v (eqs.length+1) c8v);have oo9:=oo8.set (p:=⟨nb,6,none⟩) (by intro hh;have hh2:okL nb∧nb<w5.heap.size:=hh;have:=hokL nb hh2.1;omega) (.slice a8v (eqs.length+1) c8v);have z9:(w8.setCell ⟨nb,6,none⟩ (.slice a8v (eqs.length+1) c8v)).heap.size=w8.heap.size:=(by simp [World.setCell]);simp only [sT,sZ,sS] at hb9;go_wp2_with fail;generalize w8.setCell ⟨nb,6,none⟩ (.slice a8v (eqs.length+1) c8v)=w9 at hb9 h9 A9 om9 oo9 z9 ⊢;refine (need_any h9 ⟨#[59]⟩ (by decide)).mono ?_;rintro e w10 ⟨a10,hres⟩;have es:(⟨#[59]⟩:ByteArray).data.toList=[59]:=rfl;rw [es] at hres;clear es;have A10:Aside [b,nb] N0 w w10:=A9.trans (aside2 a10) (by omega);have hb10:=a10.keep hb9 (lt_of hb9) (by simp;omega);have om10:=om9.past a10 (fun i hi=>by rcases hi with q | q;have:=hokE i q.1;simp;omega;simp;omega);have oo10:=oo9.past a10 (fun i hi=>by have:=hokL i hi.1;simp;omega)
    cases ht:Ps.need I [59] n2 with
    | err c0 a0=>
     rw [ht] at hres;obtain rfl:e=_:=hres;exact ⟨rfl,PostL.fail (by rw [m6.out,ht];rfl) A10⟩
    | ok u n3=>
     rw [ht] at hres;obtain ⟨le10,h10,_,rfl,rfl⟩:=hres;have hn3:=need_ok ht;have m10:Hid (Ps.line I loc eqs nx=.ok (loc,eqs++[y]) n3):=by
      show Ps.line I loc eqs nx=_
      rw [m6.out,ht];rfl
     clear ht m6;go_wp2;go_end0;exact PostL.good m10.out A10 (by omega) h10 ⟨_,_,fun i=>okL i∧i<w5.heap.size,fun i=>(okE i∧i<w5.heap.size)∨wd.heap.size≤i,hb10,oo10,om10,fun i hi=>hokL i hi.1,fun i hi=>hi.elim (fun q=>hokE i q.1) (fun q=>by omega),fun i hi hj=>hj.elim (fun q=>hdis i hi.1 q.1) (fun q=>by omega)⟩
end Go.Proofs.YtkfgbhlpjkkgfaaGreatDoor
