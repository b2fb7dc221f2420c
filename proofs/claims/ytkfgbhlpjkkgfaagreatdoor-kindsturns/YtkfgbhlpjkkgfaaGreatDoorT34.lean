import Derived.Test.YtkfgbhlpjkkgfaaGreatDoorT33
import Derived.Test.YtkfgbhlpjkkgfaaGreatDoorT06
set_option linter.unusedVariables false
set_option linter.unusedSimpArgs false
set_option maxHeartbeats 64000000
set_option maxRecDepth 100000
namespace Go.Proofs.YtkfgbhlpjkkgfaaGreatDoor
open Go.RowKit Go.IntWalk
def tmV:Nat->World->Value->Tm->Prop:=fun _ _ x t=>x=.agg #[.int .i64 t.1,.string t.2]
theorem Post.fail {α:Type} {b g cap:Nat} {I:Inp} {op:Nat} {V:Nat->World->Value->α->Prop} {nx:Nat} {w:World} {res:Res α} {w':World} {c a:Nat} (h:res=.err c a) (hA:Aside [b] w.heap.size w w'):Post b g cap I op V nx w res (upE c a) w':=by
 subst h;exact ⟨hA,rfl⟩
theorem Post.good {α:Type} {b g cap:Nat} {I:Inp} {op:Nat} {V:Nat->World->Value->α->Prop} {nx:Nat} {w:World} {res:Res α} {w':World} {v:α} {n1:Nat} {x:Value} (h:res=.ok v n1) (hA:Aside [b] w.heap.size w w') (hn:nx<=n1) (hR:Rd w' b g cap I.L I.len n1 op) (hV:V w.heap.size w' x v):Post b g cap I op V nx w res (.returned x) w':=by
 subst h;exact ⟨hA,hn,hR,x,rfl,hV⟩
theorem Post.aside {α:Type} {b g cap:Nat} {I:Inp} {op:Nat} {V:Nat->World->Value->α->Prop} {nx:Nat} {w:World} {res:Res α} {r:Ending} {w':World} (h:Post b g cap I op V nx w res r w'):Aside [b] w.heap.size w w':=h.1
theorem zFT {w:World} {b g cap:Nat} {I:Inp} {nx op:Nat} (h:Rd w b g cap I.L I.len nx op) (minus:Bool) :
  Calls Tryz.prog 221 #[.pointer (some ⟨b,0,none⟩),.bool minus] w (Post b g cap I op tmV nx w (Ps.term I minus nx)):=by
 have hb:=h.bb;have hg:=h.gb;obtain ⟨W,hW⟩:=nmQ ((w.alloc (.cells #[.int .i64 0,.string ⟨#[]⟩] 83 (0,0))).alloc (.cells #[.int .i64 1,.string ⟨#[]⟩] 83 (0,0)));have zW:W.heap.size=w.heap.size+1+1:=(by rw [hW];simp);have bW:Below w.heap.size w W:=(by rw [hW];exact ((Below.refl _ w).alloc nR _).alloc (by simp) _);have td:W.heap[w.heap.size]?=some (.cells #[.int .i64 0,.string ⟨#[]⟩] 83 (0,0)):=(by rw [hW];exact kA (zAC w _) _);have dw:W.heap[w.heap.size+1]?=some (.cells #[.int .i64 1,.string ⟨#[]⟩] 83 (0,0)):=by
  have:=zAC (w.alloc (.cells #[.int .i64 0,.string ⟨#[]⟩] 83 (0,0))) (.cells #[.int .i64 1,.string ⟨#[]⟩] 83 (0,0));have e:(w.alloc (.cells #[.int .i64 0,.string ⟨#[]⟩] 83 (0,0))).heap.size=w.heap.size+1:=(by simp);rw [e] at this;rw [hW];exact this
 have iP:Rd W b g cap I.L I.len nx op:=h.below bW;have hp:=@zAT _ _ _ _ _ _ _ _ iP;obtain ⟨t,ht⟩:=nmQ (I.pk nx);have jH:peekT I.L I.len nx=t:=ht.symm;rw [jH] at hp;unfold tokV at hp;have HT:=zAA ht;clear jH ht;by_cases hk:t.kind=3
 ·have ak:nx<I.L.length:=zEg (by rw [<-HT.out,hk];decide)
  rw [hk] at hp;go_enter Tryz.func221,Tryz.ntmps221;go_wp2_with fail;rw [<-hW];refine hp.mono ?_;rintro e w1 ⟨rfl,b1⟩;have z1:=b1.size;go_wp2_with fail;refine (zAj ((iP.below b1).alloc _) ak).mono ?_;rintro e w2 ⟨rfl,h2,a2⟩;have z2:w1.heap.size+1<=w2.heap.size:=(by simpa using a2.size);have gH:=a2.keep (zAC w1 _) (by simp) (by simp;omega);have cH:=a2.keep (kA ((aside b1 (S:=[])).keep td (zAB td) (by simp)) _) (by simp;omega) (by simp;omega);have et:=a2.keep (kA ((aside b1 (S:=[])).keep dw (zAB dw) (by simp)) _) (by simp;omega) (by simp;omega);have S2:Aside [b] w.heap.size w w2:=(aside ((bW.trans (b1.mono (by omega))).alloc (by omega) _)).trans a2 (by simp;omega);have n3:=co gH 3;have t0:=co et 0;have f0:=fo et 0;simp at n3 t0;go_wp2_with fail;have hT:=zAD et 0 (.int .i64 t.n);have hA:=zAI cH (p:=⟨w.heap.size+1,0,none⟩) (by simp) (.int .i64 t.n);have hR:=h2.set (p:=⟨w.heap.size+1,0,none⟩) (by simp;omega) (by simp;omega) (.int .i64 t.n);have hS:=S2.set (p:=⟨w.heap.size+1,0,none⟩) (by simp) (.int .i64 t.n);simp at hT;have z3:(w2.setCell ⟨w.heap.size+1,0,none⟩ (.int .i64 t.n)).heap.size=w2.heap.size:=(by simp [World.setCell]);generalize w2.setCell ⟨w.heap.size+1,0,none⟩ (.int .i64 t.n)=w3 at hT hA hR hS z3 ⊢;clear gH cH et S2 h2 a2 n3 t0 f0 td dw;refine (zAH hR ⟨#[42]⟩ (by decide)).mono ?_;rintro e w4 ⟨rfl,h4,a4⟩;have z4:=a4.size;have eB:=a4.keep hA (by omega) (by simp;omega);have cA:=a4.keep hT (by omega) (by simp;omega);have e9:=hS.trans a4 (by omega);clear hA hT hS hR;have es:(⟨#[42]⟩:ByteArray).data.toList=[42]:=rfl;rw [es] at h4;simp only [es];clear es
  cases hq:Ps.sees I [42] (nx+1) with
  | false=>
   rw [hq] at h4;simp only [Bool.false_eq_true,if_false] at h4;have hA:=eB;have hT:=cA;have hR:=h4;have hS:=e9;clear eB cA h4 e9
   cases minus
   ·have t0:=co hT 0
    have t1:=co hT 1;have c0:=co hA 0;have c1:=co hA 1;have fA:=fun o=>fo hA o;have fT:=fun o=>fo hT o;simp at t0 t1 c0 c1;go_wp2;refine bodyPost_ret (v:=.agg #[.int .i64 (t.n),.string (⟨#[]⟩:ByteArray)]) (by simp [results,Tryz.results221,go_sem,c0,c1]) rfl ?_;exact Post.good (v:=(t.n,(⟨#[]⟩:ByteArray))) (by unfold Ps.term;rw [<-HT.out,if_pos hk,hq];simp [Ps.sg]) (((hS).set (by simp) _).set (by simp) _) (by omega) (((hR).set (by simp;omega) (by simp;omega) _).set (by simp;omega) (by simp;omega) _) rfl
   ·have t0:=co hT 0
    have t1:=co hT 1;have c0:=co hA 0;have c1:=co hA 1;have fA:=fun o=>fo hA o;have fT:=fun o=>fo hT o;simp at t0 t1 c0 c1;go_wp2;refine bodyPost_ret (v:=.agg #[.int .i64 (wrap64 (-(t.n))),.string (⟨#[]⟩:ByteArray)]) (by simp [results,Tryz.results221,go_sem,c0,c1]) rfl ?_;exact Post.good (v:=(wrap64 (-(t.n)),(⟨#[]⟩:ByteArray))) (by unfold Ps.term;rw [<-HT.out,if_pos hk,hq];simp [Ps.sg]) ((((hS).set (by simp) _).set (by simp) _).set (by simp) _) (by omega) ((((hR).set (by simp;omega) (by simp;omega) _).set (by simp;omega) (by simp;omega) _).set (by simp;omega) (by simp;omega) _) rfl
  | true=>
   rw [hq] at h4;simp only [if_true] at h4;go_wp2_with fail;refine (zBJ h4).mono ?_;rintro e w5 ⟨a5,hres⟩;have hS:=e9.trans a5 (by omega);have z5:=a5.size;have hA:=a5.keep eB (by omega) (by simp;omega);have fh:=a5.keep cA (by omega) (by simp;omega);clear eB cA e9 h4
   cases hn:Ps.name I (nx+1+1) with
   | err c a=>
    rw [hn] at hres;obtain rfl:e=_:=hres;exact ⟨rfl,Post.fail (by unfold Ps.term;rw [<-HT.out,if_pos hk,hq];simp [hn,Res.bind]) hS⟩
   | ok s n1=>
    rw [hn] at hres;obtain ⟨ym,mM,_,rfl,rfl⟩:=hres;have hT:=fh;have hR:=mM;clear fh mM
    cases minus
    ·have t0:=co hT 0
     have t1:=co hT 1;have c0:=co hA 0;have c1:=co hA 1;have fA:=fun o=>fo hA o;have fT:=fun o=>fo hT o;simp at t0 t1 c0 c1;go_wp2;refine bodyPost_ret (v:=.agg #[.int .i64 (t.n),.string s]) (by simp [results,Tryz.results221,go_sem,c0,c1]) rfl ?_;exact Post.good (v:=(t.n,s)) (by unfold Ps.term;rw [<-HT.out,if_pos hk,hq];simp [Ps.sg,hn,Res.bind]) ((((hS).set (by simp) _).set (by simp) _).set (by simp) _) (by omega) ((((hR).set (by simp;omega) (by simp;omega) _).set (by simp;omega) (by simp;omega) _).set (by simp;omega) (by simp;omega) _) rfl
    ·have t0:=co hT 0
     have t1:=co hT 1;have c0:=co hA 0;have c1:=co hA 1;have fA:=fun o=>fo hA o;have fT:=fun o=>fo hT o;simp at t0 t1 c0 c1;go_wp2;refine bodyPost_ret (v:=.agg #[.int .i64 (wrap64 (-(t.n))),.string s]) (by simp [results,Tryz.results221,go_sem,c0,c1]) rfl ?_;exact Post.good (v:=(wrap64 (-(t.n)),s)) (by unfold Ps.term;rw [<-HT.out,if_pos hk,hq];simp [Ps.sg,hn,Res.bind]) (((((hS).set (by simp) _).set (by simp) _).set (by simp) _).set (by simp) _) (by omega) (((((hR).set (by simp;omega) (by simp;omega) _).set (by simp;omega) (by simp;omega) _).set (by simp;omega) (by simp;omega) _).set (by simp;omega) (by simp;omega) _) rfl
 ·have pJ:(t.kind==3)=false:=beq_eq_false_iff_ne.2 hk
  go_enter Tryz.func221,Tryz.ntmps221;go_wp2_with fail;rw [<-hW];refine hp.mono ?_;rintro e w1 ⟨rfl,b1⟩;have z1:=b1.size;go_wp2_with fail;refine (zBJ ((iP.below b1).alloc _)).mono ?_;rintro e w5 ⟨a5,hres⟩;have z5:w1.heap.size+1<=w5.heap.size:=(by simpa using a5.size);have hA:=a5.keep (kA ((aside b1 (S:=[])).keep td (zAB td) (by simp)) _) (by simp;omega) (by simp;omega);have fh:=a5.keep (kA ((aside b1 (S:=[])).keep dw (zAB dw) (by simp)) _) (by simp;omega) (by simp;omega);have hS:Aside [b] w.heap.size w w5:=(aside ((bW.trans (b1.mono (by omega))).alloc (by omega) _)).trans a5 (by simp;omega)
  cases hn:Ps.name I nx with
  | err c a=>
   rw [hn] at hres;obtain rfl:e=_:=hres;exact ⟨rfl,Post.fail (by unfold Ps.term;rw [<-HT.out,if_neg hk];simp [hn,Res.bind]) hS⟩
  | ok s n1=>
   rw [hn] at hres;obtain ⟨ym,mM,_,rfl,rfl⟩:=hres;have hT:=fh;have hR:=mM;clear fh mM
   cases minus
   ·have t0:=co hT 0
    have t1:=co hT 1;have c0:=co hA 0;have c1:=co hA 1;have fA:=fun o=>fo hA o;have fT:=fun o=>fo hT o;simp at t0 t1 c0 c1;go_wp2;refine bodyPost_ret (v:=.agg #[.int .i64 (1),.string s]) (by simp [results,Tryz.results221,go_sem,c0,c1]) rfl ?_;exact Post.good (v:=(1,s)) (by unfold Ps.term;rw [<-HT.out,if_neg hk];simp [Ps.sg,hn,Res.bind]) ((((hS).set (by simp) _).set (by simp) _).set (by simp) _) (by omega) ((((hR).set (by simp;omega) (by simp;omega) _).set (by simp;omega) (by simp;omega) _).set (by simp;omega) (by simp;omega) _) rfl
   ·have t0:=co hT 0
    have t1:=co hT 1;have c0:=co hA 0;have c1:=co hA 1;have fA:=fun o=>fo hA o;have fT:=fun o=>fo hT o;simp at t0 t1 c0 c1;go_wp2;refine bodyPost_ret (v:=.agg #[.int .i64 (-1),.string s]) (by simp [results,Tryz.results221,go_sem,c0,c1]) rfl ?_;exact Post.good (v:=(-1,s)) (by unfold Ps.term;rw [<-HT.out,if_neg hk];simp [Ps.sg,hn,Res.bind];unfold wrap64;omega) (((((hS).set (by simp) _).set (by simp) _).set (by simp) _).set (by simp) _) (by omega) (((((hR).set (by simp;omega) (by simp;omega) _).set (by simp;omega) (by simp;omega) _).set (by simp;omega) (by simp;omega) _).set (by simp;omega) (by simp;omega) _) rfl
def szV:Nat->World->Value->List Tm->Prop:=fun B w x l=>HTerms (fun i=>B<=i) w x l
theorem zCa {w:World} {b g cap:Nat} {I:Inp} {nx op:Nat} (h:Rd w b g cap I.L I.len nx op) (s:ByteArray) :
  Calls Tryz.prog 109 #[.pointer (some ⟨b,0,none⟩),.string s] w fun e w'=>e=.returned (.bool (Ps.sees I s.data.toList nx))/\Below w.heap.size w w':=zFG h s
theorem Rd.under {w w':World} {b g cap:Nat} {L:List Tk.Tok} {len nx op B:Nat} (h:Rd w b g cap L len nx op) (hb:Below B w w') (h1:b<B) (h2:g<B):Rd w' b g cap L len nx op :=
 ⟨(hb.block b h1).trans h.here,h.toks.keep (hb.block g h2),h.apart,Nat.lt_of_lt_of_le h.gb hb.size,h.le,h.lc,h.cm⟩
theorem terms_stop {I:Inp} {n:Nat} (hp:Ps.sees I [43] n=false) (hq:Ps.sees I [45] n=false):∀ (k:Nat) (acc:List Tm),Ps.terms I k acc n=.ok acc n
 | 0,_=>by simp [Ps.terms,hp,hq]
 | _+1,_=>by simp [Ps.terms,hp,hq]
theorem zFU {I:Inp} {n:Nat} (hp:Ps.sees I [43] n=true\/Ps.sees I [45] n=true) (acc:List Tm):Ps.terms I 0 acc n=.err 7 (I.pk n).place:=by simp [Ps.terms,hp]
theorem zFV {I:Inp} {n:Nat} (hp:Ps.sees I [43] n=true\/Ps.sees I [45] n=true) (f:Nat) (acc:List Tm):Ps.terms I (f+1) acc n=(Ps.term I (Ps.sees I [45] n) (n+1)).bind fun t n1=>Ps.terms I f (acc++[t]) n1:=by simp [Ps.terms,hp]
theorem zCb {w:World} {b g cap:Nat} {I:Inp} {nx op:Nat} (h:Rd w b g cap I.L I.len nx op) :
  Calls Tryz.prog 184 #[.pointer (some ⟨b,0,none⟩)] w (Post b g cap I op szV nx w (Ps.size I nx)):=by
 have hb:=h.bb;have hg:=h.gb;go_enter Tryz.func184,Tryz.ntmps184;go_wp2_with fail;refine (zAH h ⟨#[45]⟩ (by decide)).mono ?_;rintro e w1 ⟨rfl,h1,a1⟩;have es:(⟨#[45]⟩:ByteArray).data.toList=[45]:=rfl;rw [es] at h1;simp only [es];clear es;obtain ⟨m,hm⟩:=nmQ (Ps.sees I [45] nx);rw [<-hm] at h1 ⊢;obtain ⟨n0,jo⟩:=nmQ (if m=true then nx+1 else nx);rw [<-jo] at h1;have NJ:nx<=n0:=by rw [jo];split<;>omega
 have HM:=zAA hm;have MD:=zAA jo;have lN:Hid (Ps.size I nx=(Ps.term I m n0).bind fun t n1=>Ps.terms I 29 [t] n1):=by
  show Ps.size I nx=_
  unfold Ps.size;rw [<-HM.out,<-MD.out]
 clear hm jo;have z1:=a1.size;go_wp2_with fail;refine (zFT h1 m).mono ?_;rintro e w2 ⟨a2,hres⟩;have z2:=a2.size;have A2:=a1.trans a2 z1
 cases ht:Ps.term I m n0 with
 | err c a=>
  rw [ht] at hres;obtain rfl:e=_:=hres;exact ⟨rfl,Post.fail (by rw [lN.out,ht];rfl) A2⟩
 | ok t n1=>
  rw [ht] at hres;obtain ⟨sM,h2,_,rfl,rfl⟩:=hres;have qL:Hid (Ps.size I nx=Ps.terms I 29 [t] n1):=by
   show Ps.size I nx=_
   rw [lN.out,ht];rfl
  have dI:OwnL kTerm w.heap.size (w2.alloc (.cells #[.int .i64 t.1,.string t.2] 83 (0,0))) (.slice (some ⟨w2.heap.size,0,none⟩) 1 1) [t]:=OwnL.lit (T:=kTerm) (cs:=[.int .i64 t.1,.string t.2]) (by omega) rfl;have A3:=A2.alloc (by omega) (.cells #[.int .i64 t.1,.string t.2] 83 (0,0));have h3:=h2.alloc (.cells #[.int .i64 t.1,.string t.2] 83 (0,0));clear lN a1 a2 h1 A2 h2 ht;go_wp2;go_loopg [3,4] 29 (fun k v3 v4 wr=>∃ (n:Nat) (acc:List Tm) (m3:Bool),k+acc.length=30/\v3=.bool m3/\OwnL kTerm w.heap.size wr v4 acc/\Rd wr b g cap I.L I.len n op/\Aside [b] w.heap.size w wr/\nx<=n/\Hid (Ps.size I nx=Ps.terms I k acc n))
  case atStart=>exact ⟨n1,[t],m,rfl,rfl,dI,h3,A3,by omega,qL⟩
  case round=>
   obtain ⟨n,acc,m3,hk,rfl,ah,hr,hA,ii,aw⟩:=hrel;obtain ⟨aa,cc,rfl,aC,av⟩:=ah.form;unfold maxLen at av;have zr:=hA.size;go_wp2_with fail;refine (zCa hr ⟨#[43]⟩).mono ?_;rintro e w4 ⟨rfl,b4⟩;have es:(⟨#[43]⟩:ByteArray).data.toList=[43]:=rfl;simp only [es];clear es;have h4:=hr.below b4;have A4:=hA.trans (aside b4) hA.size;have kj:=ah.below b4
   cases hp:Ps.sees I [43] n with
   | true=>
    clear hr hA ah;have jf:Ps.sees I [43] n=true\/Ps.sees I [45] n=true:=.inl hp;have ak:n<I.L.length:=by rcases jf with q | q<;>exact zAR q (by simp)
    by_cases hz:gk=0
    ·subst hz
     go_wp2_with fail;refine (zAy h4 _ _ (by omega)).mono ?_;rintro e w5 ⟨rfl,b5⟩;exact ⟨rfl,Post.fail (by rw [aw.out];exact zFU jf acc) (A4.trans (aside b5) A4.size)⟩
    ·obtain ⟨f,rfl⟩:∃ f,gk=f+1:=⟨gk-1,by omega⟩
     have du:=zAA (aw.out.trans (zFV jf f acc));go_wp2_with fail;refine (zAl _ _ _ (by omega) _).mono ?_;rintro e w5 ⟨rfl,rfl⟩;go_wp2_with fail;refine (zCa h4 ⟨#[45]⟩).mono ?_;rintro e w5 ⟨rfl,b5⟩;have es:(⟨#[45]⟩:ByteArray).data.toList=[45]:=rfl;simp only [es];clear es;obtain ⟨mm,sN⟩:=nmQ (Ps.sees I [45] n);rw [<-sN] at du ⊢;clear sN;have h5:=h4.below b5;have A5:=A4.trans (aside b5) A4.size;have gK:=kj.below b5;go_wp2_with fail;refine (zAj h5 ak).mono ?_;rintro e w6 ⟨rfl,h6,a6⟩;have A6:=A5.trans a6 A5.size;have pg:=gK.past a6 (by simp;omega);go_wp2_with fail;refine (zFT h6 mm).mono ?_;rintro e w7 ⟨a7,hres⟩;have A7:=A6.trans a7 A6.size;have eF:=pg.past a7 (by simp;omega);have z7:=A7.size
     cases ht:Ps.term I mm (n+1) with
     | err c a=>
      rw [ht] at hres;obtain rfl:e=_:=hres;exact ⟨rfl,Post.fail (by rw [du.out,ht];rfl) A7⟩
     | ok t2 n2=>
      rw [ht] at hres;obtain ⟨qN,h7,_,rfl,rfl⟩:=hres;have bj:Hid (Ps.size I nx=Ps.terms I f (acc++[t2]) n2):=by
       show Ps.size I nx=_
       rw [du.out,ht];rfl
      have ja:=fun k hk=>(eF.lt k hk).2;clear du aw ht a6 a7 b5 h5 h6 gK pg A5 A6 kj h4 A4;have q1:kTerm.E (fun i=>w7.heap.size<=i) w7 [.int .i64 t2.1,.string t2.2] t2:=rfl;have q2:(acc.length+1)*kTerm.bytes<=140737488355328:=(by show (acc.length+1)*24<=_;omega);have q3:acc.length+1<=maxLen:=(by unfold maxLen;omega)
      go_wp2_with (at_builtin;refine zAV kTerm rfl _ _ 33 83 rfl Tryz.underlying33 w.heap.size w7.heap.size _ acc (by rfl) eF [.int .i64 t2.1,.string t2.2] t2 q1 (by rfl) ja z7 z7 q2 q3 ?_;intro v8 w8 cU b8 _ _)
      go_wp2;go_roundg f
      case measure=>omega
      case rel=>exact ⟨n2,acc++[t2],mm,by simp;omega,rfl,cU,(h7.under b8 (by omega) (by omega)),A7.trans (aside b8) nR,by omega,bj⟩
   | false=>
    go_wp2_with fail;refine (zCa h4 ⟨#[45]⟩).mono ?_;rintro e w9 ⟨rfl,b9⟩;have es:(⟨#[45]⟩:ByteArray).data.toList=[45]:=rfl;simp only [es];clear es;have h9:=h4.below b9;have A9:=A4.trans (aside b9) A4.size;have dY:=kj.below b9;clear hr hA ah h4 A4 kj
    cases hq:Ps.sees I [45] n with
    | true=>
     have jf:Ps.sees I [43] n=true\/Ps.sees I [45] n=true:=.inr hq;have ak:n<I.L.length:=by rcases jf with q | q<;>exact zAR q (by simp)
     by_cases hz:gk=0
     ·subst hz
      go_wp2_with fail;refine (zAy h9 _ _ (by omega)).mono ?_;rintro e w5 ⟨rfl,b5⟩;exact ⟨rfl,Post.fail (by rw [aw.out];exact zFU jf acc) (A9.trans (aside b5) A9.size)⟩
     ·obtain ⟨f,rfl⟩:∃ f,gk=f+1:=⟨gk-1,by omega⟩
      have du:=zAA (aw.out.trans (zFV jf f acc));go_wp2_with fail;refine (zAl _ _ _ (by omega) _).mono ?_;rintro e w5 ⟨rfl,rfl⟩;go_wp2_with fail;refine (zCa h9 ⟨#[45]⟩).mono ?_;rintro e w5 ⟨rfl,b5⟩;have es:(⟨#[45]⟩:ByteArray).data.toList=[45]:=rfl;simp only [es];clear es;obtain ⟨mm,sN⟩:=nmQ (Ps.sees I [45] n);rw [<-sN] at du ⊢;clear sN;have h5:=h9.below b5;have A5:=A9.trans (aside b5) A9.size;have gK:=dY.below b5;go_wp2_with fail;refine (zAj h5 ak).mono ?_;rintro e w6 ⟨rfl,h6,a6⟩;have A6:=A5.trans a6 A5.size;have pg:=gK.past a6 (by simp;omega);go_wp2_with fail;refine (zFT h6 mm).mono ?_;rintro e w7 ⟨a7,hres⟩;have A7:=A6.trans a7 A6.size;have eF:=pg.past a7 (by simp;omega);have z7:=A7.size
      cases ht:Ps.term I mm (n+1) with
      | err c a=>
       rw [ht] at hres;obtain rfl:e=_:=hres;exact ⟨rfl,Post.fail (by rw [du.out,ht];rfl) A7⟩
      | ok t2 n2=>
       rw [ht] at hres;obtain ⟨qN,h7,_,rfl,rfl⟩:=hres;have bj:Hid (Ps.size I nx=Ps.terms I f (acc++[t2]) n2):=by
        show Ps.size I nx=_
        rw [du.out,ht];rfl
       have ja:=fun k hk=>(eF.lt k hk).2;clear du aw ht a6 a7 b5 h5 h6 gK pg A5 A6 dY h9 A9;have q1:kTerm.E (fun i=>w7.heap.size<=i) w7 [.int .i64 t2.1,.string t2.2] t2:=rfl;have q2:(acc.length+1)*kTerm.bytes<=140737488355328:=(by show (acc.length+1)*24<=_;omega);have q3:acc.length+1<=maxLen:=(by unfold maxLen;omega)
       go_wp2_with (at_builtin;refine zAV kTerm rfl _ _ 33 83 rfl Tryz.underlying33 w.heap.size w7.heap.size _ acc (by rfl) eF [.int .i64 t2.1,.string t2.2] t2 q1 (by rfl) ja z7 z7 q2 q3 ?_;intro v8 w8 cU b8 _ _)
       go_wp2;go_roundg f
       case measure=>omega
       case rel=>exact ⟨n2,acc++[t2],mm,by simp;omega,rfl,cU,(h7.under b8 (by omega) (by omega)),A7.trans (aside b8) nR,by omega,bj⟩
    | false=>
     go_wp2;go_ret;exact Post.good (by rw [aw.out];exact terms_stop hp hq gk acc) A9 ii h9 (zBj dY.row)
def dcV:Nat->World->Value->De->Prop:=fun B w x d=>∃ a n c,x=.agg #[.string d.name,.int .u8 d.elem,.slice a n c]/\HTerms (fun i=>B<=i) w (.slice a n c) d.n
def exV:Nat->World->Value->Ex->Prop:=fun B w x e=>∃ y:ExV,x=.agg #[.int .i64 y.op,.int .i64 y.k,.int .i64 y.n,.string y.name,.slice y.aS y.nS y.cS,.slice y.aL y.nL y.cL]/\HEx (fun i=>B<=i) w y.cells e
def rowV {α:Type} (T:Kind α):Nat->World->Value->List α->Prop:=fun B w x l=>HRow T (fun i=>B<=i) w x l
def GlobT (w:World):Prop:=7<w.heap.size/\∀ j (h:j<Ps.words.length),w.cell? ⟨7,j,none⟩=some (.string (str Ps.words[j]))
def GlobB (b:Nat) (w:World):Prop:=b≠7/\GlobT w
theorem GlobT.keep {w w':World} (h:GlobT w) (hs:w.heap.size<=w'.heap.size) (hb:w'.heap[7]?=w.heap[7]?):GlobT w' :=
 ⟨Nat.lt_of_lt_of_le h.1 hs,fun j hj=>(World.cell?_of_block (w:=w) (a:=⟨7,j,none⟩) hb).trans (h.2 j hj)⟩
theorem GlobB.one {b:Nat} {w:World} (h:GlobB b w):7<w.heap.size:=h.2.1
theorem GlobB.far {b:Nat} {w w':World} (h:GlobB b w) (a:Aside [b] w.heap.size w w'):GlobB b w':=⟨h.1,h.2.keep a.size (a.block 7 h.one (by simp;exact fun e=>h.1 e.symm))⟩
theorem GlobB.far2 {b nb N0:Nat} {w w':World} (h:GlobB b w) (a:Aside [b,nb] N0 w w') (hn:7<nb) (hN:nb<N0):GlobB b w':=⟨h.1,h.2.keep a.size (a.block 7 (by omega) (by simp;exact ⟨fun e=>h.1 e.symm,by omega⟩))⟩
theorem GlobB.alloc {b:Nat} {w:World} (h:GlobB b w) (o:Obj):GlobB b (w.alloc o):=⟨h.1,h.2.keep (by simp) (Below.heap_alloc _ _ _ h.one)⟩
def Does {α:Type} (F b g cap:Nat) (I:Inp) (op:Nat) (V:Nat->World->Value->α->Prop) (R:Nat->Res α):Prop :=
 ∀ (n:Nat) (w:World),Rd w b g cap I.L I.len n op->GlobB b w->Calls Tryz.prog F #[.pointer (some ⟨b,0,none⟩)] w (Post b g cap I op V n w (R n))
theorem zBA {α:Type} {I:Inp} {R:Nat->Res α} {f:Nat} {acc:List α} {n:Nat}:Ps.row I R (f+1) acc n=(R n).bind fun v n1=>if Ps.sees I [44] n1=true then Ps.row I R f (acc++[v]) (n1+1) else .ok (acc++[v]) n1:=rfl
theorem zER {w:World} {b g cap:Nat} {I:Inp} {nx op:Nat} {R:Nat->Res ByteArray} (HR:Does 140 b g cap I op strV R) (h:Rd w b g cap I.L I.len nx op) (hG:GlobB b w) (most:Nat) (pE:most<=1000) :
  Calls Tryz.prog 142 #[.pointer (some ⟨b,0,none⟩),.int .i64 most,.func (.func 140) #[.pointer (some ⟨b,0,none⟩)] #[]] w (Post b g cap I op (rowV kName) nx w (Ps.row I R most [] nx)):=by
 have hb:=h.bb;have hg:=h.gb;go_enter Tryz.func142,Tryz.ntmps142;go_wp2;go_loopg [7] most (fun k v wr=>∃ (n:Nat) (acc:List ByteArray),k+acc.length=most/\OwnL kName w.heap.size wr v acc/\Rd wr b g cap I.L I.len n op/\Aside [b] w.heap.size w wr/\nx<=n/\Hid (Ps.row I R most [] nx=Ps.row I R k acc n))
 case atStart=>exact ⟨nx,[],rfl,OwnL.nil,h,Aside.refl _,Nat.le_refl _,rfl⟩
 case round=>
  obtain ⟨n,acc,hk,ah,hr,hA,ii,aw⟩:=hrel;obtain ⟨aa,cc,rfl,aC,av⟩:=ah.form;unfold maxLen at av;have zr:=hA.size;by_cases hz:gk=0
  ·subst hz
   go_wp2_with fail;refine (zAy hr _ _ (by omega)).mono ?_;rintro e w5 ⟨rfl,b5⟩;exact ⟨rfl,Post.fail (by rw [aw.out];rfl) (hA.trans (aside b5) hA.size)⟩
  ·obtain ⟨f,rfl⟩:∃ f,gk=f+1:=⟨gk-1,by omega⟩
   go_wp2_with fail;refine (zAl _ _ _ (by omega) _).mono ?_;rintro e wr ⟨rfl,rfl⟩;go_wp2_with fail;refine (HR n _ hr (hG.far hA)).mono ?_;rintro e w7 ⟨a7,hres⟩;have A7:=hA.trans a7 zr;have eF:=ah.past a7 (by simp;omega);have z7:=A7.size;have y7:=a7.size
   cases ht:R n with
   | err c a=>
    rw [ht] at hres;obtain rfl:e=_:=hres;exact ⟨rfl,Post.fail (by rw [aw.out,zBA,ht];rfl) A7⟩
   | ok y n1=>
    rw [ht] at hres;obtain ⟨qN,h7,x7,rfl,hV⟩:=hres;obtain rfl:x7=_:=hV;have bj:Hid (Ps.row I R most [] nx=if Ps.sees I [44] n1=true then Ps.row I R f (acc++[y]) (n1+1) else .ok (acc++[y]) n1):=by
     show Ps.row I R most [] nx=_
     rw [aw.out,zBA,ht];rfl
    have ja:=fun k hk=>(ah.lt k hk).2;have q1:kName.E (fun i=>wr.heap.size<=i) w7 [.string y] y:=rfl;have q2:(acc.length+1)*kName.bytes<=140737488355328:=(by show (acc.length+1)*16<=_;omega);have q3:acc.length+1<=maxLen:=(by unfold maxLen;omega);clear aw ht a7 ah hr hA HR
    go_wp2_with (at_builtin;refine zAV kName rfl _ _ 43 9 rfl Tryz.underlying43 w.heap.size wr.heap.size _ acc (by rfl) eF [.string y] y q1 (by rfl) ja zr z7 q2 q3 ?_;intro v8 w8 cU b8 _ _)
    have h8:=h7.under b8 (by omega) (by omega);have A8:=A7.trans (aside b8) nR;refine (zAH h8 ⟨#[44]⟩ (by decide)).mono ?_;rintro e w9 ⟨rfl,h9,a9⟩;have es:(⟨#[44]⟩:ByteArray).data.toList=[44]:=rfl;rw [es] at h9;simp only [es];clear es;have A9:=A8.trans a9 A8.size;have dY:=cU.past a9 (by simp;omega);clear A8 a9 cU h8 eF h7 b8 A7 ja q1
    cases hq:Ps.sees I [44] n1 with
    | true=>
     rw [hq] at h9 bj;go_wp2;go_roundg f
     case measure=>omega
     case rel=>exact ⟨n1+1,acc++[y],by simp;omega,dY,by simpa using h9,A9,by omega,zAA (by simpa using bj.out)⟩
    | false=>
     rw [hq] at h9 bj;obtain ⟨dT,FK,rfl,_,_⟩:=dY.form;go_wp2;go_ret;exact Post.good (by rw [bj.out];rfl) A9 (by omega) (by simpa using h9) dY.row
theorem zES {w:World} {b g cap:Nat} {I:Inp} {nx op:Nat} {R:Nat->Res De} (HR:Does 144 b g cap I op dcV R) (h:Rd w b g cap I.L I.len nx op) (hG:GlobB b w) (most:Nat) (pE:most<=1000) :
  Calls Tryz.prog 143 #[.pointer (some ⟨b,0,none⟩),.int .i64 most,.func (.func 144) #[.pointer (some ⟨b,0,none⟩)] #[]] w (Post b g cap I op (rowV kDecl) nx w (Ps.row I R most [] nx)):=by
 have hb:=h.bb;have hg:=h.gb;go_enter Tryz.func143,Tryz.ntmps143;go_wp2;go_loopg [7] most (fun k v wr=>∃ (n:Nat) (acc:List De),k+acc.length=most/\OwnL kDecl w.heap.size wr v acc/\Rd wr b g cap I.L I.len n op/\Aside [b] w.heap.size w wr/\nx<=n/\Hid (Ps.row I R most [] nx=Ps.row I R k acc n))
 case atStart=>exact ⟨nx,[],rfl,OwnL.nil,h,Aside.refl _,Nat.le_refl _,rfl⟩
 case round=>
  obtain ⟨n,acc,hk,ah,hr,hA,ii,aw⟩:=hrel;obtain ⟨aa,cc,rfl,aC,av⟩:=ah.form;unfold maxLen at av;have zr:=hA.size;by_cases hz:gk=0
  ·subst hz
   go_wp2_with fail;refine (zAy hr _ _ (by omega)).mono ?_;rintro e w5 ⟨rfl,b5⟩;exact ⟨rfl,Post.fail (by rw [aw.out];rfl) (hA.trans (aside b5) hA.size)⟩
  ·obtain ⟨f,rfl⟩:∃ f,gk=f+1:=⟨gk-1,by omega⟩
   go_wp2_with fail;refine (zAl _ _ _ (by omega) _).mono ?_;rintro e wr ⟨rfl,rfl⟩;go_wp2_with fail;refine (HR n _ hr (hG.far hA)).mono ?_;rintro e w7 ⟨a7,hres⟩;have A7:=hA.trans a7 zr;have eF:=ah.past a7 (by simp;omega);have z7:=A7.size;have y7:=a7.size
   cases ht:R n with
   | err c a=>
    rw [ht] at hres;obtain rfl:e=_:=hres;exact ⟨rfl,Post.fail (by rw [aw.out,zBA,ht];rfl) A7⟩
   | ok y n1=>
    rw [ht] at hres;obtain ⟨qN,h7,x7,rfl,hV⟩:=hres;obtain ⟨ad,nd,cd,rfl,hT⟩:=hV;have bj:Hid (Ps.row I R most [] nx=if Ps.sees I [44] n1=true then Ps.row I R f (acc++[y]) (n1+1) else .ok (acc++[y]) n1):=by
     show Ps.row I R most [] nx=_
     rw [aw.out,zBA,ht];rfl
    have ja:=fun k hk=>(ah.lt k hk).2;have q1:kDecl.E (fun i=>wr.heap.size<=i) w7 [.string y.name,.int .u8 y.elem,.slice ad nd cd] y:=⟨_,rfl,hT⟩;have q2:(acc.length+1)*kDecl.bytes<=140737488355328:=(by show (acc.length+1)*48<=_;omega);have q3:acc.length+1<=maxLen:=(by unfold maxLen;omega);clear aw ht a7 ah hr hA HR
    go_wp2_with (at_builtin;refine zAV kDecl rfl _ _ 44 50 rfl Tryz.underlying44 w.heap.size wr.heap.size _ acc (by rfl) eF [.string y.name,.int .u8 y.elem,.slice ad nd cd] y q1 (by rfl) ja zr z7 q2 q3 ?_;intro v8 w8 cU b8 _ _)
    have h8:=h7.under b8 (by omega) (by omega);have A8:=A7.trans (aside b8) nR;refine (zAH h8 ⟨#[44]⟩ (by decide)).mono ?_;rintro e w9 ⟨rfl,h9,a9⟩;have es:(⟨#[44]⟩:ByteArray).data.toList=[44]:=rfl;rw [es] at h9;simp only [es];clear es;have A9:=A8.trans a9 A8.size;have dY:=cU.past a9 (by simp;omega);clear A8 a9 cU h8 eF h7 b8 A7 ja q1
    cases hq:Ps.sees I [44] n1 with
    | true=>
     rw [hq] at h9 bj;go_wp2;go_roundg f
     case measure=>omega
     case rel=>exact ⟨n1+1,acc++[y],by simp;omega,dY,by simpa using h9,A9,by omega,zAA (by simpa using bj.out)⟩
    | false=>
     rw [hq] at h9 bj;obtain ⟨dT,FK,rfl,_,_⟩:=dY.form;go_wp2;go_ret;exact Post.good (by rw [bj.out];rfl) A9 (by omega) (by simpa using h9) dY.row
theorem zET {w:World} {b g cap:Nat} {I:Inp} {nx op:Nat} {R:Nat->Res (List Tm)} (HR:Does 184 b g cap I op szV R) (h:Rd w b g cap I.L I.len nx op) (hG:GlobB b w) (most:Nat) (pE:most<=1000) :
  Calls Tryz.prog 223 #[.pointer (some ⟨b,0,none⟩),.int .i64 most,.func (.func 184) #[.pointer (some ⟨b,0,none⟩)] #[]] w (Post b g cap I op (rowV kSize) nx w (Ps.row I R most [] nx)):=by
 have hb:=h.bb;have hg:=h.gb;go_enter Tryz.func223,Tryz.ntmps223;go_wp2;go_loopg [7] most (fun k v wr=>∃ (n:Nat) (acc:List (List Tm)),k+acc.length=most/\OwnL kSize w.heap.size wr v acc/\Rd wr b g cap I.L I.len n op/\Aside [b] w.heap.size w wr/\nx<=n/\Hid (Ps.row I R most [] nx=Ps.row I R k acc n))
 case atStart=>exact ⟨nx,[],rfl,OwnL.nil,h,Aside.refl _,Nat.le_refl _,rfl⟩
 case round=>
  obtain ⟨n,acc,hk,ah,hr,hA,ii,aw⟩:=hrel;obtain ⟨aa,cc,rfl,aC,av⟩:=ah.form;unfold maxLen at av;have zr:=hA.size;by_cases hz:gk=0
  ·subst hz
   go_wp2_with fail;refine (zAy hr _ _ (by omega)).mono ?_;rintro e w5 ⟨rfl,b5⟩;exact ⟨rfl,Post.fail (by rw [aw.out];rfl) (hA.trans (aside b5) hA.size)⟩
  ·obtain ⟨f,rfl⟩:∃ f,gk=f+1:=⟨gk-1,by omega⟩
   go_wp2_with fail;refine (zAl _ _ _ (by omega) _).mono ?_;rintro e wr ⟨rfl,rfl⟩;go_wp2_with fail;refine (HR n _ hr (hG.far hA)).mono ?_;rintro e w7 ⟨a7,hres⟩;have A7:=hA.trans a7 zr;have eF:=ah.past a7 (by simp;omega);have z7:=A7.size;have y7:=a7.size
   cases ht:R n with
   | err c a=>
    rw [ht] at hres;obtain rfl:e=_:=hres;exact ⟨rfl,Post.fail (by rw [aw.out,zBA,ht];rfl) A7⟩
   | ok y n1=>
    rw [ht] at hres;obtain ⟨qN,h7,x7,rfl,hV⟩:=hres;obtain ⟨ad,nd,cd,rfl⟩:=HTerms.slice hV;have bj:Hid (Ps.row I R most [] nx=if Ps.sees I [44] n1=true then Ps.row I R f (acc++[y]) (n1+1) else .ok (acc++[y]) n1):=by
     show Ps.row I R most [] nx=_
     rw [aw.out,zBA,ht];rfl
    have ja:=fun k hk=>(ah.lt k hk).2;have q1:kSize.E (fun i=>wr.heap.size<=i) w7 [.slice ad nd cd] y:=⟨_,rfl,hV⟩;have q2:(acc.length+1)*kSize.bytes<=140737488355328:=(by show (acc.length+1)*24<=_;omega);have q3:acc.length+1<=maxLen:=(by unfold maxLen;omega);clear aw ht a7 ah hr hA HR
    go_wp2_with (at_builtin;refine zAV kSize rfl _ _ 51 33 rfl Tryz.underlying51 w.heap.size wr.heap.size _ acc (by rfl) eF [.slice ad nd cd] y q1 (by rfl) ja zr z7 q2 q3 ?_;intro v8 w8 cU b8 _ _)
    have h8:=h7.under b8 (by omega) (by omega);have A8:=A7.trans (aside b8) nR;refine (zAH h8 ⟨#[44]⟩ (by decide)).mono ?_;rintro e w9 ⟨rfl,h9,a9⟩;have es:(⟨#[44]⟩:ByteArray).data.toList=[44]:=rfl;rw [es] at h9;simp only [es];clear es;have A9:=A8.trans a9 A8.size;have dY:=cU.past a9 (by simp;omega);clear A8 a9 cU h8 eF h7 b8 A7 ja q1
    cases hq:Ps.sees I [44] n1 with
    | true=>
     rw [hq] at h9 bj;go_wp2;go_roundg f
     case measure=>omega
     case rel=>exact ⟨n1+1,acc++[y],by simp;omega,dY,by simpa using h9,A9,by omega,zAA (by simpa using bj.out)⟩
    | false=>
     rw [hq] at h9 bj;obtain ⟨dT,FK,rfl,_,_⟩:=dY.form;go_wp2;go_ret;exact Post.good (by rw [bj.out];rfl) A9 (by omega) (by simpa using h9) dY.row
theorem zBe {w:World} {b g cap:Nat} {I:Inp} {nx op:Nat} {R:Nat->Res Ex} (HR:Does 222 b g cap I op exV R) (h:Rd w b g cap I.L I.len nx op) (hG:GlobB b w) (most:Nat) (pE:most<=1000) :
  Calls Tryz.prog 224 #[.pointer (some ⟨b,0,none⟩),.int .i64 most,.func (.func 222) #[.pointer (some ⟨b,0,none⟩)] #[]] w (Post b g cap I op (rowV kExpr) nx w (Ps.row I R most [] nx)):=by
 have hb:=h.bb;have hg:=h.gb;go_enter Tryz.func224,Tryz.ntmps224;go_wp2;go_loopg [7] most (fun k v wr=>∃ (n:Nat) (acc:List Ex),k+acc.length=most/\OwnL kExpr w.heap.size wr v acc/\Rd wr b g cap I.L I.len n op/\Aside [b] w.heap.size w wr/\nx<=n/\Hid (Ps.row I R most [] nx=Ps.row I R k acc n))
 case atStart=>exact ⟨nx,[],rfl,OwnL.nil,h,Aside.refl _,Nat.le_refl _,rfl⟩
 case round=>
  obtain ⟨n,acc,hk,ah,hr,hA,ii,aw⟩:=hrel;obtain ⟨aa,cc,rfl,aC,av⟩:=ah.form;unfold maxLen at av;have zr:=hA.size;by_cases hz:gk=0
  ·subst hz
   go_wp2_with fail;refine (zAy hr _ _ (by omega)).mono ?_;rintro e w5 ⟨rfl,b5⟩;exact ⟨rfl,Post.fail (by rw [aw.out];rfl) (hA.trans (aside b5) hA.size)⟩
  ·obtain ⟨f,rfl⟩:∃ f,gk=f+1:=⟨gk-1,by omega⟩
   go_wp2_with fail;refine (zAl _ _ _ (by omega) _).mono ?_;rintro e wr ⟨rfl,rfl⟩;go_wp2_with fail;refine (HR n _ hr (hG.far hA)).mono ?_;rintro e w7 ⟨a7,hres⟩;have A7:=hA.trans a7 zr;have eF:=ah.past a7 (by simp;omega);have z7:=A7.size;have y7:=a7.size
   cases ht:R n with
   | err c a=>
    rw [ht] at hres;obtain rfl:e=_:=hres;exact ⟨rfl,Post.fail (by rw [aw.out,zBA,ht];rfl) A7⟩
   | ok y n1=>
    rw [ht] at hres;obtain ⟨qN,h7,x7,rfl,hV⟩:=hres;obtain ⟨x,rfl,hX⟩:=hV;have bj:Hid (Ps.row I R most [] nx=if Ps.sees I [44] n1=true then Ps.row I R f (acc++[y]) (n1+1) else .ok (acc++[y]) n1):=by
     show Ps.row I R most [] nx=_
     rw [aw.out,zBA,ht];rfl
    have ja:=fun k hk=>(ah.lt k hk).2;have q1:kExpr.E (fun i=>wr.heap.size<=i) w7 [.int .i64 x.op,.int .i64 x.k,.int .i64 x.n,.string x.name,.slice x.aS x.nS x.cS,.slice x.aL x.nL x.cL] y:=hX;have q2:(acc.length+1)*kExpr.bytes<=140737488355328:=(by show (acc.length+1)*88<=_;omega);have q3:acc.length+1<=maxLen:=(by unfold maxLen;omega);clear aw ht a7 ah hr hA HR
    go_wp2_with (at_builtin;refine zAV kExpr rfl _ _ 52 54 rfl Tryz.underlying52 w.heap.size wr.heap.size _ acc (by rfl) eF [.int .i64 x.op,.int .i64 x.k,.int .i64 x.n,.string x.name,.slice x.aS x.nS x.cS,.slice x.aL x.nL x.cL] y q1 (by rfl) ja zr z7 q2 q3 ?_;intro v8 w8 cU b8 _ _)
    have h8:=h7.under b8 (by omega) (by omega);have A8:=A7.trans (aside b8) nR;refine (zAH h8 ⟨#[44]⟩ (by decide)).mono ?_;rintro e w9 ⟨rfl,h9,a9⟩;have es:(⟨#[44]⟩:ByteArray).data.toList=[44]:=rfl;rw [es] at h9;simp only [es];clear es;have A9:=A8.trans a9 A8.size;have dY:=cU.past a9 (by simp;omega);clear A8 a9 cU h8 eF h7 b8 A7 ja q1
    cases hq:Ps.sees I [44] n1 with
    | true=>
     rw [hq] at h9 bj;go_wp2;go_roundg f
     case measure=>omega
     case rel=>exact ⟨n1+1,acc++[y],by simp;omega,dY,by simpa using h9,A9,by omega,zAA (by simpa using bj.out)⟩
    | false=>
     rw [hq] at h9 bj;obtain ⟨dT,FK,rfl,_,_⟩:=dY.form;go_wp2;go_ret;exact Post.good (by rw [bj.out];rfl) A9 (by omega) (by simpa using h9) dY.row
end Go.Proofs.YtkfgbhlpjkkgfaaGreatDoor
