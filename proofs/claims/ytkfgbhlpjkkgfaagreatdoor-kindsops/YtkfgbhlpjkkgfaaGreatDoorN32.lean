import Derived.Test.YtkfgbhlpjkkgfaaGreatDoorN25
import Derived.Test.YtkfgbhlpjkkgfaaGreatDoorN06
import Derived.WalkLawsBesides
set_option linter.unusedVariables false
set_option linter.unusedSimpArgs false
set_option maxHeartbeats 64000000
set_option maxRecDepth 100000
namespace Go.Proofs.YtkfgbhlpjkkgfaaGreatDoor
open Go.RowKit Go.IntWalk
def upV (c a:Int):Value:=.iface 123 (.agg #[.int .i64 c,.int .i64 a])
def upE (c a:Int):Ending:=.panicked [{ v:=upV c a,recovered:=false }]
def Post {α:Type} (b g cap:Nat) (I:Inp) (op:Nat) (V:Nat→World→Value→α→Prop) (nx:Nat) (w:World) (res:Res α) (r:Ending) (w':World):Prop :=
 Aside [b] w.heap.size w w' ∧
 match res with
 | .ok v n1=>nx≤n1∧Rd w' b g cap I.L I.len n1 op∧∃ x,r=.returned x∧V w.heap.size w' x v
 | .err c a=>r=upE c a
theorem sees_lt {I:Inp} {s:List UInt8} {n:Nat} (h:Ps.sees I s n=true) (hs:s≠[]):n<I.L.length:=by
 apply Classical.byContradiction
 intro hn;unfold Ps.sees Inp.pk peekT at h;simp [hn] at h;exact hs h
theorem kind_lt {I:Inp} {n:Nat} (h:(I.pk n).kind≠0):n<I.L.length:=by
 apply Classical.byContradiction
 intro hn;unfold Inp.pk peekT at h;simp [hn] at h
theorem giveUp_any (c a:Int) (w:World):Calls Tryz.prog 146 #[.int .i64 c,.int .i64 a] w fun e w'=>e=upE c a∧w'=w:=by
 go_enter Tryz.func146,Tryz.ntmps146;go_wp2;exact ⟨rfl,rfl,rfl⟩
def noV:Nat→World→Value→Unit→Prop:=fun _ _ x _=>x=.tuple #[]
def strV:Nat→World→Value→ByteArray→Prop:=fun _ _ x s=>x=.string s
theorem refuse_any {w:World} {b g cap:Nat} {I:Inp} {nx op:Nat} (h:Rd w b g cap I.L I.len nx op) :
  Calls Tryz.prog 182 #[.pointer (some ⟨b,0,none⟩)] w fun e w'=>e=upE (Ps.refC I nx) (I.pk nx).place∧Below w.heap.size w w':=by
 have hp:=@peek_any _ _ _ _ _ _ _ _ h;unfold Ps.refC Inp.pk;obtain ⟨t,ht⟩:=nmQ (peekT I.L I.len nx);rw [←ht] at hp ⊢;unfold tokV at hp;clear ht;by_cases hk:t.kind=0
 ·rw [if_pos hk]
  rw [hk] at hp;go_enter Tryz.func182,Tryz.ntmps182;go_wp2_with fail;refine hp.mono ?_;rintro e w1 ⟨rfl,hb⟩;go_wp2_with fail;refine (giveUp_any _ _ _).mono ?_;rintro e w2 ⟨rfl,rfl⟩;exact ⟨rfl,rfl,hb.alloc hb.size _⟩
 ·rw [if_neg hk]
  have hkb:(t.kind==0)=false:=beq_eq_false_iff_ne.2 hk;go_enter Tryz.func182,Tryz.ntmps182;go_wp2_with fail;refine hp.mono ?_;rintro e w1 ⟨rfl,hb⟩;go_wp2_with fail;refine (giveUp_any _ _ _).mono ?_;rintro e w2 ⟨rfl,rfl⟩;exact ⟨rfl,rfl,hb.alloc hb.size _⟩
theorem allow_no {w:World} {b g cap:Nat} {I:Inp} {nx op:Nat} (h:Rd w b g cap I.L I.len nx op) (x y:Int) (hxy:y≤x) :
  Calls Tryz.prog 110 #[.pointer (some ⟨b,0,none⟩),.int .i64 x,.int .i64 y] w fun e w'=>e=upE 7 (I.pk nx).place∧Below w.heap.size w w':=by
 have hp:=@peek_any _ _ _ _ _ _ _ _ h;unfold Inp.pk;obtain ⟨t,ht⟩:=nmQ (peekT I.L I.len nx);rw [←ht] at hp ⊢;unfold tokV at hp;clear ht;have hf:=fun x w=>tokF1 t x w;go_enter Tryz.func110,Tryz.ntmps110;go_wp2_with fail;refine hp.mono ?_;rintro e w1 ⟨rfl,hb⟩;go_wp2_with fail;refine (giveUp_any _ _ _).mono ?_;rintro e w2 ⟨rfl,rfl⟩;exact ⟨rfl,rfl,hb⟩
theorem take_any {w:World} {b g cap:Nat} {I:Inp} {nx op:Nat} (h:Rd w b g cap I.L I.len nx op) (s:ByteArray) (hs:s.data.toList≠[]) :
  Calls Tryz.prog 141 #[.pointer (some ⟨b,0,none⟩),.string s] w fun e w'=>e=.returned (.bool (Ps.sees I s.data.toList nx))∧Rd w' b g cap I.L I.len (if Ps.sees I s.data.toList nx=true then nx+1 else nx) op∧Aside [b] w.heap.size w w':=by
 cases hq:Ps.sees I s.data.toList nx with
 | true=>simpa using take_yes h s hq (sees_lt hq hs)
 | false=>
  refine (take_no h s hq).mono ?_;rintro e w' ⟨rfl,hb⟩;exact ⟨rfl,by simpa using h.below hb,aside hb⟩
theorem need_any {w:World} {b g cap:Nat} {I:Inp} {nx op:Nat} (h:Rd w b g cap I.L I.len nx op) (s:ByteArray) (hs:s.data.toList≠[]) :
  Calls Tryz.prog 139 #[.pointer (some ⟨b,0,none⟩),.string s] w (Post b g cap I op noV nx w (Ps.need I s.data.toList nx)):=by
 unfold Ps.need
 cases hq:Ps.sees I s.data.toList nx with
 | true=>
  refine (need_yes h s hq (sees_lt hq hs)).mono ?_;rintro e w' ⟨rfl,h1,ha⟩;exact ⟨ha,Nat.le_succ _,h1,_,rfl,rfl⟩
 | false=>
  simp only [Bool.false_eq_true,if_false];have hp:=take_no h s hq;go_enter Tryz.func139,Tryz.ntmps139;go_wp2_with fail;refine hp.mono ?_;rintro e w1 ⟨rfl,hb⟩;go_wp2_with fail;refine (refuse_any (h.below hb)).mono ?_;rintro e w2 ⟨rfl,ha⟩;exact ⟨rfl,aside (hb.trans (ha.mono hb.size)),rfl⟩
theorem name_any {w:World} {b g cap:Nat} {I:Inp} {nx op:Nat} (h:Rd w b g cap I.L I.len nx op) :
  Calls Tryz.prog 140 #[.pointer (some ⟨b,0,none⟩)] w (Post b g cap I op strV nx w (Ps.name I nx)):=by
 unfold Ps.name;by_cases hk:(I.pk nx).kind=2
 ·rw [if_pos hk]
  refine (name_yes h hk (kind_lt (by rw [hk];decide))).mono ?_;rintro e w' ⟨rfl,h1,ha⟩;exact ⟨ha,Nat.le_succ _,h1,_,rfl,rfl⟩
 ·rw [if_neg hk]
  have hp:=@peek_any _ _ _ _ _ _ _ _ h;unfold Inp.pk at hk;obtain ⟨t,ht⟩:=nmQ (peekT I.L I.len nx);rw [←ht] at hp hk;unfold tokV at hp;have hkb:(t.kind==2)=false:=beq_eq_false_iff_ne.2 hk;clear ht;go_enter Tryz.func140,Tryz.ntmps140;go_wp2_with fail;refine hp.mono ?_;rintro e w1 ⟨rfl,hb⟩;go_wp2_with fail;refine (refuse_any ((h.below hb).alloc _)).mono ?_;rintro e w2 ⟨rfl,ha⟩;exact ⟨rfl,aside ((hb.alloc hb.size _).trans (ha.mono (by simp;exact Nat.le_trans hb.size (Nat.le_succ _)))),rfl⟩
def tmV:Nat→World→Value→Tm→Prop:=fun _ _ x t=>x=.agg #[.int .i64 t.1,.string t.2]
theorem Post.fail {α:Type} {b g cap:Nat} {I:Inp} {op:Nat} {V:Nat→World→Value→α→Prop} {nx:Nat} {w:World} {res:Res α} {w':World} {c a:Nat} (h:res=.err c a) (hA:Aside [b] w.heap.size w w'):Post b g cap I op V nx w res (upE c a) w':=by
 subst h;exact ⟨hA,rfl⟩
theorem Post.good {α:Type} {b g cap:Nat} {I:Inp} {op:Nat} {V:Nat→World→Value→α→Prop} {nx:Nat} {w:World} {res:Res α} {w':World} {v:α} {n1:Nat} {x:Value} (h:res=.ok v n1) (hA:Aside [b] w.heap.size w w') (hn:nx≤n1) (hR:Rd w' b g cap I.L I.len n1 op) (hV:V w.heap.size w' x v):Post b g cap I op V nx w res (.returned x) w':=by
 subst h;exact ⟨hA,hn,hR,x,rfl,hV⟩
theorem Post.aside {α:Type} {b g cap:Nat} {I:Inp} {op:Nat} {V:Nat→World→Value→α→Prop} {nx:Nat} {w:World} {res:Res α} {r:Ending} {w':World} (h:Post b g cap I op V nx w res r w'):Aside [b] w.heap.size w w':=h.1
theorem term_any {w:World} {b g cap:Nat} {I:Inp} {nx op:Nat} (h:Rd w b g cap I.L I.len nx op) (minus:Bool) :
  Calls Tryz.prog 221 #[.pointer (some ⟨b,0,none⟩),.bool minus] w (Post b g cap I op tmV nx w (Ps.term I minus nx)):=by
 have hb:=h.bb;have hg:=h.gb;obtain ⟨W,hW⟩:=nmQ ((w.alloc (.cells #[.int .i64 0,.string ⟨#[]⟩] 83 (0,0))).alloc (.cells #[.int .i64 1,.string ⟨#[]⟩] 83 (0,0)));have zW:W.heap.size=w.heap.size+1+1:=(by rw [hW];simp);have bW:Below w.heap.size w W:=(by rw [hW];exact ((Below.refl _ w).alloc nR _).alloc (by simp) _);have hA0:W.heap[w.heap.size]?=some (.cells #[.int .i64 0,.string ⟨#[]⟩] 83 (0,0)):=(by rw [hW];exact kA (heap_new w _) _);have hT0:W.heap[w.heap.size+1]?=some (.cells #[.int .i64 1,.string ⟨#[]⟩] 83 (0,0)):=by
  have:=heap_new (w.alloc (.cells #[.int .i64 0,.string ⟨#[]⟩] 83 (0,0))) (.cells #[.int .i64 1,.string ⟨#[]⟩] 83 (0,0));have e:(w.alloc (.cells #[.int .i64 0,.string ⟨#[]⟩] 83 (0,0))).heap.size=w.heap.size+1:=(by simp);rw [e] at this;rw [hW];exact this
 have hRW:Rd W b g cap I.L I.len nx op:=h.below bW;have hp:=@peek_any _ _ _ _ _ _ _ _ hRW;obtain ⟨t,ht⟩:=nmQ (I.pk nx);have hpk:peekT I.L I.len nx=t:=ht.symm;rw [hpk] at hp;unfold tokV at hp;have HT:=hide ht;clear hpk ht;by_cases hk:t.kind=3
 ·have hlt:nx<I.L.length:=kind_lt (by rw [←HT.out,hk];decide)
  rw [hk] at hp;go_enter Tryz.func221,Tryz.ntmps221;go_wp2_with fail;rw [←hW];refine hp.mono ?_;rintro e w1 ⟨rfl,b1⟩;have z1:=b1.size;go_wp2_with fail;refine (step_any ((hRW.below b1).alloc _) hlt).mono ?_;rintro e w2 ⟨rfl,h2,a2⟩;have z2:w1.heap.size+1≤w2.heap.size:=(by simpa using a2.size);have hN2:=a2.keep (heap_new w1 _) (by simp) (by simp;omega);have hA2:=a2.keep (kA ((aside b1 (S:=[])).keep hA0 (lt_of hA0) (by simp)) _) (by simp;omega) (by simp;omega);have hT2:=a2.keep (kA ((aside b1 (S:=[])).keep hT0 (lt_of hT0) (by simp)) _) (by simp;omega) (by simp;omega);have S2:Aside [b] w.heap.size w w2:=(aside ((bW.trans (b1.mono (by omega))).alloc (by omega) _)).trans a2 (by simp;omega);have n3:=co hN2 3;have t0:=co hT2 0;have f0:=fo hT2 0;simp at n3 t0;go_wp2_with fail;have hT:=set_in hT2 0 (.int .i64 t.n);have hA:=keep_set hA2 (p:=⟨w.heap.size+1,0,none⟩) (by simp) (.int .i64 t.n);have hR:=h2.set (p:=⟨w.heap.size+1,0,none⟩) (by simp;omega) (by simp;omega) (.int .i64 t.n);have hS:=S2.set (p:=⟨w.heap.size+1,0,none⟩) (by simp) (.int .i64 t.n);simp at hT;have z3:(w2.setCell ⟨w.heap.size+1,0,none⟩ (.int .i64 t.n)).heap.size=w2.heap.size:=(by simp [World.setCell]);generalize w2.setCell ⟨w.heap.size+1,0,none⟩ (.int .i64 t.n)=w3 at hT hA hR hS z3 ⊢;clear hN2 hA2 hT2 S2 h2 a2 n3 t0 f0 hA0 hT0;refine (take_any hR ⟨#[42]⟩ (by decide)).mono ?_;rintro e w4 ⟨rfl,h4,a4⟩;have z4:=a4.size;have hA4:=a4.keep hA (by omega) (by simp;omega);have hT4:=a4.keep hT (by omega) (by simp;omega);have hS4:=hS.trans a4 (by omega);clear hA hT hS hR;have es:(⟨#[42]⟩:ByteArray).data.toList=[42]:=rfl;rw [es] at h4;simp only [es];clear es
  cases hq:Ps.sees I [42] (nx+1) with
  | false=>
   rw [hq] at h4;simp only [Bool.false_eq_true,if_false] at h4;have hA:=hA4;have hT:=hT4;have hR:=h4;have hS:=hS4;clear hA4 hT4 h4 hS4
   cases minus
   ·have t0:=co hT 0
    have t1:=co hT 1;have c0:=co hA 0;have c1:=co hA 1;have fA:=fun o=>fo hA o;have fT:=fun o=>fo hT o;simp at t0 t1 c0 c1;go_wp2;refine bodyPost_ret (v:=.agg #[.int .i64 (t.n),.string (⟨#[]⟩:ByteArray)]) (by simp [results,Tryz.results221,go_sem,c0,c1]) rfl ?_;exact Post.good (v:=(t.n,(⟨#[]⟩:ByteArray))) (by unfold Ps.term;rw [←HT.out,if_pos hk,hq];simp [Ps.sg]) (((hS).set (by simp) _).set (by simp) _) (by omega) (((hR).set (by simp;omega) (by simp;omega) _).set (by simp;omega) (by simp;omega) _) rfl
   ·have t0:=co hT 0
    have t1:=co hT 1;have c0:=co hA 0;have c1:=co hA 1;have fA:=fun o=>fo hA o;have fT:=fun o=>fo hT o;simp at t0 t1 c0 c1;go_wp2;refine bodyPost_ret (v:=.agg #[.int .i64 (wrap64 (-(t.n))),.string (⟨#[]⟩:ByteArray)]) (by simp [results,Tryz.results221,go_sem,c0,c1]) rfl ?_;exact Post.good (v:=(wrap64 (-(t.n)),(⟨#[]⟩:ByteArray))) (by unfold Ps.term;rw [←HT.out,if_pos hk,hq];simp [Ps.sg]) ((((hS).set (by simp) _).set (by simp) _).set (by simp) _) (by omega) ((((hR).set (by simp;omega) (by simp;omega) _).set (by simp;omega) (by simp;omega) _).set (by simp;omega) (by simp;omega) _) rfl
  | true=>
   rw [hq] at h4;simp only [if_true] at h4;go_wp2_with fail;refine (name_any h4).mono ?_;rintro e w5 ⟨a5,hres⟩;have hS:=hS4.trans a5 (by omega);have z5:=a5.size;have hA:=a5.keep hA4 (by omega) (by simp;omega);have hT5:=a5.keep hT4 (by omega) (by simp;omega);clear hA4 hT4 hS4 h4
   cases hn:Ps.name I (nx+1+1) with
   | err c a=>
    rw [hn] at hres;obtain rfl:e=_:=hres;exact ⟨rfl,Post.fail (by unfold Ps.term;rw [←HT.out,if_pos hk,hq];simp [hn,Res.bind]) hS⟩
   | ok s n1=>
    rw [hn] at hres;obtain ⟨le5,hR5,_,rfl,rfl⟩:=hres;have hT:=hT5;have hR:=hR5;clear hT5 hR5
    cases minus
    ·have t0:=co hT 0
     have t1:=co hT 1;have c0:=co hA 0;have c1:=co hA 1;have fA:=fun o=>fo hA o;have fT:=fun o=>fo hT o;simp at t0 t1 c0 c1;go_wp2;refine bodyPost_ret (v:=.agg #[.int .i64 (t.n),.string s]) (by simp [results,Tryz.results221,go_sem,c0,c1]) rfl ?_;exact Post.good (v:=(t.n,s)) (by unfold Ps.term;rw [←HT.out,if_pos hk,hq];simp [Ps.sg,hn,Res.bind]) ((((hS).set (by simp) _).set (by simp) _).set (by simp) _) (by omega) ((((hR).set (by simp;omega) (by simp;omega) _).set (by simp;omega) (by simp;omega) _).set (by simp;omega) (by simp;omega) _) rfl
    ·have t0:=co hT 0
     have t1:=co hT 1;have c0:=co hA 0;have c1:=co hA 1;have fA:=fun o=>fo hA o;have fT:=fun o=>fo hT o;simp at t0 t1 c0 c1;go_wp2;refine bodyPost_ret (v:=.agg #[.int .i64 (wrap64 (-(t.n))),.string s]) (by simp [results,Tryz.results221,go_sem,c0,c1]) rfl ?_;exact Post.good (v:=(wrap64 (-(t.n)),s)) (by unfold Ps.term;rw [←HT.out,if_pos hk,hq];simp [Ps.sg,hn,Res.bind]) (((((hS).set (by simp) _).set (by simp) _).set (by simp) _).set (by simp) _) (by omega) (((((hR).set (by simp;omega) (by simp;omega) _).set (by simp;omega) (by simp;omega) _).set (by simp;omega) (by simp;omega) _).set (by simp;omega) (by simp;omega) _) rfl
 ·have hkb:(t.kind==3)=false:=beq_eq_false_iff_ne.2 hk
  go_enter Tryz.func221,Tryz.ntmps221;go_wp2_with fail;rw [←hW];refine hp.mono ?_;rintro e w1 ⟨rfl,b1⟩;have z1:=b1.size;go_wp2_with fail;refine (name_any ((hRW.below b1).alloc _)).mono ?_;rintro e w5 ⟨a5,hres⟩;have z5:w1.heap.size+1≤w5.heap.size:=(by simpa using a5.size);have hA:=a5.keep (kA ((aside b1 (S:=[])).keep hA0 (lt_of hA0) (by simp)) _) (by simp;omega) (by simp;omega);have hT5:=a5.keep (kA ((aside b1 (S:=[])).keep hT0 (lt_of hT0) (by simp)) _) (by simp;omega) (by simp;omega);have hS:Aside [b] w.heap.size w w5:=(aside ((bW.trans (b1.mono (by omega))).alloc (by omega) _)).trans a5 (by simp;omega)
  cases hn:Ps.name I nx with
  | err c a=>
   rw [hn] at hres;obtain rfl:e=_:=hres;exact ⟨rfl,Post.fail (by unfold Ps.term;rw [←HT.out,if_neg hk];simp [hn,Res.bind]) hS⟩
  | ok s n1=>
   rw [hn] at hres;obtain ⟨le5,hR5,_,rfl,rfl⟩:=hres;have hT:=hT5;have hR:=hR5;clear hT5 hR5
   cases minus
   ·have t0:=co hT 0
    have t1:=co hT 1;have c0:=co hA 0;have c1:=co hA 1;have fA:=fun o=>fo hA o;have fT:=fun o=>fo hT o;simp at t0 t1 c0 c1;go_wp2;refine bodyPost_ret (v:=.agg #[.int .i64 (1),.string s]) (by simp [results,Tryz.results221,go_sem,c0,c1]) rfl ?_;exact Post.good (v:=(1,s)) (by unfold Ps.term;rw [←HT.out,if_neg hk];simp [Ps.sg,hn,Res.bind]) ((((hS).set (by simp) _).set (by simp) _).set (by simp) _) (by omega) ((((hR).set (by simp;omega) (by simp;omega) _).set (by simp;omega) (by simp;omega) _).set (by simp;omega) (by simp;omega) _) rfl
   ·have t0:=co hT 0
    have t1:=co hT 1;have c0:=co hA 0;have c1:=co hA 1;have fA:=fun o=>fo hA o;have fT:=fun o=>fo hT o;simp at t0 t1 c0 c1;go_wp2;refine bodyPost_ret (v:=.agg #[.int .i64 (-1),.string s]) (by simp [results,Tryz.results221,go_sem,c0,c1]) rfl ?_;exact Post.good (v:=(-1,s)) (by unfold Ps.term;rw [←HT.out,if_neg hk];simp [Ps.sg,hn,Res.bind];unfold wrap64;omega) (((((hS).set (by simp) _).set (by simp) _).set (by simp) _).set (by simp) _) (by omega) (((((hR).set (by simp;omega) (by simp;omega) _).set (by simp;omega) (by simp;omega) _).set (by simp;omega) (by simp;omega) _).set (by simp;omega) (by simp;omega) _) rfl
def szV:Nat→World→Value→List Tm→Prop:=fun B w x l=>HTerms (fun i=>B≤i) w x l
theorem seesI {w:World} {b g cap:Nat} {I:Inp} {nx op:Nat} (h:Rd w b g cap I.L I.len nx op) (s:ByteArray) :
  Calls Tryz.prog 109 #[.pointer (some ⟨b,0,none⟩),.string s] w fun e w'=>e=.returned (.bool (Ps.sees I s.data.toList nx))∧Below w.heap.size w w':=sees_any h s
theorem Rd.under {w w':World} {b g cap:Nat} {L:List Tk.Tok} {len nx op B:Nat} (h:Rd w b g cap L len nx op) (hb:Below B w w') (h1:b<B) (h2:g<B):Rd w' b g cap L len nx op :=
 ⟨(hb.block b h1).trans h.here,h.toks.keep (hb.block g h2),h.apart,Nat.lt_of_lt_of_le h.gb hb.size,h.le,h.lc,h.cm⟩
theorem terms_stop {I:Inp} {n:Nat} (hp:Ps.sees I [43] n=false) (hq:Ps.sees I [45] n=false):∀ (k:Nat) (acc:List Tm),Ps.terms I k acc n=.ok acc n
 | 0,_=>by simp [Ps.terms,hp,hq]
 | _+1,_=>by simp [Ps.terms,hp,hq]
theorem terms_zero {I:Inp} {n:Nat} (hp:Ps.sees I [43] n=true∨Ps.sees I [45] n=true) (acc:List Tm):Ps.terms I 0 acc n=.err 7 (I.pk n).place:=by simp [Ps.terms,hp]
theorem terms_more {I:Inp} {n:Nat} (hp:Ps.sees I [43] n=true∨Ps.sees I [45] n=true) (f:Nat) (acc:List Tm):Ps.terms I (f+1) acc n=(Ps.term I (Ps.sees I [45] n) (n+1)).bind fun t n1=>Ps.terms I f (acc++[t]) n1:=by simp [Ps.terms,hp]
theorem size_any {w:World} {b g cap:Nat} {I:Inp} {nx op:Nat} (h:Rd w b g cap I.L I.len nx op) :
  Calls Tryz.prog 184 #[.pointer (some ⟨b,0,none⟩)] w (Post b g cap I op szV nx w (Ps.size I nx)):=by
 have hb:=h.bb;have hg:=h.gb;go_enter Tryz.func184,Tryz.ntmps184;go_wp2_with fail;refine (take_any h ⟨#[45]⟩ (by decide)).mono ?_;rintro e w1 ⟨rfl,h1,a1⟩;have es:(⟨#[45]⟩:ByteArray).data.toList=[45]:=rfl;rw [es] at h1;simp only [es];clear es;obtain ⟨m,hm⟩:=nmQ (Ps.sees I [45] nx);rw [←hm] at h1 ⊢;obtain ⟨n0,hn0⟩:=nmQ (if m=true then nx+1 else nx);rw [←hn0] at h1;have hle0:nx≤n0:=by rw [hn0];split<;>omega
 have HM:=hide hm;have HN0:=hide hn0;have hmodel:Hid (Ps.size I nx=(Ps.term I m n0).bind fun t n1=>Ps.terms I 29 [t] n1):=by
  show Ps.size I nx=_
  unfold Ps.size;rw [←HM.out,←HN0.out]
 clear hm hn0;have z1:=a1.size;go_wp2_with fail;refine (term_any h1 m).mono ?_;rintro e w2 ⟨a2,hres⟩;have z2:=a2.size;have A2:=a1.trans a2 z1
 cases ht:Ps.term I m n0 with
 | err c a=>
  rw [ht] at hres;obtain rfl:e=_:=hres;exact ⟨rfl,Post.fail (by rw [hmodel.out,ht];rfl) A2⟩
 | ok t n1=>
  rw [ht] at hres;obtain ⟨le2,h2,_,rfl,rfl⟩:=hres;have hmodel2:Hid (Ps.size I nx=Ps.terms I 29 [t] n1):=by
   show Ps.size I nx=_
   rw [hmodel.out,ht];rfl
  have hlit:OwnL kTerm w.heap.size (w2.alloc (.cells #[.int .i64 t.1,.string t.2] 83 (0,0))) (.slice (some ⟨w2.heap.size,0,none⟩) 1 1) [t]:=OwnL.lit (T:=kTerm) (cs:=[.int .i64 t.1,.string t.2]) (by omega) rfl;have A3:=A2.alloc (by omega) (.cells #[.int .i64 t.1,.string t.2] 83 (0,0));have h3:=h2.alloc (.cells #[.int .i64 t.1,.string t.2] 83 (0,0));clear hmodel a1 a2 h1 A2 h2 ht;go_wp2;go_loopg [3,4] 29 (fun k v3 v4 wr=>∃ (n:Nat) (acc:List Tm) (m3:Bool),k+acc.length=30∧v3=.bool m3∧OwnL kTerm w.heap.size wr v4 acc∧Rd wr b g cap I.L I.len n op∧Aside [b] w.heap.size w wr∧nx≤n∧Hid (Ps.size I nx=Ps.terms I k acc n))
  case atStart=>exact ⟨n1,[t],m,rfl,rfl,hlit,h3,A3,by omega,hmodel2⟩
  case round=>
   obtain ⟨n,acc,m3,hk,rfl,hown,hr,hA,hle,hmod⟩:=hrel;obtain ⟨aa,cc,rfl,hc1,hc2⟩:=hown.form;unfold maxLen at hc2;have zr:=hA.size;go_wp2_with fail;refine (seesI hr ⟨#[43]⟩).mono ?_;rintro e w4 ⟨rfl,b4⟩;have es:(⟨#[43]⟩:ByteArray).data.toList=[43]:=rfl;simp only [es];clear es;have h4:=hr.below b4;have A4:=hA.trans (aside b4) hA.size;have own4:=hown.below b4
   cases hp:Ps.sees I [43] n with
   | true=>
    clear hr hA hown;have hcond:Ps.sees I [43] n=true∨Ps.sees I [45] n=true:=.inl hp;have hlt:n<I.L.length:=by rcases hcond with q | q<;>exact sees_lt q (by simp)
    by_cases hz:gk=0
    ·subst hz
     go_wp2_with fail;refine (allow_no h4 _ _ (by omega)).mono ?_;rintro e w5 ⟨rfl,b5⟩;exact ⟨rfl,Post.fail (by rw [hmod.out];exact terms_zero hcond acc) (A4.trans (aside b5) A4.size)⟩
    ·obtain ⟨f,rfl⟩:∃ f,gk=f+1:=⟨gk-1,by omega⟩
     have hstep:=hide (hmod.out.trans (terms_more hcond f acc));go_wp2_with fail;refine (allow_yes _ _ _ (by omega) _).mono ?_;rintro e w5 ⟨rfl,rfl⟩;go_wp2_with fail;refine (seesI h4 ⟨#[45]⟩).mono ?_;rintro e w5 ⟨rfl,b5⟩;have es:(⟨#[45]⟩:ByteArray).data.toList=[45]:=rfl;simp only [es];clear es;obtain ⟨mm,hmm⟩:=nmQ (Ps.sees I [45] n);rw [←hmm] at hstep ⊢;clear hmm;have h5:=h4.below b5;have A5:=A4.trans (aside b5) A4.size;have own5:=own4.below b5;go_wp2_with fail;refine (step_any h5 hlt).mono ?_;rintro e w6 ⟨rfl,h6,a6⟩;have A6:=A5.trans a6 A5.size;have own6:=own5.past a6 (by simp;omega);go_wp2_with fail;refine (term_any h6 mm).mono ?_;rintro e w7 ⟨a7,hres⟩;have A7:=A6.trans a7 A6.size;have own7:=own6.past a7 (by simp;omega);have z7:=A7.size
     cases ht:Ps.term I mm (n+1) with
     | err c a=>
      rw [ht] at hres;obtain rfl:e=_:=hres;exact ⟨rfl,Post.fail (by rw [hstep.out,ht];rfl) A7⟩
     | ok t2 n2=>
      rw [ht] at hres;obtain ⟨le7,h7,_,rfl,rfl⟩:=hres;have hmod2:Hid (Ps.size I nx=Ps.terms I f (acc++[t2]) n2):=by
       show Ps.size I nx=_
       rw [hstep.out,ht];rfl
      have hNb:=fun k hk=>(own7.lt k hk).2;clear hstep hmod ht a6 a7 b5 h5 h6 own5 own6 A5 A6 own4 h4 A4;have q1:kTerm.E (fun i=>w7.heap.size≤i) w7 [.int .i64 t2.1,.string t2.2] t2:=rfl;have q2:(acc.length+1)*kTerm.bytes≤140737488355328:=(by show (acc.length+1)*24≤_;omega);have q3:acc.length+1≤maxLen:=(by unfold maxLen;omega)
      go_wp2_with (at_builtin;refine wpList_more kTerm rfl _ _ 33 83 rfl Tryz.underlying33 w.heap.size w7.heap.size _ acc (by rfl) own7 [.int .i64 t2.1,.string t2.2] t2 q1 (by rfl) hNb z7 z7 q2 q3 ?_;intro v8 w8 own8 b8 _ _)
      go_wp2;go_roundg f
      case measure=>omega
      case rel=>exact ⟨n2,acc++[t2],mm,by simp;omega,rfl,own8,(h7.under b8 (by omega) (by omega)),A7.trans (aside b8) nR,by omega,hmod2⟩
   | false=>
    go_wp2_with fail;refine (seesI h4 ⟨#[45]⟩).mono ?_;rintro e w9 ⟨rfl,b9⟩;have es:(⟨#[45]⟩:ByteArray).data.toList=[45]:=rfl;simp only [es];clear es;have h9:=h4.below b9;have A9:=A4.trans (aside b9) A4.size;have own9:=own4.below b9;clear hr hA hown h4 A4 own4
    cases hq:Ps.sees I [45] n with
    | true=>
     have hcond:Ps.sees I [43] n=true∨Ps.sees I [45] n=true:=.inr hq;have hlt:n<I.L.length:=by rcases hcond with q | q<;>exact sees_lt q (by simp)
     by_cases hz:gk=0
     ·subst hz
      go_wp2_with fail;refine (allow_no h9 _ _ (by omega)).mono ?_;rintro e w5 ⟨rfl,b5⟩;exact ⟨rfl,Post.fail (by rw [hmod.out];exact terms_zero hcond acc) (A9.trans (aside b5) A9.size)⟩
     ·obtain ⟨f,rfl⟩:∃ f,gk=f+1:=⟨gk-1,by omega⟩
      have hstep:=hide (hmod.out.trans (terms_more hcond f acc));go_wp2_with fail;refine (allow_yes _ _ _ (by omega) _).mono ?_;rintro e w5 ⟨rfl,rfl⟩;go_wp2_with fail;refine (seesI h9 ⟨#[45]⟩).mono ?_;rintro e w5 ⟨rfl,b5⟩;have es:(⟨#[45]⟩:ByteArray).data.toList=[45]:=rfl;simp only [es];clear es;obtain ⟨mm,hmm⟩:=nmQ (Ps.sees I [45] n);rw [←hmm] at hstep ⊢;clear hmm;have h5:=h9.below b5;have A5:=A9.trans (aside b5) A9.size;have own5:=own9.below b5;go_wp2_with fail;refine (step_any h5 hlt).mono ?_;rintro e w6 ⟨rfl,h6,a6⟩;have A6:=A5.trans a6 A5.size;have own6:=own5.past a6 (by simp;omega);go_wp2_with fail;refine (term_any h6 mm).mono ?_;rintro e w7 ⟨a7,hres⟩;have A7:=A6.trans a7 A6.size;have own7:=own6.past a7 (by simp;omega);have z7:=A7.size
      cases ht:Ps.term I mm (n+1) with
      | err c a=>
       rw [ht] at hres;obtain rfl:e=_:=hres;exact ⟨rfl,Post.fail (by rw [hstep.out,ht];rfl) A7⟩
      | ok t2 n2=>
       rw [ht] at hres;obtain ⟨le7,h7,_,rfl,rfl⟩:=hres;have hmod2:Hid (Ps.size I nx=Ps.terms I f (acc++[t2]) n2):=by
        show Ps.size I nx=_
        rw [hstep.out,ht];rfl
       have hNb:=fun k hk=>(own7.lt k hk).2;clear hstep hmod ht a6 a7 b5 h5 h6 own5 own6 A5 A6 own9 h9 A9;have q1:kTerm.E (fun i=>w7.heap.size≤i) w7 [.int .i64 t2.1,.string t2.2] t2:=rfl;have q2:(acc.length+1)*kTerm.bytes≤140737488355328:=(by show (acc.length+1)*24≤_;omega);have q3:acc.length+1≤maxLen:=(by unfold maxLen;omega)
       go_wp2_with (at_builtin;refine wpList_more kTerm rfl _ _ 33 83 rfl Tryz.underlying33 w.heap.size w7.heap.size _ acc (by rfl) own7 [.int .i64 t2.1,.string t2.2] t2 q1 (by rfl) hNb z7 z7 q2 q3 ?_;intro v8 w8 own8 b8 _ _)
       go_wp2;go_roundg f
       case measure=>omega
       case rel=>exact ⟨n2,acc++[t2],mm,by simp;omega,rfl,own8,(h7.under b8 (by omega) (by omega)),A7.trans (aside b8) nR,by omega,hmod2⟩
    | false=>
     go_wp2;go_ret;exact Post.good (by rw [hmod.out];exact terms_stop hp hq gk acc) A9 hle h9 (terms_row own9.row)
end Go.Proofs.YtkfgbhlpjkkgfaaGreatDoor
