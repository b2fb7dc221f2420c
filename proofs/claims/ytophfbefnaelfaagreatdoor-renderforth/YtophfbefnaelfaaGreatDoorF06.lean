import Derived.Test.YtophfbefnaelfaaGreatDoorF05
import Derived.WalkLawsBesides
set_option linter.unusedVariables false
set_option linter.unusedSimpArgs false
set_option maxHeartbeats 64000000
set_option maxRecDepth 100000
namespace Go.Proofs.YtophfbefnaelfaaGreatDoor
open Go.RowKit Go.IntWalk
theorem Tryz.info9:(Tryz.prog.info? 9).map (fun i=>(i.zero,i.size,i.bytes))=some (some (.string ⟨#[]⟩),1,16):=by kernel_rfl
def upV (c a:Int):Value:=.iface 103 (.agg #[.int .i64 c,.int .i64 a])
def upE (c a:Int):Ending:=.panicked [{ v:=upV c a,recovered:=false }]
def Post {α:Type} (b g cap:Nat) (I:Inp) (op:Nat) (V:Nat→World→Value→α→Prop) (nx:Nat) (w:World) (res:Res α) (r:Ending) (w':World):Prop :=
 Aside [b] w.heap.size w w' ∧
 match res with
 | .ok v n1=>nx≤n1∧Rd w' b g cap I.L I.len n1 op∧∃ x,r=.returned x∧V w.heap.size w' x v
 | .err c a=>r=upE c a
theorem sees_lt {I:Inp} {s:List UInt8} {n:Nat} (h:Ps.sees I s n=true) (hs:s≠[]):n<I.L.length:=by
 apply Classical.byContradiction
 intro hn;unfold Ps.sees Inp.pk peekT at h;simp [hn] at h;exact hs h
theorem kind_lt {I:Inp} {n:Nat} (h:(I.pk n).kind≠0):n<I.L.length:=by
 apply Classical.byContradiction
 intro hn;unfold Inp.pk peekT at h;simp [hn] at h
theorem giveUp_any (c a:Int) (w:World):Calls Tryz.prog 120 #[.int .i64 c,.int .i64 a] w fun e w'=>e=upE c a∧w'=w:=by
 go_enter Tryz.func120,Tryz.ntmps120;go_wp2;exact ⟨rfl,rfl,rfl⟩
def noV:Nat→World→Value→Unit→Prop:=fun _ _ x _=>x=.tuple #[]
def strV:Nat→World→Value→ByteArray→Prop:=fun _ _ x s=>x=.string s
theorem refuse_any {w:World} {b g cap:Nat} {I:Inp} {nx op:Nat} (h:Rd w b g cap I.L I.len nx op) :
  Calls Tryz.prog 135 #[.pointer (some ⟨b,0,none⟩)] w fun e w'=>e=upE (Ps.refC I nx) (I.pk nx).place∧Below w.heap.size w w':=by
 have hp:=@peek_any _ _ _ _ _ _ _ _ h;unfold Ps.refC Inp.pk;obtain ⟨t,ht⟩:=nmQ (peekT I.L I.len nx);rw [←ht] at hp ⊢;unfold tokV at hp;clear ht;by_cases hk:t.kind=0
 ·rw [if_pos hk]
  rw [hk] at hp;go_enter Tryz.func135,Tryz.ntmps135;go_wp2_with fail;refine hp.mono ?_;rintro e w1 ⟨rfl,hb⟩;go_wp2_with fail;refine (giveUp_any _ _ _).mono ?_;rintro e w2 ⟨rfl,rfl⟩;exact ⟨rfl,rfl,hb.alloc hb.size _⟩
 ·rw [if_neg hk]
  have hkb:(t.kind==0)=false:=beq_eq_false_iff_ne.2 hk;go_enter Tryz.func135,Tryz.ntmps135;go_wp2_with fail;refine hp.mono ?_;rintro e w1 ⟨rfl,hb⟩;go_wp2_with fail;refine (giveUp_any _ _ _).mono ?_;rintro e w2 ⟨rfl,rfl⟩;exact ⟨rfl,rfl,hb.alloc hb.size _⟩
theorem allow_no {w:World} {b g cap:Nat} {I:Inp} {nx op:Nat} (h:Rd w b g cap I.L I.len nx op) (x y:Int) (hxy:y≤x) :
  Calls Tryz.prog 93 #[.pointer (some ⟨b,0,none⟩),.int .i64 x,.int .i64 y] w fun e w'=>e=upE 7 (I.pk nx).place∧Below w.heap.size w w':=by
 have hp:=@peek_any _ _ _ _ _ _ _ _ h;unfold Inp.pk;obtain ⟨t,ht⟩:=nmQ (peekT I.L I.len nx);rw [←ht] at hp ⊢;unfold tokV at hp;clear ht;have hf:=fun x w=>tokF1 t x w;go_enter Tryz.func93,Tryz.ntmps93;go_wp2_with fail;refine hp.mono ?_;rintro e w1 ⟨rfl,hb⟩;go_wp2_with fail;refine (giveUp_any _ _ _).mono ?_;rintro e w2 ⟨rfl,rfl⟩;exact ⟨rfl,rfl,hb⟩
theorem take_any {w:World} {b g cap:Nat} {I:Inp} {nx op:Nat} (h:Rd w b g cap I.L I.len nx op) (s:ByteArray) (hs:s.data.toList≠[]) :
  Calls Tryz.prog 115 #[.pointer (some ⟨b,0,none⟩),.string s] w fun e w'=>e=.returned (.bool (Ps.sees I s.data.toList nx))∧Rd w' b g cap I.L I.len (if Ps.sees I s.data.toList nx=true then nx+1 else nx) op∧Aside [b] w.heap.size w w':=by
 cases hq:Ps.sees I s.data.toList nx with
 | true=>simpa using take_yes h s hq (sees_lt hq hs)
 | false=>
  refine (take_no h s hq).mono ?_;rintro e w' ⟨rfl,hb⟩;exact ⟨rfl,by simpa using h.below hb,aside hb⟩
theorem need_any {w:World} {b g cap:Nat} {I:Inp} {nx op:Nat} (h:Rd w b g cap I.L I.len nx op) (s:ByteArray) (hs:s.data.toList≠[]) :
  Calls Tryz.prog 113 #[.pointer (some ⟨b,0,none⟩),.string s] w (Post b g cap I op noV nx w (Ps.need I s.data.toList nx)):=by
 unfold Ps.need
 cases hq:Ps.sees I s.data.toList nx with
 | true=>
  refine (need_yes h s hq (sees_lt hq hs)).mono ?_;rintro e w' ⟨rfl,h1,ha⟩;exact ⟨ha,Nat.le_succ _,h1,_,rfl,rfl⟩
 | false=>
  simp only [Bool.false_eq_true,if_false];have hp:=take_no h s hq;go_enter Tryz.func113,Tryz.ntmps113;go_wp2_with fail;refine hp.mono ?_;rintro e w1 ⟨rfl,hb⟩;go_wp2_with fail;refine (refuse_any (h.below hb)).mono ?_;rintro e w2 ⟨rfl,ha⟩;exact ⟨rfl,aside (hb.trans (ha.mono hb.size)),rfl⟩
theorem name_any {w:World} {b g cap:Nat} {I:Inp} {nx op:Nat} (h:Rd w b g cap I.L I.len nx op) :
  Calls Tryz.prog 114 #[.pointer (some ⟨b,0,none⟩)] w (Post b g cap I op strV nx w (Ps.name I nx)):=by
 unfold Ps.name;by_cases hk:(I.pk nx).kind=2
 ·rw [if_pos hk]
  refine (name_yes h hk (kind_lt (by rw [hk];decide))).mono ?_;rintro e w' ⟨rfl,h1,ha⟩;exact ⟨ha,Nat.le_succ _,h1,_,rfl,rfl⟩
 ·rw [if_neg hk]
  have hp:=@peek_any _ _ _ _ _ _ _ _ h;unfold Inp.pk at hk;obtain ⟨t,ht⟩:=nmQ (peekT I.L I.len nx);rw [←ht] at hp hk;unfold tokV at hp;have hkb:(t.kind==2)=false:=beq_eq_false_iff_ne.2 hk;clear ht;go_enter Tryz.func114,Tryz.ntmps114;go_wp2_with fail;refine hp.mono ?_;rintro e w1 ⟨rfl,hb⟩;go_wp2_with fail;refine (refuse_any ((h.below hb).alloc _)).mono ?_;rintro e w2 ⟨rfl,ha⟩;exact ⟨rfl,aside ((hb.alloc hb.size _).trans (ha.mono (by simp;exact Nat.le_trans hb.size (Nat.le_succ _)))),rfl⟩
def tmV:Nat→World→Value→Tm→Prop:=fun _ _ x t=>x=.agg #[.int .i64 t.1,.string t.2]
theorem Post.fail {α:Type} {b g cap:Nat} {I:Inp} {op:Nat} {V:Nat→World→Value→α→Prop} {nx:Nat} {w:World} {res:Res α} {w':World} {c a:Nat} (h:res=.err c a) (hA:Aside [b] w.heap.size w w'):Post b g cap I op V nx w res (upE c a) w':=by
 subst h;exact ⟨hA,rfl⟩
theorem Post.good {α:Type} {b g cap:Nat} {I:Inp} {op:Nat} {V:Nat→World→Value→α→Prop} {nx:Nat} {w:World} {res:Res α} {w':World} {v:α} {n1:Nat} {x:Value} (h:res=.ok v n1) (hA:Aside [b] w.heap.size w w') (hn:nx≤n1) (hR:Rd w' b g cap I.L I.len n1 op) (hV:V w.heap.size w' x v):Post b g cap I op V nx w res (.returned x) w':=by
 subst h;exact ⟨hA,hn,hR,x,rfl,hV⟩
theorem Post.aside {α:Type} {b g cap:Nat} {I:Inp} {op:Nat} {V:Nat→World→Value→α→Prop} {nx:Nat} {w:World} {res:Res α} {r:Ending} {w':World} (h:Post b g cap I op V nx w res r w'):Aside [b] w.heap.size w w':=h.1
theorem term_any {w:World} {b g cap:Nat} {I:Inp} {nx op:Nat} (h:Rd w b g cap I.L I.len nx op) (minus:Bool) :
  Calls Tryz.prog 152 #[.pointer (some ⟨b,0,none⟩),.bool minus] w (Post b g cap I op tmV nx w (Ps.term I minus nx)):=by
 have hb:=h.bb;have hg:=h.gb;obtain ⟨W,hW⟩:=nmQ ((w.alloc (.cells #[.int .i64 0,.string ⟨#[]⟩] 86 (0,0))).alloc (.cells #[.int .i64 1,.string ⟨#[]⟩] 86 (0,0)));have zW:W.heap.size=w.heap.size+1+1:=(by rw [hW];simp);have bW:Below w.heap.size w W:=(by rw [hW];exact ((Below.refl _ w).alloc nR _).alloc (by simp) _);have hA0:W.heap[w.heap.size]?=some (.cells #[.int .i64 0,.string ⟨#[]⟩] 86 (0,0)):=(by rw [hW];exact kA (heap_new w _) _);have hT0:W.heap[w.heap.size+1]?=some (.cells #[.int .i64 1,.string ⟨#[]⟩] 86 (0,0)):=by
  have:=heap_new (w.alloc (.cells #[.int .i64 0,.string ⟨#[]⟩] 86 (0,0))) (.cells #[.int .i64 1,.string ⟨#[]⟩] 86 (0,0));have e:(w.alloc (.cells #[.int .i64 0,.string ⟨#[]⟩] 86 (0,0))).heap.size=w.heap.size+1:=(by simp);rw [e] at this;rw [hW];exact this
 have hRW:Rd W b g cap I.L I.len nx op:=h.below bW;have hp:=@peek_any _ _ _ _ _ _ _ _ hRW;obtain ⟨t,ht⟩:=nmQ (I.pk nx);have hpk:peekT I.L I.len nx=t:=ht.symm;rw [hpk] at hp;unfold tokV at hp;have HT:=hide ht;clear hpk ht;by_cases hk:t.kind=3
 ·have hlt:nx<I.L.length:=kind_lt (by rw [←HT.out,hk];decide)
  rw [hk] at hp;go_enter Tryz.func152,Tryz.ntmps152;go_wp2_with fail;rw [←hW];refine hp.mono ?_;rintro e w1 ⟨rfl,b1⟩;have z1:=b1.size;go_wp2_with fail;refine (step_any ((hRW.below b1).alloc _) hlt).mono ?_;rintro e w2 ⟨rfl,h2,a2⟩;have z2:w1.heap.size+1≤w2.heap.size:=(by simpa using a2.size);have hN2:=a2.keep (heap_new w1 _) (by simp) (by simp;omega);have hA2:=a2.keep (kA ((aside b1 (S:=[])).keep hA0 (lt_of hA0) (by simp)) _) (by simp;omega) (by simp;omega);have hT2:=a2.keep (kA ((aside b1 (S:=[])).keep hT0 (lt_of hT0) (by simp)) _) (by simp;omega) (by simp;omega);have S2:Aside [b] w.heap.size w w2:=(aside ((bW.trans (b1.mono (by omega))).alloc (by omega) _)).trans a2 (by simp;omega);have n3:=co hN2 3;have t0:=co hT2 0;have f0:=fo hT2 0;simp at n3 t0;go_wp2_with fail;have hT:=set_in hT2 0 (.int .i64 t.n);have hA:=keep_set hA2 (p:=⟨w.heap.size+1,0,none⟩) (by simp) (.int .i64 t.n);have hR:=h2.set (p:=⟨w.heap.size+1,0,none⟩) (by simp;omega) (by simp;omega) (.int .i64 t.n);have hS:=S2.set (p:=⟨w.heap.size+1,0,none⟩) (by simp) (.int .i64 t.n);simp at hT;have z3:(w2.setCell ⟨w.heap.size+1,0,none⟩ (.int .i64 t.n)).heap.size=w2.heap.size:=(by simp [World.setCell]);generalize w2.setCell ⟨w.heap.size+1,0,none⟩ (.int .i64 t.n)=w3 at hT hA hR hS z3 ⊢;clear hN2 hA2 hT2 S2 h2 a2 n3 t0 f0 hA0 hT0;refine (take_any hR ⟨#[42]⟩ (by decide)).mono ?_;rintro e w4 ⟨rfl,h4,a4⟩;have z4:=a4.size;have hA4:=a4.keep hA (by omega) (by simp;omega);have hT4:=a4.keep hT (by omega) (by simp;omega);have hS4:=hS.trans a4 (by omega);clear hA hT hS hR;have es:(⟨#[42]⟩:ByteArray).data.toList=[42]:=rfl;rw [es] at h4;simp only [es];clear es
  cases hq:Ps.sees I [42] (nx+1) with
  | false=>
   rw [hq] at h4;simp only [Bool.false_eq_true,if_false] at h4;have hA:=hA4;have hT:=hT4;have hR:=h4;have hS:=hS4;clear hA4 hT4 h4 hS4
   cases minus
   ·have t0:=co hT 0
    have t1:=co hT 1;have c0:=co hA 0;have c1:=co hA 1;have fA:=fun o=>fo hA o;have fT:=fun o=>fo hT o;simp at t0 t1 c0 c1;go_wp2;refine bodyPost_ret (v:=.agg #[.int .i64 (t.n),.string (⟨#[]⟩:ByteArray)]) (by simp [results,Tryz.results152,go_sem,c0,c1]) rfl ?_;exact Post.good (v:=(t.n,(⟨#[]⟩:ByteArray))) (by unfold Ps.term;rw [←HT.out,if_pos hk,hq];simp [Ps.sg]) (((hS).set (by simp) _).set (by simp) _) (by omega) (((hR).set (by simp;omega) (by simp;omega) _).set (by simp;omega) (by simp;omega) _) rfl
   ·have t0:=co hT 0
    have t1:=co hT 1;have c0:=co hA 0;have c1:=co hA 1;have fA:=fun o=>fo hA o;have fT:=fun o=>fo hT o;simp at t0 t1 c0 c1;go_wp2;refine bodyPost_ret (v:=.agg #[.int .i64 (wrap64 (-(t.n))),.string (⟨#[]⟩:ByteArray)]) (by simp [results,Tryz.results152,go_sem,c0,c1]) rfl ?_;exact Post.good (v:=(wrap64 (-(t.n)),(⟨#[]⟩:ByteArray))) (by unfold Ps.term;rw [←HT.out,if_pos hk,hq];simp [Ps.sg]) ((((hS).set (by simp) _).set (by simp) _).set (by simp) _) (by omega) ((((hR).set (by simp;omega) (by simp;omega) _).set (by simp;omega) (by simp;omega) _).set (by simp;omega) (by simp;omega) _) rfl
  | true=>
   rw [hq] at h4;simp only [if_true] at h4;go_wp2_with fail;refine (name_any h4).mono ?_;rintro e w5 ⟨a5,hres⟩;have hS:=hS4.trans a5 (by omega);have z5:=a5.size;have hA:=a5.keep hA4 (by omega) (by simp;omega);have hT5:=a5.keep hT4 (by omega) (by simp;omega);clear hA4 hT4 hS4 h4
   cases hn:Ps.name I (nx+1+1) with
   | err c a=>
    rw [hn] at hres;obtain rfl:e=_:=hres;exact ⟨rfl,Post.fail (by unfold Ps.term;rw [←HT.out,if_pos hk,hq];simp [hn,Res.bind]) hS⟩
   | ok s n1=>
    rw [hn] at hres;obtain ⟨le5,hR5,_,rfl,rfl⟩:=hres;have hT:=hT5;have hR:=hR5;clear hT5 hR5
    cases minus
    ·have t0:=co hT 0
     have t1:=co hT 1;have c0:=co hA 0;have c1:=co hA 1;have fA:=fun o=>fo hA o;have fT:=fun o=>fo hT o;simp at t0 t1 c0 c1;go_wp2;refine bodyPost_ret (v:=.agg #[.int .i64 (t.n),.string s]) (by simp [results,Tryz.results152,go_sem,c0,c1]) rfl ?_;exact Post.good (v:=(t.n,s)) (by unfold Ps.term;rw [←HT.out,if_pos hk,hq];simp [Ps.sg,hn,Res.bind]) ((((hS).set (by simp) _).set (by simp) _).set (by simp) _) (by omega) ((((hR).set (by simp;omega) (by simp;omega) _).set (by simp;omega) (by simp;omega) _).set (by simp;omega) (by simp;omega) _) rfl
    ·have t0:=co hT 0
     have t1:=co hT 1;have c0:=co hA 0;have c1:=co hA 1;have fA:=fun o=>fo hA o;have fT:=fun o=>fo hT o;simp at t0 t1 c0 c1;go_wp2;refine bodyPost_ret (v:=.agg #[.int .i64 (wrap64 (-(t.n))),.string s]) (by simp [results,Tryz.results152,go_sem,c0,c1]) rfl ?_;exact Post.good (v:=(wrap64 (-(t.n)),s)) (by unfold Ps.term;rw [←HT.out,if_pos hk,hq];simp [Ps.sg,hn,Res.bind]) (((((hS).set (by simp) _).set (by simp) _).set (by simp) _).set (by simp) _) (by omega) (((((hR).set (by simp;omega) (by simp;omega) _).set (by simp;omega) (by simp;omega) _).set (by simp;omega) (by simp;omega) _).set (by simp;omega) (by simp;omega) _) rfl
 ·have hkb:(t.kind==3)=false:=beq_eq_false_iff_ne.2 hk
  go_enter Tryz.func152,Tryz.ntmps152;go_wp2_with fail;rw [←hW];refine hp.mono ?_;rintro e w1 ⟨rfl,b1⟩;have z1:=b1.size;go_wp2_with fail;refine (name_any ((hRW.below b1).alloc _)).mono ?_;rintro e w5 ⟨a5,hres⟩;have z5:w1.heap.size+1≤w5.heap.size:=(by simpa using a5.size);have hA:=a5.keep (kA ((aside b1 (S:=[])).keep hA0 (lt_of hA0) (by simp)) _) (by simp;omega) (by simp;omega);have hT5:=a5.keep (kA ((aside b1 (S:=[])).keep hT0 (lt_of hT0) (by simp)) _) (by simp;omega) (by simp;omega);have hS:Aside [b] w.heap.size w w5:=(aside ((bW.trans (b1.mono (by omega))).alloc (by omega) _)).trans a5 (by simp;omega)
  cases hn:Ps.name I nx with
  | err c a=>
   rw [hn] at hres;obtain rfl:e=_:=hres;exact ⟨rfl,Post.fail (by unfold Ps.term;rw [←HT.out,if_neg hk];simp [hn,Res.bind]) hS⟩
  | ok s n1=>
   rw [hn] at hres;obtain ⟨le5,hR5,_,rfl,rfl⟩:=hres;have hT:=hT5;have hR:=hR5;clear hT5 hR5
   cases minus
   ·have t0:=co hT 0
    have t1:=co hT 1;have c0:=co hA 0;have c1:=co hA 1;have fA:=fun o=>fo hA o;have fT:=fun o=>fo hT o;simp at t0 t1 c0 c1;go_wp2;refine bodyPost_ret (v:=.agg #[.int .i64 (1),.string s]) (by simp [results,Tryz.results152,go_sem,c0,c1]) rfl ?_;exact Post.good (v:=(1,s)) (by unfold Ps.term;rw [←HT.out,if_neg hk];simp [Ps.sg,hn,Res.bind]) ((((hS).set (by simp) _).set (by simp) _).set (by simp) _) (by omega) ((((hR).set (by simp;omega) (by simp;omega) _).set (by simp;omega) (by simp;omega) _).set (by simp;omega) (by simp;omega) _) rfl
   ·have t0:=co hT 0
    have t1:=co hT 1;have c0:=co hA 0;have c1:=co hA 1;have fA:=fun o=>fo hA o;have fT:=fun o=>fo hT o;simp at t0 t1 c0 c1;go_wp2;refine bodyPost_ret (v:=.agg #[.int .i64 (-1),.string s]) (by simp [results,Tryz.results152,go_sem,c0,c1]) rfl ?_;exact Post.good (v:=(-1,s)) (by unfold Ps.term;rw [←HT.out,if_neg hk];simp [Ps.sg,hn,Res.bind];unfold wrap64;omega) (((((hS).set (by simp) _).set (by simp) _).set (by simp) _).set (by simp) _) (by omega) (((((hR).set (by simp;omega) (by simp;omega) _).set (by simp;omega) (by simp;omega) _).set (by simp;omega) (by simp;omega) _).set (by simp;omega) (by simp;omega) _) rfl
end Go.Proofs.YtophfbefnaelfaaGreatDoor
