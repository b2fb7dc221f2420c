import Derived.Test.YtophfbefnaelfaaGreatDoorM09
import Derived.Deep.DeepCutAuto
set_option linter.unusedVariables false
set_option linter.unusedSimpArgs false
set_option maxHeartbeats 64000000
set_option maxRecDepth 100000
namespace Go.Proofs.YtophfbefnaelfaaGreatDoor
open Go.RowKit Go.IntWalk
theorem HNames.wide {ok ok':Nat→Prop} {w:World} {v:Value} {l:List ByteArray} (h:HNames ok w v l) (hk:∀ i,ok i→i<w.heap.size→ok' i):HNames ok' w v l:=by
 obtain ⟨C,h1,h2⟩:=h;exact ⟨C,h1.wide hk,h2⟩
theorem HDes.wide {ok ok':Nat→Prop} {w:World} {v:Value} {l:List De} (h:HDes ok w v l) (hk:∀ i,ok i→i<w.heap.size→ok' i):HDes ok' w v l:=by
 obtain ⟨C,h1,h2⟩:=h;refine ⟨C,h1.wide hk,fun i hi=>?_⟩;obtain ⟨u,e,ht⟩:=h2 i hi;exact ⟨u,e,ht.wide hk⟩
theorem HNames.set {ok:Nat→Prop} {w:World} {v:Value} {l:List ByteArray} (h:HNames ok w v l) {p:Addr} (hp:¬ok p.block) (u:Value):HNames ok (w.setCell p u) v l :=
 h.keep (by simp [World.setCell]) fun i hi hl=>Below.heap_setCell _ _ _ _ (fun e=>hp (e ▸ hi))
theorem HDes.set {ok:Nat→Prop} {w:World} {v:Value} {l:List De} (h:HDes ok w v l) {p:Addr} (hp:¬ok p.block) (u:Value):HDes ok (w.setCell p u) v l :=
 h.keep (by simp [World.setCell]) fun i hi hl=>Below.heap_setCell _ _ _ _ (fun e=>hp (e ▸ hi))
theorem Tryz.infoEq:(Tryz.prog.info? 49).map (fun i=>(i.zero,i.size,i.bytes))=some (some (.agg #[.int .i64 0,.slice none 0 0,.string ⟨#[]⟩,.slice none 0 0,.slice none 0 0]),5,96):=by kernel_rfl
theorem Tryz.info43:(Tryz.prog.info? 43).map (fun i=>(i.zero,i.size,i.bytes))=some (some (.agg #[.string ⟨#[]⟩,.int .i64 0,.slice none 0 0,.slice none 0 0,.slice none 0 0,.slice none 0 0,.slice none 0 0]),7,144):=by kernel_rfl
theorem newAt (w:World) (cs:Array Value) (t:TypeId):∀ j u,cs.toList[j]?=some u→(w.alloc (.cells cs t (0,0))).cell? ((⟨w.heap.size,0,none⟩:Addr).add j)=some u:=by
 intro j u hj;have hn:=heap_new w (.cells cs t (0,0));have adds:(⟨w.heap.size,0,none⟩:Addr).add j=⟨w.heap.size,j,none⟩:=by unfold Addr.add;split<;>simp_all
 rw [adds,co hn]
 simpa using hj
theorem owns_form {w:World} {base:Nat} {e:TypeId} {size:Nat} {v:Value} {n:Nat} {xs:List Value} (h:w.ownsRow base e size v n xs):∃ a m c,v=.slice a m c:=by
 rcases h.2 with ⟨rfl,_⟩ | ⟨g,cap,cur,rfl,_⟩
 ·exact ⟨none,0,0,rfl⟩
 ·exact ⟨_,_,_,rfl⟩
theorem HEq.wide {ok ok':Nat→Prop} {w:World} {x:EqV} {q:Eqn} (h:HEq ok w x q) (hk:∀ i,ok i→i<w.heap.size→ok' i):HEq ok' w x q :=
 ⟨h.place,h.names.wide hk,h.node,h.S.wide hk,h.E.wide hk⟩
theorem HEqs.wide {ok ok':Nat→Prop} {w:World} {v:Value} {l:List Eqn} (h:HEqs ok w v l) (hk:∀ i,ok i→i<w.heap.size→ok' i):HEqs ok' w v l:=by
 obtain ⟨C,h1,h2⟩:=h;refine ⟨C,h1.wide hk,fun i hi=>?_⟩;obtain ⟨x,e,hx⟩:=h2 i hi;exact ⟨x,e,hx.wide hk⟩
theorem HEqs.set {ok:Nat→Prop} {w:World} {v:Value} {l:List Eqn} (h:HEqs ok w v l) {p:Addr} (hp:¬ok p.block) (u:Value):HEqs ok (w.setCell p u) v l :=
 h.keep (by simp [World.setCell]) fun i hi hl=>Below.heap_setCell _ _ _ _ (fun e=>hp (e ▸ hi))
theorem HNd.wide {ok ok':Nat→Prop} {w:World} {x:NdV} {n:Nd} (h:HNd ok w x n) (hk:∀ i,ok i→i<w.heap.size→ok' i):HNd ok' w x n :=
 ⟨h.name,h.place,h.sizes.wide hk,h.inn.wide hk,h.out.wide hk,h.loc.wide hk,h.eqs.wide hk⟩
theorem HNd.set {ok:Nat→Prop} {w:World} {x:NdV} {n:Nd} (h:HNd ok w x n) {p:Addr} (hp:¬ok p.block) (u:Value):HNd ok (w.setCell p u) x n :=
 h.keep (by simp [World.setCell]) fun i hi hl=>Below.heap_setCell _ _ _ _ (fun e=>hp (e ▸ hi))
theorem copyProgram_any {ok:Nat→Prop} {w:World} {ao:Option Addr} {n cap:Nat} {l:List Nd} (hl:HNds ok w (.slice ao n cap) l) (hM:FitP l) :
  Calls Tryz.prog 11 #[.agg #[.slice ao n cap]] w fun e w'=>∃ a m c,e=.returned (.agg #[.slice a m c])∧HNds (fun i=>w.heap.size≤i) w' (.slice a m c) l∧Below w.heap.size w w':=by
 obtain ⟨q1,q2,hv,hc1,hc2,hat⟩:=hl.at;injection hv with u1 u2 u3;have HN:=hide u2;rw [←u1] at hat;rw [←u2,←u3] at hc1;rw [←u3] at hc2;clear u1 u2 u3 hl;unfold maxLen at hc2;have HM:=hide hM.2;have hM1:=hM.1;rw [←HN.out] at hM1;clear hM;obtain ⟨i1,hi1,hy0,hy1,hy2⟩:=info_parts Tryz.infoEq;obtain ⟨i2,hi2,hx0,hx1,hx2⟩:=info_parts Tryz.info43;obtain ⟨W,hW⟩:=nmQ (((w.alloc (.cells #[.slice ao n cap] 24 (0,0))).alloc (.cells #[.slice none 0 0] 24 (0,0))).alloc (.cells #[.slice none 0 0] 24 (0,0)));have zW:W.heap.size=w.heap.size+1+1+1:=(by rw [hW];simp);have bW:Below w.heap.size w W:=(by rw [hW];exact (((Below.refl _ w).alloc nR _).alloc (by simp) _).alloc (by simp;omega) _);have pW:W.heap[w.heap.size]?=some (.cells #[.slice ao n cap] 24 (0,0)):=(by rw [hW];exact kA (kA (heap_new w _) _) _);have rW:W.heap[w.heap.size+1]?=some (.cells #[.slice none 0 0] 24 (0,0)):=by
  have:=heap_new (w.alloc (.cells #[.slice ao n cap] 24 (0,0))) (.cells #[.slice none 0 0] 24 (0,0));have e:(w.alloc (.cells #[.slice ao n cap] 24 (0,0))).heap.size=w.heap.size+1:=(by simp);rw [e] at this;rw [hW];exact kA this _
 have oW:W.heap[w.heap.size+1+1]?=some (.cells #[.slice none 0 0] 24 (0,0)):=by
  have:=heap_new ((w.alloc (.cells #[.slice ao n cap] 24 (0,0))).alloc (.cells #[.slice none 0 0] 24 (0,0))) (.cells #[.slice none 0 0] 24 (0,0));have e:((w.alloc (.cells #[.slice ao n cap] 24 (0,0))).alloc (.cells #[.slice none 0 0] 24 (0,0))).heap.size=w.heap.size+1+1:=(by simp);rw [e] at this;rw [hW];exact this
 go_enter Tryz.func11,Tryz.ntmps11;go_wp2;rw [←hW];clear hW;go_loopg [4] n (fun k v wr=>∃ (i:Nat) (D:Nat→List Value) (v3:Value),i≤n∧k=n-i∧v=.int .i64 (i:Nat)∧wr.heap[w.heap.size]?=some (.cells #[.slice ao n cap] 24 (0,0))∧wr.heap[w.heap.size+1]?=some (.cells #[.slice none 0 0] 24 (0,0))∧wr.heap[w.heap.size+1+1]?=some (.cells #[v3] 24 (0,0)) ∧
   wr.ownsRow W.heap.size 43 7 v3 i (flat D i)∧Hid (∀ j (h:j<l.length),j<i→∃ x:NdV,D j=x.cells∧HNd (Off W.heap.size v3) wr x l[j])∧Below w.heap.size w wr∧W.heap.size≤wr.heap.size)
 case atStart=>exact ⟨0,fun _=>[],.slice none 0 0,Nat.zero_le _,rfl,rfl,pW,rW,oW,World.ownsRow_nil _ _ _ _,fun j _ h=>absurd h (Nat.not_lt_zero _),bW,Nat.le_refl _⟩
 case round=>
  obtain ⟨i,D,v3,hile,rfl,rfl,pr,rr,orr,hown,H,hbw,zr⟩:=hrel;obtain ⟨wo,hwo⟩:=nmQ (wr);subst hwo;have pr0:=co pr 0;simp at pr0;by_cases hlt:i<n
  ·have hil:i<l.length:=by have:=HN.out;omega
   obtain ⟨b,o,x,rfl,hb,hxa,hx⟩:=hat i hil;obtain ⟨d0,d1,d2,d3,d4,d5,d6⟩:=hxa.keep (hbw.block b hb);obtain ⟨g0,g1,s2,s3,s4,s5,s6⟩:=hx.under hbw;obtain ⟨f2,f3,f4,f5,f6,f7⟩:=HM.out i hil;have G0:=hide g0;have G1:=hide g1;clear hat hxa hx g0 g1;have B0:Below wo.heap.size wo (wo.alloc (.cells #[.string x.name,.int .i64 x.place,.slice x.a2 x.n2 x.c2,.slice x.a3 x.n3 x.c3,.slice x.a4 x.n4 x.c4,.slice x.a5 x.n5 x.c5,.slice x.a6 x.n6 x.c6] 43 (0,0))).drew:=((Below.refl _ wo).alloc nR _).drew;have K0:(wo.alloc (.cells #[.string x.name,.int .i64 x.place,.slice x.a2 x.n2 x.c2,.slice x.a3 x.n3 x.c3,.slice x.a4 x.n4 x.c4,.slice x.a5 x.n5 x.c5,.slice x.a6 x.n6 x.c6] 43 (0,0))).drew.heap[wo.heap.size]?=some (.cells #[.string x.name,.int .i64 x.place,.slice x.a2 x.n2 x.c2,.slice x.a3 x.n3 x.c3,.slice x.a4 x.n4 x.c4,.slice x.a5 x.n5 x.c5,.slice x.a6 x.n6 x.c6] 43 (0,0)):=heap_new wo _;have E0:(wo.alloc (.cells #[.string x.name,.int .i64 x.place,.slice x.a2 x.n2 x.c2,.slice x.a3 x.n3 x.c3,.slice x.a4 x.n4 x.c4,.slice x.a5 x.n5 x.c5,.slice x.a6 x.n6 x.c6] 43 (0,0))).drew.heap.size=wo.heap.size+1:=(by show (wo.alloc _).heap.size=_;simp);go_upto_region 6 with fail;go_cut [23] (fun _ wc=>∃ a2 n2 c2 a3 n3 c3 a4 n4 c4 a5 n5 c5,wc.heap[wo.heap.size]?=some (.cells #[.string x.name,.int .i64 x.place,.slice a2 n2 c2,.slice a3 n3 c3,.slice a4 n4 c4,.slice a5 n5 c5,.slice x.a6 x.n6 x.c6] 43 (0,0))∧HNames (fun k=>wo.heap.size<k) wc (.slice a2 n2 c2) l[i].sizes∧HDes (fun k=>wo.heap.size<k) wc (.slice a3 n3 c3) l[i].inn∧HDes (fun k=>wo.heap.size<k) wc (.slice a4 n4 c4) l[i].out∧HDes (fun k=>wo.heap.size<k) wc (.slice a5 n5 c5) l[i].loc∧Below wo.heap.size wo wc)
   case first=>
    refine wp_region_late (fun w'=>w'.cell? ⟨wo.heap.size,2,none⟩=some (.slice x.a2 x.n2 x.c2)∧w'.cell? ⟨wo.heap.size,3,none⟩=some (.slice x.a3 x.n3 x.c3)∧w'.cell? ⟨wo.heap.size,4,none⟩=some (.slice x.a4 x.n4 x.c4)∧w'.cell? ⟨wo.heap.size,5,none⟩=some (.slice x.a5 x.n5 x.c5)) (fun j=>decide (12<j)) (by kernel_rfl) ?_;generalize (wo.alloc (.cells #[.string x.name,.int .i64 x.place,.slice x.a2 x.n2 x.c2,.slice x.a3 x.n3 x.c3,.slice x.a4 x.n4 x.c4,.slice x.a5 x.n5 x.c5,.slice x.a6 x.n6 x.c6] 43 (0,0))).drew=WA at B0 K0 E0 ⊢;have L2:=co K0 2;have L3:=co K0 3;have L4:=co K0 4;have L5:=co K0 5;simp at L2 L3 L4 L5;have hH:=And.intro L2 (And.intro L3 (And.intro L4 L5));clear d0 d1 d2 d3 d4 d5 d6 pr rr orr pr0;refine' wpAnyL_take (i:=0) (v:=_) rfl (by kernel_rfl) (by kernel_rfl) (by kernel_rfl) (by kernel_rfl) (fun _ _ _ h=>h) hH (by rfl) ?hyv ?o1
    case hyv=>
     intro wz hSw;obtain ⟨c2,c3,c4,c5⟩:=hSw;go_simp
     try rfl
    try simp only [Act.put,sT,sZ,sS]
    refine' wpAnyL_take (i:=1) (v:=_) rfl (by kernel_rfl) (by kernel_rfl) (by kernel_rfl) (by kernel_rfl) (fun _ _ _ h=>h) hH (by rfl) ?hyv ?o2
    case hyv=>
     intro wz hSw;obtain ⟨c2,c3,c4,c5⟩:=hSw;go_simp
     try rfl
    try simp only [Act.put,sT,sZ,sS]
    refine' wpAnyL_take (i:=3) (v:=_) rfl (by kernel_rfl) (by kernel_rfl) (by kernel_rfl) (by kernel_rfl) (fun _ _ _ h=>h) hH (by rfl) ?hyv ?o3
    case hyv=>
     intro wz hSw;obtain ⟨c2,c3,c4,c5⟩:=hSw;go_simp
     try rfl
    try simp only [Act.put,sT,sZ,sS]
    refine' wpAnyL_take (i:=4) (v:=_) rfl (by kernel_rfl) (by kernel_rfl) (by kernel_rfl) (by kernel_rfl) (fun _ _ _ h=>h) hH (by rfl) ?hyv ?o4
    case hyv=>
     intro wz hSw;obtain ⟨c2,c3,c4,c5⟩:=hSw;go_simp
     try rfl
    try simp only [Act.put,sT,sZ,sS]
    refine' wpAnyL_take (i:=6) (v:=_) rfl (by kernel_rfl) (by kernel_rfl) (by kernel_rfl) (by kernel_rfl) (fun _ _ _ h=>h) hH (by rfl) ?hyv ?o5
    case hyv=>
     intro wz hSw;obtain ⟨c2,c3,c4,c5⟩:=hSw;go_simp
     try rfl
    try simp only [Act.put,sT,sZ,sS]
    refine' wpAnyL_take (i:=7) (v:=_) rfl (by kernel_rfl) (by kernel_rfl) (by kernel_rfl) (by kernel_rfl) (fun _ _ _ h=>h) hH (by rfl) ?hyv ?o6
    case hyv=>
     intro wz hSw;obtain ⟨c2,c3,c4,c5⟩:=hSw;go_simp
     try rfl
    try simp only [Act.put,sT,sZ,sS]
    refine' wpAnyL_take (i:=9) (v:=_) rfl (by kernel_rfl) (by kernel_rfl) (by kernel_rfl) (by kernel_rfl) (fun _ _ _ h=>h) hH (by rfl) ?hyv ?o7
    case hyv=>
     intro wz hSw;obtain ⟨c2,c3,c4,c5⟩:=hSw;go_simp
     try rfl
    try simp only [Act.put,sT,sZ,sS]
    refine' wpAnyL_take (i:=10) (v:=_) rfl (by kernel_rfl) (by kernel_rfl) (by kernel_rfl) (by kernel_rfl) (fun _ _ _ h=>h) hH (by rfl) ?hyv ?o8
    case hyv=>
     intro wz hSw;obtain ⟨c2,c3,c4,c5⟩:=hSw;go_simp
     try rfl
    try simp only [Act.put,sT,sZ,sS]
    refine wpAnyL_one (i:=2) rfl (by kernel_rfl) (by rfl) (fun K hK=>?_);go_simp;refine (copyNames_any (s2.under B0) f2).mono ?_;rintro e w1 ⟨a2,n2,c2,rfl,h2,b1⟩;have B1:=B0.trans (b1.mono (by rw [E0];exact Nat.le_succ _));have K1:=(aside b1 (S:=[])).keep K0 (lt_of K0) (by simp);have Z1:wo.heap.size+1≤w1.heap.size:=Nat.le_trans (Nat.le_of_eq E0.symm) b1.size;have H2:=h2.wide (ok':=fun k=>wo.heap.size<k) (fun k hk _=>Nat.lt_of_lt_of_le (Nat.lt_succ_self _) (Nat.le_trans (Nat.le_of_eq E0.symm) hk));clear h2 b1 hH L2 L3 L4 L5;have L2:=co K1 2;have L3:=co K1 3;have L4:=co K1 4;have L5:=co K1 5;simp at L2 L3 L4 L5;have hH:=And.intro L2 (And.intro L3 (And.intro L4 L5));refine hK.out _ _ (fun _=>hH) ?_;clear hK K
    try simp only [Act.put,sT,sZ,sS]
    refine' wpAnyL_take (i:=12) (v:=_) rfl (by kernel_rfl) (by kernel_rfl) (by kernel_rfl) (by kernel_rfl) (fun _ _ _ h=>h) hH (by rfl) ?hyv ?o9
    case hyv=>
     intro wz hSw;obtain ⟨c2,c3,c4,c5⟩:=hSw;go_simp
     try rfl
    try simp only [Act.put,sT,sZ,sS]
    refine wpAnyL_one (i:=5) rfl (by kernel_rfl) (by rfl) (fun K hK=>?_);go_simp;refine (copyDecls_any (s3.under B1) f3).mono ?_;rintro e w2 ⟨a3,n3,c3,rfl,h3,b2⟩;have B2:=B1.trans (b2.mono B1.size);have K2:=(aside b2 (S:=[])).keep K1 (lt_of K1) (by simp);have Z2:=b2.size;have H22:=H2.under b2;have H3:=h3.wide (ok':=fun k=>wo.heap.size<k) (fun k hk _=>by omega);clear h3 b2 H2 hH L2 L3 L4 L5;have L2:=co K2 2;have L3:=co K2 3;have L4:=co K2 4;have L5:=co K2 5;simp at L2 L3 L4 L5;have hH:=And.intro L2 (And.intro L3 (And.intro L4 L5));refine hK.out _ _ (fun _=>hH) ?_;clear hK K
    try simp only [Act.put,sT,sZ,sS]
    refine wpAnyL_one (i:=8) rfl (by kernel_rfl) (by rfl) (fun K hK=>?_);go_simp;refine (copyDecls_any (s4.under B2) f4).mono ?_;rintro e w3 ⟨a4,n4,c4,rfl,h4,b3⟩;have B3:=B2.trans (b3.mono B2.size);have K3:=(aside b3 (S:=[])).keep K2 (lt_of K2) (by simp);have Z3:=b3.size;have H23:=H22.under b3;have H33:=H3.under b3;have H4:=h4.wide (ok':=fun k=>wo.heap.size<k) (fun k hk _=>by omega);clear h4 b3 H22 H3 hH L2 L3 L4 L5;have L2:=co K3 2;have L3:=co K3 3;have L4:=co K3 4;have L5:=co K3 5;simp at L2 L3 L4 L5;have hH:=And.intro L2 (And.intro L3 (And.intro L4 L5));refine hK.out _ _ (fun _=>hH) ?_;clear hK K
    try simp only [Act.put,sT,sZ,sS]
    refine wpAnyL_one (i:=11) rfl (by kernel_rfl) (by rfl) (fun K hK=>?_);go_simp;refine (copyDecls_any (s5.under B3) f5).mono ?_;rintro e w4 ⟨a5,n5,c5,rfl,h5,b4⟩;have B4:=B3.trans (b4.mono B3.size);have K4:=(aside b4 (S:=[])).keep K3 (lt_of K3) (by simp);have Z4:=b4.size;have H24:=H23.under b4;have H34:=H33.under b4;have H44:=H4.under b4;have H5:=h5.wide (ok':=fun k=>wo.heap.size<k) (fun k hk _=>by omega);clear h5 b4 H23 H33 H4 hH L2 L3 L4 L5;have L2:=co K4 2;have L3:=co K4 3;have L4:=co K4 4;have L5:=co K4 5;simp at L2 L3 L4 L5;have hH:=And.intro L2 (And.intro L3 (And.intro L4 L5));have fr4:=fun o=>fo K4 o;refine hK.out _ _ (fun _=>hH) ?_;clear hK K
    try simp only [Act.put,sT,sZ,sS]
    refine wpAnyL_one (i:=13) rfl (by kernel_rfl) (by rfl) (fun K hK=>?_);go_simp;refine hK.out _ _ (fun h=>by cases h) ?_;clear hK K
    try simp only [Act.put,sT,sZ,sS]
    refine wpAnyL_one (i:=14) rfl (by kernel_rfl) (by rfl) (fun K hK=>?_);go_simp;refine hK.out _ _ (fun h=>by cases h) ?_;clear hK K
    try simp only [Act.put,sT,sZ,sS]
    refine wpAnyL_one (i:=15) rfl (by kernel_rfl) (by rfl) (fun K hK=>?_);go_simp;refine hK.out _ _ (fun h=>by cases h) ?_;clear hK K
    try simp only [Act.put,sT,sZ,sS]
    refine wpAnyL_one (i:=16) rfl (by kernel_rfl) (by rfl) (fun K hK=>?_);go_simp;refine hK.out _ _ (fun h=>by cases h) ?_;clear hK K
    try simp only [Act.put,sT,sZ,sS]
    refine wpAnyL_one (i:=17) rfl (by kernel_rfl) (by rfl) (fun K hK=>?_);go_simp;refine hK.out _ _ (fun h=>by cases h) ?_;clear hK K
    try simp only [Act.put,sT,sZ,sS]
    refine wpAnyL_one (i:=18) rfl (by kernel_rfl) (by rfl) (fun K hK=>?_);go_simp;refine hK.out _ _ (fun h=>by cases h) ?_;clear hK K
    try simp only [Act.put,sT,sZ,sS]
    refine wpAnyL_one (i:=19) rfl (by kernel_rfl) (by rfl) (fun K hK=>?_);go_simp;refine hK.out _ _ (fun h=>by cases h) ?_;clear hK K
    try simp only [Act.put,sT,sZ,sS]
    refine wpAnyL_done (by kernel_rfl) ?_ _;go_wp2_with fail;go_meet
    case rel=>
     have hK:=set_in (set_in (set_in (set_in K4 2 (.slice a2 n2 c2)) 3 (.slice a3 n3 c3)) 4 (.slice a4 n4 c4)) 5 (.slice a5 n5 c5);exact ⟨a2,n2,c2,a3,n3,c3,a4,n4,c4,a5,n5,c5,by simpa using hK,(((H24.set (by simp) _).set (by simp) _).set (by simp) _).set (by simp) _,(((H34.set (by simp) _).set (by simp) _).set (by simp) _).set (by simp) _,(((H44.set (by simp) _).set (by simp) _).set (by simp) _).set (by simp) _,(((H5.set (by simp) _).set (by simp) _).set (by simp) _).set (by simp) _,(((B4.setCell nR _).setCell nR _).setCell nR _).setCell nR _⟩
   case rest=>
    obtain ⟨a2,n2,c2,a3,n3,c3,a4,n4,c4,a5,n5,c5,KN,T2,T3,T4,T5,BC⟩:=hcut;have zn:=lt_of KN;have zc:=BC.size;obtain ⟨qo,qc,hqv,he1,he2,heat⟩:=(s6.under BC).at;injection hqv with r1 r2 r3;have HE:=hide r2;rw [←r1] at heat;rw [←r2,←r3] at he1;rw [←r3] at he2;have f6':x.n6*96≤140737488355328:=(by rw [r2];exact f6);clear r1 r2 r3 s2 s3 s4 s5 s6 d0 d1 d2 d3 d4 d5 d6 B0 K0 E0;unfold maxLen at he2;have pn6:=co KN 6;simp at pn6;obtain ⟨wn,hwn⟩:=nmQ (wc);subst hwn;go_wp2;go_loopg [6,7] x.n6 (fun k v6 v7 wk=>∃ (j:Nat) (E:Nat→List Value),j≤x.n6∧k=x.n6-j∧v7=.int .i64 (j:Nat)∧wk.ownsRow wn.heap.size 49 5 v6 j (flat E j)∧Hid (∀ t (h:t<l[i].eqs.length),t<j→∃ y:EqV,E t=y.cells∧HEq (Off wn.heap.size v6) wk y l[i].eqs[t])∧Below wn.heap.size wn wk)
    case atStart=>exact ⟨0,fun _=>[],Nat.zero_le _,rfl,rfl,World.ownsRow_nil _ _ _ _,fun j _ h=>absurd h (Nat.not_lt_zero _),Below.refl _ _⟩
    case round=>
     obtain ⟨j,E,hj,rfl,rfl,hownE,HQ,hbk⟩:=hrel;have pk:=(hbk.cell (p:=⟨wo.heap.size,6,none⟩) zn).trans pn6;have zk:=hbk.size;by_cases hjt:j<x.n6
     ·have hjl:j<l[i].eqs.length:=by have:=HE.out;omega
      obtain ⟨b',o',y,hxe,hb',hya,hy⟩:=heat j hjl;rw [hxe] at pk;obtain ⟨e0,e1,e2,e3,e4⟩:=hya.keep (hbk.block b' hb');obtain ⟨k0,y1,k2,y3,y4⟩:=hy.under hbk;have fq:=f7 j hjl;have Q0:=hide k0;have Q2:=hide k2;clear hxe hya hy k0 k2;have E0:Below wr.heap.size wr (wr.alloc (.cells #[.int .i64 y.place,.slice y.aN y.nN y.cN,.string y.node,.slice y.aS y.nS y.cS,.slice y.aE y.nE y.cE] 49 (0,0))).drew:=((Below.refl _ wr).alloc nR _).drew;have F0:(wr.alloc (.cells #[.int .i64 y.place,.slice y.aN y.nN y.cN,.string y.node,.slice y.aS y.nS y.cS,.slice y.aE y.nE y.cE] 49 (0,0))).drew.heap[wr.heap.size]?=some (.cells #[.int .i64 y.place,.slice y.aN y.nN y.cN,.string y.node,.slice y.aS y.nS y.cS,.slice y.aE y.nE y.cE] 49 (0,0)):=heap_new wr _;have Z0:(wr.alloc (.cells #[.int .i64 y.place,.slice y.aN y.nN y.cN,.string y.node,.slice y.aS y.nS y.cS,.slice y.aE y.nE y.cE] 49 (0,0))).drew.heap.size=wr.heap.size+1:=(by show (wr.alloc _).heap.size=_;simp);go_upto_region 12 with fail;go_cut [51] (fun _ wd=>∃ p1 q1 r1 p3 q3 r3 p4 q4 r4,wd.heap[wr.heap.size]?=some (.cells #[.int .i64 y.place,.slice p1 q1 r1,.string y.node,.slice p3 q3 r3,.slice p4 q4 r4] 49 (0,0))∧HNames (fun k=>wr.heap.size<k) wd (.slice p1 q1 r1) l[i].eqs[j].names∧HSizes (fun k=>wr.heap.size<k) wd (.slice p3 q3 r3) l[i].eqs[j].S∧HExs (fun k=>wr.heap.size<k) wd (.slice p4 q4 r4) l[i].eqs[j].E∧Below wr.heap.size wr wd)
      case first=>
       refine wp_region_late (fun w'=>w'.cell? ⟨wr.heap.size,1,none⟩=some (.slice y.aN y.nN y.cN)∧w'.cell? ⟨wr.heap.size,3,none⟩=some (.slice y.aS y.nS y.cS)∧w'.cell? ⟨wr.heap.size,4,none⟩=some (.slice y.aE y.nE y.cE)) (fun j=>decide (9<j)) (by kernel_rfl) ?_;generalize (wr.alloc (.cells #[.int .i64 y.place,.slice y.aN y.nN y.cN,.string y.node,.slice y.aS y.nS y.cS,.slice y.aE y.nE y.cE] 49 (0,0))).drew=WA at E0 F0 Z0 ⊢;have L1:=co F0 1;have L3:=co F0 3;have L4:=co F0 4;simp at L1 L3 L4;have hH:=And.intro L1 (And.intro L3 L4);clear e0 e1 e2 e3 e4 pk;refine' wpAnyL_take (i:=0) (v:=_) rfl (by kernel_rfl) (by kernel_rfl) (by kernel_rfl) (by kernel_rfl) (fun _ _ _ h=>h) hH (by rfl) ?hyv ?o10
       case hyv=>
        intro wz hSw;obtain ⟨c1,c3,c4⟩:=hSw;go_simp
        try rfl
       try simp only [Act.put,sT,sZ,sS]
       refine' wpAnyL_take (i:=1) (v:=_) rfl (by kernel_rfl) (by kernel_rfl) (by kernel_rfl) (by kernel_rfl) (fun _ _ _ h=>h) hH (by rfl) ?hyv ?o11
       case hyv=>
        intro wz hSw;obtain ⟨c1,c3,c4⟩:=hSw;go_simp
        try rfl
       try simp only [Act.put,sT,sZ,sS]
       refine' wpAnyL_take (i:=3) (v:=_) rfl (by kernel_rfl) (by kernel_rfl) (by kernel_rfl) (by kernel_rfl) (fun _ _ _ h=>h) hH (by rfl) ?hyv ?o12
       case hyv=>
        intro wz hSw;obtain ⟨c1,c3,c4⟩:=hSw;go_simp
        try rfl
       try simp only [Act.put,sT,sZ,sS]
       refine' wpAnyL_take (i:=4) (v:=_) rfl (by kernel_rfl) (by kernel_rfl) (by kernel_rfl) (by kernel_rfl) (fun _ _ _ h=>h) hH (by rfl) ?hyv ?o13
       case hyv=>
        intro wz hSw;obtain ⟨c1,c3,c4⟩:=hSw;go_simp
        try rfl
       try simp only [Act.put,sT,sZ,sS]
       refine' wpAnyL_take (i:=6) (v:=_) rfl (by kernel_rfl) (by kernel_rfl) (by kernel_rfl) (by kernel_rfl) (fun _ _ _ h=>h) hH (by rfl) ?hyv ?o14
       case hyv=>
        intro wz hSw;obtain ⟨c1,c3,c4⟩:=hSw;go_simp
        try rfl
       try simp only [Act.put,sT,sZ,sS]
       refine' wpAnyL_take (i:=7) (v:=_) rfl (by kernel_rfl) (by kernel_rfl) (by kernel_rfl) (by kernel_rfl) (fun _ _ _ h=>h) hH (by rfl) ?hyv ?o15
       case hyv=>
        intro wz hSw;obtain ⟨c1,c3,c4⟩:=hSw;go_simp
        try rfl
       try simp only [Act.put,sT,sZ,sS]
       refine wpAnyL_one (i:=2) rfl (by kernel_rfl) (by rfl) (fun K hK=>?_);go_simp;refine (copyNames_any (y1.under E0) fq.1).mono ?_;rintro e w1 ⟨p1,q1,r1,rfl,h1,b1⟩;have E1:=E0.trans (b1.mono (by rw [Z0];exact Nat.le_succ _));have F1:=(aside b1 (S:=[])).keep F0 (lt_of F0) (by simp);have Z1:wr.heap.size+1≤w1.heap.size:=Nat.le_trans (Nat.le_of_eq Z0.symm) b1.size;have J1:=h1.wide (ok':=fun k=>wr.heap.size<k) (fun k hk _=>Nat.lt_of_lt_of_le (Nat.lt_succ_self _) (Nat.le_trans (Nat.le_of_eq Z0.symm) hk));clear h1 b1 hH L1 L3 L4;have L1:=co F1 1;have L3:=co F1 3;have L4:=co F1 4;simp at L1 L3 L4;have hH:=And.intro L1 (And.intro L3 L4);refine hK.out _ _ (fun _=>hH) ?_;clear hK K
       try simp only [Act.put,sT,sZ,sS]
       refine' wpAnyL_take (i:=9) (v:=_) rfl (by kernel_rfl) (by kernel_rfl) (by kernel_rfl) (by kernel_rfl) (fun _ _ _ h=>h) hH (by rfl) ?hyv ?o16
       case hyv=>
        intro wz hSw;obtain ⟨c1,c3,c4⟩:=hSw;go_simp
        try rfl
       try simp only [Act.put,sT,sZ,sS]
       refine wpAnyL_one (i:=5) rfl (by kernel_rfl) (by rfl) (fun K hK=>?_);go_simp;refine (copySizes_any (y3.under E1) fq.S).mono ?_;rintro e w2 ⟨p3,q3,r3,rfl,h3,b2⟩;have E2:=E1.trans (b2.mono E1.size);have F2:=(aside b2 (S:=[])).keep F1 (lt_of F1) (by simp);have Z2:=b2.size;have J12:=J1.under b2;have J3:=h3.wide (ok':=fun k=>wr.heap.size<k) (fun k hk _=>by omega);clear h3 b2 J1 hH L1 L3 L4;have L1:=co F2 1;have L3:=co F2 3;have L4:=co F2 4;simp at L1 L3 L4;have hH:=And.intro L1 (And.intro L3 L4);refine hK.out _ _ (fun _=>hH) ?_;clear hK K
       try simp only [Act.put,sT,sZ,sS]
       refine wpAnyL_one (i:=8) rfl (by kernel_rfl) (by rfl) (fun K hK=>?_);go_simp;refine (copyExprs_any (y4.under E2) fq.E).mono ?_;rintro e w3 ⟨p4,q4,r4,rfl,h4,b3⟩;have E3:=E2.trans (b3.mono E2.size);have F3:=(aside b3 (S:=[])).keep F2 (lt_of F2) (by simp);have Z3:=b3.size;have J13:=J12.under b3;have J33:=J3.under b3;have J4:=h4.wide (ok':=fun k=>wr.heap.size<k) (fun k hk _=>by omega);clear h4 b3 J12 J3 hH L1 L3 L4;have L1:=co F3 1;have L3:=co F3 3;have L4:=co F3 4;simp at L1 L3 L4;have hH:=And.intro L1 (And.intro L3 L4);have fr4:=fun o=>fo F3 o;refine hK.out _ _ (fun _=>hH) ?_;clear hK K
       try simp only [Act.put,sT,sZ,sS]
       refine wpAnyL_one (i:=10) rfl (by kernel_rfl) (by rfl) (fun K hK=>?_);go_simp;refine hK.out _ _ (fun h=>by cases h) ?_;clear hK K
       try simp only [Act.put,sT,sZ,sS]
       refine wpAnyL_one (i:=11) rfl (by kernel_rfl) (by rfl) (fun K hK=>?_);go_simp;refine hK.out _ _ (fun h=>by cases h) ?_;clear hK K
       try simp only [Act.put,sT,sZ,sS]
       refine wpAnyL_one (i:=12) rfl (by kernel_rfl) (by rfl) (fun K hK=>?_);go_simp;refine hK.out _ _ (fun h=>by cases h) ?_;clear hK K
       try simp only [Act.put,sT,sZ,sS]
       refine wpAnyL_one (i:=13) rfl (by kernel_rfl) (by rfl) (fun K hK=>?_);go_simp;refine hK.out _ _ (fun h=>by cases h) ?_;clear hK K
       try simp only [Act.put,sT,sZ,sS]
       refine wpAnyL_one (i:=14) rfl (by kernel_rfl) (by rfl) (fun K hK=>?_);go_simp;refine hK.out _ _ (fun h=>by cases h) ?_;clear hK K
       try simp only [Act.put,sT,sZ,sS]
       refine wpAnyL_done (by kernel_rfl) ?_ _;go_wp2_with fail;go_meet
       case rel=>
        have hK:=set_in (set_in (set_in F3 1 (.slice p1 q1 r1)) 3 (.slice p3 q3 r3)) 4 (.slice p4 q4 r4);exact ⟨p1,q1,r1,p3,q3,r3,p4,q4,r4,by simpa using hK,((J13.set (by simp) _).set (by simp) _).set (by simp) _,((J33.set (by simp) _).set (by simp) _).set (by simp) _,((J4.set (by simp) _).set (by simp) _).set (by simp) _,((E3.setCell nR _).setCell nR _).setCell nR _⟩
      case rest=>
       obtain ⟨p1,q1,r1,p3,q3,r3,p4,q4,r4,KD,V1,V3,V4,BD⟩:=hcut;have zd:=lt_of KD;have t0:=co KD 0;have t1:=co KD 1;have t2:=co KD 2;have t3:=co KD 3;have t4:=co KD 4;simp at t0 t1 t2 t3 t4;clear e0 e1 e2 e3 e4 y1 y3 y4 E0 F0 Z0;have hown3:=(ownsRow_below hownE BD).alloc (.cells #[.int .i64 y.place,.slice p1 q1 r1,.string y.node,.slice p3 q3 r3,.slice p4 q4 r4] 49 (0,0))
       go_wp2_with (at_builtin;refine wpList_push rfl _ _ 41 rfl wn.heap.size 49 i1 (.agg #[.int .i64 0,.slice none 0 0,.string ⟨#[]⟩,.slice none 0 0,.slice none 0 0]) 5 96 Tryz.underlying41 hi1 hy0 hy1 hy2 rfl (by decide) _ _ _ rfl hown3 ⟨wc.heap.size,0,none⟩ 1 1 [.int .i64 y.place,.slice p1 q1 r1,.string y.node,.slice p3 q3 r3,.slice p4 q4 r4] rfl rfl (newAt wc #[.int .i64 y.place,.slice p1 q1 r1,.string y.node,.slice p3 q3 r3,.slice p4 q4 r4] 49) (by intro u hu;simp at hu;rcases hu with rfl | rfl | rfl | rfl | rfl<;>rfl) (by unfold maxLen;omega) (by omega) (by simp;omega) ?_;intro v4 w4 hown4 hgrow hmv)
       obtain ⟨W5,hW5⟩:=nmQ (wc.alloc (.cells #[.int .i64 y.place,.slice p1 q1 r1,.string y.node,.slice p3 q3 r3,.slice p4 q4 r4] 49 (0,0)));have y5:=newZ hW5;rw [←hW5] at hown3 hgrow hmv;have hmv':Moved W5 u6 v4:=hmv;have bA:=newB hW5;have bR:Below wr.heap.size wr W5:=BD.trans (bA.mono BD.size);have hgk:=grown_keep (B:=wn.heap.size) (v:=u6) hgrow;have b5:=Below.push (B:=wn.heap.size) (hbk.trans (bR.mono hbk.size)) (by omega) hown3 hgrow;have hX:HEq (fun k=>wr.heap.size<k) W5 ⟨y.place,p1,q1,r1,y.node,p3,q3,r3,p4,q4,r4⟩ l[i].eqs[j]:=⟨Q0.out,V1.under bA,Q2.out,V3.under bA,V4.under bA⟩;have hown5:w4.ownsRow wn.heap.size 49 5 v4 (j+1) (flat (fun q=>if q=j then [.int .i64 y.place,.slice p1 q1 r1,.string y.node,.slice p3 q3 r3,.slice p4 q4 r4] else E q) (j+1)):=by
        have e:flat (fun q=>if q=j then [.int .i64 y.place,.slice p1 q1 r1,.string y.node,.slice p3 q3 r3,.slice p4 q4 r4] else E q) (j+1)=flat E j++[.int .i64 y.place,.slice p1 q1 r1,.string y.node,.slice p3 q3 r3,.slice p4 q4 r4]:=by
         rw [flat,flat_congr (D:=E) j (fun q hq=>by rw [if_neg (by omega)])];simp
        rw [e];exact hown4
       have hnewT:HEq (Off wn.heap.size v4) w4 ⟨y.place,p1,q1,r1,y.node,p3,q3,r3,p4,q4,r4⟩ l[i].eqs[j]:=by
        have g1:=hX.wide (ok':=fun k=>Off wn.heap.size u6 k∧k<W5.heap.size) (fun k hk hl=>⟨Off.new hownE nR hbk.size (by omega),hl⟩);have g2:=g1.keep hgrow.size (fun k hk hl=>hgk k hk.1 hl);exact g2.wide (fun k hk _=>Off.moved hmv' hk.1 hk.2)
       have holdT:Hid (∀ t (h:t<l[i].eqs.length),t<j→∃ y:EqV,E t=y.cells∧HEq (Off wn.heap.size v4) w4 y l[i].eqs[t]):=fun t ht htj=>by
        obtain ⟨y',e',h'⟩:=HQ.out t ht htj;have g1:=(h'.wide (ok':=fun k=>Off wn.heap.size u6 k∧k<wr.heap.size) (fun k hk hl=>⟨hk,hl⟩)).under bR;have g2:=g1.keep hgrow.size (fun k hk hl=>hgk k hk.1 hl);exact ⟨y',e',g2.wide (fun k hk _=>Off.moved hmv' hk.1 (by omega))⟩
       clear hown4 hgrow hmv hown3 HQ hgk hX t0 t1 t2 t3 t4 V1 V3 V4 KD bA;go_wp2;go_roundg (x.n6-(j+1))
       case measure=>omega
       case rel=>
        refine ⟨j+1,_,by omega,rfl,by go_num,hown5,fun t ht htj=>?_,b5⟩;by_cases e:t=j
        ·subst e
         exact ⟨⟨y.place,p1,q1,r1,y.node,p3,q3,r3,p4,q4,r4⟩,by simp [EqV.cells],hnewT⟩
        ·obtain ⟨y',e',hT⟩:=holdT.out t ht (by omega)
         exact ⟨y',by simpa [e] using e',hT⟩
     ·have hje:j=x.n6:=by omega
      subst hje;have h9:=HE.out;have hsE:=owns_sl hownE (fun t ht=>by obtain ⟨y',hy',_⟩:=HQ.out t (by omega) ht;rw [hy'];rfl);have hsE':=hsE;obtain ⟨a6,c6,rfl,_⟩:=hsE';have hbk':=hbk;have KE:=(hbk.block _ zn).trans KN;have frE:=fun o=>fo KE o;have KS:=set_in KE 6 (.slice a6 x.n6 c6);simp at KS;have B2:Below wo.heap.size wo wr:=BC.trans (hbk.mono zc);obtain ⟨ws,hws⟩:=nmQ (wr.setCell ⟨wo.heap.size,6,none⟩ (.slice a6 x.n6 c6));have zs:ws.heap.size=wr.heap.size:=(by rw [hws,size_set]);rw [←hws] at KS;have B3:Below wo.heap.size wo ws:=(by rw [hws];exact B2.setCell nR _);have HS:HEqs (fun k=>wn.heap.size≤k) ws (.slice a6 x.n6 c6) l[i].eqs:=by
       rw [hws];refine HEqs.set (p:=⟨wo.heap.size,6,none⟩) ⟨E,?_,fun t ht=>?_⟩ (by simp;omega) _
       ·rw [←HE.out];exact hsE
       ·obtain ⟨y',e',h'⟩:=HQ.out t ht (by rw [HE.out];exact ht)
        exact ⟨y',e',h'.wide (fun k hk _=>hk.1)⟩
      have hN:HNd (fun k=>wo.heap.size<k) ws ⟨x.name,x.place,a2,n2,c2,a3,n3,c3,a4,n4,c4,a5,n5,c5,a6,x.n6,c6⟩ l[i]:=by
       refine ⟨G0.out,G1.out,?_,?_,?_,?_,HS.wide (fun k hk _=>by omega)⟩
       ·rw [hws];exact (T2.under hbk').set (p:=⟨wo.heap.size,6,none⟩) (by simp) _
       ·rw [hws];exact (T3.under hbk').set (p:=⟨wo.heap.size,6,none⟩) (by simp) _
       ·rw [hws];exact (T4.under hbk').set (p:=⟨wo.heap.size,6,none⟩) (by simp) _
       ·rw [hws];exact (T5.under hbk').set (p:=⟨wo.heap.size,6,none⟩) (by simp) _
      have OS:=(B3.block (w.heap.size+1+1) (by omega)).trans orr;have o0:=co OS 0;have m0:=co KS 0;have m1:=co KS 1;have m2:=co KS 2;have m3:=co KS 3;have m4:=co KS 4;have m5:=co KS 5;have m6:=co KS 6;simp at o0 m0 m1 m2 m3 m4 m5 m6;have hownS:=(ownsRow_below hown B3).alloc (.cells #[.string x.name,.int .i64 x.place,.slice a2 n2 c2,.slice a3 n3 c3,.slice a4 n4 c4,.slice a5 n5 c5,.slice a6 x.n6 c6] 43 (0,0));clear heat HQ hsE hownE T2 T3 T4 T5 h9;go_upto_region 15 with fail;rw [←hws];have zs':wr.heap.size≤ws.heap.size:=(by omega);clear zs hws;have bA:Below ws.heap.size ws (ws.alloc (.cells #[.string x.name,.int .i64 x.place,.slice a2 n2 c2,.slice a3 n3 c3,.slice a4 n4 c4,.slice a5 n5 c5,.slice a6 x.n6 c6] 43 (0,0))):=(Below.refl _ _).alloc nR _;have yA:(ws.alloc (.cells #[.string x.name,.int .i64 x.place,.slice a2 n2 c2,.slice a3 n3 c3,.slice a4 n4 c4,.slice a5 n5 c5,.slice a6 x.n6 c6] 43 (0,0))).heap.size=ws.heap.size+1:=(by simp)
      go_wp2_with (at_builtin;refine wpList_push rfl _ _ 22 rfl W.heap.size 43 i2 (.agg #[.string ⟨#[]⟩,.int .i64 0,.slice none 0 0,.slice none 0 0,.slice none 0 0,.slice none 0 0,.slice none 0 0]) 7 144 Tryz.underlying22 hi2 hx0 hx1 hx2 rfl (by decide) _ _ _ rfl hownS ⟨ws.heap.size,0,none⟩ 1 1 [.string x.name,.int .i64 x.place,.slice a2 n2 c2,.slice a3 n3 c3,.slice a4 n4 c4,.slice a5 n5 c5,.slice a6 x.n6 c6] rfl rfl (newAt ws #[.string x.name,.int .i64 x.place,.slice a2 n2 c2,.slice a3 n3 c3,.slice a4 n4 c4,.slice a5 n5 c5,.slice a6 x.n6 c6] 43) (by intro u hu;simp at hu;rcases hu with rfl | rfl | rfl | rfl | rfl | rfl | rfl<;>rfl) (by unfold maxLen;omega) (by omega) (by rw [yA];omega) ?_;intro vv w4 hown4 hgrow hmv;obtain ⟨ga,gn,gc,rfl⟩:=owns_form hown4;have hlow:Hid (∀ k,k<W.heap.size→w4.heap[k]?=wo.heap[k]?):=(fun k hk=>(hgrow.block k (by rw [yA];omega) (fun e=>by have:=World.ownsRow.lt hownS k e.symm;omega)).trans ((bA.block k (by omega)).trans (B3.block k (by omega))));have KO:=(hlow.out (w.heap.size+1+1) (by omega)).trans orr;have o1:=co KO 0;have fr4:=(fun o=>fo KO o);simp at o1)
      have hmv':Moved (ws.alloc (.cells #[.string x.name,.int .i64 x.place,.slice a2 n2 c2,.slice a3 n3 c3,.slice a4 n4 c4,.slice a5 n5 c5,.slice a6 x.n6 c6] 43 (0,0))) v3 (.slice ga gn gc):=hmv;have hgk:=grown_keep (B:=W.heap.size) (v:=v3) hgrow;have BW:Below W.heap.size wo (ws.alloc (.cells #[.string x.name,.int .i64 x.place,.slice a2 n2 c2,.slice a3 n3 c3,.slice a4 n4 c4,.slice a5 n5 c5,.slice a6 x.n6 c6] 43 (0,0))):=(B3.trans (bA.mono B3.size)).mono zr;have Bw:Below w.heap.size w w4:=by
       have h1:=hbw.trans ((B3.trans (bA.mono B3.size)).mono hbw.size);refine h1.grown hgrow (by rw [yA];omega) (fun k hk=>?_);have:=World.ownsRow.lt hownS k hk;omega
      have z4:wo.heap.size≤w4.heap.size:=(by have:=hgrow.size;rw [yA] at this;omega);have hX:=hN.under bA;have hnewT:HNd (Off W.heap.size (.slice ga gn gc)) (w4.setCell ⟨w.heap.size+1+1,0,none⟩ (.slice ga gn gc)) ⟨x.name,x.place,a2,n2,c2,a3,n3,c3,a4,n4,c4,a5,n5,c5,a6,x.n6,c6⟩ l[i]:=by
       have g1:=hX.wide (ok':=fun k=>Off W.heap.size v3 k∧k<(ws.alloc (.cells #[.string x.name,.int .i64 x.place,.slice a2 n2 c2,.slice a3 n3 c3,.slice a4 n4 c4,.slice a5 n5 c5,.slice a6 x.n6 c6] 43 (0,0))).heap.size) (fun k hk hl=>⟨Off.new hown nR zr (Nat.le_of_lt hk),hl⟩);have g2:=g1.keep hgrow.size (fun k hk hl=>hgk k hk.1 hl);exact (g2.wide (fun k hk _=>Off.moved hmv' hk.1 hk.2)).set (fun h=>by have h7:W.heap.size≤w.heap.size+1+1:=h.1;omega) _
      have holdT:Hid (∀ t (h:t<l.length),t<i→∃ y:NdV,D t=y.cells∧HNd (Off W.heap.size (.slice ga gn gc)) (w4.setCell ⟨w.heap.size+1+1,0,none⟩ (.slice ga gn gc)) y l[t]):=fun t ht hti=>by
       obtain ⟨y',e',h'⟩:=H.out t ht hti;have g1:=(h'.wide (ok':=fun k=>Off W.heap.size v3 k∧k<wo.heap.size) (fun k hk hl=>⟨hk,hl⟩)).under (B3.trans (bA.mono B3.size));have g2:=g1.keep hgrow.size (fun k hk hl=>hgk k hk.1 hl);exact ⟨y',e',(g2.wide (fun k hk _=>Off.moved hmv' hk.1 (by rw [yA];omega))).set (fun h=>by have h7:W.heap.size≤w.heap.size+1+1:=h.1;omega) _⟩
      have hown5:(w4.setCell ⟨w.heap.size+1+1,0,none⟩ (.slice ga gn gc)).ownsRow W.heap.size 43 7 (.slice ga gn gc) (i+1) (flat (fun q=>if q=i then [.string x.name,.int .i64 x.place,.slice a2 n2 c2,.slice a3 n3 c3,.slice a4 n4 c4,.slice a5 n5 c5,.slice a6 x.n6 c6] else D q) (i+1)):=by
       have e:flat (fun q=>if q=i then [.string x.name,.int .i64 x.place,.slice a2 n2 c2,.slice a3 n3 c3,.slice a4 n4 c4,.slice a5 n5 c5,.slice a6 x.n6 c6] else D q) (i+1)=flat D i++[.string x.name,.int .i64 x.place,.slice a2 n2 c2,.slice a3 n3 c3,.slice a4 n4 c4,.slice a5 n5 c5,.slice a6 x.n6 c6]:=by
        rw [flat,flat_congr (D:=D) i (fun q hq=>by rw [if_neg (by omega)])];simp
       rw [e];exact owns_set hown4 (p:=⟨w.heap.size+1+1,0,none⟩) (fun e=>by have h7:=World.ownsRow.lt hown4 _ e;simp at h7;omega) _
      have P5:(w4.setCell ⟨w.heap.size+1+1,0,none⟩ (.slice ga gn gc)).heap[w.heap.size]?=some (.cells #[.slice (some ⟨b,o,none⟩) n cap] 24 (0,0)):=(Below.heap_setCell _ _ _ _ (by simp;omega)).trans ((hlow.out _ (by omega)).trans pr);have R5:(w4.setCell ⟨w.heap.size+1+1,0,none⟩ (.slice ga gn gc)).heap[w.heap.size+1]?=some (.cells #[.slice none 0 0] 24 (0,0)):=(Below.heap_setCell _ _ _ _ (by simp)).trans ((hlow.out _ (by omega)).trans rr);have O5:=set_in KO 0 (.slice ga gn gc);simp at O5;have B5:=Bw.setCell (p:=⟨w.heap.size+1+1,0,none⟩) (by simp;omega) (.slice ga gn gc);clear hown4 hgrow hmv hownS H hgk hX hN HS KS m0 m1 m2 m3 m4 m5 m6 o0 KE frE KN;go_wp2;go_roundg (n-(i+1))
      case measure=>omega
      case rel=>
       refine ⟨i+1,_,(.slice ga gn gc),by omega,rfl,by go_num,P5,R5,O5,hown5,fun t ht hti=>?_,B5,by rw [size_set];omega⟩;by_cases e:t=i
       ·subst e
        exact ⟨⟨x.name,x.place,a2,n2,c2,a3,n3,c3,a4,n4,c4,a5,n5,c5,a6,x.n6,c6⟩,by simp [NdV.cells],hnewT⟩
       ·obtain ⟨y',e',hT⟩:=holdT.out t ht (by omega)
        exact ⟨y',by simpa [e] using e',hT⟩
  ·have hie:i=n:=by omega
   subst hie;have h9:=HN.out;have hs:=owns_sl hown (fun t ht=>by obtain ⟨y',hy',_⟩:=H.out t (by omega) ht;rw [hy'];rfl);have hs':=hs;obtain ⟨a5,c5,rfl,_⟩:=hs';have o0:=co orr 0;have r0:=co rr 0;have frr:=fun o=>fo rr o;simp at o0 r0;have KR:=set_in rr 0 (.slice a5 i c5);simp at KR;have k0:=co KR 0;simp at k0;have HF:HNds (fun k=>w.heap.size≤k) (wo.setCell ⟨w.heap.size+1,0,none⟩ (.slice a5 i c5)) (.slice a5 i c5) l:=by
    have h1:HNds (fun k=>W.heap.size≤k) wo (.slice a5 i c5) l:=by
     refine ⟨D,?_,fun t ht=>?_⟩
     ·rw [←HN.out];exact hs
     ·obtain ⟨y',e',h'⟩:=H.out t ht (by rw [HN.out];exact ht)
      exact ⟨y',e',h'.wide (fun k hk _=>hk.1)⟩
    have h2:=h1.keep (w':=wo.setCell ⟨w.heap.size+1,0,none⟩ (.slice a5 i c5)) (by rw [size_set];exact Nat.le_refl _) (fun k hk _=>Below.heap_setCell _ _ _ _ (fun e=>by simp at e;omega));obtain ⟨C,g1,g2⟩:=h2;refine ⟨C,g1.wide (fun k hk _=>by omega),fun t ht=>?_⟩;obtain ⟨y',e',h'⟩:=g2 t ht;exact ⟨y',e',h'.wide (fun k hk _=>by omega)⟩
   have BF:=hbw.setCell (p:=⟨w.heap.size+1,0,none⟩) (Nat.le_succ _) (.slice a5 i c5);clear hs hown H hat h9;go_wp2;refine bodyPost_ret (v:=.agg #[.slice a5 i c5]) (by simp [results,Tryz.results11,go_sem,k0]) rfl ⟨_,_,_,rfl,HF,BF⟩
end Go.Proofs.YtophfbefnaelfaaGreatDoor
