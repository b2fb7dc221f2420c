import Derived.Test.YtkfgbhlpjkkgfaaGreatDoorN09
import Derived.Test.YtkfgbhlpjkkgfaaGreatDoorN12
import Derived.Test.YtkfgbhlpjkkgfaaGreatDoorN05
import Derived.Maps.OwnSet
import Derived.StringKeys
import Derived.Test.YtkfgbhlpjkkgfaaGreatDoorN06
set_option linter.unusedVariables false
set_option linter.unusedSimpArgs false
set_option maxHeartbeats 64000000
set_option maxRecDepth 100000
namespace Go.Proofs.YtkfgbhlpjkkgfaaGreatDoor
open Go.RowKit Go.IntWalk
theorem codeOfRange_any {ok:Nat→Prop} {w:World} {u:Value} {n:List Tm} (hu:HTerms ok w u n) :
  Calls Tryz.prog 163 #[u] w fun r w'=>r=.returned (.int .i64 (Kd.rng n))∧Below w.heap.size w w':=by
 have hc:=norm_any hu;obtain ⟨ao,cap,rfl,hc1,hc2,hat⟩:=hu.at;clear hu hat;go_enter Tryz.func163,Tryz.ntmps163;go_wp2_with fail;refine hc.mono ?_;rintro r w1 ⟨u1,c,a,rfl,hP,b1⟩;clear hc;have bA:Below w1.heap.size w1 (w1.alloc (.cells #[.int .i64 c,.int .i64 a] 29 (0,0))):=(Below.refl _ _).alloc nR _;have B:=b1.trans (bA.mono b1.size);by_cases hz:c=0
 ·subst hz
  have hk:Kd.okB n=true:=by
   rw [Kd.okB_iff];rcases hP with ⟨_,_,h,_⟩ | ⟨_,_,_,_,_,_,h,_⟩ | ⟨h1,h2,_⟩
   ·cases h
   ·cases h
   ·exact ⟨h1,h2⟩
  clear hP;go_wp2;go_ret;exact ⟨by unfold Kd.rng;rw [if_pos hk];rfl,B⟩
 ·have hz2:(c != 0)=true:=by simpa using hz
  have hk:Kd.okB n=false:=by
   cases hb:Kd.okB n with
   | false=>rfl
   | true=>
    rw [Kd.okB_iff] at hb;rcases hP with ⟨h,_⟩ | ⟨_,i,hi,h,_⟩ | ⟨_,_,h,_⟩
    ·have:=hb.1;omega
    ·rw [hb.2 _ (List.getElem_mem hi)] at h;cases h
    ·exact absurd h hz
  clear hP;go_wp2;go_ret;exact ⟨by unfold Kd.rng;rw [hk];rfl,B⟩
theorem ksame_any {ok ok':Nat→Prop} {w:World} {v u:Value} {a b:Kd.Ty} (ha:HTy ok w v a) (hb:HTy ok' w u b) :
  Calls Tryz.prog 18 #[v,u] w fun r w'=>r=.returned (.bool (Kd.same a b))∧Below w.heap.size w w':=by
 have HA:=hide ha;have HB:=hide hb;obtain ⟨va,rfl,hva⟩:=ha;obtain ⟨aa,ca,rfl,_,_,_⟩:=hva.at;obtain ⟨vb,rfl,hvb⟩:=hb;obtain ⟨ab,cb,rfl,_,_,_⟩:=hvb.at;obtain ⟨w2,hw2⟩:=nmQ ((w.alloc (.cells #[.int .u8 a.elem,.slice aa a.n.length ca] 35 (0,0))).alloc (.cells #[.int .u8 b.elem,.slice ab b.n.length cb] 35 (0,0)));have b2:Below w.heap.size w w2:=(by rw [hw2];exact ((Below.refl _ _).alloc nR _).alloc (by simp) _);have kA:w2.heap[w.heap.size]?=some (.cells #[.int .u8 a.elem,.slice aa a.n.length ca] 35 (0,0)):=(by rw [hw2];exact (Below.heap_alloc _ _ _ (by simp)).trans (heap_new w _));have kB:w2.heap[w.heap.size+1]?=some (.cells #[.int .u8 b.elem,.slice ab b.n.length cb] 35 (0,0)):=by
  rw [hw2];have:=heap_new (w.alloc (.cells #[.int .u8 a.elem,.slice aa a.n.length ca] 35 (0,0))) (.cells #[.int .u8 b.elem,.slice ab b.n.length cb] 35 (0,0))
  simpa using this
 have HVA:=hide (hva.under b2);have HVB:=hide (hvb.under b2);have HA2:=hide (HA.out.under b2);have HB2:=hide (HB.out.under b2);clear hva hvb HA HB;have yA:=lt_of kA;have yB:=lt_of kB;have g0:=co kA 0;have g1:=co kA 1;have h0:=co kB 0;have h1:=co kB 1;simp at g0 g1 h0 h1;clear kA kB;by_cases he:a.elem=b.elem
 case neg=>
  have he2:(a.elem != b.elem)=true:=(by simpa using he);have hf:Kd.same a b=false:=(by unfold Kd.same;simp [he]);rw [hf];clear hf;go_enter Tryz.func18,Tryz.ntmps18;go_upto_region 1 with fail;rw [←hw2];clear hw2;go_quiet (fail);go_wp2;go_ret;exact ⟨rfl,drewN_below b2 _⟩
 case pos=>
  have hs:Kd.same a b=((Kd.arr a==Kd.arr b)&&(!Kd.arr a || Kd.sameS a.n b.n)):=(by unfold Kd.same;simp [he]);rw [hs];clear hs;have he2:(a.elem != b.elem)=false:=(by simpa using he);have HE:=hide he;clear he;generalize hqa:Kd.arr a=qa;generalize hqb:Kd.arr b=qb;go_enter Tryz.func18,Tryz.ntmps18;go_upto_region 1 with fail;rw [←hw2];clear hw2;go_cut [16] (fun v16 wd=>v16=.bool (qa != qb)∧Below w2.heap.size w2 wd)
  case first=>
   refine wp_region_late (fun w'=>Below w2.heap.size w2 w') (fun _=>false) (by kernel_rfl) ?_;have hH0:Below w2.heap.size w2 w2.drew:=(Below.refl _ _).drew;generalize w2.drew=wd0 at hH0 ⊢;refine' wpAnyL_take (i:=0) (oi:=⟨some 5,_,_,_,_,_⟩) (v:=_) rfl (by kernel_rfl) (by kernel_rfl) (by kernel_rfl) (by kernel_rfl) (fun _ _ _ h=>h) hH0 (by rfl) ?hyv ?o1
   case hyv=>
    intro wz hSw;go_simp
    try rfl
   try simp only [Act.put,sT,sZ,sS]
   refine' wpAnyL_take (i:=1) (oi:=⟨some 6,_,_,_,_,_⟩) (v:=_) rfl (by kernel_rfl) (by kernel_rfl) (by kernel_rfl) (by kernel_rfl) (fun _ _ _ h=>h) hH0 (by rfl) ?hyv ?o2
   case hyv=>
    intro wz hSw;have zc0:=(hSw.cell (p:=⟨w.heap.size,0,none⟩) yA).trans g0;have zc1:=(hSw.cell (p:=⟨w.heap.size,1,none⟩) yA).trans g1;go_simp
    try rfl
   try simp only [Act.put,sT,sZ,sS]
   refine' wpAnyL_take (i:=2) (oi:=⟨some 7,_,_,_,_,_⟩) (v:=_) rfl (by kernel_rfl) (by kernel_rfl) (by kernel_rfl) (by kernel_rfl) (fun _ _ _ h=>h) hH0 (by rfl) ?hyv ?o3
   case hyv=>
    intro wz hSw;go_simp
    try rfl
   try simp only [Act.put,sT,sZ,sS]
   refine' wpAnyL_take (i:=3) (oi:=⟨some 8,_,_,_,_,_⟩) (v:=_) rfl (by kernel_rfl) (by kernel_rfl) (by kernel_rfl) (by kernel_rfl) (fun _ _ _ h=>h) hH0 (by rfl) ?hyv ?o4
   case hyv=>
    intro wz hSw;have zc0:=(hSw.cell (p:=⟨w.heap.size+1,0,none⟩) yB).trans h0;have zc1:=(hSw.cell (p:=⟨w.heap.size+1,1,none⟩) yB).trans h1;go_simp
    try rfl
   try simp only [Act.put,sT,sZ,sS]
   refine' wpAnyL_take (i:=4) (oi:=⟨some 9,_,_,_,_,_⟩) (v:=_) rfl (by kernel_rfl) (by kernel_rfl) (by kernel_rfl) (by kernel_rfl) (fun _ _ _ h=>h) hH0 (by rfl) ?hyv ?o5
   case hyv=>
    intro wz hSw;go_simp
    try rfl
   try simp only [Act.put,sT,sZ,sS]
   refine' wpAnyL_take (i:=5) (oi:=⟨some 10,_,_,_,_,_⟩) (v:=_) rfl (by kernel_rfl) (by kernel_rfl) (by kernel_rfl) (by kernel_rfl) (fun _ _ _ h=>h) hH0 (by rfl) ?hyv ?o6
   case hyv=>
    intro wz hSw;go_simp
    try rfl
   try simp only [Act.put,sT,sZ,sS]
   refine' wpAnyL_take (i:=6) (oi:=⟨some 11,_,_,_,_,_⟩) (v:=_) rfl (by kernel_rfl) (by kernel_rfl) (by kernel_rfl) (by kernel_rfl) (fun _ _ _ h=>h) hH0 (by rfl) ?hyv ?o7
   case hyv=>
    intro wz hSw;have zc0:=(hSw.cell (p:=⟨w.heap.size,0,none⟩) yA).trans g0;have zc1:=(hSw.cell (p:=⟨w.heap.size,1,none⟩) yA).trans g1;go_simp
    try rfl
   try simp only [Act.put,sT,sZ,sS]
   refine' wpAnyL_take (i:=8) (oi:=⟨some 13,_,_,_,_,_⟩) (v:=_) rfl (by kernel_rfl) (by kernel_rfl) (by kernel_rfl) (by kernel_rfl) (fun _ _ _ h=>h) hH0 (by rfl) ?hyv ?o8
   case hyv=>
    intro wz hSw;have zc0:=(hSw.cell (p:=⟨w.heap.size+1,0,none⟩) yB).trans h0;have zc1:=(hSw.cell (p:=⟨w.heap.size+1,1,none⟩) yB).trans h1;go_simp
    try rfl
   try simp only [Act.put,sT,sZ,sS]
   refine wpAnyL_one (i:=7) (o:=_) rfl (by kernel_rfl) (by rfl) (fun K hK=>?_);go_simp;refine (isArray_any (HA2.out.under hH0)).mono ?_;rintro eq wd1 ⟨rfl,bq1⟩;have hH1:Below w2.heap.size w2 wd1:=hH0.trans (bq1.mono hH0.size);rw [hqa];refine hK.out _ _ (fun _=>hH1) ?_;clear hK K
   try simp only [Act.put,sT,sZ,sS]
   refine wpAnyL_one (i:=9) (o:=_) rfl (by kernel_rfl) (by rfl) (fun K hK=>?_);go_simp;refine (isArray_any (HB2.out.under hH1)).mono ?_;rintro eq wd2 ⟨rfl,bq2⟩;have hH2:Below w2.heap.size w2 wd2:=hH1.trans (bq2.mono hH1.size);rw [hqb];refine hK.out _ _ (fun _=>hH2) ?_;clear hK K
   try simp only [Act.put,sT,sZ,sS]
   refine' wpAnyL_take (i:=10) (oi:=⟨some 15,_,_,_,_,_⟩) (v:=_) rfl (by kernel_rfl) (by kernel_rfl) (by kernel_rfl) (by kernel_rfl) (fun _ _ _ h=>h) hH2 (by rfl) ?hyv ?o9
   case hyv=>
    intro wz hSw;go_simp
    try rfl
   try simp only [Act.put,sT,sZ,sS]
   refine' wpAnyL_take (i:=11) (oi:=⟨some 16,_,_,_,_,_⟩) (v:=_) rfl (by kernel_rfl) (by kernel_rfl) (by kernel_rfl) (by kernel_rfl) (fun _ _ _ h=>h) hH2 (by rfl) ?hyv ?o10
   case hyv=>
    intro wz hSw;go_simp
    try rfl
   try simp only [Act.put,sT,sZ,sS]
   refine wpAnyL_done (by kernel_rfl) ?_ _;go_wp2_with fail;go_meet
   case rel=>exact ⟨by cases qa<;>cases qb<;>rfl,hH2⟩
  case rest=>
   obtain ⟨rfl,bc⟩:=hcut;have B3:=b2.trans (bc.mono b2.size);have e0:=(bc.cell (p:=⟨w.heap.size,0,none⟩) yA).trans g0;have e1:=(bc.cell (p:=⟨w.heap.size,1,none⟩) yA).trans g1;have f1:=(bc.cell (p:=⟨w.heap.size+1,1,none⟩) yB).trans h1;have yA2:=Nat.lt_of_lt_of_le yA bc.size;have yB2:=Nat.lt_of_lt_of_le yB bc.size;by_cases hq:qa=qb
   case neg=>
    have hq2:(qa != qb)=true:=(by simpa using hq);rw [hq2];go_wp2;go_ret;exact ⟨by simp [hq],B3⟩
   case pos=>
    have hq2:(qa != qb)=false:=(by simpa using hq);rw [hq2];subst hq;have hc:=isArray_any (HA2.out.under bc);rw [hqa] at hc;clear hq2;go_wp2_with fail;refine hc.mono ?_;rintro eq w4 ⟨rfl,b4⟩;have B4:=B3.trans (b4.mono B3.size);have x1:=(b4.cell (p:=⟨w.heap.size,1,none⟩) yA2).trans e1;have x2:=(b4.cell (p:=⟨w.heap.size+1,1,none⟩) yB2).trans f1
    cases qa
    ·go_wp2
     go_ret;exact ⟨by simp,B4⟩
    ·have hn:=same_any ((HVA.out.under bc).under b4) ((HVB.out.under bc).under b4)
     go_wp2_with fail;refine hn.mono ?_;rintro eq w5 ⟨q,rfl,hq,b5⟩;have B5:=B4.trans (b5.mono B4.size);go_wp2;go_ret;refine ⟨?_,B5⟩;have:Kd.sameS a.n b.n=q:=by
      unfold Kd.sameS
      cases q
      ·simp
       intro h;have:=hq.2 h
       cases this
      ·simp
       exact hq.1 rfl
     simp [this]
end Go.Proofs.YtkfgbhlpjkkgfaaGreatDoor
namespace Go.Proofs.YtkfgbhlpjkkgfaaGreatDoor
open Go.RowKit Go.IntWalk Go.Maps Go.WideMaps
theorem law9k:Keyed Tryz.prog 9:=string_keyed Tryz.underlying9
theorem zero3k (w:World):(zeroValue 3).run Tryz.prog w=.ok (.int .i64 0) w:=by kernel_rfl
def selfR (v:Value):Option (DataW Value × List MemPlace):=some (.held v,[])
structure MapIs (w:World) (b n:Nat) (f:List UInt8→Option Value):Prop where
 out:∃ D:DataW Value,w.ownsMap Tryz.prog 9 selfR b n D∧∀ s:List UInt8,Maps.has D (.string s)=(f s).isSome∧∀ z:Value,D.atKey (.string s) (.held z)=.held ((f s).getD z)
def putF (f:List UInt8→Option Value) (s:List UInt8) (v:Value):List UInt8→Option Value:=fun x=>if x=s then some v else f x
theorem MapIs.made (w:World):MapIs (w.alloc (.map #[] 0)) w.heap.size 0 (fun _=>none) :=
 ⟨⟨.map [],World.ownsMap_made w _ _ _,fun s=>⟨rfl,fun z=>rfl⟩⟩⟩
theorem MapIs.lt {w:World} {b n:Nat} {f:List UInt8→Option Value} (h:MapIs w b n f):b<w.heap.size:=by
 obtain ⟨D,h1,_⟩:=h.out;exact h1.lt
theorem MapIs.keep {w w':World} {b n:Nat} {f:List UInt8→Option Value} (h:MapIs w b n f) (hk:w'.heap[b]?=w.heap[b]?):MapIs w' b n f:=by
 obtain ⟨D,⟨es,clock,hb,r⟩,h2⟩:=h.out;exact ⟨⟨D,⟨es,clock,hk.trans hb,r⟩,h2⟩⟩
theorem MapIs.mono {w:World} {b n m:Nat} {f:List UInt8→Option Value} (h:MapIs w b n f) (hn:n≤m):MapIs w b m f:=by
 obtain ⟨D,h1,h2⟩:=h.out;exact ⟨⟨D,h1.mono hn,h2⟩⟩
theorem MapIs.lookOk {w:World} {b n:Nat} {f:List UInt8→Option Value} (h:MapIs w b n f) {t e:TypeId} (ht:Tryz.prog.underlying t=some (.map 9 e)) {z:Value} (hz:(zeroValue e).run Tryz.prog w=.ok z w) {s:ByteArray} (hs:s.size≤maxLen) :
  (Instr.lookup t (.map (some b)) (.string s) true).run Tryz.prog w=.ok (.tuple #[(f s.data.toList).getD z,.bool (f s.data.toList).isSome]) w:=by
 obtain ⟨D,h1,h2⟩:=h.out;obtain ⟨v,ps,hrun,hv⟩:=h1.look_ok law9k ht hz (zd:=.held z) (zp:=[]) rfl (keyOf_string_mk Tryz.underlying9 hs);rw [(h2 _).1] at hrun;rw [(h2 _).2 z] at hv;unfold selfR at hv;injection hv with hv;injection hv with hv _;injection hv with hv;rw [←hv];exact hrun
theorem MapIs.look {w:World} {b n:Nat} {f:List UInt8→Option Value} (h:MapIs w b n f) {t e:TypeId} (ht:Tryz.prog.underlying t=some (.map 9 e)) {z:Value} (hz:(zeroValue e).run Tryz.prog w=.ok z w) {s:ByteArray} (hs:s.size≤maxLen) :
  (Instr.lookup t (.map (some b)) (.string s) false).run Tryz.prog w=.ok ((f s.data.toList).getD z) w:=by
 obtain ⟨D,h1,h2⟩:=h.out;obtain ⟨v,ps,hrun,hv⟩:=h1.lookup law9k ht hz (zd:=.held z) (zp:=[]) rfl (keyOf_string_mk Tryz.underlying9 hs);rw [(h2 _).2 z] at hv;unfold selfR at hv;injection hv with hv;injection hv with hv _;injection hv with hv;rw [←hv];exact hrun
theorem MapIs.put {w:World} {b n:Nat} {f:List UInt8→Option Value} (h:MapIs w b n f) {t e:TypeId} (ht:Tryz.prog.underlying t=some (.map 9 e)) (hn:n<maxLen) {s:ByteArray} (hs:s.size≤maxLen) (v:Value) :
  ∃ w',(Instr.mapUpdate t (.map (some b)) (.string s) v).run Tryz.prog w=.ok () w'∧MapIs w' b (n+1) (putF f s.data.toList v)∧w.grownBy w' (some b):=by
 obtain ⟨D,h1,h2⟩:=h.out;obtain ⟨w',hrun,h3,h4⟩:=h1.update law9k ht hn (keyOf_string_mk Tryz.underlying9 hs) (val:=v) (d:=.held v) (ps:=[]) rfl;refine ⟨w',hrun,⟨⟨_,h3,fun x=>?_⟩⟩,h4⟩;have hlit:WideAt.IsKeyLit (.string s.data.toList):=(by trivial);unfold putF;by_cases e:x=s.data.toList
 ·subst e
  rw [if_pos rfl];exact ⟨has_put_same h1.isMap hlit _,fun z=>atKey_put_same h1.isMap hlit _ _⟩
 ·have hne2:(Lit.string x)≠.string s.data.toList:=fun q=>by injection q with q;exact e q
  rw [if_neg e,has_put_other hne2];exact ⟨(h2 x).1,fun z=>by rw [atKey_put_other hne2];exact (h2 x).2 z⟩
theorem wpList_put {w:World} {ops:Array Oper} {rest:List Oper} {o:Oper} {a:Act} {Q:Exit→Act→World→Prop} (hg:o.guard=none) (m x v:Operand) (t:TypeId) (hop:o.op=Op.mapUpdate t m x v)
  (e:TypeId) (ht:Tryz.prog.underlying t=some (.map 9 e)) {b n:Nat} {f:List UInt8→Option Value} (h:MapIs w b n f) (hn:n<maxLen) {s:ByteArray} (hs:s.size≤maxLen) (hm:a.eval m=.map (some b)) (hx:a.eval x=.string s)
  (hK:∀ w',MapIs w' b (n+1) (putF f s.data.toList (a.eval v))→w.grownBy w' (some b)→wpList Tryz.prog ops Q rest (a.put o.dst undef) w') :
  wpList Tryz.prog ops Q (o :: rest) a w:=by
 refine wpList_plain hg fun K' hK'=>?_;obtain ⟨w',hrun,r1,r2⟩:=h.put ht hn hs (a.eval v);unfold Oper.wp;simp [execOp,hop,hm,hx,hrun,Result.andThen];exact hK' _ _ (hK w' r1 r2)
end Go.Proofs.YtkfgbhlpjkkgfaaGreatDoor
namespace Go.Proofs.YtkfgbhlpjkkgfaaGreatDoor
open Go.RowKit Go.IntWalk Go.Maps Go.WideMaps
theorem zero35 (w:World):(zeroValue 35).run Tryz.prog w=.ok (.agg #[.int .u8 0,.slice none 0 0]) w:=by kernel_rfl
theorem zero47 (w:World):(zeroValue 47).run Tryz.prog w=.ok (.agg #[.string ⟨#[]⟩,.int .i64 0,.slice none 0 0,.slice none 0 0,.slice none 0 0,.slice none 0 0,.slice none 0 0]) w:=by kernel_rfl
theorem u98:Tryz.prog.underlying 98=some (.map 9 47):=by kernel_rfl
theorem u133:Tryz.prog.underlying 133=some (.map 9 3):=by kernel_rfl
theorem u134:Tryz.prog.underlying 134=some (.map 9 35):=by kernel_rfl
def TyF (ok:Nat→Prop) (w:World) (l:List De) (f:List UInt8→Option Value):Prop :=
 ∀ s:ByteArray,match Kd.findD l s with
  | none=>f s.data.toList=none
  | some d=>∃ v,f s.data.toList=some v∧HTy ok w v (Kd.tyD d)
def NdF (ok:Nat→Prop) (w:World) (l:List Nd) (f:List UInt8→Option Value):Prop :=
 ∀ s:ByteArray,match Kd.findN l s with
  | none=>f s.data.toList=none
  | some g=>∃ x:NdV,f s.data.toList=some (.agg x.cells.toArray)∧HNd ok w x g
def SzF (l:List ByteArray) (f:List UInt8→Option Value):Prop:=∀ s:ByteArray,(f s.data.toList).isSome=Kd.hasN l s
def MkF (mk done:List ByteArray) (f:List UInt8→Option Value):Prop:=∀ s:ByteArray,f s.data.toList=if Kd.hasN done s=true then some (.int .i64 1) else if Kd.hasN mk s=true then some (.int .i64 0) else none
structure SB where
 b:Nat
 m0:Nat
 m1:Nat
 m2:Nat
 m3:Nat
structure Scp (ok:Nat→Prop) (w:World) (x:SB) (E:Kd.Env) (mk done:List ByteArray):Prop where
 blk:w.heap[x.b]?=some (.cells #[.map (some x.m0),.map (some x.m1),.map (some x.m2),.map (some x.m3)] 136 (0,0))
 nb:¬ok x.b
 n0:¬ok x.m0
 n1:¬ok x.m1
 n2:¬ok x.m2
 n3:¬ok x.m3
 d01:x.m0≠x.m1
 d02:x.m0≠x.m2
 d03:x.m0≠x.m3
 d12:x.m1≠x.m2
 d13:x.m1≠x.m3
 d23:x.m2≠x.m3
 h0:∃ f,MapIs w x.m0 E.above.length f∧NdF ok w E.above f
 h1:∃ f,MapIs w x.m1 E.sizes.length f∧SzF E.sizes f
 h2:∃ f,MapIs w x.m2 E.types.length f∧TyF ok w E.types f
 h3:∃ f,MapIs w x.m3 (mk.length+done.length) f∧MkF mk done f
theorem TyF.keep {ok:Nat→Prop} {w w':World} {l:List De} {f:List UInt8→Option Value} (h:TyF ok w l f) (hs:w.heap.size≤w'.heap.size) (hk:∀ i,ok i→i<w.heap.size→w'.heap[i]?=w.heap[i]?):TyF ok w' l f:=by
 intro s;have:=h s
 cases hf:Kd.findD l s with
 | none=>rw [hf] at this;exact this
 | some d=>
  rw [hf] at this;obtain ⟨v,e,hv⟩:=this;exact ⟨v,e,hv.keep hs hk⟩
theorem NdF.keep {ok:Nat→Prop} {w w':World} {l:List Nd} {f:List UInt8→Option Value} (h:NdF ok w l f) (hs:w.heap.size≤w'.heap.size) (hk:∀ i,ok i→i<w.heap.size→w'.heap[i]?=w.heap[i]?):NdF ok w' l f:=by
 intro s;have:=h s
 cases hf:Kd.findN l s with
 | none=>rw [hf] at this;exact this
 | some d=>
  rw [hf] at this;obtain ⟨v,e,hv⟩:=this;exact ⟨v,e,hv.keep hs hk⟩
theorem Scp.keep {ok:Nat→Prop} {w w':World} {x:SB} {E:Kd.Env} {mk done:List ByteArray} (h:Scp ok w x E mk done) (hb:Below w.heap.size w w'):Scp ok w' x E mk done:=by
 have hk:∀ i,ok i→i<w.heap.size→w'.heap[i]?=w.heap[i]?:=fun i _ hl=>hb.block i hl;refine ⟨(hb.block _ (lt_of h.blk)).trans h.blk,h.nb,h.n0,h.n1,h.n2,h.n3,h.d01,h.d02,h.d03,h.d12,h.d13,h.d23,?_,?_,?_,?_⟩
 ·obtain ⟨f,a,c⟩:=h.h0
  exact ⟨f,a.keep (hb.block _ a.lt),c.keep hb.size hk⟩
 ·obtain ⟨f,a,c⟩:=h.h1
  exact ⟨f,a.keep (hb.block _ a.lt),c⟩
 ·obtain ⟨f,a,c⟩:=h.h2
  exact ⟨f,a.keep (hb.block _ a.lt),c.keep hb.size hk⟩
 ·obtain ⟨f,a,c⟩:=h.h3
  exact ⟨f,a.keep (hb.block _ a.lt),c⟩
theorem Scp.lookSize {ok:Nat→Prop} {w:World} {x:SB} {E:Kd.Env} {mk done:List ByteArray} (h:Scp ok w x E mk done) {s:ByteArray} (hs:s.size≤maxLen) :
  ∃ v,∀ w',Below w.heap.size w w'→(Instr.lookup 133 (.map (some x.m1)) (.string s) true).run Tryz.prog w'=.ok (.tuple #[v,.bool (Kd.hasN E.sizes s)]) w':=by
 obtain ⟨f,a,c⟩:=h.h1;refine ⟨(f s.data.toList).getD (.int .i64 0),fun w' hb=>?_⟩;have:=(a.keep (hb.block _ a.lt)).lookOk u133 (zero3k w') hs;rw [c s] at this;exact this
theorem Scp.lookType {ok:Nat→Prop} {w:World} {x:SB} {E:Kd.Env} {mk done:List ByteArray} (h:Scp ok w x E mk done) {s:ByteArray} (hs:s.size≤maxLen) :
  ∃ e a n c,(∀ w',Below w.heap.size w w'→(Instr.lookup 134 (.map (some x.m2)) (.string s) true).run Tryz.prog w'=.ok (.tuple #[.agg #[.int .u8 e,.slice a n c],.bool (Kd.findD E.types s).isSome]) w')∧(∀ w',Below w.heap.size w w'→(Instr.lookup 134 (.map (some x.m2)) (.string s) false).run Tryz.prog w'=.ok (.agg #[.int .u8 e,.slice a n c]) w')∧HTy ok w (.agg #[.int .u8 e,.slice a n c]) (Kd.typ E.types s):=by
 obtain ⟨f,a,c⟩:=h.h2;have h1:=fun w' (hb:Below w.heap.size w w')=>(a.keep (hb.block _ a.lt)).lookOk u134 (zero35 w') hs;have h2:=fun w' (hb:Below w.heap.size w w')=>(a.keep (hb.block _ a.lt)).look u134 (zero35 w') hs;have h3:=c s;unfold Kd.typ
 cases hf:Kd.findD E.types s with
 | none=>
  rw [hf] at h3;simp only at h3;rw [h3] at h1 h2;exact ⟨_,_,_,_,h1,h2,HTy.zero 0⟩
 | some d=>
  rw [hf] at h3;obtain ⟨v,e,hv⟩:=h3;rw [e] at h1 h2;have hv0:=hv;obtain ⟨u,rfl,hu⟩:=hv;obtain ⟨ao,n,cap,rfl⟩:=hu.slice;exact ⟨_,_,_,_,h1,h2,hv0⟩
theorem Scp.lookNode {ok:Nat→Prop} {w:World} {x:SB} {E:Kd.Env} {mk done:List ByteArray} (h:Scp ok w x E mk done) {s:ByteArray} (hs:s.size≤maxLen) :
  ∃ y:NdV,(∀ w',Below w.heap.size w w'→(Instr.lookup 98 (.map (some x.m0)) (.string s) true).run Tryz.prog w'=.ok (.tuple #[.agg y.cells.toArray,.bool (Kd.findN E.above s).isSome]) w')∧∀ g,Kd.findN E.above s=some g→HNd ok w y g:=by
 obtain ⟨f,a,c⟩:=h.h0;have h1:=fun w' (hb:Below w.heap.size w w')=>(a.keep (hb.block _ a.lt)).lookOk u98 (zero47 w') hs;have h3:=c s
 cases hf:Kd.findN E.above s with
 | none=>
  rw [hf] at h3;simp only at h3;rw [h3] at h1;exact ⟨⟨⟨#[]⟩,0,none,0,0,none,0,0,none,0,0,none,0,0,none,0,0⟩,h1,fun g e=>by cases e⟩
 | some d=>
  rw [hf] at h3;obtain ⟨v,e,hv⟩:=h3;rw [e] at h1;exact ⟨v,h1,fun g e=>by injection e with e;subst e;exact hv⟩
theorem Scp.lookMade {ok:Nat→Prop} {w:World} {x:SB} {E:Kd.Env} {mk done:List ByteArray} (h:Scp ok w x E mk done) {s:ByteArray} (hs:s.size≤maxLen) {w':World} (hb:Below w.heap.size w w') :
  (Instr.lookup 133 (.map (some x.m3)) (.string s) true).run Tryz.prog w'=.ok (.tuple #[.int .i64 (if Kd.hasN done s=true then 1 else 0),.bool (Kd.hasN done s || Kd.hasN mk s)]) w' ∧
  (Instr.lookup 133 (.map (some x.m3)) (.string s) false).run Tryz.prog w'=.ok (.int .i64 (if Kd.hasN done s=true then 1 else 0)) w':=by
 obtain ⟨f,a,c⟩:=h.h3;have h1:=(a.keep (hb.block _ a.lt)).lookOk u133 (zero3k w') hs;have h2:=(a.keep (hb.block _ a.lt)).look u133 (zero3k w') hs;have h3:=c s;rw [h3] at h1 h2
 cases hd:Kd.hasN done s with
 | true=>simp only [hd,if_true,Bool.true_or] at h1 h2 ⊢;exact ⟨h1,h2⟩
 | false=>
  cases hm:Kd.hasN mk s with
  | true=>simp [hd,hm] at h1 h2 ⊢;exact ⟨h1,h2⟩
  | false=>simp [hd,hm] at h1 h2 ⊢;exact ⟨h1,h2⟩
end Go.Proofs.YtkfgbhlpjkkgfaaGreatDoor
