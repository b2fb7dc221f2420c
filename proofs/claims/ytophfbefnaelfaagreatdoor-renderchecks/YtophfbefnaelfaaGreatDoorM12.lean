import Derived.Test.YtophfbefnaelfaaGreatDoorM11
set_option linter.unusedVariables false
set_option linter.unusedSimpArgs false
set_option maxHeartbeats 64000000
set_option maxRecDepth 100000
namespace Go.Proofs.YtophfbefnaelfaaGreatDoor
open Go.RowKit Go.IntWalk
def Inner (b g cap:Nat) (I:Inp) (op:Nat) (J:Option (Nat→Res Ex)):Prop :=
 match J with
 | none=>60≤op
 | some A=>op<60∧Does 175 b g cap I (op+1) exV A
theorem enter124 (args:Array Value) (w:World):(callFunc 180 args).run Tryz.prog w=.ok (.enter 180 args) w:=by kernel_rfl
theorem enter125 (args:Array Value) (w:World):(callFunc 181 args).run Tryz.prog w=.ok (.enter 181 args) w:=by kernel_rfl
theorem enter126 (args:Array Value) (w:World):(callFunc 182 args).run Tryz.prog w=.ok (.enter 182 args) w:=by kernel_rfl
theorem enter128 (args:Array Value) (w:World):(callFunc 184 args).run Tryz.prog w=.ok (.enter 184 args) w:=by kernel_rfl
theorem enter135 (args:Array Value) (w:World):(callFunc 191 args).run Tryz.prog w=.ok (.enter 191 args) w:=by kernel_rfl
theorem signed1_any {b g cap:Nat} {I:Inp} {op nx kb rb:Nat} {k:Int} {A:Nat→Res Ex} (HA:Does 175 b g cap I op exV A) {w:World} (h:Rd w b g cap I.L I.len nx op) (hG:GlobB b w) (hk:w.heap[kb]?=some (.cells #[.int .i64 k] 3 (0,0))) (hr:w.heap[rb]?=some (.cells #[.pointer (some ⟨b,0,none⟩)] 104 (0,0))) (nk:kb≠b) (nr:rb≠b) :
  Calls Tryz.prog 180 #[.pointer (some ⟨kb,0,none⟩),.pointer (some ⟨rb,0,none⟩)] w (Post b g cap I op exV nx w (Ps.signed A k nx)):=by
 have hb:=h.bb;have hg:=h.gb;have zk:=lt_of hk;have zr:=lt_of hr;go_enter Tryz.func180,Tryz.ntmps180;go_upto_region 1 with fail;have h1:Rd (w.alloc (.cells #[.int .i64 0,.int .i64 0,.int .i64 0,.string ⟨#[]⟩,.slice none 0 0,.slice none 0 0] 88 (0,0))).drew b g cap I.L I.len nx op:=(h.alloc _).drew;have A1:Aside [b] w.heap.size w (w.alloc (.cells #[.int .i64 0,.int .i64 0,.int .i64 0,.string ⟨#[]⟩,.slice none 0 0,.slice none 0 0] 88 (0,0))).drew:=((Aside.refl w).alloc nR _).drew;have hN1:(w.alloc (.cells #[.int .i64 0,.int .i64 0,.int .i64 0,.string ⟨#[]⟩,.slice none 0 0,.slice none 0 0] 88 (0,0))).drew.heap[w.heap.size]?=some (.cells #[.int .i64 0,.int .i64 0,.int .i64 0,.string ⟨#[]⟩,.slice none 0 0,.slice none 0 0] 88 (0,0)):=heap_new w _;have hk1:(w.alloc (.cells #[.int .i64 0,.int .i64 0,.int .i64 0,.string ⟨#[]⟩,.slice none 0 0,.slice none 0 0] 88 (0,0))).drew.heap[kb]?=some (.cells #[.int .i64 k] 3 (0,0)):=kA hk _;have hr1:(w.alloc (.cells #[.int .i64 0,.int .i64 0,.int .i64 0,.string ⟨#[]⟩,.slice none 0 0,.slice none 0 0] 88 (0,0))).drew.heap[rb]?=some (.cells #[.pointer (some ⟨b,0,none⟩)] 104 (0,0)):=kA hr _;have z1:(w.alloc (.cells #[.int .i64 0,.int .i64 0,.int .i64 0,.string ⟨#[]⟩,.slice none 0 0,.slice none 0 0] 88 (0,0))).drew.heap.size=w.heap.size+1:=(by show (w.alloc _).heap.size=_;simp);refine wp_region_late (fun w'=>w'.cell? ⟨kb,0,none⟩=some (.int .i64 k)∧w'.cell? ⟨rb,0,none⟩=some (.pointer (some ⟨b,0,none⟩))) (fun j=>decide (j=5)) (by kernel_rfl) ?_;generalize (w.alloc (.cells #[.int .i64 0,.int .i64 0,.int .i64 0,.string ⟨#[]⟩,.slice none 0 0,.slice none 0 0] 88 (0,0))).drew=w1 at h1 A1 hN1 hk1 hr1 z1 ⊢;have ck:=co hk1 0;have cr:=co hr1 0;simp at ck cr;have hH:=And.intro ck cr;refine' wpAnyL_take (i:=0) (v:=_) rfl (by kernel_rfl) (by kernel_rfl) (by kernel_rfl) (by kernel_rfl) (fun _ _ _ h=>h) hH (by rfl) ?hyv ?o1
 case hyv=>
  intro wz hSw;obtain ⟨c0,c1⟩:=hSw;go_simp
  try rfl
 try simp only [Act.put,sT,sZ,sS]
 refine' wpAnyL_take (i:=1) (v:=_) rfl (by kernel_rfl) (by kernel_rfl) (by kernel_rfl) (by kernel_rfl) (fun _ _ _ h=>h) hH (by rfl) ?hyv ?o2
 case hyv=>
  intro wz hSw;obtain ⟨c0,c1⟩:=hSw;go_simp
  try rfl
 try simp only [Act.put,sT,sZ,sS]
 refine wpAnyL_one (i:=2) rfl (by kernel_rfl) (by rfl) (fun K hK=>?_);go_simp;refine (HA _ _ h1 (hG.far A1)).mono ?_;rintro e w3 ⟨a3,hres⟩;have z3:=a3.size;have A3:=A1.trans a3 A1.size;have hN3:=a3.keep hN1 (by omega) (by simp;omega);have hk3:=a3.keep hk1 (by omega) (by simp;omega);have hr3:=a3.keep hr1 (by omega) (by simp;omega);clear a3 A1 hN1 h1 hk1 hr1 hH ck cr
 cases ht:A nx with
 | err c0 a0=>
  rw [ht] at hres;obtain rfl:e=_:=hres;exact ⟨rfl,Post.fail (by unfold Ps.signed;rw [ht];rfl) A3⟩
 | ok e0 n1=>
  rw [ht] at hres;obtain ⟨le3,h3,_,rfl,y,rfl,he3⟩:=hres;have hm:Hid (Ps.signed A k nx=.ok (.mk 4 k 0 ⟨#[]⟩ [] [e0]) n1):=by
   show Ps.signed A k nx=_
   unfold Ps.signed;rw [ht];rfl
  clear ht;have ck:=co hk3 0;have cr:=co hr3 0;simp at ck cr;refine hK.out _ _ (fun _=>And.intro ck cr) ?_;clear hK K
  try simp only [Act.put,sT,sZ,sS]
  have hlt:w.heap.size<w3.heap.size:=(by omega);have fa:=fun o=>fo hN3 o;obtain ⟨ca0,ca1,ca2,ca3,ca4,ca5⟩:=cells6 hN3;have ck4:=co (kA hk3 (.cells #[.int .i64 y.op,.int .i64 y.k,.int .i64 y.n,.string y.name,.slice y.aS y.nS y.cS,.slice y.aL y.nL y.cL] 88 (0,0))) 0;have cr4:=co (kA hr3 (.cells #[.int .i64 y.op,.int .i64 y.k,.int .i64 y.n,.string y.name,.slice y.aS y.nS y.cS,.slice y.aL y.nL y.cL] 88 (0,0))) 0;simp only [gT,gZ] at ck4 cr4;have H4:=hide (And.intro ck4 cr4);clear ck4 cr4;refine wpAnyL_one (i:=3) rfl (by kernel_rfl) (by rfl) (fun K hK=>?_);go_simp;refine hK.out _ _ (fun _=>H4.out) ?_;clear hK K
  try simp only [Act.put,sT,sZ,sS]
  refine wpAnyL_one (i:=4) rfl (by kernel_rfl) (by rfl) (fun K hK=>?_);go_simp;refine hK.out _ _ (fun _=>H4.out) ?_;clear hK K
  try simp only [Act.put,sT,sZ,sS]
  refine wpAnyL_one (i:=5) rfl (by kernel_rfl) (by rfl) (fun K hK=>?_);go_simp;refine hK.out _ _ (fun h=>by cases h) ?_;clear hK K
  try simp only [Act.put,sT,sZ,sS]
  refine wpAnyL_done (by kernel_rfl) ?_ _;go_wp2_with fail;have q:=he3.wide (ok':=fun i=>w.heap.size<i) (fun i hi _=>by omega);have zP:(put6 w3 w.heap.size ⟨4,k,0,⟨#[]⟩,none,0,0,some ⟨w3.heap.size,0,none⟩,1,1⟩).heap.size=w3.heap.size:=put6_size _ _ _;have hLit:=exprs_lit1 (q.put6 (k:=w.heap.size) (by simp) ⟨4,k,0,⟨#[]⟩,none,0,0,some ⟨w3.heap.size,0,none⟩,1,1⟩) 88 (by rw [zP];omega);rw [zP] at hLit;refine bodyPost_ret (v:=.agg #[.int .i64 4,.int .i64 k,.int .i64 0,.string ⟨#[]⟩,.slice none 0 0,.slice (some ⟨w3.heap.size,0,none⟩) 1 1]) (by simp [results,Tryz.results180,go_sem,ca0,ca1,ca2,ca3,ca4,ca5,hlt]) rfl ?_;exact Post.good hm.out ((A3.put6 (k:=w.heap.size) nR ⟨4,k,0,⟨#[]⟩,none,0,0,some ⟨w3.heap.size,0,none⟩,1,1⟩).alloc (by rw [zP];omega) _) (by omega) ((h3.put6 (k:=w.heap.size) (by omega) (by omega) ⟨4,k,0,⟨#[]⟩,none,0,0,some ⟨w3.heap.size,0,none⟩,1,1⟩).alloc _) ⟨⟨4,k,0,⟨#[]⟩,none,0,0,some ⟨w3.heap.size,0,none⟩,1,1⟩,rfl,(HEx.make (x:=⟨4,k,0,⟨#[]⟩,none,0,0,some ⟨w3.heap.size,0,none⟩,1,1⟩) (e:=.mk 4 k 0 ⟨#[]⟩ [] [e0]) rfl rfl rfl rfl sizes_nil hLit).wide (fun i hi _=>Nat.le_of_lt hi)⟩
theorem signed_any {b g cap:Nat} {I:Inp} {op nx:Nat} (k:Int) {J:Option (Nat→Res Ex)} (HJ:Inner b g cap I op J) (hlt:nx<I.L.length) {w:World} (h:Rd w b g cap I.L I.len nx op) (hG:GlobB b w) :
  Calls Tryz.prog 176 #[.pointer (some ⟨b,0,none⟩),.int .i64 k] w (Post b g cap I op exV nx w (Ps.opn I J nx fun A n1=>Ps.signed A k n1)):=by
 have hb:=h.bb;have hg:=h.gb;have hmf:=makes;obtain ⟨W,hW⟩:=nmQ (((w.alloc (.cells #[.pointer (some ⟨b,0,none⟩)] 104 (0,0))).alloc (.cells #[.int .i64 k] 3 (0,0))).alloc (.cells #[.int .i64 0,.int .i64 0,.int .i64 0,.string ⟨#[]⟩,.slice none 0 0,.slice none 0 0] 88 (0,0)));have zW:W.heap.size=w.heap.size+1+1+1:=(by rw [hW];simp);have bW:Below w.heap.size w W:=(by rw [hW];exact (((Below.refl _ w).alloc nR _).alloc (by simp) _).alloc (by simp;omega) _);have rW:W.heap[w.heap.size]?=some (.cells #[.pointer (some ⟨b,0,none⟩)] 104 (0,0)):=(by rw [hW];exact kA (kA (heap_new w _) _) _);have kW:W.heap[w.heap.size+1]?=some (.cells #[.int .i64 k] 3 (0,0)):=by
  have:=heap_new (w.alloc (.cells #[.pointer (some ⟨b,0,none⟩)] 104 (0,0))) (.cells #[.int .i64 k] 3 (0,0));have e:(w.alloc (.cells #[.pointer (some ⟨b,0,none⟩)] 104 (0,0))).heap.size=w.heap.size+1:=(by simp);rw [e] at this;rw [hW];exact kA this _
 have nW:W.heap[w.heap.size+1+1]?=some (.cells #[.int .i64 0,.int .i64 0,.int .i64 0,.string ⟨#[]⟩,.slice none 0 0,.slice none 0 0] 88 (0,0)):=by
  have:=heap_new ((w.alloc (.cells #[.pointer (some ⟨b,0,none⟩)] 104 (0,0))).alloc (.cells #[.int .i64 k] 3 (0,0))) (.cells #[.int .i64 0,.int .i64 0,.int .i64 0,.string ⟨#[]⟩,.slice none 0 0,.slice none 0 0] 88 (0,0));have e:((w.alloc (.cells #[.pointer (some ⟨b,0,none⟩)] 104 (0,0))).alloc (.cells #[.int .i64 k] 3 (0,0))).heap.size=w.heap.size+1+1:=(by simp);rw [e] at this;rw [hW];exact this
 have hRW:=h.below bW;have AW:Aside [b] w.heap.size w W:=aside bW;go_enter Tryz.func176,Tryz.ntmps176;go_wp2_with fail;rw [←hW];clear hW
 cases J with
 | none=>
  refine (opened_deep hRW HJ _).mono ?_;rintro e w1 ⟨rfl,a1⟩;exact ⟨rfl,Post.fail rfl (AW.trans a1 AW.size)⟩
 | some A=>
  have HF:∀ w',Rd w' b g cap I.L I.len (nx+1) (op+1)→Aside [b] W.heap.size W w'→Calls Tryz.prog 180 (#[]++#[.pointer (some ⟨w.heap.size+1,0,none⟩),.pointer (some ⟨w.heap.size,0,none⟩)]) w' (Post b g cap I (op+1) (exO fun _=>False) (nx+1) w' (Ps.signed A k (nx+1))):=fun w' hr' ha'=>
   (signed1_any HJ.2 hr' (hG.far (AW.trans ha' AW.size)) (ha'.keep kW (by omega) (by simp;omega)) (ha'.keep rW (by omega) (by simp;omega)) (by omega) (by omega)).mono fun e w2 hp=>hp.mono fun B w x v hv=>exO_of _ hv
  refine (opened_any hRW (fun i hi=>hi.elim) HJ.1 hlt enter124 HF).mono ?_;rintro e w1 ⟨a1,hres⟩;have z1:=a1.size;have A1:=AW.trans a1 AW.size;have hN1:=a1.keep nW (by omega) (by simp;omega)
  cases ht:Ps.signed A k (nx+1) with
  | err c0 a0=>
   rw [ht] at hres;obtain rfl:e=_:=hres;exact ⟨rfl,Post.fail (by unfold Ps.opn;exact ht) A1⟩
  | ok e0 n1=>
   rw [ht] at hres;obtain ⟨le1,h1,_,rfl,hx⟩:=hres;obtain ⟨y,rfl,he1⟩:=exV_of hx;have HT:=hide ht;clear ht;have fa:=fun o=>fo hN1 o;obtain ⟨ca0,ca1,ca2,ca3,ca4,ca5⟩:=cells6 hN1;have he2:=he1.wide (ok':=fun i=>w.heap.size+1+1<i) (fun i hi hl=>by omega);go_wp2;refine bodyPost_ret (v:=.agg #[.int .i64 y.op,.int .i64 y.k,.int .i64 y.n,.string y.name,.slice y.aS y.nS y.cS,.slice y.aL y.nL y.cL]) (by simp [results,Tryz.results176,go_sem,ca0,ca1,ca2,ca3,ca4,ca5]) rfl ?_;exact Post.good (by unfold Ps.opn;exact HT.out) (A1.put6 (k:=w.heap.size+1+1) (by omega) y) (by omega) (h1.put6 (k:=w.heap.size+1+1) (by omega) (by omega) y) ⟨y,rfl,(he2.put6 (k:=w.heap.size+1+1) (by simp) y).wide (fun i hi _=>by omega)⟩
theorem indexed1_any {b g cap:Nat} {I:Inp} {op nx rb ab:Nat} {E:Nat→Res Ex} {ok0:Nat→Prop} {x0:ExV} {e0:Ex} (HE:Does 164 b g cap I op exV E) {w:World} (h:Rd w b g cap I.L I.len nx op) (hG:GlobB b w) (hr:w.heap[rb]?=some (.cells #[.pointer (some ⟨b,0,none⟩)] 104 (0,0))) (ha:w.heap[ab]?=some (.cells #[.int .i64 x0.op,.int .i64 x0.k,.int .i64 x0.n,.string x0.name,.slice x0.aS x0.nS x0.cS,.slice x0.aL x0.nL x0.cL] 88 (0,0))) (nr:rb≠b) (na:ab≠b)
  (hx0:HEx ok0 w x0.cells e0) (hok:∀ i,ok0 i→i<w.heap.size∧i≠b) :
  Calls Tryz.prog 184 #[.pointer (some ⟨rb,0,none⟩),.pointer (some ⟨ab,0,none⟩)] w (Post b g cap I op (exO ok0) nx w (Ps.index I E e0 nx)):=by
 have hb:=h.bb;have hg:=h.gb;have zr:=lt_of hr;have za:=lt_of ha;have bN:=(Below.refl w.heap.size w).alloc nR (.cells #[.int .i64 0,.int .i64 0,.int .i64 0,.string ⟨#[]⟩,.slice none 0 0,.slice none 0 0] 88 (0,0));have hX0:=(hx0.wide (ok':=fun i=>ok0 i∧i<w.heap.size∧i≠b) (fun i hi _=>⟨hi,hok i hi⟩)).under bN;have hr0:=kA hr (.cells #[.int .i64 0,.int .i64 0,.int .i64 0,.string ⟨#[]⟩,.slice none 0 0,.slice none 0 0] 88 (0,0));have ha0:=kA ha (.cells #[.int .i64 0,.int .i64 0,.int .i64 0,.string ⟨#[]⟩,.slice none 0 0,.slice none 0 0] 88 (0,0));have cr:=co hr0 0;simp only [gT,gZ] at cr;go_enter Tryz.func184,Tryz.ntmps184;go_wp2_with fail;refine (HE _ _ (h.alloc _) (hG.alloc _)).mono ?_;rintro e w1 ⟨a1,hres⟩;have z1:w.heap.size+1≤w1.heap.size:=(by simpa using a1.size);have hA1:=a1.keep (heap_new w _) (by simp) (by simp;omega);have A1:=((Aside.refl (S:=[b]) (B:=w.heap.size) w).alloc nR _).trans a1 (by simp);have hr1:=a1.keep hr0 (by simp;omega) (by simp;omega);have ha1:=a1.keep ha0 (by simp;omega) (by simp;omega);have hX1:=hX0.past a1 (fun i hi=>by simp;exact hi.2.2);clear cr hr0 ha0 hX0
 cases ht:E nx with
 | err c0 a0=>
  rw [ht] at hres;obtain rfl:e=_:=hres;exact ⟨rfl,Post.fail (by unfold Ps.index;rw [ht];rfl) A1⟩
 | ok e1 n1=>
  rw [ht] at hres;obtain ⟨le1,h1,_,rfl,x1,rfl,he1⟩:=hres;have m1:Hid (Ps.index I E e0 nx=(Ps.need I [58] n1).bind fun _ n2=>(E n2).bind fun y n3=>(Ps.need I [93] n3).bind fun _ n4=>.ok (.mk 11 0 0 ⟨#[]⟩ [] [e0,e1,y]) n4):=by
   show Ps.index I E e0 nx=_
   unfold Ps.index;rw [ht];rfl
  clear ht a1;have b1:=(Below.refl w1.heap.size w1).alloc nR (.cells #[.int .i64 x1.op,.int .i64 x1.k,.int .i64 x1.n,.string x1.name,.slice x1.aS x1.nS x1.cS,.slice x1.aL x1.nL x1.cL] 88 (0,0));have hr1':=kA hr1 (.cells #[.int .i64 x1.op,.int .i64 x1.k,.int .i64 x1.n,.string x1.name,.slice x1.aS x1.nS x1.cS,.slice x1.aL x1.nL x1.cL] 88 (0,0));have ha1':=kA ha1 (.cells #[.int .i64 x1.op,.int .i64 x1.k,.int .i64 x1.n,.string x1.name,.slice x1.aS x1.nS x1.cS,.slice x1.aL x1.nL x1.cL] 88 (0,0));have he2:=(he1.wide (ok':=fun i=>w.heap.size<i∧i<w1.heap.size) (fun i hi hl=>by simp at hi;omega)).under b1;have hX1':=hX1.under b1;have cr:=co hr1' 0;simp only [gT,gZ] at cr;go_wp2_with fail;refine (need_any (h1.alloc _) ⟨#[58]⟩ (by decide)).mono ?_;rintro e w2 ⟨a2,hres⟩;have es:(⟨#[58]⟩:ByteArray).data.toList=[58]:=rfl;rw [es] at hres;clear es cr;have z2:w1.heap.size+1≤w2.heap.size:=(by simpa using a2.size);have A2:=(A1.alloc (by omega) _).trans a2 (by simp;omega);have hA2:=a2.keep (kA hA1 _) (by simp;omega) (by simp;omega);have hT2:=a2.keep (heap_new w1 _) (by simp) (by simp;omega);have hr2:=a2.keep hr1' (by simp;omega) (by simp;omega);have ha2:=a2.keep ha1' (by simp;omega) (by simp;omega);have he3:=he2.past a2 (fun i hi=>by simp;omega);have hX2:=hX1'.past a2 (fun i hi=>by simp;exact hi.2.2);clear a2 A1 hA1 he1 he2 h1 hr1 ha1 hr1' ha1' hX1 hX1' b1
  cases hn:Ps.need I [58] n1 with
  | err c0 a0=>
   rw [hn] at hres;obtain rfl:e=_:=hres;exact ⟨rfl,Post.fail (by rw [m1.out,hn];rfl) A2⟩
  | ok u n2=>
   rw [hn] at hres;obtain ⟨le2,h2,_,rfl,rfl⟩:=hres;have m2:Hid (Ps.index I E e0 nx=(E n2).bind fun y n3=>(Ps.need I [93] n3).bind fun _ n4=>.ok (.mk 11 0 0 ⟨#[]⟩ [] [e0,e1,y]) n4):=by
    show Ps.index I E e0 nx=_
    rw [m1.out,hn];rfl
   clear hn m1;have cr:=co hr2 0;simp only [gT,gZ] at cr;go_wp2_with fail;refine (HE _ _ h2 (hG.far A2)).mono ?_;rintro e w3 ⟨a3,hres⟩;have z3:=a3.size;have A3:=A2.trans a3 A2.size;have hA3:=a3.keep hA2 (by omega) (by simp;omega);have hT3:=a3.keep hT2 (by omega) (by simp;omega);have hr3:=a3.keep hr2 (by omega) (by simp;omega);have ha3:=a3.keep ha2 (by omega) (by simp;omega);have he4:=he3.past a3 (fun i hi=>by simp;omega);have hX3:=hX2.past a3 (fun i hi=>by simp;exact hi.2.2);clear a3 A2 hA2 hT2 he3 h2 hr2 ha2 hX2 cr
   cases ht:E n2 with
   | err c0 a0=>
    rw [ht] at hres;obtain rfl:e=_:=hres;exact ⟨rfl,Post.fail (by rw [m2.out,ht];rfl) A3⟩
   | ok e3 n3=>
    rw [ht] at hres;obtain ⟨le3,h3,_,rfl,x3,rfl,hf3⟩:=hres;have m3:Hid (Ps.index I E e0 nx=(Ps.need I [93] n3).bind fun _ n4=>.ok (.mk 11 0 0 ⟨#[]⟩ [] [e0,e1,e3]) n4):=by
     show Ps.index I E e0 nx=_
     rw [m2.out,ht];rfl
    clear ht m2;have b3:=(Below.refl w3.heap.size w3).alloc nR (.cells #[.int .i64 x3.op,.int .i64 x3.k,.int .i64 x3.n,.string x3.name,.slice x3.aS x3.nS x3.cS,.slice x3.aL x3.nL x3.cL] 88 (0,0));have hf4:=(hf3.wide (ok':=fun i=>w1.heap.size<i∧i<w3.heap.size) (fun i hi hl=>by omega)).under b3;have he5:=he4.under b3;have hX4:=hX3.under b3;have hr3':=kA hr3 (.cells #[.int .i64 x3.op,.int .i64 x3.k,.int .i64 x3.n,.string x3.name,.slice x3.aS x3.nS x3.cS,.slice x3.aL x3.nL x3.cL] 88 (0,0));have ha3':=kA ha3 (.cells #[.int .i64 x3.op,.int .i64 x3.k,.int .i64 x3.n,.string x3.name,.slice x3.aS x3.nS x3.cS,.slice x3.aL x3.nL x3.cL] 88 (0,0));have cr:=co hr3' 0;simp only [gT,gZ] at cr;go_wp2_with fail;refine (need_any (h3.alloc _) ⟨#[93]⟩ (by decide)).mono ?_;rintro e w4 ⟨a4,hres⟩;have es:(⟨#[93]⟩:ByteArray).data.toList=[93]:=rfl;rw [es] at hres;clear es cr;have z4:w3.heap.size+1≤w4.heap.size:=(by simpa using a4.size);have A4:=(A3.alloc A3.size _).trans a4 (by simp;omega);have hA4:=a4.keep (kA hA3 _) (by simp;omega) (by simp;omega);have hT4:=a4.keep (kA hT3 _) (by simp;omega) (by simp;omega);have hU4:=a4.keep (heap_new w3 _) (by simp) (by simp;omega);have ha4:=a4.keep ha3' (by simp;omega) (by simp;omega);have he6:=he5.past a4 (fun i hi=>by simp;omega);have hf6:=hf4.past a4 (fun i hi=>by simp;omega);have hX6:=hX4.past a4 (fun i hi=>by simp;exact hi.2.2);clear a4 A3 hA3 hT3 he4 he5 hf3 hf4 h3 hr3 ha3 hr3' ha3' hX3 hX4 b3
    cases hn:Ps.need I [93] n3 with
    | err c0 a0=>
     rw [hn] at hres;obtain rfl:e=_:=hres;exact ⟨rfl,Post.fail (by rw [m3.out,hn];rfl) A4⟩
    | ok u n4=>
     rw [hn] at hres;obtain ⟨le4,h4,_,rfl,rfl⟩:=hres;have m4:Hid (Ps.index I E e0 nx=.ok (.mk 11 0 0 ⟨#[]⟩ [] [e0,e1,e3]) n4):=by
      show Ps.index I E e0 nx=_
      rw [m3.out,hn];rfl
     clear hn m3;have q0:=hX6.wide (ok':=fun i=>(ok0 i∨w.heap.size<i)∧i≠w.heap.size) (fun i hi _=>⟨.inl hi.1,by have:=hi.2.1;omega⟩);have q1:=he6.wide (ok':=fun i=>(ok0 i∨w.heap.size<i)∧i≠w.heap.size) (fun i hi _=>⟨.inr hi.1,by have:=hi.1;omega⟩);have q3:=hf6.wide (ok':=fun i=>(ok0 i∨w.heap.size<i)∧i≠w.heap.size) (fun i hi _=>⟨.inr (by omega),by omega⟩);have hlt:w.heap.size<w4.heap.size:=(by omega);have fa:=fun o=>fo hA4 o;clear he6 hf6 hX6;obtain ⟨ca0,ca1,ca2,ca3,ca4,ca5⟩:=cells6 hA4;obtain ⟨cb0,cb1,cb2,cb3,cb4,cb5⟩:=cells6 ha4;obtain ⟨cc0,cc1,cc2,cc3,cc4,cc5⟩:=cells6 hT4;obtain ⟨cd0,cd1,cd2,cd3,cd4,cd5⟩:=cells6 hU4;go_wp2;have zP:(put6 w4 w.heap.size ⟨11,0,0,⟨#[]⟩,none,0,0,some ⟨w4.heap.size,0,none⟩,3,3⟩).heap.size=w4.heap.size:=put6_size _ _ _;have hLit:=exprs_lit3 (q0.put6 (k:=w.heap.size) (by simp) ⟨11,0,0,⟨#[]⟩,none,0,0,some ⟨w4.heap.size,0,none⟩,3,3⟩) (q1.put6 (k:=w.heap.size) (by simp) ⟨11,0,0,⟨#[]⟩,none,0,0,some ⟨w4.heap.size,0,none⟩,3,3⟩) (q3.put6 (k:=w.heap.size) (by simp) ⟨11,0,0,⟨#[]⟩,none,0,0,some ⟨w4.heap.size,0,none⟩,3,3⟩) 88 (by rw [zP];exact ⟨.inr hlt,by omega⟩);rw [zP] at hLit;refine bodyPost_ret (v:=.agg #[.int .i64 11,.int .i64 0,.int .i64 0,.string ⟨#[]⟩,.slice none 0 0,.slice (some ⟨w4.heap.size,0,none⟩) 3 3]) (by simp [results,Tryz.results184,go_sem,ca0,ca1,ca2,ca3,ca4,ca5,hlt]) rfl ?_;exact Post.good m4.out ((A4.put6 (k:=w.heap.size) nR ⟨11,0,0,⟨#[]⟩,none,0,0,some ⟨w4.heap.size,0,none⟩,3,3⟩).alloc (by rw [zP];omega) _) (by omega) ((h4.put6 (k:=w.heap.size) (by omega) (by omega) ⟨11,0,0,⟨#[]⟩,none,0,0,some ⟨w4.heap.size,0,none⟩,3,3⟩).alloc _) ⟨⟨11,0,0,⟨#[]⟩,none,0,0,some ⟨w4.heap.size,0,none⟩,3,3⟩,rfl,(HEx.make (x:=⟨11,0,0,⟨#[]⟩,none,0,0,some ⟨w4.heap.size,0,none⟩,3,3⟩) (e:=.mk 11 0 0 ⟨#[]⟩ [] [e0,e1,e3]) rfl rfl rfl rfl sizes_nil hLit).wide (fun i hi _=>hi.1.imp id Nat.le_of_lt)⟩
theorem indexed_any {b g cap:Nat} {I:Inp} {op nx:Nat} {ok0:Nat→Prop} {x0:ExV} {e0:Ex} {J:Option (Nat→Res Ex)} (HJ:Inner b g cap I op J) (hlt:nx<I.L.length) {w:World} (h:Rd w b g cap I.L I.len nx op) (hG:GlobB b w) (hx0:HEx ok0 w x0.cells e0) (hok:∀ i,ok0 i→i<w.heap.size∧i≠b) :
  Calls Tryz.prog 178 #[.pointer (some ⟨b,0,none⟩),.agg #[.int .i64 x0.op,.int .i64 x0.k,.int .i64 x0.n,.string x0.name,.slice x0.aS x0.nS x0.cS,.slice x0.aL x0.nL x0.cL]] w (Post b g cap I op (exO ok0) (nx+1) w (Ps.opn I J nx fun A n1=>Ps.index I (Ps.exprOf I A) e0 n1)):=by
 have hb:=h.bb;have hg:=h.gb;have hmf:=makes;obtain ⟨W,hW⟩:=nmQ (((w.alloc (.cells #[.pointer (some ⟨b,0,none⟩)] 104 (0,0))).alloc (.cells #[.int .i64 x0.op,.int .i64 x0.k,.int .i64 x0.n,.string x0.name,.slice x0.aS x0.nS x0.cS,.slice x0.aL x0.nL x0.cL] 88 (0,0))).alloc (.cells #[.int .i64 0,.int .i64 0,.int .i64 0,.string ⟨#[]⟩,.slice none 0 0,.slice none 0 0] 88 (0,0)));have zW:W.heap.size=w.heap.size+1+1+1:=(by rw [hW];simp);have bW:Below w.heap.size w W:=(by rw [hW];exact (((Below.refl _ w).alloc nR _).alloc (by simp) _).alloc (by simp;omega) _);have rW:W.heap[w.heap.size]?=some (.cells #[.pointer (some ⟨b,0,none⟩)] 104 (0,0)):=(by rw [hW];exact kA (kA (heap_new w _) _) _);have kW:W.heap[w.heap.size+1]?=some (.cells #[.int .i64 x0.op,.int .i64 x0.k,.int .i64 x0.n,.string x0.name,.slice x0.aS x0.nS x0.cS,.slice x0.aL x0.nL x0.cL] 88 (0,0)):=by
  have:=heap_new (w.alloc (.cells #[.pointer (some ⟨b,0,none⟩)] 104 (0,0))) (.cells #[.int .i64 x0.op,.int .i64 x0.k,.int .i64 x0.n,.string x0.name,.slice x0.aS x0.nS x0.cS,.slice x0.aL x0.nL x0.cL] 88 (0,0));have e:(w.alloc (.cells #[.pointer (some ⟨b,0,none⟩)] 104 (0,0))).heap.size=w.heap.size+1:=(by simp);rw [e] at this;rw [hW];exact kA this _
 have nW:W.heap[w.heap.size+1+1]?=some (.cells #[.int .i64 0,.int .i64 0,.int .i64 0,.string ⟨#[]⟩,.slice none 0 0,.slice none 0 0] 88 (0,0)):=by
  have:=heap_new ((w.alloc (.cells #[.pointer (some ⟨b,0,none⟩)] 104 (0,0))).alloc (.cells #[.int .i64 x0.op,.int .i64 x0.k,.int .i64 x0.n,.string x0.name,.slice x0.aS x0.nS x0.cS,.slice x0.aL x0.nL x0.cL] 88 (0,0))) (.cells #[.int .i64 0,.int .i64 0,.int .i64 0,.string ⟨#[]⟩,.slice none 0 0,.slice none 0 0] 88 (0,0));have e:((w.alloc (.cells #[.pointer (some ⟨b,0,none⟩)] 104 (0,0))).alloc (.cells #[.int .i64 x0.op,.int .i64 x0.k,.int .i64 x0.n,.string x0.name,.slice x0.aS x0.nS x0.cS,.slice x0.aL x0.nL x0.cL] 88 (0,0))).heap.size=w.heap.size+1+1:=(by simp);rw [e] at this;rw [hW];exact this
 have hRW:=h.below bW;have AW:Aside [b] w.heap.size w W:=aside bW;have hXW:=hx0.under bW;have hokW:∀ i,ok0 i→i<W.heap.size∧i≠b:=fun i hi=>⟨by have:=(hok i hi).1;omega,(hok i hi).2⟩;go_enter Tryz.func178,Tryz.ntmps178;go_wp2_with fail;rw [←hW];clear hW
 cases J with
 | none=>
  refine (opened_deep hRW HJ _).mono ?_;rintro e w1 ⟨rfl,a1⟩;exact ⟨rfl,Post.fail rfl (AW.trans a1 AW.size)⟩
 | some A=>
  have HF:∀ w',Rd w' b g cap I.L I.len (nx+1) (op+1)→Aside [b] W.heap.size W w'→Calls Tryz.prog 184 (#[]++#[.pointer (some ⟨w.heap.size,0,none⟩),.pointer (some ⟨w.heap.size+1,0,none⟩)]) w' (Post b g cap I (op+1) (exO ok0) (nx+1) w' (Ps.index I (Ps.exprOf I A) e0 (nx+1))):=fun w' hr' ha'=>
   indexed1_any (exprOf_any HJ.2) hr' (hG.far (AW.trans ha' AW.size)) (ha'.keep rW (by omega) (by simp;omega)) (ha'.keep kW (by omega) (by simp;omega)) (by omega) (by omega) (hXW.past ha' (fun i hi=>by simp;exact (hok i hi).2)) (fun i hi=>⟨Nat.lt_of_lt_of_le (hokW i hi).1 ha'.size,(hok i hi).2⟩)
  refine (opened_any hRW hokW HJ.1 hlt enter128 HF).mono ?_;rintro e w1 ⟨a1,hres⟩;have z1:=a1.size;have A1:=AW.trans a1 AW.size;have hN1:=a1.keep nW (by omega) (by simp;omega)
  cases ht:Ps.index I (Ps.exprOf I A) e0 (nx+1) with
  | err c0 a0=>
   rw [ht] at hres;obtain rfl:e=_:=hres;exact ⟨rfl,Post.fail (by unfold Ps.opn;exact ht) A1⟩
  | ok e1 n1=>
   rw [ht] at hres;obtain ⟨le1,h1,_,rfl,y,rfl,he1⟩:=hres;have HT:=hide ht;clear ht;have fa:=fun o=>fo hN1 o;obtain ⟨ca0,ca1,ca2,ca3,ca4,ca5⟩:=cells6 hN1;have he2:=he1.wide (ok':=fun i=>(ok0 i∨w.heap.size≤i)∧i≠w.heap.size+1+1) (fun i hi hl=>hi.elim (fun q=>⟨.inl q,by have:=(hok i q).1;omega⟩) (fun q=>⟨.inr (by omega),by omega⟩));go_wp2;refine bodyPost_ret (v:=.agg #[.int .i64 y.op,.int .i64 y.k,.int .i64 y.n,.string y.name,.slice y.aS y.nS y.cS,.slice y.aL y.nL y.cL]) (by simp [results,Tryz.results178,go_sem,ca0,ca1,ca2,ca3,ca4,ca5]) rfl ?_;exact Post.good (by unfold Ps.opn;exact HT.out) (A1.put6 (k:=w.heap.size+1+1) (by omega) y) (by omega) (h1.put6 (k:=w.heap.size+1+1) (by omega) (by omega) y) ⟨y,rfl,(he2.put6 (k:=w.heap.size+1+1) (by simp) y).wide (fun i hi _=>hi.1)⟩
end Go.Proofs.YtophfbefnaelfaaGreatDoor
