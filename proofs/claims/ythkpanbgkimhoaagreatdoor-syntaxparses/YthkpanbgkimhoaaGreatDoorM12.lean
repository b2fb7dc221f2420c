import Derived.Test.YthkpanbgkimhoaaGreatDoorM10
import Derived.Test.YthkpanbgkimhoaaGreatDoorM07
import Derived.Test.YthkpanbgkimhoaaGreatDoorQ15
set_option linter.unusedVariables false
set_option linter.unusedSimpArgs false
set_option maxHeartbeats 64000000
set_option maxRecDepth 100000
namespace Go.Proofs.YthkpanbgkimhoaaGreatDoor
open Go.RowKit Go.IntWalk
def Inner (b g cap:Nat) (I:Inp) (op:Nat) (J:Option (Nat→Res Ex)):Prop :=
 match J with
 | none=>60≤op
 | some A=>op<60∧Does 119 b g cap I (op+1) exV A
theorem enter124 (args:Array Value) (w:World):(callFunc 124 args).run Tryz.prog w=.ok (.enter 124 args) w:=by kernel_rfl
theorem enter125 (args:Array Value) (w:World):(callFunc 125 args).run Tryz.prog w=.ok (.enter 125 args) w:=by kernel_rfl
theorem enter126 (args:Array Value) (w:World):(callFunc 126 args).run Tryz.prog w=.ok (.enter 126 args) w:=by kernel_rfl
theorem enter128 (args:Array Value) (w:World):(callFunc 128 args).run Tryz.prog w=.ok (.enter 128 args) w:=by kernel_rfl
theorem enter135 (args:Array Value) (w:World):(callFunc 135 args).run Tryz.prog w=.ok (.enter 135 args) w:=by kernel_rfl
theorem signed1_any {b g cap:Nat} {I:Inp} {op nx kb rb:Nat} {k:Int} {A:Nat→Res Ex} (HA:Does 119 b g cap I op exV A) {w:World} (h:Rd w b g cap I.L I.len nx op) (hG:GlobB b w) (hk:w.heap[kb]?=some (.cells #[.int .i64 k] 3 (0,0))) (hr:w.heap[rb]?=some (.cells #[.pointer (some ⟨b,0,none⟩)] 76 (0,0))) (nk:kb≠b) (nr:rb≠b) :
  Calls Tryz.prog 124 #[.pointer (some ⟨kb,0,none⟩),.pointer (some ⟨rb,0,none⟩)] w (Post b g cap I op exV nx w (Ps.signed A k nx)):=by
 have hb:=h.bb;have hg:=h.gb;have zk:=zC hk;have zr:=zC hr;go_enter Tryz.func124,Tryz.ntmps124;go_upto_region 1 with fail;have h1:Rd (w.alloc Zb).drew b g cap I.L I.len nx op:=(h.alloc _).drew;have A1:Aside [b] w.heap.size w (w.alloc Zb).drew:=((Aside.refl w).alloc nR _).drew;have hN1:(w.alloc Zb).drew.heap[w.heap.size]?=some Zb:=zF w _;have hk1:(w.alloc Zb).drew.heap[kb]?=some (.cells #[.int .i64 k] 3 (0,0)):=kA hk _;have hr1:(w.alloc Zb).drew.heap[rb]?=some (.cells #[.pointer (some ⟨b,0,none⟩)] 76 (0,0)):=kA hr _;have z1:(w.alloc Zb).drew.heap.size=w.heap.size+1:=(by show (w.alloc _).heap.size=_;simp);refine zL (fun w'=>w'.cell? ⟨kb,0,none⟩=some (.int .i64 k)∧w'.cell? ⟨rb,0,none⟩=some (.pointer (some ⟨b,0,none⟩))) (fun j=>decide (j=5)) (by kernel_rfl) ?_;generalize (w.alloc Zb).drew=w1 at h1 A1 hN1 hk1 hr1 z1 ⊢;have ck:=co hk1 0;have cr:=co hr1 0;simp at ck cr;have hH:=And.intro ck cr;refine' zE (i:=0) (v:=_) rfl (by kernel_rfl) (by kernel_rfl) (by kernel_rfl) (by kernel_rfl) (fun _ _ _ h=>h) hH (by rfl) ?hyv ?o1
 case hyv=>
  intro wz hSw;obtain ⟨c0,c1⟩:=hSw;go_simp
  try rfl
 try simp only [Act.put,sT,sZ,sS]
 refine' zE (i:=1) (v:=_) rfl (by kernel_rfl) (by kernel_rfl) (by kernel_rfl) (by kernel_rfl) (fun _ _ _ h=>h) hH (by rfl) ?hyv ?o2
 case hyv=>
  intro wz hSw;obtain ⟨c0,c1⟩:=hSw;go_simp
  try rfl
 try simp only [Act.put,sT,sZ,sS]
 refine zG (i:=2) rfl (by kernel_rfl) (by rfl) (fun K hK=>?_);go_simp;refine (HA _ _ h1 (hG.far A1)).mono ?_;rintro e w3 ⟨a3,hres⟩;have z3:=a3.size;have A3:=A1.trans a3 A1.size;have hN3:=a3.keep hN1 (by omega) (by simp;omega);have hk3:=a3.keep hk1 (by omega) (by simp;omega);have hr3:=a3.keep hr1 (by omega) (by simp;omega);clear a3 A1 hN1 h1 hk1 hr1 hH ck cr
 cases ht:A nx with
 | err c0 a0=>
  rw [ht] at hres;obtain rfl:e=_:=hres;exact ⟨rfl,Post.fail (by unfold Ps.signed;rw [ht];rfl) A3⟩
 | ok e0 n1=>
  rw [ht] at hres;obtain ⟨le3,h3,_,rfl,y,rfl,he3⟩:=hres;have hm:Hid (Ps.signed A k nx=.ok (.mk 4 k 0 ⟨#[]⟩ [] [e0]) n1):=by
   show Ps.signed A k nx=_
   unfold Ps.signed;rw [ht];rfl
  clear ht;have ck:=co hk3 0;have cr:=co hr3 0;simp at ck cr;refine hK.out _ _ (fun _=>And.intro ck cr) ?_;clear hK K
  try simp only [Act.put,sT,sZ,sS]
  have hlt:w.heap.size<w3.heap.size:=(by omega);have fa:=fun o=>fo hN3 o;obtain ⟨ca0,ca1,ca2,ca3,ca4,ca5⟩:=zH hN3;have ck4:=co (kA hk3 (.cells (exC y) 45 (0,0))) 0;have cr4:=co (kA hr3 (.cells (exC y) 45 (0,0))) 0;simp only [gT,gZ] at ck4 cr4;have H4:=zD (And.intro ck4 cr4);clear ck4 cr4;refine zG (i:=3) rfl (by kernel_rfl) (by rfl) (fun K hK=>?_);go_simp;refine hK.out _ _ (fun _=>H4.out) ?_;clear hK K
  try simp only [Act.put,sT,sZ,sS]
  refine zG (i:=4) rfl (by kernel_rfl) (by rfl) (fun K hK=>?_);go_simp;refine hK.out _ _ (fun _=>H4.out) ?_;clear hK K
  try simp only [Act.put,sT,sZ,sS]
  refine zG (i:=5) rfl (by kernel_rfl) (by rfl) (fun K hK=>?_);go_simp;refine hK.out _ _ (fun h=>by cases h) ?_;clear hK K
  try simp only [Act.put,sT,sZ,sS]
  refine zR (by kernel_rfl) ?_ _;go_wp2_with fail;have q:=he3.wide (ok':=fun i=>w.heap.size<i) (fun i hi _=>by omega);have zP:(put6 w3 w.heap.size ⟨4,k,0,⟨#[]⟩,none,0,0,some ⟨w3.heap.size,0,none⟩,1,1⟩).heap.size=w3.heap.size:=jU _ _ _;have hLit:=zBs (q.put6 (k:=w.heap.size) (by simp) ⟨4,k,0,⟨#[]⟩,none,0,0,some ⟨w3.heap.size,0,none⟩,1,1⟩) 45 (by rw [zP];omega);rw [zP] at hLit;refine bodyPost_ret (v:=.agg #[.int .i64 4,.int .i64 k,.int .i64 0,.string ⟨#[]⟩,.slice none 0 0,.slice (some ⟨w3.heap.size,0,none⟩) 1 1]) (by simp [results,Tryz.results124,go_sem,ca0,ca1,ca2,ca3,ca4,ca5,hlt]) rfl ?_;exact Post.good hm.out ((A3.put6 (k:=w.heap.size) nR ⟨4,k,0,⟨#[]⟩,none,0,0,some ⟨w3.heap.size,0,none⟩,1,1⟩).alloc (by rw [zP];omega) _) (by omega) ((h3.put6 (k:=w.heap.size) (by omega) (by omega) ⟨4,k,0,⟨#[]⟩,none,0,0,some ⟨w3.heap.size,0,none⟩,1,1⟩).alloc _) ⟨⟨4,k,0,⟨#[]⟩,none,0,0,some ⟨w3.heap.size,0,none⟩,1,1⟩,rfl,(HEx.make (x:=⟨4,k,0,⟨#[]⟩,none,0,0,some ⟨w3.heap.size,0,none⟩,1,1⟩) (e:=.mk 4 k 0 ⟨#[]⟩ [] [e0]) rfl rfl rfl rfl qO hLit).wide (fun i hi _=>Nat.le_of_lt hi)⟩
theorem zDf {b g cap:Nat} {I:Inp} {op nx:Nat} (k:Int) {J:Option (Nat→Res Ex)} (HJ:Inner b g cap I op J) (hlt:nx<I.L.length) {w:World} (h:Rd w b g cap I.L I.len nx op) (hG:GlobB b w) :
  Calls Tryz.prog 120 #[.pointer (some ⟨b,0,none⟩),.int .i64 k] w (Post b g cap I op exV nx w (Ps.opn I J nx fun A n1=>Ps.signed A k n1)):=by
 have hb:=h.bb;have hg:=h.gb;have hmf:=vM;obtain ⟨W,hW⟩:=nm (((w.alloc (.cells #[.pointer (some ⟨b,0,none⟩)] 76 (0,0))).alloc (.cells #[.int .i64 k] 3 (0,0))).alloc Zb);have zW:W.heap.size=w.heap.size+1+1+1:=(by rw [hW];simp);have bW:Below w.heap.size w W:=(by rw [hW];exact (((Below.refl _ w).alloc nR _).alloc (by simp) _).alloc (by simp;omega) _);have rW:W.heap[w.heap.size]?=some (.cells #[.pointer (some ⟨b,0,none⟩)] 76 (0,0)):=(by rw [hW];exact kA (kA (zF w _) _) _);have kW:W.heap[w.heap.size+1]?=some (.cells #[.int .i64 k] 3 (0,0)):=by
  have:=zF (w.alloc (.cells #[.pointer (some ⟨b,0,none⟩)] 76 (0,0))) (.cells #[.int .i64 k] 3 (0,0));have e:(w.alloc (.cells #[.pointer (some ⟨b,0,none⟩)] 76 (0,0))).heap.size=w.heap.size+1:=(by simp);rw [e] at this;rw [hW];exact kA this _
 have nW:W.heap[w.heap.size+1+1]?=some Zb:=by
  have:=zF ((w.alloc (.cells #[.pointer (some ⟨b,0,none⟩)] 76 (0,0))).alloc (.cells #[.int .i64 k] 3 (0,0))) Zb;have e:((w.alloc (.cells #[.pointer (some ⟨b,0,none⟩)] 76 (0,0))).alloc (.cells #[.int .i64 k] 3 (0,0))).heap.size=w.heap.size+1+1:=(by simp);rw [e] at this;rw [hW];exact this
 have hRW:=h.below bW;have AW:Aside [b] w.heap.size w W:=aside bW;go_enter Tryz.func120,Tryz.ntmps120;go_wp2_with fail;rw [←hW];clear hW
 cases J with
 | none=>
  refine (jK hRW HJ _).mono ?_;rintro e w1 ⟨rfl,a1⟩;exact ⟨rfl,Post.fail rfl (AW.trans a1 AW.size)⟩
 | some A=>
  have HF:∀ w',Rd w' b g cap I.L I.len (nx+1) (op+1)→Aside [b] W.heap.size W w'→Calls Tryz.prog 124 (#[]++#[.pointer (some ⟨w.heap.size+1,0,none⟩),.pointer (some ⟨w.heap.size,0,none⟩)]) w' (Post b g cap I (op+1) (exO fun _=>False) (nx+1) w' (Ps.signed A k (nx+1))):=fun w' hr' ha'=>
   (signed1_any HJ.2 hr' (hG.far (AW.trans ha' AW.size)) (ha'.keep kW (by omega) (by simp;omega)) (ha'.keep rW (by omega) (by simp;omega)) (by omega) (by omega)).mono fun e w2 hp=>hp.mono fun B w x v hv=>exO_of _ hv
  refine (zAl hRW (fun i hi=>hi.elim) HJ.1 hlt enter124 HF).mono ?_;rintro e w1 ⟨a1,hres⟩;have z1:=a1.size;have A1:=AW.trans a1 AW.size;have hN1:=a1.keep nW (by omega) (by simp;omega)
  cases ht:Ps.signed A k (nx+1) with
  | err c0 a0=>
   rw [ht] at hres;obtain rfl:e=_:=hres;exact ⟨rfl,Post.fail (by unfold Ps.opn;exact ht) A1⟩
  | ok e0 n1=>
   rw [ht] at hres;obtain ⟨le1,h1,_,rfl,hx⟩:=hres;obtain ⟨y,rfl,he1⟩:=exV_of hx;have HT:=zD ht;clear ht;have fa:=fun o=>fo hN1 o;obtain ⟨ca0,ca1,ca2,ca3,ca4,ca5⟩:=zH hN1;have he2:=he1.wide (ok':=fun i=>w.heap.size+1+1<i) (fun i hi hl=>by omega);go_wp2;refine bodyPost_ret (v:=.agg #[.int .i64 y.op,.int .i64 y.k,.int .i64 y.n,.string y.name,.slice y.aS y.nS y.cS,.slice y.aL y.nL y.cL]) (by simp [results,Tryz.results120,go_sem,ca0,ca1,ca2,ca3,ca4,ca5]) rfl ?_;exact Post.good (by unfold Ps.opn;exact HT.out) (A1.put6 (k:=w.heap.size+1+1) (by omega) y) (by omega) (h1.put6 (k:=w.heap.size+1+1) (by omega) (by omega) y) ⟨y,rfl,(he2.put6 (k:=w.heap.size+1+1) (by simp) y).wide (fun i hi _=>by omega)⟩
theorem indexed1_any {b g cap:Nat} {I:Inp} {op nx rb ab:Nat} {E:Nat→Res Ex} {ok0:Nat→Prop} {x0:ExV} {e0:Ex} (HE:Does 108 b g cap I op exV E) {w:World} (h:Rd w b g cap I.L I.len nx op) (hG:GlobB b w) (hr:w.heap[rb]?=some (.cells #[.pointer (some ⟨b,0,none⟩)] 76 (0,0))) (ha:w.heap[ab]?=some (.cells (exC x0) 45 (0,0))) (nr:rb≠b) (na:ab≠b)
  (hx0:HEx ok0 w x0.cells e0) (hok:∀ i,ok0 i→i<w.heap.size∧i≠b) :
  Calls Tryz.prog 128 #[.pointer (some ⟨rb,0,none⟩),.pointer (some ⟨ab,0,none⟩)] w (Post b g cap I op (exO ok0) nx w (Ps.index I E e0 nx)):=by
 have hb:=h.bb;have hg:=h.gb;have zr:=zC hr;have za:=zC ha;have bN:=(Below.refl w.heap.size w).alloc nR Zb;have hX0:=(hx0.wide (ok':=fun i=>ok0 i∧i<w.heap.size∧i≠b) (fun i hi _=>⟨hi,hok i hi⟩)).under bN;have hr0:=kA hr Zb;have ha0:=kA ha Zb;have cr:=co hr0 0;simp only [gT,gZ] at cr;go_enter Tryz.func128,Tryz.ntmps128;go_wp2_with fail;refine (HE _ _ (h.alloc _) (hG.alloc _)).mono ?_;rintro e w1 ⟨a1,hres⟩;have z1:w.heap.size+1≤w1.heap.size:=(by simpa using a1.size);have hA1:=a1.keep (zF w _) (by simp) (by simp;omega);have A1:=((Aside.refl (S:=[b]) (B:=w.heap.size) w).alloc nR _).trans a1 (by simp);have hr1:=a1.keep hr0 (by simp;omega) (by simp;omega);have ha1:=a1.keep ha0 (by simp;omega) (by simp;omega);have hX1:=hX0.past a1 (fun i hi=>by simp;exact hi.2.2);clear cr hr0 ha0 hX0
 cases ht:E nx with
 | err c0 a0=>
  rw [ht] at hres;obtain rfl:e=_:=hres;exact ⟨rfl,Post.fail (by unfold Ps.index;rw [ht];rfl) A1⟩
 | ok e1 n1=>
  rw [ht] at hres;obtain ⟨le1,h1,_,rfl,x1,rfl,he1⟩:=hres;have m1:Hid (Ps.index I E e0 nx=(Ps.need I [58] n1).bind fun _ n2=>(E n2).bind fun y n3=>(Ps.need I [93] n3).bind fun _ n4=>.ok (.mk 11 0 0 ⟨#[]⟩ [] [e0,e1,y]) n4):=by
   show Ps.index I E e0 nx=_
   unfold Ps.index;rw [ht];rfl
  clear ht a1;have b1:=(Below.refl w1.heap.size w1).alloc nR (.cells (exC x1) 45 (0,0));have hr1':=kA hr1 (.cells (exC x1) 45 (0,0));have ha1':=kA ha1 (.cells (exC x1) 45 (0,0));have he2:=(he1.wide (ok':=fun i=>w.heap.size<i∧i<w1.heap.size) (fun i hi hl=>by simp at hi;omega)).under b1;have hX1':=hX1.under b1;have cr:=co hr1' 0;simp only [gT,gZ] at cr;go_wp2_with fail;refine (zM (h1.alloc _) ⟨#[58]⟩ (by decide)).mono ?_;rintro e w2 ⟨a2,hres⟩;have es:(⟨#[58]⟩:ByteArray).data.toList=[58]:=rfl;rw [es] at hres;clear es cr;have z2:w1.heap.size+1≤w2.heap.size:=(by simpa using a2.size);have A2:=(A1.alloc (by omega) _).trans a2 (by simp;omega);have hA2:=a2.keep (kA hA1 _) (by simp;omega) (by simp;omega);have hT2:=a2.keep (zF w1 _) (by simp) (by simp;omega);have hr2:=a2.keep hr1' (by simp;omega) (by simp;omega);have ha2:=a2.keep ha1' (by simp;omega) (by simp;omega);have he3:=he2.past a2 (fun i hi=>by simp;omega);have hX2:=hX1'.past a2 (fun i hi=>by simp;exact hi.2.2);clear a2 A1 hA1 he1 he2 h1 hr1 ha1 hr1' ha1' hX1 hX1' b1
  cases hn:Ps.need I [58] n1 with
  | err c0 a0=>
   rw [hn] at hres;obtain rfl:e=_:=hres;exact ⟨rfl,Post.fail (by rw [m1.out,hn];rfl) A2⟩
  | ok u n2=>
   rw [hn] at hres;obtain ⟨le2,h2,_,rfl,rfl⟩:=hres;have m2:Hid (Ps.index I E e0 nx=(E n2).bind fun y n3=>(Ps.need I [93] n3).bind fun _ n4=>.ok (.mk 11 0 0 ⟨#[]⟩ [] [e0,e1,y]) n4):=by
    show Ps.index I E e0 nx=_
    rw [m1.out,hn];rfl
   clear hn m1;have cr:=co hr2 0;simp only [gT,gZ] at cr;go_wp2_with fail;refine (HE _ _ h2 (hG.far A2)).mono ?_;rintro e w3 ⟨a3,hres⟩;have z3:=a3.size;have A3:=A2.trans a3 A2.size;have hA3:=a3.keep hA2 (by omega) (by simp;omega);have hT3:=a3.keep hT2 (by omega) (by simp;omega);have hr3:=a3.keep hr2 (by omega) (by simp;omega);have ha3:=a3.keep ha2 (by omega) (by simp;omega);have he4:=he3.past a3 (fun i hi=>by simp;omega);have hX3:=hX2.past a3 (fun i hi=>by simp;exact hi.2.2);clear a3 A2 hA2 hT2 he3 h2 hr2 ha2 hX2 cr
   cases ht:E n2 with
   | err c0 a0=>
    rw [ht] at hres;obtain rfl:e=_:=hres;exact ⟨rfl,Post.fail (by rw [m2.out,ht];rfl) A3⟩
   | ok e3 n3=>
    rw [ht] at hres;obtain ⟨le3,h3,_,rfl,x3,rfl,hf3⟩:=hres;have m3:Hid (Ps.index I E e0 nx=(Ps.need I [93] n3).bind fun _ n4=>.ok (.mk 11 0 0 ⟨#[]⟩ [] [e0,e1,e3]) n4):=by
     show Ps.index I E e0 nx=_
     rw [m2.out,ht];rfl
    clear ht m2;have b3:=(Below.refl w3.heap.size w3).alloc nR (.cells (exC x3) 45 (0,0));have hf4:=(hf3.wide (ok':=fun i=>w1.heap.size<i∧i<w3.heap.size) (fun i hi hl=>by omega)).under b3;have he5:=he4.under b3;have hX4:=hX3.under b3;have hr3':=kA hr3 (.cells (exC x3) 45 (0,0));have ha3':=kA ha3 (.cells (exC x3) 45 (0,0));have cr:=co hr3' 0;simp only [gT,gZ] at cr;go_wp2_with fail;refine (zM (h3.alloc _) ⟨#[93]⟩ (by decide)).mono ?_;rintro e w4 ⟨a4,hres⟩;have es:(⟨#[93]⟩:ByteArray).data.toList=[93]:=rfl;rw [es] at hres;clear es cr;have z4:w3.heap.size+1≤w4.heap.size:=(by simpa using a4.size);have A4:=(A3.alloc A3.size _).trans a4 (by simp;omega);have hA4:=a4.keep (kA hA3 _) (by simp;omega) (by simp;omega);have hT4:=a4.keep (kA hT3 _) (by simp;omega) (by simp;omega);have hU4:=a4.keep (zF w3 _) (by simp) (by simp;omega);have ha4:=a4.keep ha3' (by simp;omega) (by simp;omega);have he6:=he5.past a4 (fun i hi=>by simp;omega);have hf6:=hf4.past a4 (fun i hi=>by simp;omega);have hX6:=hX4.past a4 (fun i hi=>by simp;exact hi.2.2);clear a4 A3 hA3 hT3 he4 he5 hf3 hf4 h3 hr3 ha3 hr3' ha3' hX3 hX4 b3
    cases hn:Ps.need I [93] n3 with
    | err c0 a0=>
     rw [hn] at hres;obtain rfl:e=_:=hres;exact ⟨rfl,Post.fail (by rw [m3.out,hn];rfl) A4⟩
    | ok u n4=>
     rw [hn] at hres;obtain ⟨le4,h4,_,rfl,rfl⟩:=hres;have m4:Hid (Ps.index I E e0 nx=.ok (.mk 11 0 0 ⟨#[]⟩ [] [e0,e1,e3]) n4):=by
      show Ps.index I E e0 nx=_
      rw [m3.out,hn];rfl
     clear hn m3;have q0:=hX6.wide (ok':=fun i=>(ok0 i∨w.heap.size<i)∧i≠w.heap.size) (fun i hi _=>⟨.inl hi.1,by have:=hi.2.1;omega⟩);have q1:=he6.wide (ok':=fun i=>(ok0 i∨w.heap.size<i)∧i≠w.heap.size) (fun i hi _=>⟨.inr hi.1,by have:=hi.1;omega⟩);have q3:=hf6.wide (ok':=fun i=>(ok0 i∨w.heap.size<i)∧i≠w.heap.size) (fun i hi _=>⟨.inr (by omega),by omega⟩);have hlt:w.heap.size<w4.heap.size:=(by omega);have fa:=fun o=>fo hA4 o;clear he6 hf6 hX6;obtain ⟨ca0,ca1,ca2,ca3,ca4,ca5⟩:=zH hA4;obtain ⟨cb0,cb1,cb2,cb3,cb4,cb5⟩:=zH ha4;obtain ⟨cc0,cc1,cc2,cc3,cc4,cc5⟩:=zH hT4;obtain ⟨cd0,cd1,cd2,cd3,cd4,cd5⟩:=zH hU4;go_wp2;have zP:(put6 w4 w.heap.size ⟨11,0,0,⟨#[]⟩,none,0,0,some ⟨w4.heap.size,0,none⟩,3,3⟩).heap.size=w4.heap.size:=jU _ _ _;have hLit:=zAt (q0.put6 (k:=w.heap.size) (by simp) ⟨11,0,0,⟨#[]⟩,none,0,0,some ⟨w4.heap.size,0,none⟩,3,3⟩) (q1.put6 (k:=w.heap.size) (by simp) ⟨11,0,0,⟨#[]⟩,none,0,0,some ⟨w4.heap.size,0,none⟩,3,3⟩) (q3.put6 (k:=w.heap.size) (by simp) ⟨11,0,0,⟨#[]⟩,none,0,0,some ⟨w4.heap.size,0,none⟩,3,3⟩) 45 (by rw [zP];exact ⟨.inr hlt,by omega⟩);rw [zP] at hLit;refine bodyPost_ret (v:=.agg #[.int .i64 11,.int .i64 0,.int .i64 0,.string ⟨#[]⟩,.slice none 0 0,.slice (some ⟨w4.heap.size,0,none⟩) 3 3]) (by simp [results,Tryz.results128,go_sem,ca0,ca1,ca2,ca3,ca4,ca5,hlt]) rfl ?_;exact Post.good m4.out ((A4.put6 (k:=w.heap.size) nR ⟨11,0,0,⟨#[]⟩,none,0,0,some ⟨w4.heap.size,0,none⟩,3,3⟩).alloc (by rw [zP];omega) _) (by omega) ((h4.put6 (k:=w.heap.size) (by omega) (by omega) ⟨11,0,0,⟨#[]⟩,none,0,0,some ⟨w4.heap.size,0,none⟩,3,3⟩).alloc _) ⟨⟨11,0,0,⟨#[]⟩,none,0,0,some ⟨w4.heap.size,0,none⟩,3,3⟩,rfl,(HEx.make (x:=⟨11,0,0,⟨#[]⟩,none,0,0,some ⟨w4.heap.size,0,none⟩,3,3⟩) (e:=.mk 11 0 0 ⟨#[]⟩ [] [e0,e1,e3]) rfl rfl rfl rfl qO hLit).wide (fun i hi _=>hi.1.imp id Nat.le_of_lt)⟩
theorem indexed_any {b g cap:Nat} {I:Inp} {op nx:Nat} {ok0:Nat→Prop} {x0:ExV} {e0:Ex} {J:Option (Nat→Res Ex)} (HJ:Inner b g cap I op J) (hlt:nx<I.L.length) {w:World} (h:Rd w b g cap I.L I.len nx op) (hG:GlobB b w) (hx0:HEx ok0 w x0.cells e0) (hok:∀ i,ok0 i→i<w.heap.size∧i≠b) :
  Calls Tryz.prog 122 #[.pointer (some ⟨b,0,none⟩),.agg #[.int .i64 x0.op,.int .i64 x0.k,.int .i64 x0.n,.string x0.name,.slice x0.aS x0.nS x0.cS,.slice x0.aL x0.nL x0.cL]] w (Post b g cap I op (exO ok0) (nx+1) w (Ps.opn I J nx fun A n1=>Ps.index I (Ps.exprOf I A) e0 n1)):=by
 have hb:=h.bb;have hg:=h.gb;have hmf:=vM;obtain ⟨W,hW⟩:=nm (((w.alloc (.cells #[.pointer (some ⟨b,0,none⟩)] 76 (0,0))).alloc (.cells (exC x0) 45 (0,0))).alloc Zb);have zW:W.heap.size=w.heap.size+1+1+1:=(by rw [hW];simp);have bW:Below w.heap.size w W:=(by rw [hW];exact (((Below.refl _ w).alloc nR _).alloc (by simp) _).alloc (by simp;omega) _);have rW:W.heap[w.heap.size]?=some (.cells #[.pointer (some ⟨b,0,none⟩)] 76 (0,0)):=(by rw [hW];exact kA (kA (zF w _) _) _);have kW:W.heap[w.heap.size+1]?=some (.cells (exC x0) 45 (0,0)):=by
  have:=zF (w.alloc (.cells #[.pointer (some ⟨b,0,none⟩)] 76 (0,0))) (.cells (exC x0) 45 (0,0));have e:(w.alloc (.cells #[.pointer (some ⟨b,0,none⟩)] 76 (0,0))).heap.size=w.heap.size+1:=(by simp);rw [e] at this;rw [hW];exact kA this _
 have nW:W.heap[w.heap.size+1+1]?=some Zb:=by
  have:=zF ((w.alloc (.cells #[.pointer (some ⟨b,0,none⟩)] 76 (0,0))).alloc (.cells (exC x0) 45 (0,0))) Zb;have e:((w.alloc (.cells #[.pointer (some ⟨b,0,none⟩)] 76 (0,0))).alloc (.cells (exC x0) 45 (0,0))).heap.size=w.heap.size+1+1:=(by simp);rw [e] at this;rw [hW];exact this
 have hRW:=h.below bW;have AW:Aside [b] w.heap.size w W:=aside bW;have hXW:=hx0.under bW;have hokW:∀ i,ok0 i→i<W.heap.size∧i≠b:=fun i hi=>⟨by have:=(hok i hi).1;omega,(hok i hi).2⟩;go_enter Tryz.func122,Tryz.ntmps122;go_wp2_with fail;rw [←hW];clear hW
 cases J with
 | none=>
  refine (jK hRW HJ _).mono ?_;rintro e w1 ⟨rfl,a1⟩;exact ⟨rfl,Post.fail rfl (AW.trans a1 AW.size)⟩
 | some A=>
  have HF:∀ w',Rd w' b g cap I.L I.len (nx+1) (op+1)→Aside [b] W.heap.size W w'→Calls Tryz.prog 128 (#[]++#[.pointer (some ⟨w.heap.size,0,none⟩),.pointer (some ⟨w.heap.size+1,0,none⟩)]) w' (Post b g cap I (op+1) (exO ok0) (nx+1) w' (Ps.index I (Ps.exprOf I A) e0 (nx+1))):=fun w' hr' ha'=>
   indexed1_any (zAG HJ.2) hr' (hG.far (AW.trans ha' AW.size)) (ha'.keep rW (by omega) (by simp;omega)) (ha'.keep kW (by omega) (by simp;omega)) (by omega) (by omega) (hXW.past ha' (fun i hi=>by simp;exact (hok i hi).2)) (fun i hi=>⟨Nat.lt_of_lt_of_le (hokW i hi).1 ha'.size,(hok i hi).2⟩)
  refine (zAl hRW hokW HJ.1 hlt enter128 HF).mono ?_;rintro e w1 ⟨a1,hres⟩;have z1:=a1.size;have A1:=AW.trans a1 AW.size;have hN1:=a1.keep nW (by omega) (by simp;omega)
  cases ht:Ps.index I (Ps.exprOf I A) e0 (nx+1) with
  | err c0 a0=>
   rw [ht] at hres;obtain rfl:e=_:=hres;exact ⟨rfl,Post.fail (by unfold Ps.opn;exact ht) A1⟩
  | ok e1 n1=>
   rw [ht] at hres;obtain ⟨le1,h1,_,rfl,y,rfl,he1⟩:=hres;have HT:=zD ht;clear ht;have fa:=fun o=>fo hN1 o;obtain ⟨ca0,ca1,ca2,ca3,ca4,ca5⟩:=zH hN1;have he2:=he1.wide (ok':=fun i=>(ok0 i∨w.heap.size≤i)∧i≠w.heap.size+1+1) (fun i hi hl=>hi.elim (fun q=>⟨.inl q,by have:=(hok i q).1;omega⟩) (fun q=>⟨.inr (by omega),by omega⟩));go_wp2;refine bodyPost_ret (v:=.agg #[.int .i64 y.op,.int .i64 y.k,.int .i64 y.n,.string y.name,.slice y.aS y.nS y.cS,.slice y.aL y.nL y.cL]) (by simp [results,Tryz.results122,go_sem,ca0,ca1,ca2,ca3,ca4,ca5]) rfl ?_;exact Post.good (by unfold Ps.opn;exact HT.out) (A1.put6 (k:=w.heap.size+1+1) (by omega) y) (by omega) (h1.put6 (k:=w.heap.size+1+1) (by omega) (by omega) y) ⟨y,rfl,(he2.put6 (k:=w.heap.size+1+1) (by simp) y).wide (fun i hi _=>hi.1)⟩
def ExSt (N0 eb:Nat) (w:World) (e:Ex):Prop :=
 ∃ (vS vL:Value) (okS okL:Nat→Prop),w.heap[eb]?=some (.cells #[.int .i64 e.op,.int .i64 e.k,.int .i64 e.n,.string e.name,vS,vL] 45 (0,0))∧OwnX kSize okS w vS e.S∧OwnX kExpr okL w vL e.L∧(∀ i,okS i→N0≤i)∧(∀ i,okL i→N0≤i)∧∀ i,okS i→¬okL i
structure Env (b g rb eb N0:Nat):Prop where
 b0:b<N0
 g0:g<N0
 r0:rb<N0
 e0:eb<N0
 nr:rb≠b
 ne:eb≠b
 ng:eb≠g
 nx:rb≠eb
def PostE (b g cap eb N0:Nat) (I:Inp) (op nx:Nat) (w:World) (res:Res Ex) (r:Ending) (w':World):Prop :=
 Aside [b,eb] N0 w w' ∧
 match res with
 | .ok e n1=>nx≤n1∧Rd w' b g cap I.L I.len n1 op∧r=.returned (.tuple #[])∧ExSt N0 eb w' e
 | .err c a=>r=upE c a
theorem PostE.fail {b g cap eb N0:Nat} {I:Inp} {op nx:Nat} {w:World} {res:Res Ex} {w':World} {c a:Nat} (h:res=.err c a) (hA:Aside [b,eb] N0 w w'):PostE b g cap eb N0 I op nx w res (upE c a) w':=by
 subst h;exact ⟨hA,rfl⟩
theorem PostE.good {b g cap eb N0:Nat} {I:Inp} {op nx:Nat} {w:World} {res:Res Ex} {w':World} {e:Ex} {n1:Nat} (h:res=.ok e n1) (hA:Aside [b,eb] N0 w w') (hn:nx≤n1) (hR:Rd w' b g cap I.L I.len n1 op) (hS:ExSt N0 eb w' e):PostE b g cap eb N0 I op nx w res (.returned (.tuple #[])) w':=by
 subst h;exact ⟨hA,hn,hR,rfl,hS⟩
theorem zAT {b eb B:Nat} {w w':World} (h:Aside [b] B w w'):Aside [b,eb] B w w':=h.wide fun k _ hk hm=>hk (by simp at hm ⊢;exact .inl hm)
theorem sizeC_any {b g cap rb eb N0:Nat} {I:Inp} {op nx:Nat} {E:Nat→Res Ex} {e:Ex} {w:World} (hv:Env b g rb eb N0) (h:Rd w b g cap I.L I.len nx op) (hN0:N0≤w.heap.size) (hrb:w.heap[rb]?=some (.cells #[.pointer (some ⟨b,0,none⟩)] 76 (0,0))) (hS:ExSt N0 eb w e) (hlen:e.S.length≤1000) :
  Calls Tryz.prog 130 #[.pointer (some ⟨eb,0,none⟩),.pointer (some ⟨rb,0,none⟩)] w (PostE b g cap eb N0 I op nx w (Ps.part I E .size e nx)):=by
 obtain ⟨vS,vL,okS,okL,heb,ownS,ownL,hokS,hokL,hdis⟩:=hS;obtain ⟨v0,v1,v2,v3,v4,v5,v6,v7⟩:=hv;obtain ⟨aS,cS,rfl,hS1,hS2⟩:=ownS.form;obtain ⟨aL,cL,rfl,hL1,hL2⟩:=ownL.form;have hd5:Rd w.drew b g cap I.L I.len nx op:=h.drew;have hb5:w.drew.heap[eb]?=some (.cells #[.int .i64 e.op,.int .i64 e.k,.int .i64 e.n,.string e.name,.slice aS e.S.length cS,.slice aL e.L.length cL] 45 (0,0)):=heb;have hr5:w.drew.heap[rb]?=some (.cells #[.pointer (some ⟨b,0,none⟩)] 76 (0,0)):=hrb;have A5d:Aside [b,eb] N0 w w.drew:=(Aside.refl w).drew;have z5d:w.drew.heap.size=w.heap.size:=rfl;have om5:=(ownS.under (Below.refl _ w).drew).wide (ok':=fun i=>okS i∧i<w.heap.size) (fun i hi hl=>⟨hi,hl⟩);have oo5:=(ownL.under (Below.refl _ w).drew).wide (ok':=fun i=>okL i∧i<w.heap.size) (fun i hi hl=>⟨hi,hl⟩);go_enter Tryz.func130,Tryz.ntmps130;go_wp2_with fail;refine zL (fun w'=>w'.cell? ⟨eb,4,none⟩=some (.slice aS e.S.length cS)∧w'.cell? ⟨rb,0,none⟩=some (.pointer (some ⟨b,0,none⟩))) (fun j=>decide (j=7)) (by kernel_rfl) ?_;generalize w.drew=wd at hd5 hb5 hr5 A5d z5d om5 oo5 ⊢;clear h heb hrb ownS ownL;have c4:=co hb5 4;have cr:=co hr5 0;simp only [gT,gZ,gS] at c4 cr;have hH:=And.intro c4 cr;refine' zE (i:=0) (v:=_) rfl (by kernel_rfl) (by kernel_rfl) (by kernel_rfl) (by kernel_rfl) (fun _ _ _ h=>h) hH (by rfl) ?hyv ?o1
 case hyv=>
  intro wz hSw;obtain ⟨k0,k1⟩:=hSw;go_simp
  try rfl
 try simp only [Act.put,sT,sZ,sS]
 refine' zE (i:=1) (v:=_) rfl (by kernel_rfl) (by kernel_rfl) (by kernel_rfl) (by kernel_rfl) (fun _ _ _ h=>h) hH (by rfl) ?hyv ?o2
 case hyv=>
  intro wz hSw;obtain ⟨k0,k1⟩:=hSw;go_simp
  try rfl
 try simp only [Act.put,sT,sZ,sS]
 refine' zE (i:=2) (v:=_) rfl (by kernel_rfl) (by kernel_rfl) (by kernel_rfl) (by kernel_rfl) (fun _ _ _ h=>h) hH (by rfl) ?hyv ?o3
 case hyv=>
  intro wz hSw;obtain ⟨k0,k1⟩:=hSw;go_simp
  try rfl
 try simp only [Act.put,sT,sZ,sS]
 refine zG (i:=3) rfl (by kernel_rfl) (by rfl) (fun K hK=>?_);go_simp;refine (zBI hd5).mono ?_;rintro r w6 ⟨a6,hres⟩;have z6:=a6.size;have A6:Aside [b,eb] N0 w w6:=A5d.trans (zAT a6) (by omega);have hb6:=a6.keep hb5 (by omega) (by simp;omega);have hr6:=a6.keep hr5 (by omega) (by simp;omega);have om6:=om5.past a6 (fun i hi=>by have:=hokS i hi.1;simp;omega);have oo6:=oo5.past a6 (fun i hi=>by have:=hokL i hi.1;simp;omega);clear hd5 hb5 hr5 A5d om5 oo5 hH c4 cr a6
 cases ht:Ps.size I nx with
 | err c0 a0=>
  rw [ht] at hres;obtain rfl:r=_:=hres;exact ⟨rfl,PostE.fail (by unfold Ps.part;simp only [];rw [ht];rfl) A6⟩
 | ok y n2=>
  rw [ht] at hres;obtain ⟨le6,h6,_,rfl,hV⟩:=hres;obtain ⟨ad,nd,cd,rfl⟩:=HTerms.slice hV;have m6:Hid (Ps.part I E .size e nx=.ok (Ps.Ex.addS e y) n2):=by
   show Ps.part I E .size e nx=_
   unfold Ps.part;simp only [];rw [ht];rfl
  clear ht;have c4:=co hb6 4;have cr:=co hr6 0;simp only [gT,gZ,gS] at c4 cr;refine hK.out _ _ (fun _=>And.intro c4 cr) ?_;clear hK K
  try simp only [Act.put,sT,sZ,sS]
  have H7a:=co (kA hb6 (.cells #[.slice ad nd cd] 90 (0,0))) 4;have H7b:=co (kA hr6 (.cells #[.slice ad nd cd] 90 (0,0))) 0;simp only [gT,gZ,gS] at H7a H7b;have H7h:=zD (And.intro H7a H7b);clear H7a H7b;have q1:kSize.E (fun i=>wd.heap.size≤i) w6 [.slice ad nd cd] y:=⟨_,rfl,hV⟩;have q2:(e.S.length+1)*kSize.bytes≤140737488355328:=(by show (e.S.length+1)*24≤_;omega);have q3:e.S.length+1≤maxLen:=(by unfold maxLen;omega);refine zG (i:=4) rfl (by kernel_rfl) (by rfl) (fun K hK=>?_);go_simp;refine hK.out _ _ (fun _=>H7h.out) ?_;clear hK K
  try simp only [Act.put,sT,sZ,sS]
  refine zG (i:=5) rfl (by kernel_rfl) (by rfl) (fun K hK=>?_);refine xK kSize _ _ 40 90 rfl Tryz.underlying40 wd.heap.size _ _ e.S (by rfl) om6 [.slice ad nd cd] y q1 (by rfl) (fun i hi=>by omega) z6 q2 q3 ?_;intro v8 w8 om8 g8;have hvb:=fun k hk=>(om6.lt k hk).1;obtain ⟨z8,hoth⟩:=xC (ok:=fun i=>okS i∧i<w.heap.size) g8 hvb;have A8:Aside [b,eb] N0 w w8:=A6.trans (xF (S:=[b,eb]) g8 hvb (fun i hi=>hokS i hi.1) (by omega)) nR;have hb8:=(hoth eb (zC hb6) (fun hh=>by have:=hokS eb hh.1;omega)).trans hb6;have hr8:=(hoth rb (zC hr6) (fun hh=>by have:=hokS rb hh.1;omega)).trans hr6;have oo8:=oo6.keep z8 (fun i hi hl=>hoth i hl (fun hh=>hdis i hh.1 hi.1));have h8:Rd w8 b g cap I.L I.len n2 op:=⟨(hoth b h6.bb (fun hh=>by have:=hokS b hh.1;omega)).trans h6.here,h6.toks.keep (hoth g h6.gb (fun hh=>by have:=hokS g hh.1;omega)),h6.apart,Nat.lt_of_lt_of_le h6.gb z8,h6.le,h6.lc,h6.cm⟩;clear A6 hb6 hr6 om6 oo6 h6 q1 c4 cr H7h g8 hoth hvb;have c4:=co hb8 4;have cr:=co hr8 0;simp only [gT,gZ,gS] at c4 cr;refine hK.out _ _ (fun _=>And.intro c4 cr) ?_;clear hK K
  try simp only [Act.put,sT,sZ,sS]
  obtain ⟨a8v,c8v,hv8,_,_⟩:=om8.form;rw [List.length_append,List.length_singleton] at hv8;subst hv8;have f8:=fun o=>fo hb8 o;refine zG (i:=6) rfl (by kernel_rfl) (by rfl) (fun K hK=>?_);go_simp;refine hK.out _ _ (fun _=>And.intro c4 cr) ?_;clear hK K
  try simp only [Act.put,sT,sZ,sS]
  refine zG (i:=7) rfl (by kernel_rfl) (by rfl) (fun K hK=>?_);go_simp;refine hK.out _ _ (fun h=>by cases h) ?_;clear hK K
  try simp only [Act.put,sT,sZ,sS]
  refine zR (by kernel_rfl) ?_ _;have hb9:=zJ hb8 4 (.slice a8v (e.S.length+1) c8v);have h9:=h8.set (p:=⟨eb,4,none⟩) (by simp;omega) (by simp;omega) (.slice a8v (e.S.length+1) c8v);have A9:Aside [b,eb] N0 w (w8.setCell ⟨eb,4,none⟩ (.slice a8v (e.S.length+1) c8v)):=A8.trans (Aside.setCell (by simp) _) nR;have om9:=om8.set (p:=⟨eb,4,none⟩) (by intro hh;have hh2:(okS eb∧eb<w.heap.size)∨wd.heap.size≤eb:=hh;rcases hh2 with q | q;exact absurd (hokS eb q.1) (by omega);omega) (.slice a8v (e.S.length+1) c8v);have oo9:=oo8.set (p:=⟨eb,4,none⟩) (by intro hh;have hh2:okL eb∧eb<w.heap.size:=hh;have:=hokL eb hh2.1;omega) (.slice a8v (e.S.length+1) c8v);simp only [sT,sZ,sS] at hb9;go_wp2;go_end0;exact PostE.good m6.out A9 le6 h9 ⟨_,_,fun i=>(okS i∧i<w.heap.size)∨wd.heap.size≤i,fun i=>okL i∧i<w.heap.size,hb9,om9,oo9,fun i hi=>hi.elim (fun q=>hokS i q.1) (fun q=>by omega),fun i hi=>hokL i hi.1,fun i hi hj=>hi.elim (fun q=>hdis i q.1 hj.1) (fun q=>by omega)⟩
end Go.Proofs.YthkpanbgkimhoaaGreatDoor
namespace Go.Proofs.YthkpanbgkimhoaaGreatDoor
open Go.RowKit Go.IntWalk
variable {b g cap:Nat} {ao:Option Addr} {I:Inp}
theorem Res.bind_bind {α β γ:Type} (r:Res α) (f:α→Nat→Res β) (g:β→Nat→Res γ):(r.bind f).bind g=r.bind fun v n=>(f v n).bind g:=by cases r<;>rfl
theorem Res.ok_bind {α β:Type} (v:α) (n:Nat) (f:α→Nat→Res β):(Res.ok v n).bind f=f v n:=rfl
theorem Res.err_bind {α β:Type} (c a:Nat) (f:α→Nat→Res β):(Res.err c a:Res α).bind f=.err c a:=rfl
def partsR (I:Inp) (E:Nat→Res Ex) (o:Int):Nat→Nat→List Ex→Nat→Res (List Ex)
 | 0,_,l,m=>.ok l m
 | c+1,i,l,m=>if i=1∧o=7∧Ps.sees I [44] m=false then .ok l m else (if i=0 then .ok () m else Ps.need I [44] m).bind fun _ m1=>(E m1).bind fun x m2=>partsR I E o c (i+1) (l++[x]) m2
def sizesR (I:Inp):Nat→List (List Tm)→Nat→Res (List (List Tm))
 | 0,S,m=>.ok S m
 | c+1,S,m=>(Ps.need I [44] m).bind fun _ m1=>(Ps.size I m1).bind fun z m2=>sizesR I c (S++[z]) m2
def endR (I:Inp) (o k:Int) (l:List Ex) (S:List (List Tm)) (m:Nat):Res Ex:=(Ps.need I [41] m).bind fun _ m3=>.ok (.mk o k 0 ⟨#[]⟩ S l) m3
def tailR (I:Inp) (E:Nat→Res Ex) (o k:Int) (np ns m:Nat):Res Ex :=
 (partsR I E o np 0 [] m).bind fun l m1=>(sizesR I ns [] m1).bind fun S m2=>endR I o k l S m2
theorem zCG (I:Inp) (E:Nat→Res Ex) (o k:Int) (ho:o≠7) (n:Nat):Ps.brackets I E .part [.part] (Ps.bare o k) n=(Ps.need I [40] n).bind fun _ m=>tailR I E o k 2 0 m:=by
 simp [Ps.brackets,Ps.parts,Ps.part,tailR,partsR,sizesR,endR,Res.bind_bind,Res.ok_bind,Ps.Ex.addL,Ps.bare,Ex.op,Ex.k,Ex.n,Ex.name,Ex.S,Ex.L,ho]
theorem tail_eq3 (I:Inp) (E:Nat→Res Ex) (o k:Int) (ho:o≠7) (n:Nat):Ps.brackets I E .part [.part,.part] (Ps.bare o k) n=(Ps.need I [40] n).bind fun _ m=>tailR I E o k 3 0 m:=by
 simp [Ps.brackets,Ps.parts,Ps.part,tailR,partsR,sizesR,endR,Res.bind_bind,Res.ok_bind,Ps.Ex.addL,Ps.bare,Ex.op,Ex.k,Ex.n,Ex.name,Ex.S,Ex.L,ho]
theorem tail_eqS1 (I:Inp) (E:Nat→Res Ex) (o k:Int) (n:Nat):Ps.brackets I E .part [.size] (Ps.bare o k) n=(Ps.need I [40] n).bind fun _ m=>tailR I E o k 1 1 m:=by
 simp [Ps.brackets,Ps.parts,Ps.part,tailR,partsR,sizesR,endR,Res.bind_bind,Res.ok_bind,Ps.Ex.addL,Ps.Ex.addS,Ps.bare,Ex.op,Ex.k,Ex.n,Ex.name,Ex.S,Ex.L]
theorem tail_eqS2 (I:Inp) (E:Nat→Res Ex) (o k:Int) (n:Nat):Ps.brackets I E .part [.size,.size] (Ps.bare o k) n=(Ps.need I [40] n).bind fun _ m=>tailR I E o k 1 2 m:=by
 simp [Ps.brackets,Ps.parts,Ps.part,tailR,partsR,sizesR,endR,Res.bind_bind,Res.ok_bind,Ps.Ex.addL,Ps.Ex.addS,Ps.bare,Ex.op,Ex.k,Ex.n,Ex.name,Ex.S,Ex.L]
theorem tail_eqO2 (I:Inp) (E:Nat→Res Ex) (o:Int) (ho:o≠7) (n:Nat):Ps.brackets I E .oper [.part,.part] (Ps.bare o 0) n=(Ps.need I [40] n).bind fun _ m=>(Ps.oper I m).bind fun k m1=>(Ps.need I [44] m1).bind fun _ m2=>tailR I E o k 2 0 m2:=by
 simp [Ps.brackets,Ps.parts,Ps.part,tailR,partsR,sizesR,endR,Res.bind_bind,Res.ok_bind,Ps.Ex.addL,Ps.Ex.setK,Ps.bare,Ex.op,Ex.k,Ex.n,Ex.name,Ex.S,Ex.L,ho]
theorem zBV {I:Inp} {x:List UInt8} {n:Nat} (h:Ps.sees I x n=true):Ps.need I x n=.ok () (n+1):=by unfold Ps.need;rw [if_pos h]
theorem tail_eqM (I:Inp) (E:Nat→Res Ex) (n:Nat):Ps.brackets I E .oper [.oneOrTwo] (Ps.bare 7 0) n=(Ps.need I [40] n).bind fun _ m=>(Ps.oper I m).bind fun k m1=>(Ps.need I [44] m1).bind fun _ m2=>tailR I E 7 k 2 0 m2:=by
 simp only [Ps.brackets,Ps.parts,Ps.part,tailR,partsR,sizesR,endR,Res.bind_bind,Res.ok_bind,Ps.Ex.addL,Ps.Ex.setK,Ps.bare,Ex.op,Ex.k,Ex.n,Ex.name,Ex.S,Ex.L]
 congr 1
 funext _ m
 congr 1
 funext k m1
 congr 1
 funext _ m2
 rw [if_pos trivial,Res.ok_bind,if_neg (show ¬((0:Nat)=1∧True∧Ps.sees I [44] m2=false) from fun h=>by cases h.1),Res.bind_bind]
 congr 1
 funext x m3
 cases hs:Ps.sees I [44] m3
 ·simp [Res.ok_bind]
 ·simp [Res.bind_bind,Res.ok_bind,zBV hs]
theorem zCH (I:Inp) (n:Nat):∀ (l:List (List UInt8)) (k:Int),Ps.wordAt I n l (k+1)=(Ps.wordAt I n l k).map (·+1)
 | [],k=>rfl
 | x :: l,k=>by
  unfold Ps.wordAt
  split
  ·rfl
  ·exact zCH I n l (k+1)
theorem zBp {I:Inp} {n:Nat}:∀ (l:List (List UInt8)) (k:Int) {j:Int},Ps.wordAt I n l k=some j→k≤j∧j<k+l.length∧∃ x ∈ l,Ps.sees I x n=true
 | [],k,j,h=>by cases h
 | x :: l,k,j,h=>by
  unfold Ps.wordAt at h
  split at h
  ·rename_i hs
   injection h with h;subst h;exact ⟨by omega,by simp;omega,x,by simp,hs⟩
  ·obtain ⟨h1,h2,y,hy,hs⟩:=zBp l (k+1) h
   exact ⟨by omega,by simp;omega,y,by simp [hy],hs⟩
theorem zBq (I:Inp) (n:Nat) (hK:∀ x ∈ Ps.words,Known I x):(whichI I Ps.words n = -1∧Ps.oper I n=Ps.refuse I n)∨∃ j:Nat,j<14∧whichI I Ps.words n=(j:Int)∧n<I.L.length∧Ps.oper I n=.ok ((j:Int)+1) (n+1):=by
 unfold whichI Ps.oper;have e:=zCH I n Ps.words 0;rw [show (0:Int)+1=1 from rfl] at e;rw [e]
 cases h:Ps.wordAt I n Ps.words 0 with
 | none=>exact .inl ⟨rfl,rfl⟩
 | some k=>
  obtain ⟨h1,h2,x,hx,hs⟩:=zBp _ _ h;have h2:k<14:=(by simpa [Ps.words] using h2);exact .inr ⟨k.toNat,by omega,by simp;omega,xZ (hK x hx) hs,by simp;omega⟩
def TailAt (M:Res Ex) (I:Inp) (E:Nat→Res Ex) (nx:Nat) (pt o k:Int) (np ns:Nat) (s:Res Int):Prop :=
 match s with
 | .ok p m=>p=pt∧nx<m∧M=tailR I E o k np ns m
 | .err c a=>M=.err c a
def PartsAt (M:Res Ex) (I:Inp) (E:Nat→Res Ex) (nx:Nat) (pt o k:Int) (np ns i:Nat) (l:List Ex) (s:Res Int):Prop :=
 match s with
 | .ok p m=>i≤np∧l.length=i∧p=pt+(Ps.countL l:Int)∧Ps.countL l+nx<m∧M=(partsR I E o (np-i) i l m).bind fun l m1=>(sizesR I ns [] m1).bind fun S m2=>endR I o k l S m2
 | .err c a=>M=.err c a
def SizesAt (M:Res Ex) (I:Inp) (nx:Nat) (pt o k:Int) (ns i:Nat) (l:List Ex) (S:List (List Tm)) (s:Res Int):Prop :=
 match s with
 | .ok p m=>i≤ns∧S.length=i∧p=pt+(Ps.countL l:Int)∧Ps.countL l+nx<m∧M=(sizesR I (ns-i) S m).bind fun S m2=>endR I o k l S m2
 | .err c a=>M=.err c a
theorem parts_zero {M:Res Ex} {I:Inp} {E:Nat→Res Ex} {nx:Nat} {pt o k:Int} {np ns:Nat} {s:Res Int} (h:TailAt M I E nx pt o k np ns s):PartsAt M I E nx pt o k np ns 0 [] s:=by
 cases s with
 | ok p m=>
  obtain ⟨rfl,h1,h2⟩:=h;exact ⟨by omega,rfl,by simp [Ps.countL],by simp [Ps.countL];omega,h2⟩
 | err c a=>exact h
theorem zCY {M:Res Ex} {I:Inp} {E:Nat→Res Ex} {nx:Nat} {pt o k:Int} {np ns i:Nat} {l:List Ex} {s:Res Int} (h:PartsAt M I E nx pt o k np ns i l s) (hs:∀ p m,s=.ok p m→i=np∨(i=1∧o=7∧Ps.sees I [44] m=false)):SizesAt M I nx pt o k ns 0 l [] s:=by
 cases s with
 | ok p m=>
  obtain ⟨h1,h2,h3,h4,h5⟩:=h;refine ⟨by omega,rfl,h3,h4,?_⟩;rcases hs p m rfl with q | q
  ·rw [h5,q,Nat.sub_self,partsR,Res.ok_bind];rfl
  ·cases hn:np-i with
   | zero=>rw [h5,hn,partsR,Res.ok_bind];rfl
   | succ c=>rw [h5,hn,partsR,if_pos q,Res.ok_bind];rfl
 | err c a=>exact h
theorem zAV:∀ a b:List Ex,Ps.countL (a++b)=Ps.countL a+Ps.countL b
 | [],b=>by simp [Ps.countL]
 | x :: a,b=>by simp [Ps.countL,zAV a b];omega
def commaS (I:Inp) (i:Nat) (s:Res Int):Res Int:=if i=0 then s else mustS I [44] s
theorem zDZ {M:Res Ex} {I:Inp} {E:Nat→Res Ex} {nx:Nat} {pt o k:Int} {np ns i:Nat} {l:List Ex} {p:Int} {m:Nat} (h:PartsAt M I E nx pt o k np ns i l (.ok p m)) (hi:i<np) (hno:¬(i=1∧o=7∧Ps.sees I [44] m=false)) (hN:Nice E) {p2:Int} {m2:Nat} (hc:commaS I i (.ok p m)=.ok p2 m2) {x:Ex} (hx:Got E (.ok p2 m2) x):PartsAt M I E nx pt o k np ns (i+1) (l++[x]) (exprS E (.ok p2 m2)):=by
 obtain ⟨h1,h2,h3,h4,h5⟩:=h;obtain ⟨c,hcn⟩:∃ c,np-i=c+1:=⟨np-i-1,by omega⟩;rw [hcn,partsR,if_neg hno] at h5;have hcm:(if i=0 then (.ok () m:Res Unit) else Ps.need I [44] m)=.ok () m2∧p2=p∧m≤m2:=by
  unfold commaS mustS at hc;by_cases h0:i=0
  ·rw [if_pos h0] at hc ⊢
   obtain ⟨rfl,rfl⟩:=zZ hc;exact ⟨rfl,rfl,Nat.le_refl _⟩
  ·rw [if_neg h0] at hc ⊢
   simp only [Res.ok_bind] at hc;obtain ⟨u,q,e1,e2⟩:=Res.bind_ok hc;obtain ⟨rfl,rfl⟩:=zZ e2;have:=xV e1;exact ⟨e1,rfl,by omega⟩
 obtain ⟨e1,rfl,e3⟩:=hcm;rw [e1,Res.ok_bind] at h5
 show PartsAt M I E nx pt o k np ns (i+1) (l++[x]) ((E m2).bind _)
 cases hr:E m2 with
 | ok v q=>
  obtain rfl:=hx p2 m2 v q rfl hr;have:=hN m2 x q hr;rw [←vA] at this;rw [hr,Res.ok_bind] at h5;refine ⟨by omega,by simp [h2],?_,?_,by rw [h5,show np-(i+1)=c by omega]⟩
  ·rw [zAV,h3];simp [Ps.countL];omega
  ·rw [zAV];simp [Ps.countL];omega
 | err c2 a2=>rw [hr,Res.err_bind,Res.err_bind] at h5;exact h5
theorem parts_bad {M:Res Ex} {I:Inp} {E:Nat→Res Ex} {nx:Nat} {pt o k:Int} {np ns i:Nat} {l:List Ex} {p:Int} {m:Nat} (h:PartsAt M I E nx pt o k np ns i l (.ok p m)) (hi:i<np) (hno:¬(i=1∧o=7∧Ps.sees I [44] m=false)) {c a:Nat} (hc:commaS I i (.ok p m)=.err c a):M=.err c a:=by
 obtain ⟨h1,h2,h3,h4,h5⟩:=h;obtain ⟨d,hcn⟩:∃ d,np-i=d+1:=⟨np-i-1,by omega⟩;rw [hcn,partsR,if_neg hno] at h5;unfold commaS mustS at hc;by_cases h0:i=0
 ·rw [if_pos h0] at hc;cases hc
 ·rw [if_neg h0] at hc h5
  simp only [Res.ok_bind] at hc
  cases hn:Ps.need I [44] m with
  | ok u q=>rw [hn] at hc;cases hc
  | err c2 a2=>rw [hn] at hc h5;cases hc;exact h5
theorem sizes_more {M:Res Ex} {I:Inp} {nx:Nat} {pt o k:Int} {ns i:Nat} {l:List Ex} {S:List (List Tm)} {p:Int} {m:Nat} (h:SizesAt M I nx pt o k ns i l S (.ok p m)) (hi:i<ns) {p2:Int} {m2:Nat} (hc:mustS I [44] (.ok p m)=.ok p2 m2) {s:Res Int} {z:List Tm} (hs:s=(Ps.size I m2).bind fun _ q=>.ok p2 q) (hz:∀ v q,Ps.size I m2=.ok v q→z=v):SizesAt M I nx pt o k ns (i+1) l (S++[z]) s:=by
 obtain ⟨h1,h2,h3,h4,h5⟩:=h;obtain ⟨c,hcn⟩:∃ c,ns-i=c+1:=⟨ns-i-1,by omega⟩;rw [hcn,sizesR] at h5;unfold mustS at hc;simp only [Res.ok_bind] at hc;obtain ⟨u,q,e1,e2⟩:=Res.bind_ok hc;obtain ⟨rfl,rfl⟩:=zZ e2;have:=xV e1;rw [e1,Res.ok_bind] at h5;subst hs
 cases hr:Ps.size I q with
 | ok v r=>
  obtain rfl:=hz v r hr;have:=size_ok hr;rw [hr,Res.ok_bind] at h5;exact ⟨by omega,by simp [h2],h3,by omega,by rw [h5,show ns-(i+1)=c by omega]⟩
 | err c2 a2=>rw [hr,Res.err_bind,Res.err_bind] at h5;exact h5
theorem sizes_bad {M:Res Ex} {I:Inp} {nx:Nat} {pt o k:Int} {ns i:Nat} {l:List Ex} {S:List (List Tm)} {p:Int} {m:Nat} (h:SizesAt M I nx pt o k ns i l S (.ok p m)) (hi:i<ns) {c a:Nat} (hc:mustS I [44] (.ok p m)=.err c a):M=.err c a:=by
 obtain ⟨h1,h2,h3,h4,h5⟩:=h;obtain ⟨d,hcn⟩:∃ d,ns-i=d+1:=⟨ns-i-1,by omega⟩;rw [hcn,sizesR] at h5;unfold mustS at hc;simp only [Res.ok_bind] at hc
 cases hn:Ps.need I [44] m with
 | ok u q=>rw [hn] at hc;cases hc
 | err c2 a2=>rw [hn] at hc h5;cases hc;exact h5
theorem sizes_fin {M:Res Ex} {I:Inp} {nx:Nat} {pt o k:Int} {ns i:Nat} {l:List Ex} {S:List (List Tm)} {s:Res Int} (h:SizesAt M I nx pt o k ns i l S s) (hs:∀ p m,s=.ok p m→i=ns):Fin M pt (.mk o k 0 ⟨#[]⟩ S l) (partS (mustS I [41] s)):=by
 cases s with
 | ok p m=>
  obtain ⟨h1,h2,h3,h4,h5⟩:=h;rw [hs p m rfl,Nat.sub_self,sizesR,Res.ok_bind] at h5;unfold endR at h5;unfold partS mustS;simp only [Res.ok_bind]
  cases hn:Ps.need I [41] m with
  | ok u q=>
   rw [hn,Res.ok_bind] at h5;simp only [Res.ok_bind];refine ⟨h5,?_⟩;rw [h3];simp only [Ps.count];omega
  | err c2 a2=>rw [hn] at h5;exact h5
 | err c a=>exact h
theorem parts_few {M:Res Ex} {I:Inp} {E:Nat→Res Ex} {nx:Nat} {pt o k:Int} {np ns i:Nat} {l:List Ex} {s:Res Int} (h:PartsAt M I E nx pt o k np ns i l s) (hf:Few I nx pt):FewS I s:=by
 intro p m e;subst e;obtain ⟨h1,h2,h3,h4,h5⟩:=h;obtain ⟨f1,f2⟩:=hf;exact ⟨by omega,by omega⟩
theorem sizes_few {M:Res Ex} {I:Inp} {nx:Nat} {pt o k:Int} {ns i:Nat} {l:List Ex} {S:List (List Tm)} {s:Res Int} (h:SizesAt M I nx pt o k ns i l S s) (hf:Few I nx pt):FewS I s:=by
 intro p m e;subst e;obtain ⟨h1,h2,h3,h4,h5⟩:=h;obtain ⟨f1,f2⟩:=hf;exact ⟨by omega,by omega⟩
theorem Rr.same {w w':World} {nx:Nat} {fc fa pt:Int} (h:Rr w b g cap ao I nx fc fa pt) (hb:w'.heap[b]?=w.heap[b]?) (hg:w'.heap[g]?=w.heap[g]?) (hs:w.heap.size≤w'.heap.size):Rr w' b g cap ao I nx fc fa pt :=
 ⟨hb.trans h.here,fun h0=>⟨(h.toks h0).1,Nat.lt_of_lt_of_le (h.toks h0).2.1 hs,(h.toks h0).2.2.keep hg⟩,h.apart,h.le,h.lc,h.cm⟩
theorem At.same {w w':World} {s:Res Int} (h:At w b g cap ao I s) (hb:w'.heap[b]?=w.heap[b]?) (hg:w'.heap[g]?=w.heap[g]?) (hs:w.heap.size≤w'.heap.size):At w' b g cap ao I s:=h.map fun h=>h.same hb hg hs
theorem At.set {w:World} {s:Res Int} (h:At w b g cap ao I s) {p:Addr} (hb:p.block≠b) (hg:p.block≠g) (u:Value):At (w.setCell p u) b g cap ao I s :=
 h.same (Below.heap_setCell _ _ _ _ (fun e=>hb e.symm)) (Below.heap_setCell _ _ _ _ (fun e=>hg e.symm)) (by simp [World.setCell])
theorem size_s {w:World} {p:Int} {n:Nat} (h:At w b g cap ao I (.ok p n)) (hS:Sure I) (hgb:g<w.heap.size) :
  Calls Tryz.prog 68 #[.pointer (some ⟨b,0,none⟩)] w fun e w'=>∃ v l,e=.returned v∧OwnL kTerm w.heap.size w' v l∧Aside [b] w.heap.size w w'∧At w' b g cap ao I ((Ps.size I n).bind fun _ q=>.ok p q)∧∀ z m,Ps.size I n=.ok z m→l=z:=by
 refine (zBR h hS hgb).mono ?_;rintro e w' ⟨v,l,rfl,h1,h2,h3,h4⟩;exact ⟨v,l,rfl,h1,h2,At.went h3 (fun c a e=>((zBL hS.rel n).err c a e).1),h4⟩
end Go.Proofs.YthkpanbgkimhoaaGreatDoor
