import Derived.Test.YtkfgbhlpjkkgfaaGreatDoorT36
set_option linter.unusedVariables false
set_option linter.unusedSimpArgs false
set_option maxHeartbeats 64000000
set_option maxRecDepth 100000
namespace Go.Proofs.YtkfgbhlpjkkgfaaGreatDoor
open Go.RowKit Go.IntWalk
def Inner (b g cap:Nat) (I:Inp) (op:Nat) (J:Option (Nat->Res Ex)):Prop :=
 match J with
 | none=>60<=op
 | some A=>op<60/\Does 269 b g cap I (op+1) exV A
theorem enter124 (args:Array Value) (w:World):(callFunc 274 args).run Tryz.prog w=.ok (.enter 274 args) w:=by kernel_rfl
theorem enter125 (args:Array Value) (w:World):(callFunc 275 args).run Tryz.prog w=.ok (.enter 275 args) w:=by kernel_rfl
theorem enter126 (args:Array Value) (w:World):(callFunc 276 args).run Tryz.prog w=.ok (.enter 276 args) w:=by kernel_rfl
theorem enter128 (args:Array Value) (w:World):(callFunc 278 args).run Tryz.prog w=.ok (.enter 278 args) w:=by kernel_rfl
theorem enter135 (args:Array Value) (w:World):(callFunc 285 args).run Tryz.prog w=.ok (.enter 285 args) w:=by kernel_rfl
theorem signed1_any {b g cap:Nat} {I:Inp} {op nx kb rb:Nat} {k:Int} {A:Nat->Res Ex} (HA:Does 269 b g cap I op exV A) {w:World} (h:Rd w b g cap I.L I.len nx op) (hG:GlobB b w) (hk:w.heap[kb]?=some (.cells #[.int .i64 k] 3 (0,0))) (hr:w.heap[rb]?=some (.cells #[.pointer (some ⟨b,0,none⟩)] 124 (0,0))) (nk:kb≠b) (nr:rb≠b) :
  Calls Tryz.prog 274 #[.pointer (some ⟨kb,0,none⟩),.pointer (some ⟨rb,0,none⟩)] w (Post b g cap I op exV nx w (Ps.signed A k nx)):=by
 have hb:=h.bb;have hg:=h.gb;have zk:=zAB hk;have zr:=zAB hr;go_enter Tryz.func274,Tryz.ntmps274;go_upto_region 1 with fail;have h1:Rd (w.alloc (.cells #[.int .i64 0,.int .i64 0,.int .i64 0,.string ⟨#[]⟩,.slice none 0 0,.slice none 0 0] 54 (0,0))).drew b g cap I.L I.len nx op:=(h.alloc _).drew;have A1:Aside [b] w.heap.size w (w.alloc (.cells #[.int .i64 0,.int .i64 0,.int .i64 0,.string ⟨#[]⟩,.slice none 0 0,.slice none 0 0] 54 (0,0))).drew:=((Aside.refl w).alloc nR _).drew;have aG:(w.alloc (.cells #[.int .i64 0,.int .i64 0,.int .i64 0,.string ⟨#[]⟩,.slice none 0 0,.slice none 0 0] 54 (0,0))).drew.heap[w.heap.size]?=some (.cells #[.int .i64 0,.int .i64 0,.int .i64 0,.string ⟨#[]⟩,.slice none 0 0,.slice none 0 0] 54 (0,0)):=zAC w _;have lY:(w.alloc (.cells #[.int .i64 0,.int .i64 0,.int .i64 0,.string ⟨#[]⟩,.slice none 0 0,.slice none 0 0] 54 (0,0))).drew.heap[kb]?=some (.cells #[.int .i64 k] 3 (0,0)):=kA hk _;have lk:(w.alloc (.cells #[.int .i64 0,.int .i64 0,.int .i64 0,.string ⟨#[]⟩,.slice none 0 0,.slice none 0 0] 54 (0,0))).drew.heap[rb]?=some (.cells #[.pointer (some ⟨b,0,none⟩)] 124 (0,0)):=kA hr _;have z1:(w.alloc (.cells #[.int .i64 0,.int .i64 0,.int .i64 0,.string ⟨#[]⟩,.slice none 0 0,.slice none 0 0] 54 (0,0))).drew.heap.size=w.heap.size+1:=(by show (w.alloc _).heap.size=_;simp);refine zAE (fun w'=>w'.cell? ⟨kb,0,none⟩=some (.int .i64 k)/\w'.cell? ⟨rb,0,none⟩=some (.pointer (some ⟨b,0,none⟩))) (fun j=>decide (j=5)) (by kernel_rfl) ?_;generalize (w.alloc (.cells #[.int .i64 0,.int .i64 0,.int .i64 0,.string ⟨#[]⟩,.slice none 0 0,.slice none 0 0] 54 (0,0))).drew=w1 at h1 A1 aG lY lk z1 ⊢;have ck:=co lY 0;have cr:=co lk 0;simp at ck cr;have hH:=And.intro ck cr;refine' tjQ 0 hH ?hyv ?o1
 case hyv=>
  intro wz ae;obtain ⟨c0,c1⟩:=ae;go_simp
  try rfl
 try simp only [Act.put,sT,sZ,sS]
 refine' tjQ 1 hH ?hyv ?o2
 case hyv=>
  intro wz ae;obtain ⟨c0,c1⟩:=ae;go_simp
  try rfl
 try simp only [Act.put,sT,sZ,sS]
 refine tnQ 2 (fun K hK=>?_);go_simp;refine (HA _ _ h1 (hG.far A1)).mono ?_;rintro e w3 ⟨a3,hres⟩;have z3:=a3.size;have A3:=A1.trans a3 A1.size;have eC:=a3.keep aG (by omega) (by simp;omega);have qv:=a3.keep lY (by omega) (by simp;omega);have qP:=a3.keep lk (by omega) (by simp;omega);clear a3 A1 aG h1 lY lk hH ck cr
 cases ht:A nx with
 | err c0 a0=>
  rw [ht] at hres;obtain rfl:e=_:=hres;exact ⟨rfl,Post.fail (by unfold Ps.signed;rw [ht];rfl) A3⟩
 | ok e0 n1=>
  rw [ht] at hres;obtain ⟨oh,h3,_,rfl,y,rfl,iD⟩:=hres;have hm:Hid (Ps.signed A k nx=.ok (.mk 4 k 0 ⟨#[]⟩ [] [e0]) n1):=by
   show Ps.signed A k nx=_
   unfold Ps.signed;rw [ht];rfl
  clear ht;have ck:=co qv 0;have cr:=co qP 0;simp at ck cr;refine hK.out _ _ (fun _=>And.intro ck cr) ?_;clear hK K
  try simp only [Act.put,sT,sZ,sS]
  have ak:w.heap.size<w3.heap.size:=(by omega);have fa:=fun o=>fo eC o;have aB:=co eC 0;have ay:=co eC 1;have az:=co eC 2;have aF:=co eC 3;have aD:=co eC 4;have aH:=co eC 5;simp at aB ay az aF aD aH;have GO:=co (kA qv (.cells #[.int .i64 y.op,.int .i64 y.k,.int .i64 y.n,.string y.name,.slice y.aS y.nS y.cS,.slice y.aL y.nL y.cL] 54 (0,0))) 0;have Ew:=co (kA qP (.cells #[.int .i64 y.op,.int .i64 y.k,.int .i64 y.n,.string y.name,.slice y.aS y.nS y.cS,.slice y.aL y.nL y.cL] 54 (0,0))) 0;simp only [gT,gZ] at GO Ew;have H4:=zAA (And.intro GO Ew);clear GO Ew;refine tnQ 3 (fun K hK=>?_);go_simp;refine hK.out _ _ (fun _=>H4.out) ?_;clear hK K
  try simp only [Act.put,sT,sZ,sS]
  refine tnQ 4 (fun K hK=>?_);go_simp;refine hK.out _ _ (fun _=>H4.out) ?_;clear hK K
  try simp only [Act.put,sT,sZ,sS]
  refine tnQ 5 (fun K hK=>?_);go_simp;refine hK.out _ _ (fun h=>by cases h) ?_;clear hK K
  try simp only [Act.put,sT,sZ,sS]
  refine zAF (by kernel_rfl) ?_ _;go_wp2_with fail;have q:=iD.wide (ok':=fun i=>w.heap.size<i) (fun i hi _=>by omega);have zP:(put6 w3 w.heap.size ⟨4,k,0,⟨#[]⟩,none,0,0,some ⟨w3.heap.size,0,none⟩,1,1⟩).heap.size=w3.heap.size:=zBt _ _ _;have jc:=zFf (q.put6 (k:=w.heap.size) (by simp) ⟨4,k,0,⟨#[]⟩,none,0,0,some ⟨w3.heap.size,0,none⟩,1,1⟩) 54 (by rw [zP];omega);rw [zP] at jc;refine bodyPost_ret (v:=.agg #[.int .i64 4,.int .i64 k,.int .i64 0,.string ⟨#[]⟩,.slice none 0 0,.slice (some ⟨w3.heap.size,0,none⟩) 1 1]) (by simp [results,Tryz.results274,go_sem,aB,ay,az,aF,aD,aH,ak]) rfl ?_;exact Post.good hm.out ((A3.put6 (k:=w.heap.size) nR ⟨4,k,0,⟨#[]⟩,none,0,0,some ⟨w3.heap.size,0,none⟩,1,1⟩).alloc (by rw [zP];omega) _) (by omega) ((h3.put6 (k:=w.heap.size) (by omega) (by omega) ⟨4,k,0,⟨#[]⟩,none,0,0,some ⟨w3.heap.size,0,none⟩,1,1⟩).alloc _) ⟨⟨4,k,0,⟨#[]⟩,none,0,0,some ⟨w3.heap.size,0,none⟩,1,1⟩,rfl,(HEx.make (x:=⟨4,k,0,⟨#[]⟩,none,0,0,some ⟨w3.heap.size,0,none⟩,1,1⟩) (e:=.mk 4 k 0 ⟨#[]⟩ [] [e0]) rfl rfl rfl rfl zAw jc).wide (fun i hi _=>Nat.le_of_lt hi)⟩
theorem zEn {b g cap:Nat} {I:Inp} {op nx:Nat} (k:Int) {J:Option (Nat->Res Ex)} (HJ:Inner b g cap I op J) (ak:nx<I.L.length) {w:World} (h:Rd w b g cap I.L I.len nx op) (hG:GlobB b w) :
  Calls Tryz.prog 270 #[.pointer (some ⟨b,0,none⟩),.int .i64 k] w (Post b g cap I op exV nx w (Ps.opn I J nx fun A n1=>Ps.signed A k n1)):=by
 have hb:=h.bb;have hg:=h.gb;have oc:=zBi;obtain ⟨W,hW⟩:=nmQ (((w.alloc (.cells #[.pointer (some ⟨b,0,none⟩)] 124 (0,0))).alloc (.cells #[.int .i64 k] 3 (0,0))).alloc (.cells #[.int .i64 0,.int .i64 0,.int .i64 0,.string ⟨#[]⟩,.slice none 0 0,.slice none 0 0] 54 (0,0)));have zW:W.heap.size=w.heap.size+1+1+1:=(by rw [hW];simp);have bW:Below w.heap.size w W:=(by rw [hW];exact (((Below.refl _ w).alloc nR _).alloc (by simp) _).alloc (by simp;omega) _);have rW:W.heap[w.heap.size]?=some (.cells #[.pointer (some ⟨b,0,none⟩)] 124 (0,0)):=(by rw [hW];exact kA (kA (zAC w _) _) _);have kW:W.heap[w.heap.size+1]?=some (.cells #[.int .i64 k] 3 (0,0)):=by
  have:=zAC (w.alloc (.cells #[.pointer (some ⟨b,0,none⟩)] 124 (0,0))) (.cells #[.int .i64 k] 3 (0,0));have e:(w.alloc (.cells #[.pointer (some ⟨b,0,none⟩)] 124 (0,0))).heap.size=w.heap.size+1:=(by simp);rw [e] at this;rw [hW];exact kA this _
 have nW:W.heap[w.heap.size+1+1]?=some (.cells #[.int .i64 0,.int .i64 0,.int .i64 0,.string ⟨#[]⟩,.slice none 0 0,.slice none 0 0] 54 (0,0)):=by
  have:=zAC ((w.alloc (.cells #[.pointer (some ⟨b,0,none⟩)] 124 (0,0))).alloc (.cells #[.int .i64 k] 3 (0,0))) (.cells #[.int .i64 0,.int .i64 0,.int .i64 0,.string ⟨#[]⟩,.slice none 0 0,.slice none 0 0] 54 (0,0));have e:((w.alloc (.cells #[.pointer (some ⟨b,0,none⟩)] 124 (0,0))).alloc (.cells #[.int .i64 k] 3 (0,0))).heap.size=w.heap.size+1+1:=(by simp);rw [e] at this;rw [hW];exact this
 have iP:=h.below bW;have AW:Aside [b] w.heap.size w W:=aside bW;go_enter Tryz.func270,Tryz.ntmps270;go_wp2_with fail;rw [<-hW];clear hW
 cases J with
 | none=>
  refine (zBO iP HJ _).mono ?_;rintro e w1 ⟨rfl,a1⟩;exact ⟨rfl,Post.fail rfl (AW.trans a1 AW.size)⟩
 | some A=>
  have HF:∀ w',Rd w' b g cap I.L I.len (nx+1) (op+1)->Aside [b] W.heap.size W w'->Calls Tryz.prog 274 (#[]++#[.pointer (some ⟨w.heap.size+1,0,none⟩),.pointer (some ⟨w.heap.size,0,none⟩)]) w' (Post b g cap I (op+1) (exO fun _=>False) (nx+1) w' (Ps.signed A k (nx+1))):=fun w' rE jj=>
   (signed1_any HJ.2 rE (hG.far (AW.trans jj AW.size)) (jj.keep kW (by omega) (by simp;omega)) (jj.keep rW (by omega) (by simp;omega)) (by omega) (by omega)).mono fun e w2 hp=>hp.mono fun B w x v hv=>exO_of _ hv
  refine (zCJ iP (fun i hi=>hi.elim) HJ.1 ak enter124 HF).mono ?_;rintro e w1 ⟨a1,hres⟩;have z1:=a1.size;have A1:=AW.trans a1 AW.size;have aG:=a1.keep nW (by omega) (by simp;omega)
  cases ht:Ps.signed A k (nx+1) with
  | err c0 a0=>
   rw [ht] at hres;obtain rfl:e=_:=hres;exact ⟨rfl,Post.fail (by unfold Ps.opn;exact ht) A1⟩
  | ok e0 n1=>
   rw [ht] at hres;obtain ⟨dx,h1,_,rfl,hx⟩:=hres;obtain ⟨y,rfl,cv⟩:=exV_of hx;have HT:=zAA ht;clear ht;have fa:=fun o=>fo aG o;have aB:=co aG 0;have ay:=co aG 1;have az:=co aG 2;have aF:=co aG 3;have aD:=co aG 4;have aH:=co aG 5;simp at aB ay az aF aD aH;have bM:=cv.wide (ok':=fun i=>w.heap.size+1+1<i) (fun i hi hl=>by omega);go_wp2;refine bodyPost_ret (v:=.agg #[.int .i64 y.op,.int .i64 y.k,.int .i64 y.n,.string y.name,.slice y.aS y.nS y.cS,.slice y.aL y.nL y.cL]) (by simp [results,Tryz.results270,go_sem,aB,ay,az,aF,aD,aH]) rfl ?_;exact Post.good (by unfold Ps.opn;exact HT.out) (A1.put6 (k:=w.heap.size+1+1) (by omega) y) (by omega) (h1.put6 (k:=w.heap.size+1+1) (by omega) (by omega) y) ⟨y,rfl,(bM.put6 (k:=w.heap.size+1+1) (by simp) y).wide (fun i hi _=>by omega)⟩
theorem indexed1_any {b g cap:Nat} {I:Inp} {op nx rb ab:Nat} {E:Nat->Res Ex} {ok0:Nat->Prop} {x0:ExV} {e0:Ex} (HE:Does 245 b g cap I op exV E) {w:World} (h:Rd w b g cap I.L I.len nx op) (hG:GlobB b w) (hr:w.heap[rb]?=some (.cells #[.pointer (some ⟨b,0,none⟩)] 124 (0,0))) (ha:w.heap[ab]?=some (.cells #[.int .i64 x0.op,.int .i64 x0.k,.int .i64 x0.n,.string x0.name,.slice x0.aS x0.nS x0.cS,.slice x0.aL x0.nL x0.cL] 54 (0,0))) (nr:rb≠b) (na:ab≠b)
  (iO:HEx ok0 w x0.cells e0) (bm:∀ i,ok0 i->i<w.heap.size/\i≠b) :
  Calls Tryz.prog 278 #[.pointer (some ⟨rb,0,none⟩),.pointer (some ⟨ab,0,none⟩)] w (Post b g cap I op (exO ok0) nx w (Ps.index I E e0 nx)):=by
 have hb:=h.bb;have hg:=h.gb;have zr:=zAB hr;have za:=zAB ha;have bN:=(Below.refl w.heap.size w).alloc nR (.cells #[.int .i64 0,.int .i64 0,.int .i64 0,.string ⟨#[]⟩,.slice none 0 0,.slice none 0 0] 54 (0,0));have zv:=(iO.wide (ok':=fun i=>ok0 i/\i<w.heap.size/\i≠b) (fun i hi _=>⟨hi,bm i hi⟩)).under bN;have sQ:=kA hr (.cells #[.int .i64 0,.int .i64 0,.int .i64 0,.string ⟨#[]⟩,.slice none 0 0,.slice none 0 0] 54 (0,0));have BV:=kA ha (.cells #[.int .i64 0,.int .i64 0,.int .i64 0,.string ⟨#[]⟩,.slice none 0 0,.slice none 0 0] 54 (0,0));have cr:=co sQ 0;simp only [gT,gZ] at cr;go_enter Tryz.func278,Tryz.ntmps278;go_wp2_with fail;refine (HE _ _ (h.alloc _) (hG.alloc _)).mono ?_;rintro e w1 ⟨a1,hres⟩;have z1:w.heap.size+1<=w1.heap.size:=(by simpa using a1.size);have cJ:=a1.keep (zAC w _) (by simp) (by simp;omega);have A1:=((Aside.refl (S:=[b]) (B:=w.heap.size) w).alloc nR _).trans a1 (by simp);have lk:=a1.keep sQ (by simp;omega) (by simp;omega);have Cr:=a1.keep BV (by simp;omega) (by simp;omega);have JV:=zv.past a1 (fun i hi=>by simp;exact hi.2.2);clear cr sQ BV zv
 cases ht:E nx with
 | err c0 a0=>
  rw [ht] at hres;obtain rfl:e=_:=hres;exact ⟨rfl,Post.fail (by unfold Ps.index;rw [ht];rfl) A1⟩
 | ok e1 n1=>
  rw [ht] at hres;obtain ⟨dx,h1,_,rfl,x1,rfl,cv⟩:=hres;have m1:Hid (Ps.index I E e0 nx=(Ps.need I [58] n1).bind fun _ n2=>(E n2).bind fun y n3=>(Ps.need I [93] n3).bind fun _ n4=>.ok (.mk 11 0 0 ⟨#[]⟩ [] [e0,e1,y]) n4):=by
   show Ps.index I E e0 nx=_
   unfold Ps.index;rw [ht];rfl
  clear ht a1;have b1:=(Below.refl w1.heap.size w1).alloc nR (.cells #[.int .i64 x1.op,.int .i64 x1.k,.int .i64 x1.n,.string x1.name,.slice x1.aS x1.nS x1.cS,.slice x1.aL x1.nL x1.cL] 54 (0,0));have tL:=kA lk (.cells #[.int .i64 x1.op,.int .i64 x1.k,.int .i64 x1.n,.string x1.name,.slice x1.aS x1.nS x1.cS,.slice x1.aL x1.nL x1.cL] 54 (0,0));have Bh:=kA Cr (.cells #[.int .i64 x1.op,.int .i64 x1.k,.int .i64 x1.n,.string x1.name,.slice x1.aS x1.nS x1.cS,.slice x1.aL x1.nL x1.cL] 54 (0,0));have bM:=(cv.wide (ok':=fun i=>w.heap.size<i/\i<w1.heap.size) (fun i hi hl=>by simp at hi;omega)).under b1;have yw:=JV.under b1;have cr:=co tL 0;simp only [gT,gZ] at cr;go_wp2_with fail;refine (zAJ (h1.alloc _) ⟨#[58]⟩ (by decide)).mono ?_;rintro e w2 ⟨a2,hres⟩;have es:(⟨#[58]⟩:ByteArray).data.toList=[58]:=rfl;rw [es] at hres;clear es cr;have z2:w1.heap.size+1<=w2.heap.size:=(by simpa using a2.size);have A2:=(A1.alloc (by omega) _).trans a2 (by simp;omega);have cH:=a2.keep (kA cJ _) (by simp;omega) (by simp;omega);have et:=a2.keep (zAC w1 _) (by simp) (by simp;omega);have im:=a2.keep tL (by simp;omega) (by simp;omega);have Cw:=a2.keep Bh (by simp;omega) (by simp;omega);have iD:=bM.past a2 (fun i hi=>by simp;omega);have H9:=yw.past a2 (fun i hi=>by simp;exact hi.2.2);clear a2 A1 cJ cv bM h1 lk Cr tL Bh JV yw b1
  cases hn:Ps.need I [58] n1 with
  | err c0 a0=>
   rw [hn] at hres;obtain rfl:e=_:=hres;exact ⟨rfl,Post.fail (by rw [m1.out,hn];rfl) A2⟩
  | ok u n2=>
   rw [hn] at hres;obtain ⟨sM,h2,_,rfl,rfl⟩:=hres;have m2:Hid (Ps.index I E e0 nx=(E n2).bind fun y n3=>(Ps.need I [93] n3).bind fun _ n4=>.ok (.mk 11 0 0 ⟨#[]⟩ [] [e0,e1,y]) n4):=by
    show Ps.index I E e0 nx=_
    rw [m1.out,hn];rfl
   clear hn m1;have cr:=co im 0;simp only [gT,gZ] at cr;go_wp2_with fail;refine (HE _ _ h2 (hG.far A2)).mono ?_;rintro e w3 ⟨a3,hres⟩;have z3:=a3.size;have A3:=A2.trans a3 A2.size;have lg:=a3.keep cH (by omega) (by simp;omega);have gU:=a3.keep et (by omega) (by simp;omega);have qP:=a3.keep im (by omega) (by simp;omega);have Gw:=a3.keep Cw (by omega) (by simp;omega);have iz:=iD.past a3 (fun i hi=>by simp;omega);have IG:=H9.past a3 (fun i hi=>by simp;exact hi.2.2);clear a3 A2 cH et iD h2 im Cw H9 cr
   cases ht:E n2 with
   | err c0 a0=>
    rw [ht] at hres;obtain rfl:e=_:=hres;exact ⟨rfl,Post.fail (by rw [m2.out,ht];rfl) A3⟩
   | ok e3 n3=>
    rw [ht] at hres;obtain ⟨oh,h3,_,rfl,x3,rfl,yP⟩:=hres;have m3:Hid (Ps.index I E e0 nx=(Ps.need I [93] n3).bind fun _ n4=>.ok (.mk 11 0 0 ⟨#[]⟩ [] [e0,e1,e3]) n4):=by
     show Ps.index I E e0 nx=_
     rw [m2.out,ht];rfl
    clear ht m2;have b3:=(Below.refl w3.heap.size w3).alloc nR (.cells #[.int .i64 x3.op,.int .i64 x3.k,.int .i64 x3.n,.string x3.name,.slice x3.aS x3.nS x3.cS,.slice x3.aL x3.nL x3.cL] 54 (0,0));have Aa:=(yP.wide (ok':=fun i=>w1.heap.size<i/\i<w3.heap.size) (fun i hi hl=>by omega)).under b3;have kM:=iz.under b3;have zX:=IG.under b3;have Au:=kA qP (.cells #[.int .i64 x3.op,.int .i64 x3.k,.int .i64 x3.n,.string x3.name,.slice x3.aS x3.nS x3.cS,.slice x3.aL x3.nL x3.cL] 54 (0,0));have Ab:=kA Gw (.cells #[.int .i64 x3.op,.int .i64 x3.k,.int .i64 x3.n,.string x3.name,.slice x3.aS x3.nS x3.cS,.slice x3.aL x3.nL x3.cL] 54 (0,0));have cr:=co Au 0;simp only [gT,gZ] at cr;go_wp2_with fail;refine (zAJ (h3.alloc _) ⟨#[93]⟩ (by decide)).mono ?_;rintro e w4 ⟨a4,hres⟩;have es:(⟨#[93]⟩:ByteArray).data.toList=[93]:=rfl;rw [es] at hres;clear es cr;have z4:w3.heap.size+1<=w4.heap.size:=(by simpa using a4.size);have A4:=(A3.alloc A3.size _).trans a4 (by simp;omega);have eB:=a4.keep (kA lg _) (by simp;omega) (by simp;omega);have cA:=a4.keep (kA gU _) (by simp;omega) (by simp;omega);have nT:=a4.keep (zAC w3 _) (by simp) (by simp;omega);have wg:=a4.keep Ab (by simp;omega) (by simp;omega);have ix:=kM.past a4 (fun i hi=>by simp;omega);have zw:=Aa.past a4 (fun i hi=>by simp;omega);have JJ:=zX.past a4 (fun i hi=>by simp;exact hi.2.2);clear a4 A3 lg gU iz kM yP Aa h3 qP Gw Au Ab IG zX b3
    cases hn:Ps.need I [93] n3 with
    | err c0 a0=>
     rw [hn] at hres;obtain rfl:e=_:=hres;exact ⟨rfl,Post.fail (by rw [m3.out,hn];rfl) A4⟩
    | ok u n4=>
     rw [hn] at hres;obtain ⟨CB,h4,_,rfl,rfl⟩:=hres;have m4:Hid (Ps.index I E e0 nx=.ok (.mk 11 0 0 ⟨#[]⟩ [] [e0,e1,e3]) n4):=by
      show Ps.index I E e0 nx=_
      rw [m3.out,hn];rfl
     clear hn m3;have q0:=JJ.wide (ok':=fun i=>(ok0 i\/w.heap.size<i)/\i≠w.heap.size) (fun i hi _=>⟨.inl hi.1,by have:=hi.2.1;omega⟩);have q1:=ix.wide (ok':=fun i=>(ok0 i\/w.heap.size<i)/\i≠w.heap.size) (fun i hi _=>⟨.inr hi.1,by have:=hi.1;omega⟩);have q3:=zw.wide (ok':=fun i=>(ok0 i\/w.heap.size<i)/\i≠w.heap.size) (fun i hi _=>⟨.inr (by omega),by omega⟩);have ak:w.heap.size<w4.heap.size:=(by omega);have fa:=fun o=>fo eB o;clear ix zw JJ;have aB:=co eB 0;have ay:=co eB 1;have az:=co eB 2;have aF:=co eB 3;have aD:=co eB 4;have aH:=co eB 5;simp at aB ay az aF aD aH;have bw:=co wg 0;have bz:=co wg 1;have bv:=co wg 2;have bU:=co wg 3;have bT:=co wg 4;have dm:=co wg 5;simp at bw bz bv bU bT dm;have FX:=co cA 0;have FJ:=co cA 1;have EP:=co cA 2;have D1:=co cA 3;have GD:=co cA 4;have Ee:=co cA 5;simp at FX FJ EP D1 GD Ee;have F5:=co nT 0;have DV:=co nT 1;have Hl:=co nT 2;have Ho:=co nT 3;have D7:=co nT 4;have E9:=co nT 5;simp at F5 DV Hl Ho D7 E9;go_wp2;have zP:(put6 w4 w.heap.size ⟨11,0,0,⟨#[]⟩,none,0,0,some ⟨w4.heap.size,0,none⟩,3,3⟩).heap.size=w4.heap.size:=zBt _ _ _;have jc:=zFg (q0.put6 (k:=w.heap.size) (by simp) ⟨11,0,0,⟨#[]⟩,none,0,0,some ⟨w4.heap.size,0,none⟩,3,3⟩) (q1.put6 (k:=w.heap.size) (by simp) ⟨11,0,0,⟨#[]⟩,none,0,0,some ⟨w4.heap.size,0,none⟩,3,3⟩) (q3.put6 (k:=w.heap.size) (by simp) ⟨11,0,0,⟨#[]⟩,none,0,0,some ⟨w4.heap.size,0,none⟩,3,3⟩) 54 (by rw [zP];exact ⟨.inr ak,by omega⟩);rw [zP] at jc;refine bodyPost_ret (v:=.agg #[.int .i64 11,.int .i64 0,.int .i64 0,.string ⟨#[]⟩,.slice none 0 0,.slice (some ⟨w4.heap.size,0,none⟩) 3 3]) (by simp [results,Tryz.results278,go_sem,aB,ay,az,aF,aD,aH,ak]) rfl ?_;exact Post.good m4.out ((A4.put6 (k:=w.heap.size) nR ⟨11,0,0,⟨#[]⟩,none,0,0,some ⟨w4.heap.size,0,none⟩,3,3⟩).alloc (by rw [zP];omega) _) (by omega) ((h4.put6 (k:=w.heap.size) (by omega) (by omega) ⟨11,0,0,⟨#[]⟩,none,0,0,some ⟨w4.heap.size,0,none⟩,3,3⟩).alloc _) ⟨⟨11,0,0,⟨#[]⟩,none,0,0,some ⟨w4.heap.size,0,none⟩,3,3⟩,rfl,(HEx.make (x:=⟨11,0,0,⟨#[]⟩,none,0,0,some ⟨w4.heap.size,0,none⟩,3,3⟩) (e:=.mk 11 0 0 ⟨#[]⟩ [] [e0,e1,e3]) rfl rfl rfl rfl zAw jc).wide (fun i hi _=>hi.1.imp id Nat.le_of_lt)⟩
theorem indexed_any {b g cap:Nat} {I:Inp} {op nx:Nat} {ok0:Nat->Prop} {x0:ExV} {e0:Ex} {J:Option (Nat->Res Ex)} (HJ:Inner b g cap I op J) (ak:nx<I.L.length) {w:World} (h:Rd w b g cap I.L I.len nx op) (hG:GlobB b w) (iO:HEx ok0 w x0.cells e0) (bm:∀ i,ok0 i->i<w.heap.size/\i≠b) :
  Calls Tryz.prog 272 #[.pointer (some ⟨b,0,none⟩),.agg #[.int .i64 x0.op,.int .i64 x0.k,.int .i64 x0.n,.string x0.name,.slice x0.aS x0.nS x0.cS,.slice x0.aL x0.nL x0.cL]] w (Post b g cap I op (exO ok0) (nx+1) w (Ps.opn I J nx fun A n1=>Ps.index I (Ps.exprOf I A) e0 n1)):=by
 have hb:=h.bb;have hg:=h.gb;have oc:=zBi;obtain ⟨W,hW⟩:=nmQ (((w.alloc (.cells #[.pointer (some ⟨b,0,none⟩)] 124 (0,0))).alloc (.cells #[.int .i64 x0.op,.int .i64 x0.k,.int .i64 x0.n,.string x0.name,.slice x0.aS x0.nS x0.cS,.slice x0.aL x0.nL x0.cL] 54 (0,0))).alloc (.cells #[.int .i64 0,.int .i64 0,.int .i64 0,.string ⟨#[]⟩,.slice none 0 0,.slice none 0 0] 54 (0,0)));have zW:W.heap.size=w.heap.size+1+1+1:=(by rw [hW];simp);have bW:Below w.heap.size w W:=(by rw [hW];exact (((Below.refl _ w).alloc nR _).alloc (by simp) _).alloc (by simp;omega) _);have rW:W.heap[w.heap.size]?=some (.cells #[.pointer (some ⟨b,0,none⟩)] 124 (0,0)):=(by rw [hW];exact kA (kA (zAC w _) _) _);have kW:W.heap[w.heap.size+1]?=some (.cells #[.int .i64 x0.op,.int .i64 x0.k,.int .i64 x0.n,.string x0.name,.slice x0.aS x0.nS x0.cS,.slice x0.aL x0.nL x0.cL] 54 (0,0)):=by
  have:=zAC (w.alloc (.cells #[.pointer (some ⟨b,0,none⟩)] 124 (0,0))) (.cells #[.int .i64 x0.op,.int .i64 x0.k,.int .i64 x0.n,.string x0.name,.slice x0.aS x0.nS x0.cS,.slice x0.aL x0.nL x0.cL] 54 (0,0));have e:(w.alloc (.cells #[.pointer (some ⟨b,0,none⟩)] 124 (0,0))).heap.size=w.heap.size+1:=(by simp);rw [e] at this;rw [hW];exact kA this _
 have nW:W.heap[w.heap.size+1+1]?=some (.cells #[.int .i64 0,.int .i64 0,.int .i64 0,.string ⟨#[]⟩,.slice none 0 0,.slice none 0 0] 54 (0,0)):=by
  have:=zAC ((w.alloc (.cells #[.pointer (some ⟨b,0,none⟩)] 124 (0,0))).alloc (.cells #[.int .i64 x0.op,.int .i64 x0.k,.int .i64 x0.n,.string x0.name,.slice x0.aS x0.nS x0.cS,.slice x0.aL x0.nL x0.cL] 54 (0,0))) (.cells #[.int .i64 0,.int .i64 0,.int .i64 0,.string ⟨#[]⟩,.slice none 0 0,.slice none 0 0] 54 (0,0));have e:((w.alloc (.cells #[.pointer (some ⟨b,0,none⟩)] 124 (0,0))).alloc (.cells #[.int .i64 x0.op,.int .i64 x0.k,.int .i64 x0.n,.string x0.name,.slice x0.aS x0.nS x0.cS,.slice x0.aL x0.nL x0.cL] 54 (0,0))).heap.size=w.heap.size+1+1:=(by simp);rw [e] at this;rw [hW];exact this
 have iP:=h.below bW;have AW:Aside [b] w.heap.size w W:=aside bW;have OT:=iO.under bW;have Bz:∀ i,ok0 i->i<W.heap.size/\i≠b:=fun i hi=>⟨by have:=(bm i hi).1;omega,(bm i hi).2⟩;go_enter Tryz.func272,Tryz.ntmps272;go_wp2_with fail;rw [<-hW];clear hW
 cases J with
 | none=>
  refine (zBO iP HJ _).mono ?_;rintro e w1 ⟨rfl,a1⟩;exact ⟨rfl,Post.fail rfl (AW.trans a1 AW.size)⟩
 | some A=>
  have HF:∀ w',Rd w' b g cap I.L I.len (nx+1) (op+1)->Aside [b] W.heap.size W w'->Calls Tryz.prog 278 (#[]++#[.pointer (some ⟨w.heap.size,0,none⟩),.pointer (some ⟨w.heap.size+1,0,none⟩)]) w' (Post b g cap I (op+1) (exO ok0) (nx+1) w' (Ps.index I (Ps.exprOf I A) e0 (nx+1))):=fun w' rE jj=>
   indexed1_any (zBZ HJ.2) rE (hG.far (AW.trans jj AW.size)) (jj.keep rW (by omega) (by simp;omega)) (jj.keep kW (by omega) (by simp;omega)) (by omega) (by omega) (OT.past jj (fun i hi=>by simp;exact (bm i hi).2)) (fun i hi=>⟨Nat.lt_of_lt_of_le (Bz i hi).1 jj.size,(bm i hi).2⟩)
  refine (zCJ iP Bz HJ.1 ak enter128 HF).mono ?_;rintro e w1 ⟨a1,hres⟩;have z1:=a1.size;have A1:=AW.trans a1 AW.size;have aG:=a1.keep nW (by omega) (by simp;omega)
  cases ht:Ps.index I (Ps.exprOf I A) e0 (nx+1) with
  | err c0 a0=>
   rw [ht] at hres;obtain rfl:e=_:=hres;exact ⟨rfl,Post.fail (by unfold Ps.opn;exact ht) A1⟩
  | ok e1 n1=>
   rw [ht] at hres;obtain ⟨dx,h1,_,rfl,y,rfl,cv⟩:=hres;have HT:=zAA ht;clear ht;have fa:=fun o=>fo aG o;have aB:=co aG 0;have ay:=co aG 1;have az:=co aG 2;have aF:=co aG 3;have aD:=co aG 4;have aH:=co aG 5;simp at aB ay az aF aD aH;have bM:=cv.wide (ok':=fun i=>(ok0 i\/w.heap.size<=i)/\i≠w.heap.size+1+1) (fun i hi hl=>hi.elim (fun q=>⟨.inl q,by have:=(bm i q).1;omega⟩) (fun q=>⟨.inr (by omega),by omega⟩));go_wp2;refine bodyPost_ret (v:=.agg #[.int .i64 y.op,.int .i64 y.k,.int .i64 y.n,.string y.name,.slice y.aS y.nS y.cS,.slice y.aL y.nL y.cL]) (by simp [results,Tryz.results272,go_sem,aB,ay,az,aF,aD,aH]) rfl ?_;exact Post.good (by unfold Ps.opn;exact HT.out) (A1.put6 (k:=w.heap.size+1+1) (by omega) y) (by omega) (h1.put6 (k:=w.heap.size+1+1) (by omega) (by omega) y) ⟨y,rfl,(bM.put6 (k:=w.heap.size+1+1) (by simp) y).wide (fun i hi _=>hi.1)⟩
end Go.Proofs.YtkfgbhlpjkkgfaaGreatDoor
