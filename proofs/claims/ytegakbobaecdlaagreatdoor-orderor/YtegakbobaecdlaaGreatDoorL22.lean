import Derived.Test.YtegakbobaecdlaaGreatDoorL21
import Derived.WalkKit
import Derived.WalkSpells
import Derived.IntWalk
import Derived.Deep.Cut
import Derived.Deep.LoopGhost
import Derived.Laws.Cover1
import Derived.Lib.Hide
import Derived.Lib.MakeNoZero
import Derived.Ground.NamesProg
import Derived.Laws.Externs
import Derived.Lib.SlBuf
import Derived.Shelf.Bytes.SlSmallAll
import Derived.Shelf.Lay
set_option linter.unusedVariables false
set_option linter.unusedSimpArgs false
set_option maxHeartbeats 64000000
set_option maxRecDepth 100000
namespace Go.Proofs.YtegakbobaecdlaaGreatDoor
open Go.RowKit Go.IntWalk
theorem mul64_1 (w:World):Calls Tryz.prog 128 #[.int .u64 1,.int .u64 1] w fun e w'=>e=.returned (.tuple #[.int .u64 0,.int .u64 1])/\w'=w:=by
 go_enter Tryz.func128,Tryz.ntmps128;go_wp2
 go_ret2
 exact ⟨rfl,rfl⟩
theorem mul_1 (w:World):Calls Tryz.prog 104 #[.int .u64 1,.int .u64 1] w fun e w'=>e=.returned (.tuple #[.int .u64 0,.int .u64 1])/\w'=w:=by
 go_enter Tryz.func104,Tryz.ntmps104;go_wp2_with fail;refine (mul64_1 w).mono ?_;rintro e w1 ⟨rfl,rfl⟩;go_wp2
 go_ret2
 exact ⟨rfl,rfl⟩
theorem mul64_2 (w:World):Calls Tryz.prog 128 #[.int .u64 1,.int .u64 2] w fun e w'=>e=.returned (.tuple #[.int .u64 0,.int .u64 2])/\w'=w:=by
 go_enter Tryz.func128,Tryz.ntmps128;go_wp2
 go_ret2
 exact ⟨rfl,rfl⟩
theorem mul_2 (w:World):Calls Tryz.prog 104 #[.int .u64 1,.int .u64 2] w fun e w'=>e=.returned (.tuple #[.int .u64 0,.int .u64 2])/\w'=w:=by
 go_enter Tryz.func104,Tryz.ntmps104;go_wp2_with fail;refine (mul64_2 w).mono ?_;rintro e w1 ⟨rfl,rfl⟩;go_wp2
 go_ret2
 exact ⟨rfl,rfl⟩
end Go.Proofs.YtegakbobaecdlaaGreatDoor
namespace Go.Proofs.YtegakbobaecdlaaGreatDoor
open Go.RowKit Go.IntWalk
namespace Sk
theorem opT_ok (k:Int):((Kd.opT k).1=0\/(Kd.opT k).1=105\/(Kd.opT k).1=98)/\((Kd.opT k).2.1=0\/(Kd.opT k).2.1=105\/(Kd.opT k).2.1=98)/\((Kd.opT k).2.2=0\/(Kd.opT k).2.2=1\/(Kd.opT k).2.2=2):=by
 have H:∀ t ∈ Kd.opsT,(t.1=0\/t.1=105\/t.1=98)/\(t.2.1=0\/t.2.1=105\/t.2.1=98)/\(t.2.2=0\/t.2.2=1\/t.2.2=2):=(by decide);unfold Kd.opT
 split
 ·decide
 ·unfold Kd.opN
  rw [List.getD_eq_getElem?_getD]
  cases h:Kd.opsT[k.toNat]? with
  | none=>decide
  | some t=>exact H t (List.mem_of_getElem? h)
def By (l:List Int):Prop:=∀ x ∈ l,0<=x/\x<256
theorem vAt_elem {V:List Vr} (h:∀ v ∈ V,VrOk v) (x:Int):(vAt V x).elem=0\/(vAt V x).elem=105\/(vAt V x).elem=98:=by
 unfold vAt;rw [List.getD_eq_getElem?_getD]
 cases e:V[x.toNat]? with
 | none=>exact .inl rfl
 | some t=>exact .inr (h t (List.mem_of_getElem? e)).1
theorem when_by {b:Bool} {e:Int} (h:0<=e/\e<256):0<=when b e/\when b e<256:=by
 unfold when
 split
 ·exact h
 ·omega
theorem effect_by {V:List Vr} (hV:∀ v ∈ V,VrOk v) {p:Pu} {c:Int} {st:List Int} (hs:By st):By (effect V p c st).1/\0<=(effect V p c st).2/\(effect V p c st).2<256:=by
 have hnil:By []:=fun x hx=>by cases hx
 have hv:=vAt_elem hV p.v;unfold effect
 split
 ·refine ⟨hnil,?_⟩
  show 0<=madeNum p/\madeNum p<256
  unfold madeNum
  split
  ·omega
  ·split
   ·exact when_by (by omega)
   ·omega
 ·split
  ·refine ⟨hnil,?_⟩
   show 0<=madeVar p (vAt V p.v) c/\madeVar p (vAt V p.v) c<256
   unfold madeVar
   split
   ·exact when_by (by omega)
   ·exact when_by (by omega)
  ·split
   ·exact ⟨hnil,when_by (by omega)⟩
   ·split
    ·have:=opT_ok p.k
     unfold opEff;refine ⟨fun x hx=>?_,when_by (by omega)⟩;have:=(List.mem_replicate.1 hx).2;omega
    ·split
     ·unfold choice
      cases h:st.getLast? with
      | none=>exact ⟨hnil,by simp⟩
      | some t=>
       have ht:0<=t/\t<256:=hs t (List.mem_of_getLast? h);refine ⟨fun x hx=>?_,ht⟩;simp at hx;omega
     ·split
      ·refine ⟨fun x hx=>?_,when_by (by omega)⟩
       simp at hx;omega
      ·exact ⟨hnil,by simp⟩
theorem take_by {st:List Int} (hs:By st) (n:Nat):By (st.take n):=fun x hx=>hs x (List.mem_of_mem_take hx)
theorem push_by {st:List Int} (hs:By st) {e:Int} (he:0<=e/\e<256):By (st++[e]):=by
 intro x hx;rcases List.mem_append.1 hx with q | q
 ·exact hs x q
 ·simp at q
  omega
theorem effect_len {V:List Vr} {p:Pu} {c:Int} {st:List Int}:(effect V p c st).1.length<=3:=by
 unfold effect
 split
 ·simp
 ·split
  ·simp
  ·split
   ·simp
   ·split
    ·have:=opT_ok p.k
     unfold opEff;rw [List.length_replicate];omega
    ·split
     ·unfold choice
      split<;>simp
     ·split<;>simp
end Sk
end Go.Proofs.YtegakbobaecdlaaGreatDoor
namespace Go.Proofs.YtegakbobaecdlaaGreatDoor
open Go.Shelf Go.RowKit Go.IntWalk
theorem HBy.blk {w:World} {g B:Nat} {t:TypeId} {cs:Array Value} (hn:w.heap[g]?=some (.cells cs t (0,0))) (l:List Int) (hcs:cs=(l.map (Value.int .u8)).toArray) (hl:l.length<=1000) (hB:B<=g):HBy (fun i=>B<=i) w (.slice (some ⟨g,0,none⟩) l.length l.length) l:=by
 subst hcs;refine ⟨fun i=>[.int .u8 (l.getD i 0)],⟨_,_,rfl,Nat.le_refl _,by unfold maxLen;omega,fun _=>⟨g,0,rfl,hB,zG hn,fun i hi=>⟨rfl,fun j hj=>?_⟩⟩⟩,fun i hi=>?_⟩
 ·have e:j=0:=by omega
  subst e;rw [coQ hn];simp [hi]
 ·simp [hi]
theorem qZ (w:World) (n:Nat) (hn:n<=1000000):∃ cs:Array Value,(callFunc 168 #[.int .i64 (n:Int)]).run Tryz.prog w=.ok (.value (.slice (some ⟨w.heap.size,0,none⟩) n cs.size)) ((w.alloc (.cells cs 5)).drewN 2)/\n<=cs.size:=by
 obtain ⟨cs,hrunM,hle,hmax⟩:=Lib.run_makeNoZero (P:=Tryz.prog) w #[3] 104 5 Tryz.underlying104 n (by omega);refine ⟨cs,?_,hle⟩;rw [run_callFunc_extern (fn:=Tryz.f168) (by kernel_rfl) (by kernel_rfl) (by kernel_rfl) (by kernel_rfl) (e:=Extern.BytealgMakeNoZero.makeNoZero #[3] #[104]) (by kernel_rfl),hrunM];rfl
theorem repeat0_any (a:Option Addr) (c:Nat) (w:World):Calls Tryz.prog 167 #[.slice a 1 c,.int .i64 0] w fun r w'=>∃ u,r=.returned u/\HBy (fun i=>w.heap.size<=i) w' u []/\Below w.heap.size w w':=by
 go_enter Tryz.func167,Tryz.ntmps167;go_wp2;go_ret;exact ⟨_,rfl,HBy.lit [] (by simp) _,(Below.refl _ _).alloc zM _⟩
theorem size5:(Tryz.prog.info? 5).map (·.size)=some 1:=by kernel_rfl
theorem repeat1_any {w:World} {b o c:Nat} {x:Int} (hc:w.cell? ⟨b,o,none⟩=some (.int .u8 x)) (hb:b<w.heap.size):Calls Tryz.prog 167 #[.slice (some ⟨b,o,none⟩) 1 c,.int .i64 1] w fun r w'=>∃ u,r=.returned u/\HBy (fun i=>w.heap.size<=i) w' u (List.replicate 1 x)/\Below w.heap.size w w':=by
 obtain ⟨cs,hcall,hle⟩:=qZ w 1 (by omega);have B0:=Lib.Buf.start w cs 5 1 2 hle;obtain ⟨W,hW⟩:=nmQ ((w.alloc (.cells cs 5)).drewN 2);rw [<-hW] at hcall B0;have hlt:w.heap.size<W.heap.size:=(by rw [hW];show w.heap.size<(w.alloc _).heap.size;simp);have hcw:W.cell? ⟨b,o,none⟩=some (.int .u8 x):=Lib.Below.cellOf B0.below hc zM;have hr1:(Builtin.copy_ #[104,104] 3 #[.slice (some ⟨w.heap.size,0,none⟩) 1 1,.slice (some ⟨b,o,none⟩) 1 c]).run Tryz.prog W=.ok (.int .i64 1) (W.setCells w.heap.size 0 [.int .u8 x]):=run_copy_cells (P:=Tryz.prog) W 104 104 3 5 w.heap.size 0 1 1 ⟨b,o,none⟩ 1 c [.int .u8 x] Tryz.underlying104 size5 rfl (fun j v hj=>by
   have:j=0:=(by rcases Nat.eq_zero_or_pos j with h | h;exact h;(rw [List.getElem?_eq_none (by simp;omega)] at hj;cases hj));subst this;simp at hj;subst hj;exact hcw) (fun j hj=>by rw [Nat.zero_add];exact B0.there j (by simp at hj;omega)) (fun j hj=>by rw [Nat.zero_add];exact B0.free j (by simp at hj;omega)) (fun v hv=>by simp at hv;subst hv;rfl)
 have hin:=World.cell?_setCells_in w.heap.size [.int .u8 x] 0 W (fun j hj=>by rw [Nat.zero_add];exact B0.there j (by simp at hj;omega));have hin0:=hin 0 (by simp);have hout:=World.cell?_setCells_out w.heap.size [.int .u8 x] 0 W;have hbel:=Lib.below_setCells w.heap.size zM [.int .u8 x] 0 B0.below;have hfr:∀ j,j<1->(W.setCells w.heap.size 0 [.int .u8 x]).frozen? ⟨w.heap.size,j,none⟩=false:=fun j hj=>by rw [World.frozen?_setCells];exact B0.free j hj
 have hth:∀ j,j<1->((W.setCells w.heap.size 0 [.int .u8 x]).cell? ⟨w.heap.size,j,none⟩).isSome=true:=fun j hj=>by
  by_cases h:j=0
  ·subst h
   rw [show (0:Nat)=0+0 from rfl,hin0];rfl
  ·rw [hout ⟨w.heap.size,j,none⟩ (fun _ _=>Or.inr (by simp;omega))]
   exact B0.there j hj
 have i1:(1:Int)<=(cs.size:Int):=(by omega);have hcall1:(callFunc 168 #[.int .i64 1]).run Tryz.prog w=.ok (.value (.slice (some ⟨w.heap.size,0,none⟩) 1 cs.size)) W:=hcall;have hsz:(W.setCells w.heap.size 0 [.int .u8 x]).heap.size=W.heap.size:=(by simp [World.setCells,World.setCell]);generalize W.setCells w.heap.size 0 [.int .u8 x]=W1 at hr1 hin hin0 hout hbel hfr hth hsz;have hin1:W1.cell? ⟨w.heap.size,0,none⟩=some (.int .u8 x):=hin0;clear hcall B0 hcw hc hW hin hin0 hout hle;have HF:=zE (show HBy (fun i=>w.heap.size<=i) W1 (.slice (some ⟨w.heap.size,0,none⟩) 1 1) (List.replicate 1 x) from ⟨fun _=>[.int .u8 x],⟨_,_,rfl,Nat.le_refl _,by unfold maxLen;omega,fun _=>⟨w.heap.size,0,rfl,Nat.le_refl _,by omega,fun i hi=>⟨rfl,fun j hj=>by
   have e:j=0:=(by omega);subst e;have:i=0:=(by simp at hi;omega);subst this;exact hin1⟩⟩⟩,fun i hi=>by rw [List.getElem_replicate]⟩)
 clear hth hfr;have HM:=mul_1 w;go_enter Tryz.func167,Tryz.ntmps167;go_wp2_with fail;refine HM.mono ?_;rintro e w1 ⟨rfl,hw1⟩;subst hw1;clear HM
 go_wp2_with (at_builtin;refine Lib.wpList_copy_run _ rfl _ _ 104 104 rfl _ _ rfl rfl hr1 ?_)
 go_loopg [10] 0 (fun k v wr=>v=.int .i64 1/\wr=W1)
 case atStart=>exact ⟨rfl,rfl⟩
 case round=>
  obtain ⟨rfl,rfl⟩:=hrel;go_wp2;go_ret;exact ⟨_,rfl,HF.out,hbel⟩
theorem repeat2_any {w:World} {b o c:Nat} {x:Int} (hc:w.cell? ⟨b,o,none⟩=some (.int .u8 x)) (hb:b<w.heap.size):Calls Tryz.prog 167 #[.slice (some ⟨b,o,none⟩) 1 c,.int .i64 2] w fun r w'=>∃ u,r=.returned u/\HBy (fun i=>w.heap.size<=i) w' u (List.replicate 2 x)/\Below w.heap.size w w':=by
 obtain ⟨cs,hcall,hle⟩:=qZ w 2 (by omega);have B0:=Lib.Buf.start w cs 5 2 2 hle;obtain ⟨W,hW⟩:=nmQ ((w.alloc (.cells cs 5)).drewN 2);rw [<-hW] at hcall B0;have hlt:w.heap.size<W.heap.size:=(by rw [hW];show w.heap.size<(w.alloc _).heap.size;simp);have hcw:W.cell? ⟨b,o,none⟩=some (.int .u8 x):=Lib.Below.cellOf B0.below hc zM;have hr1:(Builtin.copy_ #[104,104] 3 #[.slice (some ⟨w.heap.size,0,none⟩) 2 2,.slice (some ⟨b,o,none⟩) 1 c]).run Tryz.prog W=.ok (.int .i64 1) (W.setCells w.heap.size 0 [.int .u8 x]):=run_copy_cells (P:=Tryz.prog) W 104 104 3 5 w.heap.size 0 2 2 ⟨b,o,none⟩ 1 c [.int .u8 x] Tryz.underlying104 size5 rfl (fun j v hj=>by
   have:j=0:=(by rcases Nat.eq_zero_or_pos j with h | h;exact h;(rw [List.getElem?_eq_none (by simp;omega)] at hj;cases hj));subst this;simp at hj;subst hj;exact hcw) (fun j hj=>by rw [Nat.zero_add];exact B0.there j (by simp at hj;omega)) (fun j hj=>by rw [Nat.zero_add];exact B0.free j (by simp at hj;omega)) (fun v hv=>by simp at hv;subst hv;rfl)
 have hin:=World.cell?_setCells_in w.heap.size [.int .u8 x] 0 W (fun j hj=>by rw [Nat.zero_add];exact B0.there j (by simp at hj;omega));have hin0:=hin 0 (by simp);have hout:=World.cell?_setCells_out w.heap.size [.int .u8 x] 0 W;have hbel:=Lib.below_setCells w.heap.size zM [.int .u8 x] 0 B0.below;have hfr:∀ j,j<2->(W.setCells w.heap.size 0 [.int .u8 x]).frozen? ⟨w.heap.size,j,none⟩=false:=fun j hj=>by rw [World.frozen?_setCells];exact B0.free j hj
 have hth:∀ j,j<2->((W.setCells w.heap.size 0 [.int .u8 x]).cell? ⟨w.heap.size,j,none⟩).isSome=true:=fun j hj=>by
  by_cases h:j=0
  ·subst h
   rw [show (0:Nat)=0+0 from rfl,hin0];rfl
  ·rw [hout ⟨w.heap.size,j,none⟩ (fun _ _=>Or.inr (by simp;omega))]
   exact B0.there j hj
 have i1:(2:Int)<=(cs.size:Int):=(by omega);have hcall1:(callFunc 168 #[.int .i64 2]).run Tryz.prog w=.ok (.value (.slice (some ⟨w.heap.size,0,none⟩) 2 cs.size)) W:=hcall;have hsz:(W.setCells w.heap.size 0 [.int .u8 x]).heap.size=W.heap.size:=(by simp [World.setCells,World.setCell]);generalize W.setCells w.heap.size 0 [.int .u8 x]=W1 at hr1 hin hin0 hout hbel hfr hth hsz;have hin1:W1.cell? ⟨w.heap.size,0,none⟩=some (.int .u8 x):=hin0;clear hcall B0 hcw hc hW hin hin0 hout hle;have hr2:(Builtin.copy_ #[104,104] 3 #[.slice (some ⟨w.heap.size,1,none⟩) 1 1,.slice (some ⟨w.heap.size,0,none⟩) 1 2]).run Tryz.prog W1.drew=.ok (.int .i64 1) (W1.drew.setCells w.heap.size 1 [.int .u8 x]):=run_copy_cells (P:=Tryz.prog) W1.drew 104 104 3 5 w.heap.size 1 1 1 ⟨w.heap.size,0,none⟩ 1 2 [.int .u8 x] Tryz.underlying104 size5 rfl (fun j v hj=>by
   have:j=0:=(by rcases Nat.eq_zero_or_pos j with h | h;exact h;(rw [List.getElem?_eq_none (by simp;omega)] at hj;cases hj));subst this;simp at hj;subst hj;exact hin1) (fun j hj=>hth _ (by simp at hj;omega)) (fun j hj=>hfr _ (by simp at hj;omega)) (fun v hv=>by simp at hv;subst hv;rfl)
 have hjn:=World.cell?_setCells_in w.heap.size [.int .u8 x] 1 W1.drew (fun j hj=>hth _ (by simp at hj;omega));have hjn0:=hjn 0 (by simp);have hjo:=World.cell?_setCells_out w.heap.size [.int .u8 x] 1 W1.drew ⟨w.heap.size,0,none⟩ (fun _ _=>Or.inl (by simp));have hbel2:=Lib.below_setCells w.heap.size zM [.int .u8 x] 1 hbel.drew;have hsz2:(W1.drew.setCells w.heap.size 1 [.int .u8 x]).heap.size=W1.heap.size:=(by simp [World.setCells,World.setCell]);generalize W1.drew.setCells w.heap.size 1 [.int .u8 x]=W2 at hr2 hjn hjn0 hjo hbel2 hsz2;have hj1:W2.cell? ⟨w.heap.size,1,none⟩=some (.int .u8 x):=hjn0;have hj0:W2.cell? ⟨w.heap.size,0,none⟩=some (.int .u8 x):=hjo.trans hin1;have HF:=zE (show HBy (fun i=>w.heap.size<=i) W2 (.slice (some ⟨w.heap.size,0,none⟩) 2 2) (List.replicate 2 x) from ⟨fun _=>[.int .u8 x],⟨_,_,rfl,Nat.le_refl _,by unfold maxLen;omega,fun _=>⟨w.heap.size,0,rfl,Nat.le_refl _,by omega,fun i hi=>⟨rfl,fun j hj=>by
   have e:j=0:=(by omega);subst e;have:i=0\/i=1:=(by simp at hi;omega);rcases this with rfl | rfl
   ·exact hj0
   ·exact hj1⟩⟩⟩,fun i hi=>by rw [List.getElem_replicate]⟩)
 clear hjn hjn0 hjo hj1 hj0 hth hfr;have HM:=mul_2 w;go_enter Tryz.func167,Tryz.ntmps167;go_wp2_with fail;refine HM.mono ?_;rintro e w1 ⟨rfl,hw1⟩;subst hw1;clear HM
 go_wp2_with (at_builtin;refine Lib.wpList_copy_run _ rfl _ _ 104 104 rfl _ _ rfl rfl hr1 ?_)
 go_loopg [10] 1 (fun k v wr=>(v=.int .i64 1/\k=1/\wr=W1)\/(v=.int .i64 2/\k=0/\wr=W2))
 case atStart=>exact .inl ⟨rfl,rfl,rfl⟩
 case round=>
  rcases hrel with ⟨rfl,rfl,rfl⟩ | ⟨rfl,rfl,rfl⟩
  case inl=>
   go_upto_region 20 with fail;refine zK (fun _=>True) (fun _=>false) (by kernel_rfl) ?_;have hT:True:=trivial;refine' tkR 0 67 hT ?o1
   refine' tkR 1 68 hT ?o2
   refine' tkR 2 69 hT ?o3
   refine' tkR 3 70 hT ?o4
   refine' tkR 4 71 hT ?o5
   refine' tkR 5 72 hT ?o6
   refine' tkR 6 73 hT ?o7
   refine zAb (i:=7) (o:=⟨some 74,_,_,_,_,_⟩) rfl (by kernel_rfl) (by rfl) (fun K hK=>?_);refine Lib.wp_copy_run _ _ _ 104 104 rfl _ _ (by rfl) (by rfl) hr2 ?_;refine hK.out _ _ (fun _=>hT) ?_;clear hK K
   try simp only [Act.put,sT,sZ,sS]
   refine' tkR 8 75 hT ?o8
   refine' tkR 9 10 hT ?o9
   refine zH (by kernel_rfl) ?_ _;go_wp2_with fail;go_roundg 0
   case measure=>omega
   case rel=>exact .inr ⟨by go_num,rfl,rfl⟩
  case inr=>
   go_wp2;go_ret;exact ⟨_,rfl,HF.out,hbel2⟩
shelf_lay Lays.nb117 Nm 117 at Tryz as lay159
theorem jY:∀ {a b:List Int},Sk.By a->Sk.By b->Lib.bytesOf a=Lib.bytesOf b->a=b
 | [],[],_,_,_=>rfl
 | [],y :: r,_,_,h=>by simp [Lib.bytesOf] at h
 | x :: r,[],_,_,h=>by simp [Lib.bytesOf] at h
 | x :: r,y :: s,ha,hb,h=>by
  simp only [Lib.bytesOf,List.map_cons,List.cons.injEq] at h;have h1:=ha x (by simp);have h2:=hb y (by simp);have e1:x=y:=by
   have:=congrArg UInt8.toNat h.1;simp at this;omega
  rw [e1,jY (fun z hz=>ha z (by simp [hz])) (fun z hz=>hb z (by simp [hz])) h.2]
theorem ends_suffix {a b:List Int} (ha:Sk.By a) (hb:Sk.By b):Lib.hasSuffix (Lib.bytesOf a) (Lib.bytesOf b)=Sk.ends a b:=by
 rw [<-Lib.bytes_hasSuffix];unfold Sk.ends
 congr 1
 have hd:Sk.By (a.drop (a.length-b.length)):=fun x hx=>ha x (List.mem_of_mem_drop hx)
 apply Bool.eq_iff_iff.2
 rw [beq_iff_eq,beq_iff_eq];exact ⟨fun h=>jY hd hb h,fun h=>by rw [h]⟩
theorem HBy.bytes {ok:Nat->Prop} {w:World} {ao:Option Addr} {n cap:Nat} {l:List Int} (h:HBy ok w (.slice ao n cap) l):n=l.length/\l.length<=cap/\cap<=maxLen/\Lib.BytesIn w ao n l:=by
 obtain ⟨ao',cap',hv,h1,h2,h3⟩:=h.at;injection hv with e1 e2 e3;subst e1 e2 e3;refine ⟨rfl,h1,h2,fun hn=>?_⟩;obtain ⟨b,o,e,_,_⟩:=h3 0 hn;refine ⟨b,o,e,fun i hi=>?_⟩;obtain ⟨b',o',e',_,hc⟩:=h3 i hi;rw [e] at e';injection e' with e';injection e' with q1 q2;subst q1 q2;rw [hc];simp [hi]
theorem zAt {ok ok':Nat->Prop} {w:World} {v u:Value} {a b:List Int} (hv:HBy ok w v a) (hu:HBy ok' w u b) (ha:Sk.By a) (hb:Sk.By b):Calls Tryz.prog 154 #[v,u] w fun e w'=>e=.returned (.bool (Sk.ends a b))/\Below w.heap.size w w':=by
 obtain ⟨a1,c1,rfl,_⟩:=hv.at;obtain ⟨a2,c2,rfl,_⟩:=hu.at;obtain ⟨_,x1,x2,x3⟩:=hv.bytes;obtain ⟨_,y1,y2,y3⟩:=hu.bytes;unfold maxLen at x2 y2;rw [<-ends_suffix ha hb];exact (Any.bytes_HasSuffix_all lay159 a1 a2 a.length c1 b.length c2 a b w rfl rfl x1 (by omega) x3 y3).mono fun _ _ ⟨h1,h2⟩=>⟨h1,h2 ▸ Below.refl _ _⟩
theorem qF {w:World} {b o c:Nat} {x:Int} (n:Int) (hc:w.cell? ⟨b,o,none⟩=some (.int .u8 x)) (hb:b<w.heap.size) (hn:n=0\/n=1\/n=2):Calls Tryz.prog 167 #[.slice (some ⟨b,o,none⟩) 1 c,.int .i64 n] w fun r w'=>∃ u,r=.returned u/\HBy (fun i=>w.heap.size<=i) w' u (List.replicate n.toNat x)/\Below w.heap.size w w':=by
 rcases hn with rfl | rfl | rfl
 ·exact repeat0_any _ _ w
 ·exact repeat1_any hc hb
 ·exact repeat2_any hc hb
end Go.Proofs.YtegakbobaecdlaaGreatDoor
namespace Go.Proofs.YtegakbobaecdlaaGreatDoor
open Go.RowKit Go.IntWalk
theorem opEff0_any (p:Pu) (tk mk:Int) (w:World) (hG:GlobK w) (ho:Kd.opT p.k=(tk,mk,0)):Calls Tryz.prog 163 #[pv p] w fun r w'=>∃ u,r=.returned (.tuple #[u,.int .u8 (Sk.when false mk)])/\HBy (fun i=>w.heap.size<=i) w' u (List.replicate 0 tk)/\Below w.heap.size w w':=by
 have b1:Below w.heap.size w (w.alloc (.cells #[.int .i64 p.op,.int .i64 p.k,.int .i64 p.v,.int .i64 p.n] 79 (0,0))):=(Below.refl _ _).alloc zM _;have kA:=zI w (.cells #[.int .i64 p.op,.int .i64 p.k,.int .i64 p.v,.int .i64 p.n] 79 (0,0));have hco:=jK p.k _ (hG.under b1);rw [ho] at hco
 dsimp only at hco
 clear hG ho;obtain ⟨op,k,v,n⟩:=p
 dsimp only at *
 go_enter Tryz.func163,Tryz.ntmps163;go_upto_region 1 with fail;generalize w.alloc (.cells #[.int .i64 op,.int .i64 k,.int .i64 v,.int .i64 n] 79 (0,0))=w1 at b1 kA hco ⊢;have a1:=coQ kA 1;simp at a1;go_wp2_with fail;refine hco.mono ?_;rintro e w2 ⟨rfl,b2⟩;have B2:=b1.trans (b2.mono b1.size);have kA2:=(b2.block _ (zG kA)).trans kA;have c0:=coQ kA2 0;simp at c0;clear hco kA a1;have b3:Below w2.heap.size w2 (w2.alloc (.cells #[.int .u8 tk] 5 (0,0))):=(Below.refl _ _).alloc zM _;have kB:=zI w2 (.cells #[.int .u8 tk] 5 (0,0));have hcell:(w2.alloc (.cells #[.int .u8 tk] 5 (0,0))).cell? ⟨w2.heap.size,0,none⟩=some (.int .u8 tk):=(coQ kB 0).trans rfl;have HB3:=zE (B2.trans (b3.mono B2.size));have HRP:=zE (qF (c:=1) 0 hcell (zG kB) (by omega));clear kA2 kB hcell b3;go_wp2_with fail;refine HRP.out.mono ?_;rintro e w4 ⟨u,rfl,h4,b4⟩;have B4:=HB3.out.trans (b4.mono HB3.out.size);have H4:=zE (h4.wide (ok':=fun i=>w.heap.size<=i) fun i hi _=>Nat.le_trans HB3.out.size hi);clear h4 HRP HB3;go_wp2_with fail;refine (xE _ mk _).mono ?_;rintro e w5 ⟨rfl,b5⟩;have B5:=B4.trans (b5.mono B4.size);have H5:=zE (H4.out.under b5);go_wp2
 go_ret2
 exact ⟨u,by first | rfl | (rw [e5]) | (rw [e5];rfl),H5.out,B5⟩
theorem opEff1_any (p:Pu) (tk mk:Int) (w:World) (hG:GlobK w) (ho:Kd.opT p.k=(tk,mk,1)):Calls Tryz.prog 163 #[pv p] w fun r w'=>∃ u,r=.returned (.tuple #[u,.int .u8 (Sk.when (p.op==5) mk)])/\HBy (fun i=>w.heap.size<=i) w' u (List.replicate 1 tk)/\Below w.heap.size w w':=by
 have b1:Below w.heap.size w (w.alloc (.cells #[.int .i64 p.op,.int .i64 p.k,.int .i64 p.v,.int .i64 p.n] 79 (0,0))):=(Below.refl _ _).alloc zM _;have kA:=zI w (.cells #[.int .i64 p.op,.int .i64 p.k,.int .i64 p.v,.int .i64 p.n] 79 (0,0));have hco:=jK p.k _ (hG.under b1);rw [ho] at hco
 dsimp only at hco
 clear hG ho;obtain ⟨op,k,v,n⟩:=p
 dsimp only at *
 cases e5:(op==5)
 ·go_enter Tryz.func163,Tryz.ntmps163
  go_upto_region 1 with fail;generalize w.alloc (.cells #[.int .i64 op,.int .i64 k,.int .i64 v,.int .i64 n] 79 (0,0))=w1 at b1 kA hco ⊢;have a1:=coQ kA 1;simp at a1;go_wp2_with fail;refine hco.mono ?_;rintro e w2 ⟨rfl,b2⟩;have B2:=b1.trans (b2.mono b1.size);have kA2:=(b2.block _ (zG kA)).trans kA;have c0:=coQ kA2 0;simp at c0;clear hco kA a1;have b3:Below w2.heap.size w2 (w2.alloc (.cells #[.int .u8 tk] 5 (0,0))):=(Below.refl _ _).alloc zM _;have kB:=zI w2 (.cells #[.int .u8 tk] 5 (0,0));have hcell:(w2.alloc (.cells #[.int .u8 tk] 5 (0,0))).cell? ⟨w2.heap.size,0,none⟩=some (.int .u8 tk):=(coQ kB 0).trans rfl;have HB3:=zE (B2.trans (b3.mono B2.size));have HRP:=zE (qF (c:=1) 1 hcell (zG kB) (by omega));clear kA2 kB hcell b3;go_wp2_with fail;refine HRP.out.mono ?_;rintro e w4 ⟨u,rfl,h4,b4⟩;have B4:=HB3.out.trans (b4.mono HB3.out.size);have H4:=zE (h4.wide (ok':=fun i=>w.heap.size<=i) fun i hi _=>Nat.le_trans HB3.out.size hi);clear h4 HRP HB3;go_wp2_with fail;refine (xE _ mk _).mono ?_;rintro e w5 ⟨rfl,b5⟩;have B5:=B4.trans (b5.mono B4.size);have H5:=zE (H4.out.under b5);go_wp2
  go_ret2
  exact ⟨u,by first | rfl | (rw [e5]) | (rw [e5];rfl),H5.out,B5⟩
 ·go_enter Tryz.func163,Tryz.ntmps163
  go_upto_region 1 with fail;generalize w.alloc (.cells #[.int .i64 op,.int .i64 k,.int .i64 v,.int .i64 n] 79 (0,0))=w1 at b1 kA hco ⊢;have a1:=coQ kA 1;simp at a1;go_wp2_with fail;refine hco.mono ?_;rintro e w2 ⟨rfl,b2⟩;have B2:=b1.trans (b2.mono b1.size);have kA2:=(b2.block _ (zG kA)).trans kA;have c0:=coQ kA2 0;simp at c0;clear hco kA a1;have b3:Below w2.heap.size w2 (w2.alloc (.cells #[.int .u8 tk] 5 (0,0))):=(Below.refl _ _).alloc zM _;have kB:=zI w2 (.cells #[.int .u8 tk] 5 (0,0));have hcell:(w2.alloc (.cells #[.int .u8 tk] 5 (0,0))).cell? ⟨w2.heap.size,0,none⟩=some (.int .u8 tk):=(coQ kB 0).trans rfl;have HB3:=zE (B2.trans (b3.mono B2.size));have HRP:=zE (qF (c:=1) 1 hcell (zG kB) (by omega));clear kA2 kB hcell b3;go_wp2_with fail;refine HRP.out.mono ?_;rintro e w4 ⟨u,rfl,h4,b4⟩;have B4:=HB3.out.trans (b4.mono HB3.out.size);have H4:=zE (h4.wide (ok':=fun i=>w.heap.size<=i) fun i hi _=>Nat.le_trans HB3.out.size hi);clear h4 HRP HB3;go_wp2_with fail;refine (xE _ mk _).mono ?_;rintro e w5 ⟨rfl,b5⟩;have B5:=B4.trans (b5.mono B4.size);have H5:=zE (H4.out.under b5);go_wp2
  go_ret2
  exact ⟨u,by first | rfl | (rw [e5]) | (rw [e5];rfl),H5.out,B5⟩
theorem opEff2_any (p:Pu) (tk mk:Int) (w:World) (hG:GlobK w) (ho:Kd.opT p.k=(tk,mk,2)):Calls Tryz.prog 163 #[pv p] w fun r w'=>∃ u,r=.returned (.tuple #[u,.int .u8 (Sk.when (p.op==6) mk)])/\HBy (fun i=>w.heap.size<=i) w' u (List.replicate 2 tk)/\Below w.heap.size w w':=by
 have b1:Below w.heap.size w (w.alloc (.cells #[.int .i64 p.op,.int .i64 p.k,.int .i64 p.v,.int .i64 p.n] 79 (0,0))):=(Below.refl _ _).alloc zM _;have kA:=zI w (.cells #[.int .i64 p.op,.int .i64 p.k,.int .i64 p.v,.int .i64 p.n] 79 (0,0));have hco:=jK p.k _ (hG.under b1);rw [ho] at hco
 dsimp only at hco
 clear hG ho;obtain ⟨op,k,v,n⟩:=p
 dsimp only at *
 cases e5:(op==6)
 ·go_enter Tryz.func163,Tryz.ntmps163
  go_upto_region 1 with fail;generalize w.alloc (.cells #[.int .i64 op,.int .i64 k,.int .i64 v,.int .i64 n] 79 (0,0))=w1 at b1 kA hco ⊢;have a1:=coQ kA 1;simp at a1;go_wp2_with fail;refine hco.mono ?_;rintro e w2 ⟨rfl,b2⟩;have B2:=b1.trans (b2.mono b1.size);have kA2:=(b2.block _ (zG kA)).trans kA;have c0:=coQ kA2 0;simp at c0;clear hco kA a1;have b3:Below w2.heap.size w2 (w2.alloc (.cells #[.int .u8 tk] 5 (0,0))):=(Below.refl _ _).alloc zM _;have kB:=zI w2 (.cells #[.int .u8 tk] 5 (0,0));have hcell:(w2.alloc (.cells #[.int .u8 tk] 5 (0,0))).cell? ⟨w2.heap.size,0,none⟩=some (.int .u8 tk):=(coQ kB 0).trans rfl;have HB3:=zE (B2.trans (b3.mono B2.size));have HRP:=zE (qF (c:=1) 2 hcell (zG kB) (by omega));clear kA2 kB hcell b3;go_wp2_with fail;refine HRP.out.mono ?_;rintro e w4 ⟨u,rfl,h4,b4⟩;have B4:=HB3.out.trans (b4.mono HB3.out.size);have H4:=zE (h4.wide (ok':=fun i=>w.heap.size<=i) fun i hi _=>Nat.le_trans HB3.out.size hi);clear h4 HRP HB3;go_wp2_with fail;refine (xE _ mk _).mono ?_;rintro e w5 ⟨rfl,b5⟩;have B5:=B4.trans (b5.mono B4.size);have H5:=zE (H4.out.under b5);go_wp2
  go_ret2
  exact ⟨u,by first | rfl | (rw [e5]) | (rw [e5];rfl),H5.out,B5⟩
 ·go_enter Tryz.func163,Tryz.ntmps163
  go_upto_region 1 with fail;generalize w.alloc (.cells #[.int .i64 op,.int .i64 k,.int .i64 v,.int .i64 n] 79 (0,0))=w1 at b1 kA hco ⊢;have a1:=coQ kA 1;simp at a1;go_wp2_with fail;refine hco.mono ?_;rintro e w2 ⟨rfl,b2⟩;have B2:=b1.trans (b2.mono b1.size);have kA2:=(b2.block _ (zG kA)).trans kA;have c0:=coQ kA2 0;simp at c0;clear hco kA a1;have b3:Below w2.heap.size w2 (w2.alloc (.cells #[.int .u8 tk] 5 (0,0))):=(Below.refl _ _).alloc zM _;have kB:=zI w2 (.cells #[.int .u8 tk] 5 (0,0));have hcell:(w2.alloc (.cells #[.int .u8 tk] 5 (0,0))).cell? ⟨w2.heap.size,0,none⟩=some (.int .u8 tk):=(coQ kB 0).trans rfl;have HB3:=zE (B2.trans (b3.mono B2.size));have HRP:=zE (qF (c:=1) 2 hcell (zG kB) (by omega));clear kA2 kB hcell b3;go_wp2_with fail;refine HRP.out.mono ?_;rintro e w4 ⟨u,rfl,h4,b4⟩;have B4:=HB3.out.trans (b4.mono HB3.out.size);have H4:=zE (h4.wide (ok':=fun i=>w.heap.size<=i) fun i hi _=>Nat.le_trans HB3.out.size hi);clear h4 HRP HB3;go_wp2_with fail;refine (xE _ mk _).mono ?_;rintro e w5 ⟨rfl,b5⟩;have B5:=B4.trans (b5.mono B4.size);have H5:=zE (H4.out.under b5);go_wp2
  go_ret2
  exact ⟨u,by first | rfl | (rw [e5]) | (rw [e5];rfl),H5.out,B5⟩
theorem zAv (p:Pu) (w:World) (hG:GlobK w):Calls Tryz.prog 163 #[pv p] w fun r w'=>∃ u,r=.returned (.tuple #[u,.int .u8 (Sk.opEff p).2])/\HBy (fun i=>w.heap.size<=i) w' u (Sk.opEff p).1/\Below w.heap.size w w':=by
 have hok:=(Sk.opT_ok p.k).2.2;unfold Sk.opEff;obtain ⟨tk,mk,on,ho⟩:∃ tk mk on,Kd.opT p.k=(tk,mk,on):=⟨_,_,_,rfl⟩;rw [ho] at hok ⊢
 dsimp only at hok ⊢
 rcases hok with rfl | rfl | rfl
 ·exact opEff0_any p tk mk w hG ho
 ·exact (opEff1_any p tk mk w hG ho).mono fun _ _ ⟨u,h1,h2⟩=>⟨u,by rw [h1];simp,h2⟩
 ·exact (opEff2_any p tk mk w hG ho).mono fun _ _ ⟨u,h1,h2⟩=>⟨u,by rw [h1];simp,h2⟩
end Go.Proofs.YtegakbobaecdlaaGreatDoor
