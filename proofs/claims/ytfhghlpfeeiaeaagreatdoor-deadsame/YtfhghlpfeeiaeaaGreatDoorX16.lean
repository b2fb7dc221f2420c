import Derived.Test.YtfhghlpfeeiaeaaGreatDoorX15
import Derived.Deep.Cut
import Derived.Deep.LoopGhost
import Derived.Ground.NamesProg
import Derived.IntWalk
import Derived.Laws.Cover1
import Derived.Laws.Externs
import Derived.Lib.Hide
import Derived.Lib.MakeNoZero
import Derived.Lib.SlBuf
import Derived.Shelf.Bytes.SlSmallAll
import Derived.Shelf.Lay
import Derived.WalkKit
import Derived.WalkSpells
set_option linter.unusedVariables false
set_option linter.unusedSimpArgs false
set_option maxHeartbeats 64000000
set_option maxRecDepth 100000
namespace Go.Proofs.YtfhghlpfeeiaeaaGreatDoor
open Go.Shelf Go.RowKit Go.IntWalk
theorem HBy.blk {w:World} {g B:Nat} {t:TypeId} {cs:Array Value} (hn:w.heap[g]?=some (.cells cs t (0,0))) (l:List Int) (nH:cs=(l.map (Value.int .u8)).toArray) (hl:l.length<=1000) (hB:B<=g):HBy (fun i=>B<=i) w (.slice (some ⟨g,0,none⟩) l.length l.length) l:=by
 subst nH;refine ⟨fun i=>[.int .u8 (l.getD i 0)],⟨_,_,rfl,Nat.le_refl _,by unfold maxLen;omega,fun _=>⟨g,0,rfl,hB,zBM hn,fun i hi=>⟨rfl,fun j hj=>?_⟩⟩⟩,fun i hi=>?_⟩
 ·have e:j=0:=by omega
  subst e;rw [coQ hn];simp [hi]
 ·simp [hi]
theorem zCV (w:World) (n:Nat) (hn:n<=1000000):∃ cs:Array Value,(callFunc 132 #[.int .i64 (n:Int)]).run Tryz.prog w=.ok (.value (.slice (some ⟨w.heap.size,0,none⟩) n cs.size)) ((w.alloc (.cells cs 5)).drewN 2)/\n<=cs.size:=by
 obtain ⟨cs,Cv,hle,GZ⟩:=Lib.run_makeNoZero (P:=Tryz.prog) w #[3] 100 5 Tryz.underlying100 n (by omega);refine ⟨cs,?_,hle⟩;rw [run_callFunc_extern (fn:=Tryz.f132) (by kernel_rfl) (by kernel_rfl) (by kernel_rfl) (by kernel_rfl) (e:=Extern.BytealgMakeNoZero.makeNoZero #[3] #[100]) (by kernel_rfl),Cv];rfl
theorem repeat0_any (a:Option Addr) (c:Nat) (w:World):Calls Tryz.prog 129 #[.slice a 1 c,.int .i64 0] w fun r w'=>∃ u,r=.returned u/\HBy (fun i=>w.heap.size<=i) w' u []/\Below w.heap.size w w':=by
 go_enter Tryz.func129,Tryz.ntmps129;go_wp2;go_ret;exact ⟨_,rfl,HBy.lit [] (by simp) _,(Below.refl _ _).alloc zBR _⟩
theorem size5:(Tryz.prog.info? 5).map (·.size)=some 1:=by kernel_rfl
theorem repeat1_any {w:World} {b o c:Nat} {x:Int} (hc:w.cell? ⟨b,o,none⟩=some (.int .u8 x)) (hb:b<w.heap.size):Calls Tryz.prog 129 #[.slice (some ⟨b,o,none⟩) 1 c,.int .i64 1] w fun r w'=>∃ u,r=.returned u/\HBy (fun i=>w.heap.size<=i) w' u (List.replicate 1 x)/\Below w.heap.size w w':=by
 obtain ⟨cs,fB,hle⟩:=zCV w 1 (by omega);have B0:=Lib.Buf.start w cs 5 1 2 hle;obtain ⟨W,hW⟩:=nmQ ((w.alloc (.cells cs 5)).drewN 2);rw [<-hW] at fB B0;have bd:w.heap.size<W.heap.size:=(by rw [hW];show w.heap.size<(w.alloc _).heap.size;simp);have rj:W.cell? ⟨b,o,none⟩=some (.int .u8 x):=Lib.Below.cellOf B0.below hc zBR;have jf:(Builtin.copy_ #[100,100] 3 #[.slice (some ⟨w.heap.size,0,none⟩) 1 1,.slice (some ⟨b,o,none⟩) 1 c]).run Tryz.prog W=.ok (.int .i64 1) (W.setCells w.heap.size 0 [.int .u8 x]):=run_copy_cells (P:=Tryz.prog) W 100 100 3 5 w.heap.size 0 1 1 ⟨b,o,none⟩ 1 c [.int .u8 x] Tryz.underlying100 size5 rfl (fun j v hj=>by
   have:j=0:=(by rcases Nat.eq_zero_or_pos j with h | h;exact h;(rw [List.getElem?_eq_none (by simp;omega)] at hj;cases hj));subst this;simp at hj;subst hj;exact rj) (fun j hj=>by rw [Nat.zero_add];exact B0.there j (by simp at hj;omega)) (fun j hj=>by rw [Nat.zero_add];exact B0.free j (by simp at hj;omega)) (fun v hv=>by simp at hv;subst hv;rfl)
 have bp:=World.cell?_setCells_in w.heap.size [.int .u8 x] 0 W (fun j hj=>by rw [Nat.zero_add];exact B0.there j (by simp at hj;omega));have kz:=bp 0 (by simp);have fX:=World.cell?_setCells_out w.heap.size [.int .u8 x] 0 W;have pZ:=Lib.below_setCells w.heap.size zBR [.int .u8 x] 0 B0.below;have jV:∀ j,j<1->(W.setCells w.heap.size 0 [.int .u8 x]).frozen? ⟨w.heap.size,j,none⟩=false:=fun j hj=>by rw [World.frozen?_setCells];exact B0.free j hj
 have xF:∀ j,j<1->((W.setCells w.heap.size 0 [.int .u8 x]).cell? ⟨w.heap.size,j,none⟩).isSome=true:=fun j hj=>by
  by_cases h:j=0
  ·subst h
   rw [show (0:Nat)=0+0 from rfl,kz];rfl
  ·rw [fX ⟨w.heap.size,j,none⟩ (fun _ _=>Or.inr (by simp;omega))]
   exact B0.there j hj
 have i1:(1:Int)<=(cs.size:Int):=(by omega);have wS:(callFunc 132 #[.int .i64 1]).run Tryz.prog w=.ok (.value (.slice (some ⟨w.heap.size,0,none⟩) 1 cs.size)) W:=fB;have dt:(W.setCells w.heap.size 0 [.int .u8 x]).heap.size=W.heap.size:=(by simp [World.setCells,World.setCell]);generalize W.setCells w.heap.size 0 [.int .u8 x]=W1 at jf bp kz fX pZ jV xF dt;have sD:W1.cell? ⟨w.heap.size,0,none⟩=some (.int .u8 x):=kz;clear fB B0 rj hc hW bp kz fX hle;have HF:=zBK (show HBy (fun i=>w.heap.size<=i) W1 (.slice (some ⟨w.heap.size,0,none⟩) 1 1) (List.replicate 1 x) from ⟨fun _=>[.int .u8 x],⟨_,_,rfl,Nat.le_refl _,by unfold maxLen;omega,fun _=>⟨w.heap.size,0,rfl,Nat.le_refl _,by omega,fun i hi=>⟨rfl,fun j hj=>by
   have e:j=0:=(by omega);subst e;have:i=0:=(by simp at hi;omega);subst this;exact sD⟩⟩⟩,fun i hi=>by rw [List.getElem_replicate]⟩)
 clear xF jV;have HM:=mul_1 w;go_enter Tryz.func129,Tryz.ntmps129;go_wp2_with fail;refine HM.mono ?_;rintro e w1 ⟨rfl,iA⟩;subst iA;clear HM
 go_wp2_with (at_builtin;refine Lib.wpList_copy_run _ rfl _ _ 100 100 rfl _ _ rfl rfl jf ?_)
 go_loopg [10] 0 (fun k v wr=>v=.int .i64 1/\wr=W1)
 case atStart=>exact ⟨rfl,rfl⟩
 case round=>
  obtain ⟨rfl,rfl⟩:=hrel;go_wp2;go_ret;exact ⟨_,rfl,HF.out,pZ⟩
theorem repeat2_any {w:World} {b o c:Nat} {x:Int} (hc:w.cell? ⟨b,o,none⟩=some (.int .u8 x)) (hb:b<w.heap.size):Calls Tryz.prog 129 #[.slice (some ⟨b,o,none⟩) 1 c,.int .i64 2] w fun r w'=>∃ u,r=.returned u/\HBy (fun i=>w.heap.size<=i) w' u (List.replicate 2 x)/\Below w.heap.size w w':=by
 obtain ⟨cs,fB,hle⟩:=zCV w 2 (by omega);have B0:=Lib.Buf.start w cs 5 2 2 hle;obtain ⟨W,hW⟩:=nmQ ((w.alloc (.cells cs 5)).drewN 2);rw [<-hW] at fB B0;have bd:w.heap.size<W.heap.size:=(by rw [hW];show w.heap.size<(w.alloc _).heap.size;simp);have rj:W.cell? ⟨b,o,none⟩=some (.int .u8 x):=Lib.Below.cellOf B0.below hc zBR;have jf:(Builtin.copy_ #[100,100] 3 #[.slice (some ⟨w.heap.size,0,none⟩) 2 2,.slice (some ⟨b,o,none⟩) 1 c]).run Tryz.prog W=.ok (.int .i64 1) (W.setCells w.heap.size 0 [.int .u8 x]):=run_copy_cells (P:=Tryz.prog) W 100 100 3 5 w.heap.size 0 2 2 ⟨b,o,none⟩ 1 c [.int .u8 x] Tryz.underlying100 size5 rfl (fun j v hj=>by
   have:j=0:=(by rcases Nat.eq_zero_or_pos j with h | h;exact h;(rw [List.getElem?_eq_none (by simp;omega)] at hj;cases hj));subst this;simp at hj;subst hj;exact rj) (fun j hj=>by rw [Nat.zero_add];exact B0.there j (by simp at hj;omega)) (fun j hj=>by rw [Nat.zero_add];exact B0.free j (by simp at hj;omega)) (fun v hv=>by simp at hv;subst hv;rfl)
 have bp:=World.cell?_setCells_in w.heap.size [.int .u8 x] 0 W (fun j hj=>by rw [Nat.zero_add];exact B0.there j (by simp at hj;omega));have kz:=bp 0 (by simp);have fX:=World.cell?_setCells_out w.heap.size [.int .u8 x] 0 W;have pZ:=Lib.below_setCells w.heap.size zBR [.int .u8 x] 0 B0.below;have jV:∀ j,j<2->(W.setCells w.heap.size 0 [.int .u8 x]).frozen? ⟨w.heap.size,j,none⟩=false:=fun j hj=>by rw [World.frozen?_setCells];exact B0.free j hj
 have xF:∀ j,j<2->((W.setCells w.heap.size 0 [.int .u8 x]).cell? ⟨w.heap.size,j,none⟩).isSome=true:=fun j hj=>by
  by_cases h:j=0
  ·subst h
   rw [show (0:Nat)=0+0 from rfl,kz];rfl
  ·rw [fX ⟨w.heap.size,j,none⟩ (fun _ _=>Or.inr (by simp;omega))]
   exact B0.there j hj
 have i1:(2:Int)<=(cs.size:Int):=(by omega);have wS:(callFunc 132 #[.int .i64 2]).run Tryz.prog w=.ok (.value (.slice (some ⟨w.heap.size,0,none⟩) 2 cs.size)) W:=fB;have dt:(W.setCells w.heap.size 0 [.int .u8 x]).heap.size=W.heap.size:=(by simp [World.setCells,World.setCell]);generalize W.setCells w.heap.size 0 [.int .u8 x]=W1 at jf bp kz fX pZ jV xF dt;have sD:W1.cell? ⟨w.heap.size,0,none⟩=some (.int .u8 x):=kz;clear fB B0 rj hc hW bp kz fX hle;have fb:(Builtin.copy_ #[100,100] 3 #[.slice (some ⟨w.heap.size,1,none⟩) 1 1,.slice (some ⟨w.heap.size,0,none⟩) 1 2]).run Tryz.prog W1.drew=.ok (.int .i64 1) (W1.drew.setCells w.heap.size 1 [.int .u8 x]):=run_copy_cells (P:=Tryz.prog) W1.drew 100 100 3 5 w.heap.size 1 1 1 ⟨w.heap.size,0,none⟩ 1 2 [.int .u8 x] Tryz.underlying100 size5 rfl (fun j v hj=>by
   have:j=0:=(by rcases Nat.eq_zero_or_pos j with h | h;exact h;(rw [List.getElem?_eq_none (by simp;omega)] at hj;cases hj));subst this;simp at hj;subst hj;exact sD) (fun j hj=>xF _ (by simp at hj;omega)) (fun j hj=>jV _ (by simp at hj;omega)) (fun v hv=>by simp at hv;subst hv;rfl)
 have oC:=World.cell?_setCells_in w.heap.size [.int .u8 x] 1 W1.drew (fun j hj=>xF _ (by simp at hj;omega));have xc:=oC 0 (by simp);have rm:=World.cell?_setCells_out w.heap.size [.int .u8 x] 1 W1.drew ⟨w.heap.size,0,none⟩ (fun _ _=>Or.inl (by simp));have tW:=Lib.below_setCells w.heap.size zBR [.int .u8 x] 1 pZ.drew;have Hm:(W1.drew.setCells w.heap.size 1 [.int .u8 x]).heap.size=W1.heap.size:=(by simp [World.setCells,World.setCell]);generalize W1.drew.setCells w.heap.size 1 [.int .u8 x]=W2 at fb oC xc rm tW Hm;have Ll:W2.cell? ⟨w.heap.size,1,none⟩=some (.int .u8 x):=xc;have DX:W2.cell? ⟨w.heap.size,0,none⟩=some (.int .u8 x):=rm.trans sD;have HF:=zBK (show HBy (fun i=>w.heap.size<=i) W2 (.slice (some ⟨w.heap.size,0,none⟩) 2 2) (List.replicate 2 x) from ⟨fun _=>[.int .u8 x],⟨_,_,rfl,Nat.le_refl _,by unfold maxLen;omega,fun _=>⟨w.heap.size,0,rfl,Nat.le_refl _,by omega,fun i hi=>⟨rfl,fun j hj=>by
   have e:j=0:=(by omega);subst e;have:i=0\/i=1:=(by simp at hi;omega);rcases this with rfl | rfl
   ·exact DX
   ·exact Ll⟩⟩⟩,fun i hi=>by rw [List.getElem_replicate]⟩)
 clear oC xc rm Ll DX xF jV;have HM:=mul_2 w;go_enter Tryz.func129,Tryz.ntmps129;go_wp2_with fail;refine HM.mono ?_;rintro e w1 ⟨rfl,iA⟩;subst iA;clear HM
 go_wp2_with (at_builtin;refine Lib.wpList_copy_run _ rfl _ _ 100 100 rfl _ _ rfl rfl jf ?_)
 go_loopg [10] 1 (fun k v wr=>(v=.int .i64 1/\k=1/\wr=W1)\/(v=.int .i64 2/\k=0/\wr=W2))
 case atStart=>exact .inl ⟨rfl,rfl,rfl⟩
 case round=>
  rcases hrel with ⟨rfl,rfl,rfl⟩ | ⟨rfl,rfl,rfl⟩
  case inl=>
   go_upto_region 20 with fail;refine zBP (fun _=>True) (fun _=>false) (by kernel_rfl) ?_;have hT:True:=trivial;refine' tkR 0 67 hT ?o1
   refine' tkR 1 68 hT ?o2
   refine' tkR 2 69 hT ?o3
   refine' tkR 3 70 hT ?o4
   refine' tkR 4 71 hT ?o5
   refine' tkR 5 72 hT ?o6
   refine' tkR 6 73 hT ?o7
   refine zAp (i:=7) (o:=⟨some 74,_,_,_,_,_⟩) rfl (by kernel_rfl) (by rfl) (fun K hK=>?_);refine Lib.wp_copy_run _ _ _ 100 100 rfl _ _ (by rfl) (by rfl) fb ?_;refine hK.out _ _ (fun _=>hT) ?_;clear hK K
   try simp only [Act.put,sT,sZ,sS]
   refine' tkR 8 75 hT ?o8
   refine' tkR 9 10 hT ?o9
   refine zBN (by kernel_rfl) ?_ _;go_wp2_with fail;go_roundg 0
   case measure=>omega
   case rel=>exact .inr ⟨by go_num,rfl,rfl⟩
  case inr=>
   go_wp2;go_ret;exact ⟨_,rfl,HF.out,tW⟩
shelf_lay Lays.nb117 Nm 117 at Tryz as lay159
theorem zAM:∀ {a b:List Int},Sk.By a->Sk.By b->Lib.bytesOf a=Lib.bytesOf b->a=b
 | [],[],_,_,_=>rfl
 | [],y :: r,_,_,h=>by simp [Lib.bytesOf] at h
 | x :: r,[],_,_,h=>by simp [Lib.bytesOf] at h
 | x :: r,y :: s,ha,hb,h=>by
  simp only [Lib.bytesOf,List.map_cons,List.cons.injEq] at h;have h1:=ha x (by simp);have h2:=hb y (by simp);have e1:x=y:=by
   have:=congrArg UInt8.toNat h.1;simp at this;omega
  rw [e1,zAM (fun z hz=>ha z (by simp [hz])) (fun z hz=>hb z (by simp [hz])) h.2]
theorem ends_suffix {a b:List Int} (ha:Sk.By a) (hb:Sk.By b):Lib.hasSuffix (Lib.bytesOf a) (Lib.bytesOf b)=Sk.ends a b:=by
 rw [<-Lib.bytes_hasSuffix];unfold Sk.ends
 congr 1
 have hd:Sk.By (a.drop (a.length-b.length)):=fun x hx=>ha x (List.mem_of_mem_drop hx)
 apply Bool.eq_iff_iff.2
 rw [beq_iff_eq,beq_iff_eq];exact ⟨fun h=>zAM hd hb h,fun h=>by rw [h]⟩
theorem HBy.bytes {ok:Nat->Prop} {w:World} {ao:Option Addr} {n cap:Nat} {l:List Int} (h:HBy ok w (.slice ao n cap) l):n=l.length/\l.length<=cap/\cap<=maxLen/\Lib.BytesIn w ao n l:=by
 obtain ⟨gw,dk,hv,h1,h2,h3⟩:=h.at;injection hv with e1 e2 e3;subst e1 e2 e3;refine ⟨rfl,h1,h2,fun hn=>?_⟩;obtain ⟨b,o,e,_,_⟩:=h3 0 hn;refine ⟨b,o,e,fun i hi=>?_⟩;obtain ⟨b',o',e',_,hc⟩:=h3 i hi;rw [e] at e';injection e' with e';injection e' with q1 q2;subst q1 q2;rw [hc];simp [hi]
theorem zBH {ok ok':Nat->Prop} {w:World} {v u:Value} {a b:List Int} (hv:HBy ok w v a) (hu:HBy ok' w u b) (ha:Sk.By a) (hb:Sk.By b):Calls Tryz.prog 100 #[v,u] w fun e w'=>e=.returned (.bool (Sk.ends a b))/\Below w.heap.size w w':=by
 obtain ⟨a1,c1,rfl,_⟩:=hv.at;obtain ⟨a2,c2,rfl,_⟩:=hu.at;obtain ⟨_,x1,x2,x3⟩:=hv.bytes;obtain ⟨_,y1,y2,y3⟩:=hu.bytes;unfold maxLen at x2 y2;rw [<-ends_suffix ha hb];exact (Any.bytes_HasSuffix_all lay159 a1 a2 a.length c1 b.length c2 a b w rfl rfl x1 (by omega) x3 y3).mono fun _ _ ⟨h1,h2⟩=>⟨h1,h2 ▸ Below.refl _ _⟩
theorem zCI {w:World} {b o c:Nat} {x:Int} (n:Int) (hc:w.cell? ⟨b,o,none⟩=some (.int .u8 x)) (hb:b<w.heap.size) (hn:n=0\/n=1\/n=2):Calls Tryz.prog 129 #[.slice (some ⟨b,o,none⟩) 1 c,.int .i64 n] w fun r w'=>∃ u,r=.returned u/\HBy (fun i=>w.heap.size<=i) w' u (List.replicate n.toNat x)/\Below w.heap.size w w':=by
 rcases hn with rfl | rfl | rfl
 ·exact repeat0_any _ _ w
 ·exact repeat1_any hc hb
 ·exact repeat2_any hc hb
end Go.Proofs.YtfhghlpfeeiaeaaGreatDoor
namespace Go.Proofs.YtfhghlpfeeiaeaaGreatDoor
open Go.RowKit Go.IntWalk
theorem opEff0_any (p:Pu) (tk mk:Int) (w:World) (hG:GlobK w) (ho:Kd.opT p.k=(tk,mk,0)):Calls Tryz.prog 119 #[pv p] w fun r w'=>∃ u,r=.returned (.tuple #[u,.int .u8 (Sk.when false mk)])/\HBy (fun i=>w.heap.size<=i) w' u (List.replicate 0 tk)/\Below w.heap.size w w':=by
 have b1:Below w.heap.size w (w.alloc (.cells #[.int .i64 p.op,.int .i64 p.k,.int .i64 p.v,.int .i64 p.n] 66 (0,0))):=(Below.refl _ _).alloc zBR _;have kA:=zBO w (.cells #[.int .i64 p.op,.int .i64 p.k,.int .i64 p.v,.int .i64 p.n] 66 (0,0));have gy:=zAG p.k _ (hG.under b1);rw [ho] at gy
 dsimp only at gy
 clear hG ho;obtain ⟨op,k,v,n⟩:=p
 dsimp only at *
 go_enter Tryz.func119,Tryz.ntmps119;go_upto_region 1 with fail;generalize w.alloc (.cells #[.int .i64 op,.int .i64 k,.int .i64 v,.int .i64 n] 66 (0,0))=w1 at b1 kA gy ⊢;have a1:=coQ kA 1;simp at a1;go_wp2_with fail;refine gy.mono ?_;rintro e w2 ⟨rfl,b2⟩;have B2:=b1.trans (b2.mono b1.size);have kc:=(b2.block _ (zBM kA)).trans kA;have c0:=coQ kc 0;simp at c0;clear gy kA a1;have b3:Below w2.heap.size w2 (w2.alloc (.cells #[.int .u8 tk] 5 (0,0))):=(Below.refl _ _).alloc zBR _;have kB:=zBO w2 (.cells #[.int .u8 tk] 5 (0,0));have ct:(w2.alloc (.cells #[.int .u8 tk] 5 (0,0))).cell? ⟨w2.heap.size,0,none⟩=some (.int .u8 tk):=(coQ kB 0).trans rfl;have iY:=zBK (B2.trans (b3.mono B2.size));have mT:=zBK (zCI (c:=1) 0 ct (zBM kB) (by omega));clear kc kB ct b3;go_wp2_with fail;refine mT.out.mono ?_;rintro e w4 ⟨u,rfl,h4,b4⟩;have B4:=iY.out.trans (b4.mono iY.out.size);have H4:=zBK (h4.wide (ok':=fun i=>w.heap.size<=i) fun i hi _=>Nat.le_trans iY.out.size hi);clear h4 mT iY;go_wp2_with fail;refine (zBh _ mk _).mono ?_;rintro e w5 ⟨rfl,b5⟩;have B5:=B4.trans (b5.mono B4.size);have H5:=zBK (H4.out.under b5);go_wp2
 go_ret2
 exact ⟨u,by first | rfl | (rw [e5]) | (rw [e5];rfl),H5.out,B5⟩
theorem opEff1_any (p:Pu) (tk mk:Int) (w:World) (hG:GlobK w) (ho:Kd.opT p.k=(tk,mk,1)):Calls Tryz.prog 119 #[pv p] w fun r w'=>∃ u,r=.returned (.tuple #[u,.int .u8 (Sk.when (p.op==5) mk)])/\HBy (fun i=>w.heap.size<=i) w' u (List.replicate 1 tk)/\Below w.heap.size w w':=by
 have b1:Below w.heap.size w (w.alloc (.cells #[.int .i64 p.op,.int .i64 p.k,.int .i64 p.v,.int .i64 p.n] 66 (0,0))):=(Below.refl _ _).alloc zBR _;have kA:=zBO w (.cells #[.int .i64 p.op,.int .i64 p.k,.int .i64 p.v,.int .i64 p.n] 66 (0,0));have gy:=zAG p.k _ (hG.under b1);rw [ho] at gy
 dsimp only at gy
 clear hG ho;obtain ⟨op,k,v,n⟩:=p
 dsimp only at *
 cases e5:(op==5)
 ·go_enter Tryz.func119,Tryz.ntmps119
  go_upto_region 1 with fail;generalize w.alloc (.cells #[.int .i64 op,.int .i64 k,.int .i64 v,.int .i64 n] 66 (0,0))=w1 at b1 kA gy ⊢;have a1:=coQ kA 1;simp at a1;go_wp2_with fail;refine gy.mono ?_;rintro e w2 ⟨rfl,b2⟩;have B2:=b1.trans (b2.mono b1.size);have kc:=(b2.block _ (zBM kA)).trans kA;have c0:=coQ kc 0;simp at c0;clear gy kA a1;have b3:Below w2.heap.size w2 (w2.alloc (.cells #[.int .u8 tk] 5 (0,0))):=(Below.refl _ _).alloc zBR _;have kB:=zBO w2 (.cells #[.int .u8 tk] 5 (0,0));have ct:(w2.alloc (.cells #[.int .u8 tk] 5 (0,0))).cell? ⟨w2.heap.size,0,none⟩=some (.int .u8 tk):=(coQ kB 0).trans rfl;have iY:=zBK (B2.trans (b3.mono B2.size));have mT:=zBK (zCI (c:=1) 1 ct (zBM kB) (by omega));clear kc kB ct b3;go_wp2_with fail;refine mT.out.mono ?_;rintro e w4 ⟨u,rfl,h4,b4⟩;have B4:=iY.out.trans (b4.mono iY.out.size);have H4:=zBK (h4.wide (ok':=fun i=>w.heap.size<=i) fun i hi _=>Nat.le_trans iY.out.size hi);clear h4 mT iY;go_wp2_with fail;refine (zBh _ mk _).mono ?_;rintro e w5 ⟨rfl,b5⟩;have B5:=B4.trans (b5.mono B4.size);have H5:=zBK (H4.out.under b5);go_wp2
  go_ret2
  exact ⟨u,by first | rfl | (rw [e5]) | (rw [e5];rfl),H5.out,B5⟩
 ·go_enter Tryz.func119,Tryz.ntmps119
  go_upto_region 1 with fail;generalize w.alloc (.cells #[.int .i64 op,.int .i64 k,.int .i64 v,.int .i64 n] 66 (0,0))=w1 at b1 kA gy ⊢;have a1:=coQ kA 1;simp at a1;go_wp2_with fail;refine gy.mono ?_;rintro e w2 ⟨rfl,b2⟩;have B2:=b1.trans (b2.mono b1.size);have kc:=(b2.block _ (zBM kA)).trans kA;have c0:=coQ kc 0;simp at c0;clear gy kA a1;have b3:Below w2.heap.size w2 (w2.alloc (.cells #[.int .u8 tk] 5 (0,0))):=(Below.refl _ _).alloc zBR _;have kB:=zBO w2 (.cells #[.int .u8 tk] 5 (0,0));have ct:(w2.alloc (.cells #[.int .u8 tk] 5 (0,0))).cell? ⟨w2.heap.size,0,none⟩=some (.int .u8 tk):=(coQ kB 0).trans rfl;have iY:=zBK (B2.trans (b3.mono B2.size));have mT:=zBK (zCI (c:=1) 1 ct (zBM kB) (by omega));clear kc kB ct b3;go_wp2_with fail;refine mT.out.mono ?_;rintro e w4 ⟨u,rfl,h4,b4⟩;have B4:=iY.out.trans (b4.mono iY.out.size);have H4:=zBK (h4.wide (ok':=fun i=>w.heap.size<=i) fun i hi _=>Nat.le_trans iY.out.size hi);clear h4 mT iY;go_wp2_with fail;refine (zBh _ mk _).mono ?_;rintro e w5 ⟨rfl,b5⟩;have B5:=B4.trans (b5.mono B4.size);have H5:=zBK (H4.out.under b5);go_wp2
  go_ret2
  exact ⟨u,by first | rfl | (rw [e5]) | (rw [e5];rfl),H5.out,B5⟩
theorem opEff2_any (p:Pu) (tk mk:Int) (w:World) (hG:GlobK w) (ho:Kd.opT p.k=(tk,mk,2)):Calls Tryz.prog 119 #[pv p] w fun r w'=>∃ u,r=.returned (.tuple #[u,.int .u8 (Sk.when (p.op==6) mk)])/\HBy (fun i=>w.heap.size<=i) w' u (List.replicate 2 tk)/\Below w.heap.size w w':=by
 have b1:Below w.heap.size w (w.alloc (.cells #[.int .i64 p.op,.int .i64 p.k,.int .i64 p.v,.int .i64 p.n] 66 (0,0))):=(Below.refl _ _).alloc zBR _;have kA:=zBO w (.cells #[.int .i64 p.op,.int .i64 p.k,.int .i64 p.v,.int .i64 p.n] 66 (0,0));have gy:=zAG p.k _ (hG.under b1);rw [ho] at gy
 dsimp only at gy
 clear hG ho;obtain ⟨op,k,v,n⟩:=p
 dsimp only at *
 cases e5:(op==6)
 ·go_enter Tryz.func119,Tryz.ntmps119
  go_upto_region 1 with fail;generalize w.alloc (.cells #[.int .i64 op,.int .i64 k,.int .i64 v,.int .i64 n] 66 (0,0))=w1 at b1 kA gy ⊢;have a1:=coQ kA 1;simp at a1;go_wp2_with fail;refine gy.mono ?_;rintro e w2 ⟨rfl,b2⟩;have B2:=b1.trans (b2.mono b1.size);have kc:=(b2.block _ (zBM kA)).trans kA;have c0:=coQ kc 0;simp at c0;clear gy kA a1;have b3:Below w2.heap.size w2 (w2.alloc (.cells #[.int .u8 tk] 5 (0,0))):=(Below.refl _ _).alloc zBR _;have kB:=zBO w2 (.cells #[.int .u8 tk] 5 (0,0));have ct:(w2.alloc (.cells #[.int .u8 tk] 5 (0,0))).cell? ⟨w2.heap.size,0,none⟩=some (.int .u8 tk):=(coQ kB 0).trans rfl;have iY:=zBK (B2.trans (b3.mono B2.size));have mT:=zBK (zCI (c:=1) 2 ct (zBM kB) (by omega));clear kc kB ct b3;go_wp2_with fail;refine mT.out.mono ?_;rintro e w4 ⟨u,rfl,h4,b4⟩;have B4:=iY.out.trans (b4.mono iY.out.size);have H4:=zBK (h4.wide (ok':=fun i=>w.heap.size<=i) fun i hi _=>Nat.le_trans iY.out.size hi);clear h4 mT iY;go_wp2_with fail;refine (zBh _ mk _).mono ?_;rintro e w5 ⟨rfl,b5⟩;have B5:=B4.trans (b5.mono B4.size);have H5:=zBK (H4.out.under b5);go_wp2
  go_ret2
  exact ⟨u,by first | rfl | (rw [e5]) | (rw [e5];rfl),H5.out,B5⟩
 ·go_enter Tryz.func119,Tryz.ntmps119
  go_upto_region 1 with fail;generalize w.alloc (.cells #[.int .i64 op,.int .i64 k,.int .i64 v,.int .i64 n] 66 (0,0))=w1 at b1 kA gy ⊢;have a1:=coQ kA 1;simp at a1;go_wp2_with fail;refine gy.mono ?_;rintro e w2 ⟨rfl,b2⟩;have B2:=b1.trans (b2.mono b1.size);have kc:=(b2.block _ (zBM kA)).trans kA;have c0:=coQ kc 0;simp at c0;clear gy kA a1;have b3:Below w2.heap.size w2 (w2.alloc (.cells #[.int .u8 tk] 5 (0,0))):=(Below.refl _ _).alloc zBR _;have kB:=zBO w2 (.cells #[.int .u8 tk] 5 (0,0));have ct:(w2.alloc (.cells #[.int .u8 tk] 5 (0,0))).cell? ⟨w2.heap.size,0,none⟩=some (.int .u8 tk):=(coQ kB 0).trans rfl;have iY:=zBK (B2.trans (b3.mono B2.size));have mT:=zBK (zCI (c:=1) 2 ct (zBM kB) (by omega));clear kc kB ct b3;go_wp2_with fail;refine mT.out.mono ?_;rintro e w4 ⟨u,rfl,h4,b4⟩;have B4:=iY.out.trans (b4.mono iY.out.size);have H4:=zBK (h4.wide (ok':=fun i=>w.heap.size<=i) fun i hi _=>Nat.le_trans iY.out.size hi);clear h4 mT iY;go_wp2_with fail;refine (zBh _ mk _).mono ?_;rintro e w5 ⟨rfl,b5⟩;have B5:=B4.trans (b5.mono B4.size);have H5:=zBK (H4.out.under b5);go_wp2
  go_ret2
  exact ⟨u,by first | rfl | (rw [e5]) | (rw [e5];rfl),H5.out,B5⟩
theorem zCC (p:Pu) (w:World) (hG:GlobK w):Calls Tryz.prog 119 #[pv p] w fun r w'=>∃ u,r=.returned (.tuple #[u,.int .u8 (Sk.opEff p).2])/\HBy (fun i=>w.heap.size<=i) w' u (Sk.opEff p).1/\Below w.heap.size w w':=by
 have fN:=(Sk.opT_ok p.k).2.2;unfold Sk.opEff;obtain ⟨tk,mk,on,ho⟩:∃ tk mk on,Kd.opT p.k=(tk,mk,on):=⟨_,_,_,rfl⟩;rw [ho] at fN ⊢
 dsimp only at fN ⊢
 rcases fN with rfl | rfl | rfl
 ·exact opEff0_any p tk mk w hG ho
 ·exact (opEff1_any p tk mk w hG ho).mono fun _ _ ⟨u,h1,h2⟩=>⟨u,by rw [h1];simp,h2⟩
 ·exact (opEff2_any p tk mk w hG ho).mono fun _ _ ⟨u,h1,h2⟩=>⟨u,by rw [h1];simp,h2⟩
end Go.Proofs.YtfhghlpfeeiaeaaGreatDoor
