import Derived.Test.YtegakbobaecdlaaGreatDoorL32
import Derived.WalkKit
import Derived.WalkSpells
import Derived.IntWalk
import Derived.Deep.Cut
import Derived.Deep.LoopGhost
import Derived.Ground.NamesProg
import Derived.Laws.Cover1
import Derived.Laws.Externs
import Derived.Lib.Hide
import Derived.Lib.MakeNoZero
import Derived.Lib.SlBuf
import Derived.Shelf.Bytes.SlSmallAll
import Derived.Shelf.Lay
import Derived.Laws.EntriesVeiled
set_option linter.unusedVariables false
set_option linter.unusedSimpArgs false
set_option maxHeartbeats 64000000
set_option maxRecDepth 100000
namespace Go.Proofs.YtegakbobaecdlaaGreatDoor
open Go.RowKit Go.IntWalk
theorem flat_appK (C D:Nat->List Value) (n:Nat):∀ m,flat (fun q=>if q<n then C q else D (q-n)) (n+m)=flat C n++flat D m
 | 0=>by
  rw [Nat.add_zero,qQ (D:=C) n (fun q hq=>by rw [if_pos hq])];simp [flat]
 | m+1=>by
  rw [<-Nat.add_assoc,flat,flat_appK C D n m,flat,if_neg (by omega),List.append_assoc]
  congr 3
  omega
theorem xP {α:Type} (T:Kind α) {w:World} (t ty:TypeId) (ht:Tryz.prog.underlying t=some (.slice T.ty)) {ok okr:Nat->Prop} {v u:Value} {l r:List α} (hown:OwnX T ok w v l) (hr:HRow T okr w u r)
  (hap:∀ k,v.ownBlock=some k->¬okr k) (hM:(l.length+r.length)*T.bytes<=140737488355328) (hm:l.length+r.length<=maxLen) :
  ∃ v' w',(Builtin.append_ #[t,t] ty #[v,u]).run Tryz.prog w=.ok v' w'/\OwnX T (fun k=>ok k\/okr k\/w.heap.size<=k) w' v' (l++r)/\w.grownBy w' v.ownBlock/\(v'.ownBlock=v.ownBlock\/∃ k,v'.ownBlock=some k/\w.heap.size<=k):=by
 obtain ⟨i0,hi,hz0,hz1,hz2⟩:=info_parts T.info;have hown0:=hown;obtain ⟨D,hrow,hok,hD⟩:=hown;obtain ⟨C,hS,hC⟩:=hr;have hS0:=hS;obtain ⟨ao,cap,rfl,h2,h3,h4⟩:=hS;have hCl:∀ i,i<r.length->(C i).length=T.k:=fun i hi=>T.len (hC i hi);have hDl:∀ i,i<l.length->(D i).length=T.k:=fun i hi=>T.len (hD i hi)
 cases ao with
 | none=>
  have hr0:r=[]:=by
   cases r with
   | nil=>rfl
   | cons x r=>
    obtain ⟨b,o,e,_⟩:=h4 (by simp)
    cases e
  subst hr0;have hrun:(Builtin.append_ #[t,t] ty #[v,.slice none 0 cap]).run Tryz.prog w=.ok v w:=by
   rcases hrow.2 with ⟨rfl,h0⟩ | ⟨g,c,cur,rfl,_,_,hnc,_⟩
   ·simp [Builtin.append_,run_underlying ht,sizeOf,typeInfo,hi,Builtin.lenOf,Builtin.firstCells]
   ·simp [Builtin.append_,run_underlying ht,sizeOf,typeInfo,hi,Builtin.lenOf,Builtin.firstCells,hnc,storeCells]
  refine ⟨v,w,hrun,?_,⟨rfl,rfl,rfl,Nat.le_refl _,fun _ _ _=>rfl⟩,.inl rfl⟩;rw [List.append_nil];exact hown0.wide (fun i hi _=>.inl hi)
 | some a=>
  have hone:∀ x ∈ flat C r.length,x.oneCell'=true:=fun x hx=>by
   obtain ⟨i,hi,hx⟩:=flat_mem _ _ hx;exact T.one (hC i hi) x hx
  have hnews:∀ j u,(flat C r.length)[j]?=some u->w.cell? (a.add j)=some u:=by
   by_cases h0:0<r.length
   ·obtain ⟨b,o,e,hb,hbl,hcells⟩:=h4 h0
    injection e with e;subst e;exact Sl.news T.pos hS0
   ·intro j u hj
    have e:r.length=0:=(by omega);rw [e] at hj;simp [flat] at hj
  obtain ⟨v',w',hrun,hrow',hgrow,hmv⟩:=vX w 0 t ty T.ty i0 T.zero T.k T.bytes ht hi hz0 hz1 hz2 T.zs T.pos v l.length _ hrow a r.length cap (flat C r.length) (zAu _ hCl) hnews hone hm hM (Nat.zero_le _);have hnv:∀ i,i<w.heap.size->some i≠v.ownBlock->some i≠v'.ownBlock:=by
   intro i hi hne;rcases hmv with h | ⟨k,hk,hl⟩
   ·rw [h];exact hne
   ·rw [hk]
    intro e;injection e with e;omega
  refine ⟨v',w',hrun,⟨fun q=>if q<l.length then D q else C (q-l.length),?_,fun k hk=>?_,fun j hj=>?_⟩,hgrow,hmv⟩
  ·rw [List.length_append,flat_appK]
   exact hrow'
  ·rcases hmv with h | ⟨k',hk',hl⟩
   ·exact .inl (hok k (h ▸ hk))
   ·rw [hk] at hk'
    injection hk' with e;subst e;exact .inr (.inr hl)
  ·by_cases e:j<l.length
   ·simp only [if_pos e,List.getElem_append_left e]
    have g0:=T.wide (ok':=fun k=>(ok k/\some k≠v.ownBlock)/\k<w.heap.size) (hD j e) (fun k hk hl=>⟨hk,hl⟩);have g1:=T.keep g0 hgrow.size (fun k hk hl=>hgrow.block k hl hk.1.2);exact T.wide g1 (fun k hk _=>⟨.inl hk.1.1,hnv k hk.2 hk.1.2⟩)
   ·have hj2:j-l.length<r.length:=by simp at hj;omega
    simp only [if_neg e,List.getElem_append_right (Nat.le_of_not_lt e)];have g0:=T.wide (ok':=fun k=>okr k/\k<w.heap.size) (hC _ hj2) (fun k hk hl=>⟨hk,hl⟩);have g1:=T.keep g0 hgrow.size (fun k hk hl=>hgrow.block k hl (fun e=>hap k e.symm hk.1));exact T.wide g1 (fun k hk _=>⟨.inr (.inl hk.1),hnv k hk.2 (fun e=>hap k e.symm hk.1)⟩)
theorem xB {w w':World} {ops:Array Oper} {rest:List Oper} {o:Oper} {a:Act} {Q:Exit->Act->World->Prop} (hgd:o.guard=none) (s x:Operand) (t:TypeId) (ho:o.op=.call { callee:=.builtin .append,args:=#[s,x],argTypes:=#[t,t] }) (v u v':Value) (hs:a.eval s=v) (hx:a.eval x=u)
  (hr:(Builtin.append_ #[t,t] o.type #[v,u]).run Tryz.prog w=.ok v' w') (h:wpList Tryz.prog ops Q rest (a.put o.dst v') w'):wpList Tryz.prog ops Q (o :: rest) a w:=by
 refine wpList_plain hgd fun _ hK=>?_;unfold Oper.wp execOp;simp only [ho,resolve,invoke,builtin,Sem.run_bind,Sem.run_pure,Result.andThen_ok,List.map_toArray,List.map_cons,List.map_nil,hs,hx,hr];exact hK _ _ h
theorem row_tail {α:Type} {T:Kind α} {ok:Nat->Prop} {w:World} {ao:Option Addr} {n cap c:Nat} {l:List α} (h:HRow T ok w (.slice ao n cap) l) (hc:c<=n):HRow T ok w (sliced ao c n cap T.k) (l.drop c):=by
 obtain ⟨C,⟨a,cp,hv,h2,h3,h4⟩,hC⟩:=h;injection hv with e1 e2 e3;subst e1 e2 e3;have hl:(l.drop c).length=l.length-c:=List.length_drop;unfold sliced;refine ⟨fun i=>C (c+i),⟨_,_,by rw [hl],by omega,by omega,fun h0=>?_⟩,fun j hj=>?_⟩
 ·rw [hl] at h0
  obtain ⟨b,o,rfl,hb,hbl,hcells⟩:=h4 (by omega);rw [if_neg (by omega)];have adds:(⟨b,o,none⟩:Addr).add (c*T.k)=⟨b,o+c*T.k,none⟩:=by unfold Addr.add;split<;>simp_all
  refine ⟨b,o+c*T.k,by rw [Option.map_some,adds],hb,hbl,fun i hi=>?_⟩;rw [hl] at hi;have hh:=hcells (c+i) (by omega);refine ⟨hh.1,fun j hj=>?_⟩;rw [<-hh.2 j hj,Nat.add_mul]
  congr 2
  omega
 ·rw [hl] at hj
  have:=hC (c+j) (by omega);rw [List.getElem_drop];exact this
theorem row_head {α:Type} {T:Kind α} {ok:Nat->Prop} {w:World} {ao:Option Addr} {n cap c:Nat} {l:List α} (h:HRow T ok w (.slice ao n cap) l) (hc:c<=n):HRow T ok w (.slice ao c cap) (l.take c):=by
 obtain ⟨C,⟨a,cp,hv,h2,h3,h4⟩,hC⟩:=h;injection hv with e1 e2 e3;subst e1 e2 e3;have hl:(l.take c).length=c:=(by rw [List.length_take];omega);refine ⟨C,⟨_,_,by rw [hl],by omega,by omega,fun h0=>?_⟩,fun j hj=>?_⟩
 ·rw [hl] at h0
  obtain ⟨b,o,rfl,hb,hbl,hcells⟩:=h4 (by omega);exact ⟨b,o,rfl,hb,hbl,fun i hi=>hcells i (by omega)⟩
 ·rw [hl] at hj
  have:=hC j (by omega);rw [List.getElem_take];exact this
theorem qP {α:Type} {T:Kind α} {ok:Nat->Prop} {B:Nat} {w:World} {v:Value} {l:List α} (h:OwnX T ok w v l) (hk:∀ k,v.ownBlock=some k->B<=k) (hE:∀ ok ok' w cs a,T.E ok w cs a->T.E ok' w cs a):OwnL T B w v l:=by
 obtain ⟨D,⟨h1,h2⟩,h3,h4⟩:=h;refine ⟨D,⟨h1,?_⟩,fun j hj=>hE _ _ _ _ _ (h4 j hj)⟩;rcases h2 with h | ⟨g,cap,cur,e1,e2,e3⟩
 ·exact .inl h
 ·exact .inr ⟨g,cap,cur,e1,hk g (by rw [e1];rfl),e3⟩
theorem OwnX.emptyRow {α:Type} {T:Kind α} {w:World}:OwnX T (fun i=>i=w.heap.size) (w.alloc (.cells #[] T.ty (0,0))) (.slice (some ⟨w.heap.size,0,none⟩) 0 0) [] :=
 ⟨fun _=>[],⟨by simp [flat],.inr ⟨w.heap.size,0,#[],rfl,Nat.zero_le _,zI w _,Nat.le_refl _,Nat.zero_le _,by simp,by simp [flat]⟩⟩,fun k hk=>by injection hk with hk;exact hk.symm,fun j hj=>absurd hj (Nat.not_lt_zero _)⟩
theorem qJ {w W':World} {t:TypeId} (hg:(w.alloc (.cells #[] t (0,0))).grownBy W' (Value.slice (some ⟨w.heap.size,0,none⟩) 0 0).ownBlock):Below w.heap.size w W' :=
 ⟨hg.os,hg.tape,hg.output,Nat.le_trans (by simp) hg.size,fun k hk=>by
  rw [hg.block k (by simp;omega) (fun e=>by injection e with e;have e2:k=w.heap.size:=e;omega)];exact Below.heap_alloc _ _ _ hk⟩
theorem row_nil {α:Type} {T:Kind α} {ok:Nat->Prop} {w:World} {n c:Nat} {l:List α} (h:HRow T ok w (.slice none n c) l):l=[]:=by
 obtain ⟨C,⟨ao,cap,hv,h1,h2,h3⟩,hC⟩:=h;injection hv with e1 e2 e3;subst e1
 cases l with
 | nil=>rfl
 | cons x r=>
  obtain ⟨b,o,e,_⟩:=h3 (by simp)
  cases e
theorem Tryz.infoPu:(Tryz.prog.info? 79).map (fun i=>(i.zero,i.size,i.bytes))=some (some (.agg #[.int .i64 0,.int .i64 0,.int .i64 0,.int .i64 0]),4,32):=by kernel_rfl
def kPu:Kind Pu where
 ty:=79
 k:=4
 bytes:=32
 zero:=.agg #[.int .i64 0,.int .i64 0,.int .i64 0,.int .i64 0]
 E:=fun _ _ cs p=>cs=p.cs
 pos:=by decide
 zs:=rfl
 info:=Tryz.infoPu
 len:=by rintro _ _ _ _ rfl;rfl
 one:=by rintro _ _ _ _ rfl;intro u hu;simp [Pu.cs] at hu;rcases hu with rfl | rfl | rfl | rfl<;>rfl
 keep:=by rintro _ _ _ _ _ rfl _ _;rfl
 wide:=by rintro _ _ _ _ _ rfl _;rfl
theorem pus_row {ok:Nat->Prop} {w:World} {v:Value} {l:List Pu} (h:HRow kPu ok w v l):HPu ok w v l:=h
theorem jU {ok:Nat->Prop} {w:World} {v:Value} {l:List Sk.Vr} (hl:HRow kVar ok w v l) (hlen:l.length<=1000000) :
  Calls Tryz.prog 51 #[v] w fun e w'=>∃ v',e=.returned v'/\OwnL kVar w.heap.size w' v' l/\Below w.heap.size w w':=by
 obtain ⟨a,c,rfl,hc1,hc2⟩:=hl.form
 cases a with
 | none=>
  have h0:=row_nil hl;subst h0;clear hl;have heq:∀ W,(binOp BinOp.eql 22 (.slice none 0 c) (.slice none 0 0)).run Tryz.prog W=.ok (.bool true) W:=fun W=>by kernel_rfl
  go_enter Tryz.func51,Tryz.ntmps51;go_wp2;go_ret;exact ⟨_,rfl,OwnL.nil,Below.refl _ _⟩
 | some ad=>
  have bA:Below w.heap.size w (w.alloc (.cells #[] 55 (0,0))):=(Below.refl _ _).alloc zM _;have hl2:HRow kVar (fun i=>i<w.heap.size) (w.alloc (.cells #[] 55 (0,0))) (.slice (some ad) l.length c) l:=(hl.wide (ok':=fun i=>i<w.heap.size) fun i _ h=>h).keep bA.size (fun i _ h=>bA.block i h);obtain ⟨v',w',hrun,hX,hg,hmv⟩:=xP kVar 22 22 Tryz.underlying22 (OwnX.emptyRow (T:=kVar) (w:=w)) hl2 (fun k hk=>by injection hk with hk;subst hk;exact Nat.lt_irrefl _) (by show (0+l.length)*16<=140737488355328;omega) (by simp;unfold maxLen;omega);have hB:=(qJ hg);have HX:=zE hX;have HMV:=zE hmv;have HG:=zE hg;have hrun2:(Builtin.append_ #[22,22] 22 #[.slice (some ⟨w.heap.size,0,none⟩) 0 0,.slice (some ad) l.length c]).run Tryz.prog (w.alloc (.cells #[] 55 (0,0)))=.ok v' w':=hrun;clear hl hl2 hX hmv hg hrun;have heq:∀ W,(binOp BinOp.eql 22 (.slice (some ad) l.length c) (.slice none 0 0)).run Tryz.prog W=.ok (.bool false) W:=fun W=>by kernel_rfl
  go_enter Tryz.func51,Tryz.ntmps51
  go_wp2_with (at_builtin;refine xB rfl _ _ 22 rfl _ _ _ (by rfl) (by rfl) hrun2 ?_)
  go_ret;refine ⟨v',rfl,qP HX.out (fun k hk=>?_) (fun _ _ _ _ _ h=>h),?_⟩
  ·rcases HMV.out with h | ⟨q,hq,hq2⟩
   ·rw [h] at hk
    injection hk with hk;have hk2:w.heap.size=k:=hk;omega
   ·rw [hq] at hk
    injection hk with hk;subst hk;have:(w.alloc (.cells #[] 55 (0,0))).heap.size=w.heap.size+1:=(by simp);have h3:(w.alloc (.cells #[] 55 (0,0))).heap.size<=q:=hq2;omega
  ·exact hB
theorem xH {ok:Nat->Prop} {w:World} {v:Value} {l:List Int} (hl:HRow kInt ok w v l) (hlen:l.length<=1000000) :
  Calls Tryz.prog 52 #[v] w fun e w'=>∃ v',e=.returned v'/\OwnL kInt w.heap.size w' v' l/\Below w.heap.size w w':=by
 obtain ⟨a,c,rfl,hc1,hc2⟩:=hl.form
 cases a with
 | none=>
  have h0:=row_nil hl;subst h0;clear hl;have heq:∀ W,(binOp BinOp.eql 23 (.slice none 0 c) (.slice none 0 0)).run Tryz.prog W=.ok (.bool true) W:=fun W=>by kernel_rfl
  go_enter Tryz.func52,Tryz.ntmps52;go_wp2;go_ret;exact ⟨_,rfl,OwnL.nil,Below.refl _ _⟩
 | some ad=>
  have bA:Below w.heap.size w (w.alloc (.cells #[] 3 (0,0))):=(Below.refl _ _).alloc zM _;have hl2:HRow kInt (fun i=>i<w.heap.size) (w.alloc (.cells #[] 3 (0,0))) (.slice (some ad) l.length c) l:=(hl.wide (ok':=fun i=>i<w.heap.size) fun i _ h=>h).keep bA.size (fun i _ h=>bA.block i h);obtain ⟨v',w',hrun,hX,hg,hmv⟩:=xP kInt 23 23 Tryz.underlying23 (OwnX.emptyRow (T:=kInt) (w:=w)) hl2 (fun k hk=>by injection hk with hk;subst hk;exact Nat.lt_irrefl _) (by show (0+l.length)*8<=140737488355328;omega) (by simp;unfold maxLen;omega);have hB:=(qJ hg);have HX:=zE hX;have HMV:=zE hmv;have HG:=zE hg;have hrun2:(Builtin.append_ #[23,23] 23 #[.slice (some ⟨w.heap.size,0,none⟩) 0 0,.slice (some ad) l.length c]).run Tryz.prog (w.alloc (.cells #[] 3 (0,0)))=.ok v' w':=hrun;clear hl hl2 hX hmv hg hrun;have heq:∀ W,(binOp BinOp.eql 23 (.slice (some ad) l.length c) (.slice none 0 0)).run Tryz.prog W=.ok (.bool false) W:=fun W=>by kernel_rfl
  go_enter Tryz.func52,Tryz.ntmps52
  go_wp2_with (at_builtin;refine xB rfl _ _ 23 rfl _ _ _ (by rfl) (by rfl) hrun2 ?_)
  go_ret;refine ⟨v',rfl,qP HX.out (fun k hk=>?_) (fun _ _ _ _ _ h=>h),?_⟩
  ·rcases HMV.out with h | ⟨q,hq,hq2⟩
   ·rw [h] at hk
    injection hk with hk;have hk2:w.heap.size=k:=hk;omega
   ·rw [hq] at hk
    injection hk with hk;subst hk;have:(w.alloc (.cells #[] 3 (0,0))).heap.size=w.heap.size+1:=(by simp);have h3:(w.alloc (.cells #[] 3 (0,0))).heap.size<=q:=hq2;omega
  ·exact hB
theorem clone93_any {ok:Nat->Prop} {w:World} {v:Value} {l:List Pu} (hl:HRow kPu ok w v l) (hlen:l.length<=1000000) :
  Calls Tryz.prog 99 #[v] w fun e w'=>∃ v',e=.returned v'/\OwnL kPu w.heap.size w' v' l/\Below w.heap.size w w':=by
 obtain ⟨a,c,rfl,hc1,hc2⟩:=hl.form
 cases a with
 | none=>
  have h0:=row_nil hl;subst h0;clear hl;have heq:∀ W,(binOp BinOp.eql 38 (.slice none 0 c) (.slice none 0 0)).run Tryz.prog W=.ok (.bool true) W:=fun W=>by kernel_rfl
  go_enter Tryz.func99,Tryz.ntmps99;go_wp2;go_ret;exact ⟨_,rfl,OwnL.nil,Below.refl _ _⟩
 | some ad=>
  have bA:Below w.heap.size w (w.alloc (.cells #[] 79 (0,0))):=(Below.refl _ _).alloc zM _;have hl2:HRow kPu (fun i=>i<w.heap.size) (w.alloc (.cells #[] 79 (0,0))) (.slice (some ad) l.length c) l:=(hl.wide (ok':=fun i=>i<w.heap.size) fun i _ h=>h).keep bA.size (fun i _ h=>bA.block i h);obtain ⟨v',w',hrun,hX,hg,hmv⟩:=xP kPu 38 38 Tryz.underlying38 (OwnX.emptyRow (T:=kPu) (w:=w)) hl2 (fun k hk=>by injection hk with hk;subst hk;exact Nat.lt_irrefl _) (by show (0+l.length)*32<=140737488355328;omega) (by simp;unfold maxLen;omega);have hB:=(qJ hg);have HX:=zE hX;have HMV:=zE hmv;have HG:=zE hg;have hrun2:(Builtin.append_ #[38,38] 38 #[.slice (some ⟨w.heap.size,0,none⟩) 0 0,.slice (some ad) l.length c]).run Tryz.prog (w.alloc (.cells #[] 79 (0,0)))=.ok v' w':=hrun;clear hl hl2 hX hmv hg hrun;have heq:∀ W,(binOp BinOp.eql 38 (.slice (some ad) l.length c) (.slice none 0 0)).run Tryz.prog W=.ok (.bool false) W:=fun W=>by kernel_rfl
  go_enter Tryz.func99,Tryz.ntmps99
  go_wp2_with (at_builtin;refine xB rfl _ _ 38 rfl _ _ _ (by rfl) (by rfl) hrun2 ?_)
  go_ret;refine ⟨v',rfl,qP HX.out (fun k hk=>?_) (fun _ _ _ _ _ h=>h),?_⟩
  ·rcases HMV.out with h | ⟨q,hq,hq2⟩
   ·rw [h] at hk
    injection hk with hk;have hk2:w.heap.size=k:=hk;omega
   ·rw [hq] at hk
    injection hk with hk;subst hk;have:(w.alloc (.cells #[] 79 (0,0))).heap.size=w.heap.size+1:=(by simp);have h3:(w.alloc (.cells #[] 79 (0,0))).heap.size<=q:=hq2;omega
  ·exact hB
theorem Tryz.infoRu:(Tryz.prog.info? 40).map (fun i=>(i.zero,i.size,i.bytes))=some (some (.agg #[.int .i64 0,.int .i64 0,.int .i64 0,.int .i64 0,.slice none 0 0,.slice none 0 0]),6,80):=by kernel_rfl
def kRu:Kind Sk.Ru where
 ty:=40
 k:=6
 bytes:=80
 zero:=.agg #[.int .i64 0,.int .i64 0,.int .i64 0,.int .i64 0,.slice none 0 0,.slice none 0 0]
 E:=fun ok w cs r=>∃ y,cs=rcs r y/\HRu ok w y r
 pos:=by decide
 zs:=rfl
 info:=Tryz.infoRu
 len:=by rintro _ _ _ _ ⟨y,rfl,_⟩;rfl
 one:=by
  rintro _ _ _ _ ⟨y,rfl,_⟩ u hu;simp [rcs] at hu;rcases hu with rfl | rfl | rfl | rfl | rfl | rfl<;>rfl
 keep:=by rintro _ _ _ _ _ ⟨y,rfl,h⟩ hs hk;exact ⟨y,rfl,h.keep hs hk⟩
 wide:=by rintro _ _ _ _ _ ⟨y,rfl,h⟩ hk;exact ⟨y,rfl,h.wide hk⟩
theorem zAL {ok:Nat->Prop} {w:World} {v:Value} {l:List Sk.Ru} (h:HRow kRu ok w v l):HRus ok w v l:=h
theorem zN (w:World) (p:Addr) (u:Value) {i:Nat} (h:p.block≠i):(w.setCell p u).heap[i]?=w.heap[i]?:=by
 cases e:w.heap[i]? with
 | none=>
  have hs:(w.setCell p u).heap.size=w.heap.size:=(by simp [World.setCell]);rw [Array.getElem?_eq_none_iff] at e ⊢;omega
 | some o=>exact zP e h u
theorem own54_core {ok:Nat->Prop} {w:World} {op k out n:Int} {aA aE:Option Addr} {nA cA nE cE:Nat} {A:List Int} {E:List Pu} (hA:HInts ok w (.slice aA nA cA) A) (hE:HPu ok w (.slice aE nE cE) E) (hAl:A.length<=1000000) (hEl:E.length<=1000000) :
  Calls Tryz.prog 53 #[.agg #[.int .i64 op,.int .i64 k,.int .i64 out,.int .i64 n,.slice aA nA cA,.slice aE nE cE]] w fun e w'=>∃ a1 n1 c1 a2 n2 c2,e=.returned (.agg #[.int .i64 op,.int .i64 k,.int .i64 out,.int .i64 n,.slice a1 n1 c1,.slice a2 n2 c2])/\HInts (fun i=>w.heap.size<=i) w' (.slice a1 n1 c1) A/\HPu (fun i=>w.heap.size<=i) w' (.slice a2 n2 c2) E/\Below w.heap.size w w':=by
 have b1:Below w.heap.size w ((w.alloc (.cells #[.int .i64 op,.int .i64 k,.int .i64 out,.int .i64 n,.slice aA nA cA,.slice aE nE cE] 40 (0,0))).alloc (.cells #[.int .i64 0,.int .i64 0,.int .i64 0,.int .i64 0,.slice none 0 0,.slice none 0 0] 40 (0,0))):=((Below.refl _ _).alloc zM _).alloc (by simp) _;have kR:((w.alloc (.cells #[.int .i64 op,.int .i64 k,.int .i64 out,.int .i64 n,.slice aA nA cA,.slice aE nE cE] 40 (0,0))).alloc (.cells #[.int .i64 0,.int .i64 0,.int .i64 0,.int .i64 0,.slice none 0 0,.slice none 0 0] 40 (0,0))).heap[w.heap.size]?=some (.cells #[.int .i64 op,.int .i64 k,.int .i64 out,.int .i64 n,.slice aA nA cA,.slice aE nE cE] 40 (0,0)):=(Below.heap_alloc _ _ _ (by simp)).trans (zI w _);have kZ:((w.alloc (.cells #[.int .i64 op,.int .i64 k,.int .i64 out,.int .i64 n,.slice aA nA cA,.slice aE nE cE] 40 (0,0))).alloc (.cells #[.int .i64 0,.int .i64 0,.int .i64 0,.int .i64 0,.slice none 0 0,.slice none 0 0] 40 (0,0))).heap[w.heap.size+1]?=some (.cells #[.int .i64 0,.int .i64 0,.int .i64 0,.int .i64 0,.slice none 0 0,.slice none 0 0] 40 (0,0)):=by
  have:=zI (w.alloc (.cells #[.int .i64 op,.int .i64 k,.int .i64 out,.int .i64 n,.slice aA nA cA,.slice aE nE cE] 40 (0,0))) (.cells #[.int .i64 0,.int .i64 0,.int .i64 0,.int .i64 0,.slice none 0 0,.slice none 0 0] 40 (0,0))
  simpa using this
 have HA:=zE (hA.under b1);have HE:=zE (hE.under b1);clear hA hE;go_enter Tryz.func53,Tryz.ntmps53;go_upto_region 1 with fail;generalize (w.alloc (.cells #[.int .i64 op,.int .i64 k,.int .i64 out,.int .i64 n,.slice aA nA cA,.slice aE nE cE] 40 (0,0))).alloc (.cells #[.int .i64 0,.int .i64 0,.int .i64 0,.int .i64 0,.slice none 0 0,.slice none 0 0] 40 (0,0))=w1 at b1 kR kZ HA HE ⊢;have c0:=coQ kR 0;have c1:=coQ kR 1;have c2:=coQ kR 2;have c3:=coQ kR 3;have c4:=coQ kR 4;have c5:=coQ kR 5;simp at c0 c1 c2 c3 c4 c5;have yR:=zG kR;have yZ:=zG kZ;refine zK (fun w'=>Below w1.heap.size w1 w') (fun i=>i==7 || i==8 || i==9) (by kernel_rfl) ?_;have hH0:Below w1.heap.size w1 w1.drew:=(Below.refl _ _).drew;generalize w1.drew=wd0 at hH0 ⊢;refine' tkR 0 3 hH0 ?o1
 refine' tkQ 1 4 hH0 ?hyv ?o2
 case hyv=>
  intro wz hSw;have zc0:=(hSw.cell (p:=⟨w.heap.size,0,none⟩) yR).trans c0;have zc1:=(hSw.cell (p:=⟨w.heap.size,1,none⟩) yR).trans c1;have zc2:=(hSw.cell (p:=⟨w.heap.size,2,none⟩) yR).trans c2;have zc3:=(hSw.cell (p:=⟨w.heap.size,3,none⟩) yR).trans c3;have zc4:=(hSw.cell (p:=⟨w.heap.size,4,none⟩) yR).trans c4;have zc5:=(hSw.cell (p:=⟨w.heap.size,5,none⟩) yR).trans c5;go_simp
  try rfl
 try simp only [Act.put,sT,sZ,sS]
 refine' tkR 3 6 hH0 ?o3
 refine' tkQ 4 7 hH0 ?hyv ?o4
 case hyv=>
  intro wz hSw;have zc0:=(hSw.cell (p:=⟨w.heap.size,0,none⟩) yR).trans c0;have zc1:=(hSw.cell (p:=⟨w.heap.size,1,none⟩) yR).trans c1;have zc2:=(hSw.cell (p:=⟨w.heap.size,2,none⟩) yR).trans c2;have zc3:=(hSw.cell (p:=⟨w.heap.size,3,none⟩) yR).trans c3;have zc4:=(hSw.cell (p:=⟨w.heap.size,4,none⟩) yR).trans c4;have zc5:=(hSw.cell (p:=⟨w.heap.size,5,none⟩) yR).trans c5;go_simp
  try rfl
 try simp only [Act.put,sT,sZ,sS]
 refine tnQ 2 (fun K hK=>?_);go_simp;refine (xH (ok:=ok) (HA.out.under hH0) hAl).mono ?_;rintro eq wd1 ⟨v1,rfl,own1,bq1⟩;obtain ⟨a1,cc1,rfl,-,-⟩:=own1.form;have hH1:Below w1.heap.size w1 wd1:=hH0.trans (bq1.mono hH0.size);have H1:=zE ((zR own1.row).wide (ok':=fun i=>w1.heap.size<=i) fun i hi _=>Nat.le_trans hH0.size hi);clear own1;refine hK.out _ _ (fun _=>hH1) ?_;clear hK K
 try simp only [Act.put,sT,sZ,sS]
 refine' tkR 6 9 hH1 ?o5
 refine tnQ 5 (fun K hK=>?_);go_simp;refine (clone93_any (ok:=ok) (HE.out.under hH1) hEl).mono ?_;rintro eq wd2 ⟨v2,rfl,own2,bq2⟩;obtain ⟨a2,cc2,rfl,-,-⟩:=own2.form;have hH2:Below w1.heap.size w1 wd2:=hH1.trans (bq2.mono hH1.size);have H2:=zE ((pus_row own2.row).wide (ok':=fun i=>w1.heap.size<=i) fun i hi _=>Nat.le_trans hH1.size hi);have H1b:=zE (H1.out.under bq2);clear own2 H1;refine hK.out _ _ (fun _=>hH2) ?_;clear hK K
 try simp only [Act.put,sT,sZ,sS]
 refine tnQ 7 (fun K hK=>?_);have kR5:=(hH2.block _ yR).trans kR;have kZ5:=(hH2.block _ yZ).trans kZ;have B5:=b1.trans (hH2.mono b1.size);have st4:=coQ kR5 4;have ff4:=foQ kR5 4;simp at st4;have KR:=zJ kR5 4 (.slice a1 A.length cc1);simp at KR;have KZ:=zP (p:=⟨w.heap.size,4,none⟩) kZ5 (by show w.heap.size≠w.heap.size+1;omega) (.slice a1 A.length cc1);have B6:=B5.setCell (p:=⟨w.heap.size,4,none⟩) zM (.slice a1 A.length cc1);have HR6:=zE (show Below (w.heap.size+2) wd2 (wd2.setCell ⟨w.heap.size,4,none⟩ (.slice a1 A.length cc1))->True from fun _=>trivial);have H1c:=zE (show HInts (fun i=>w1.heap.size<=i) (wd2.setCell ⟨w.heap.size,4,none⟩ (.slice a1 A.length cc1)) (.slice a1 A.length cc1) A from H1b.out.keep (by simp [World.setCell]) (fun i hi _=>zN _ _ _ (by show w.heap.size≠i;have h1:w1.heap.size<=i:=hi;omega)));have H2c:=zE (show HPu (fun i=>w1.heap.size<=i) (wd2.setCell ⟨w.heap.size,4,none⟩ (.slice a1 A.length cc1)) (.slice a2 E.length cc2) E from H2.out.keep (by simp [World.setCell]) (fun i hi _=>zN _ _ _ (by show w.heap.size≠i;have h1:w1.heap.size<=i:=hi;omega)));clear kR5 kZ5 H1b H2 HR6;go_simp;refine hK.out _ _ (fun h=>absurd h (by decide)) ?_;clear hK K
 try simp only [Act.put,sT,sZ,sS]
 clear st4 ff4;generalize wd2.setCell ⟨w.heap.size,4,none⟩ (.slice a1 A.length cc1)=wd3 at KR KZ B6 H1c H2c ⊢;refine tnQ 8 (fun K hK=>?_);go_simp;refine hK.out _ _ (fun h=>absurd h (by decide)) ?_;clear hK K
 try simp only [Act.put,sT,sZ,sS]
 refine tnQ 9 (fun K hK=>?_);have st5:=coQ KR 5;have ff5:=foQ KR 5;simp at st5;have KR2:=zJ KR 5 (.slice a2 E.length cc2);simp at KR2;have KZ2:=zP (p:=⟨w.heap.size,5,none⟩) KZ (by show w.heap.size≠w.heap.size+1;omega) (.slice a2 E.length cc2);have B7:=B6.setCell (p:=⟨w.heap.size,5,none⟩) zM (.slice a2 E.length cc2);have H1d:=zE (show HInts (fun i=>w1.heap.size<=i) (wd3.setCell ⟨w.heap.size,5,none⟩ (.slice a2 E.length cc2)) (.slice a1 A.length cc1) A from H1c.out.keep (by simp [World.setCell]) (fun i hi _=>zN _ _ _ (by show w.heap.size≠i;have h1:w1.heap.size<=i:=hi;omega)));have H2d:=zE (show HPu (fun i=>w1.heap.size<=i) (wd3.setCell ⟨w.heap.size,5,none⟩ (.slice a2 E.length cc2)) (.slice a2 E.length cc2) E from H2c.out.keep (by simp [World.setCell]) (fun i hi _=>zN _ _ _ (by show w.heap.size≠i;have h1:w1.heap.size<=i:=hi;omega)));clear KR KZ H1c H2c;go_simp;refine hK.out _ _ (fun h=>absurd h (by decide)) ?_;clear hK K
 try simp only [Act.put,sT,sZ,sS]
 clear st5 ff5;generalize wd3.setCell ⟨w.heap.size,5,none⟩ (.slice a2 E.length cc2)=wd5 at KR2 KZ2 B7 H1d H2d ⊢;refine zH (by kernel_rfl) ?_ _;have d0:=coQ KR2 0;have s0:=coQ KZ2 0;have f0:=foQ KZ2 0;have d1:=coQ KR2 1;have s1:=coQ KZ2 1;have f1:=foQ KZ2 1;have d2:=coQ KR2 2;have s2:=coQ KZ2 2;have f2:=foQ KZ2 2;have d3:=coQ KR2 3;have s3:=coQ KZ2 3;have f3:=foQ KZ2 3;have d4:=coQ KR2 4;have s4:=coQ KZ2 4;have f4:=foQ KZ2 4;have d5:=coQ KR2 5;have s5:=coQ KZ2 5;have f5:=foQ KZ2 5;simp at d0 s0 d1 s1 d2 s2 d3 s3 d4 s4 d5 s5;have KE:=zJ (zJ (zJ (zJ (zJ (zJ (KZ2) 0 (.int .i64 op)) 1 (.int .i64 k)) 2 (.int .i64 out)) 3 (.int .i64 n)) 4 (.slice a1 A.length cc1)) 5 (.slice a2 E.length cc2);have BE:=((((((B7).setCell (p:=⟨w.heap.size+1,0,none⟩) (by simp) (.int .i64 op)).setCell (p:=⟨w.heap.size+1,1,none⟩) (by simp) (.int .i64 k)).setCell (p:=⟨w.heap.size+1,2,none⟩) (by simp) (.int .i64 out)).setCell (p:=⟨w.heap.size+1,3,none⟩) (by simp) (.int .i64 n)).setCell (p:=⟨w.heap.size+1,4,none⟩) (by simp) (.slice a1 A.length cc1)).setCell (p:=⟨w.heap.size+1,5,none⟩) (by simp) (.slice a2 E.length cc2);have hone:∀ (X:World) (u:Value) (j:Nat) (i:Nat),w1.heap.size<=i->(X.setCell ⟨w.heap.size+1,j,none⟩ u).heap[i]?=X.heap[i]?:=fun X u j i hi=>zN _ _ _ (by show w.heap.size+1≠i;omega);have HEND:=zE (show HInts (fun i=>w1.heap.size<=i) (((((((wd5).setCell ⟨w.heap.size+1,0,none⟩ (.int .i64 op)).setCell ⟨w.heap.size+1,1,none⟩ (.int .i64 k)).setCell ⟨w.heap.size+1,2,none⟩ (.int .i64 out)).setCell ⟨w.heap.size+1,3,none⟩ (.int .i64 n)).setCell ⟨w.heap.size+1,4,none⟩ (.slice a1 A.length cc1)).setCell ⟨w.heap.size+1,5,none⟩ (.slice a2 E.length cc2)) (.slice a1 A.length cc1) A/\HPu (fun i=>w1.heap.size<=i) (((((((wd5).setCell ⟨w.heap.size+1,0,none⟩ (.int .i64 op)).setCell ⟨w.heap.size+1,1,none⟩ (.int .i64 k)).setCell ⟨w.heap.size+1,2,none⟩ (.int .i64 out)).setCell ⟨w.heap.size+1,3,none⟩ (.int .i64 n)).setCell ⟨w.heap.size+1,4,none⟩ (.slice a1 A.length cc1)).setCell ⟨w.heap.size+1,5,none⟩ (.slice a2 E.length cc2)) (.slice a2 E.length cc2) E from ⟨H1d.out.keep (by simp [World.setCell]) (fun i hi _=>by rw [hone _ _ _ i hi,hone _ _ _ i hi,hone _ _ _ i hi,hone _ _ _ i hi,hone _ _ _ i hi,hone _ _ _ i hi]),H2d.out.keep (by simp [World.setCell]) (fun i hi _=>by rw [hone _ _ _ i hi,hone _ _ _ i hi,hone _ _ _ i hi,hone _ _ _ i hi,hone _ _ _ i hi,hone _ _ _ i hi])⟩);have r0:=coQ KE 0;have r1:=coQ KE 1;have r2:=coQ KE 2;have r3:=coQ KE 3;have r4:=coQ KE 4;have r5:=coQ KE 5;simp at r0 r1 r2 r3 r4 r5;clear KE KR2 KZ2 H1d H2d hone B6 kR kZ c0 c1 c2 c3 c4 c5;go_wp2;exact bodyPost_ret (v:=.agg #[.int .i64 op,.int .i64 k,.int .i64 out,.int .i64 n,.slice a1 A.length cc1,.slice a2 E.length cc2]) (by simp [results,Tryz.results53,go_sem,r0,r1,r2,r3,r4,r5]) rfl ⟨_,_,_,_,_,_,rfl,HEND.out.1.wide (fun i hi _=>Nat.le_trans b1.size hi),HEND.out.2.wide (fun i hi _=>Nat.le_trans b1.size hi),BE⟩
theorem own54_any {ok:Nat->Prop} {w:World} {r:Sk.Ru} {y:RuV} (hR:HRu ok w y r) (hAl:r.A.length<=1000000) (hEl:r.E.length<=1000000) :
  Calls Tryz.prog 53 #[.agg #[.int .i64 r.op,.int .i64 r.k,.int .i64 r.out,.int .i64 r.n,.slice y.aA y.nA y.cA,.slice y.aE y.nE y.cE]] w fun e w'=>∃ z:RuV,e=.returned (.agg #[.int .i64 r.op,.int .i64 r.k,.int .i64 r.out,.int .i64 r.n,.slice z.aA z.nA z.cA,.slice z.aE z.nE z.cE])/\HRu (fun i=>w.heap.size<=i) w' z r/\Below w.heap.size w w':=
 (own54_core hR.A hR.E hAl hEl).mono fun _ _ ⟨a1,n1,c1,a2,n2,c2,h1,h2,h3,h4⟩=>⟨⟨a1,n1,c1,a2,n2,c2⟩,h1,⟨h2,h3⟩,h4⟩
end Go.Proofs.YtegakbobaecdlaaGreatDoor
