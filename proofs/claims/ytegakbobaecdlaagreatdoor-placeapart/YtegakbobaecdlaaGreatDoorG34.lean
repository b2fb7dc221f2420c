import Derived.Test.YtegakbobaecdlaaGreatDoorG33
set_option linter.unusedVariables false
set_option linter.unusedSimpArgs false
set_option maxHeartbeats 64000000
set_option maxRecDepth 100000
namespace Go.Proofs.YtegakbobaecdlaaGreatDoor
open Go.RowKit Go.IntWalk
def IB (w:World) (g:Nat) (l:List Int):Prop:=w.heap[g]?=some (.cells (l.map (Value.int .i64)).toArray 3 (0,0))
theorem IB.lt {w:World} {g:Nat} {l:List Int} (h:IB w g l):g<w.heap.size:=zH h
theorem IB.keep {w w':World} {g:Nat} {l:List Int} (h:IB w g l) (hk:w'.heap[g]?=w.heap[g]?):IB w' g l:=hk.trans h
theorem IB.under {w w':World} {g:Nat} {l:List Int} (h:IB w g l) (b:Below w.heap.size w w'):IB w' g l:=h.keep (b.block _ h.lt)
theorem IB.at {w:World} {g:Nat} {l:List Int} (h:IB w g l) {i:Nat} (hi:i<l.length):w.cell? ⟨g,i,none⟩=some (.int .i64 l[i]):=by
 unfold IB at h;rw [coQ h i];simp [hi]
theorem IB.free {w:World} {g:Nat} {l:List Int} (h:IB w g l) (o:Nat):w.frozen? ⟨g,o,none⟩=false:=foQ h o
theorem IB.set {w:World} {g:Nat} {l:List Int} (h:IB w g l) (i:Nat) (x:Int):IB (w.setCell ⟨g,i,none⟩ (.int .i64 x)) g (l.set i x):=by
 unfold IB at h ⊢;rw [zO h i (.int .i64 x)];simp [List.map_set]
theorem IB.ints {w:World} {g:Nat} {l:List Int} (h:IB w g l) (hl:l.length<=maxLen) {ok:Nat->Prop} (hg:ok g):HInts ok w (.slice (some ⟨g,0,none⟩) l.length l.length) l:=by
 refine ⟨fun i=>[.int .i64 (l.getD i 0)],⟨some ⟨g,0,none⟩,l.length,rfl,Nat.le_refl _,hl,fun _=>⟨g,0,rfl,hg,h.lt,fun i hi=>⟨rfl,fun j hj=>?_⟩⟩⟩,fun i hi=>by simp [hi]⟩;have e:j=0:=(by omega);subst e;rw [Nat.zero_add,Nat.mul_one,Nat.add_zero,h.at hi];simp [hi]
def RqB (w:World) (g n c:Nat) (x:Int):Prop:=∃ cur:Array Value,w.heap[g]?=some (.cells cur 3 (0,0))/\cur.size=n/\∀ i,i<c->cur[i]?=some (.int .i64 x)
theorem RqB.lt {w:World} {g n c:Nat} {x:Int} (h:RqB w g n c x):g<w.heap.size:=by
 obtain ⟨cur,h1,-⟩:=h;exact zH h1
theorem RqB.all {w:World} {g n:Nat} {x:Int} (h:RqB w g n n x):IB w g (List.replicate n x):=by
 obtain ⟨cur,h1,h2,h3⟩:=h;unfold IB;rw [h1];have e:cur=((List.replicate n x).map (Value.int .i64)).toArray:=by
  apply Array.ext
  ·simp [h2]
  ·intro i g1 g2
   have h4:=h3 i (by omega);rw [Array.getElem?_eq_getElem g1] at h4;injection h4 with h5;rw [h5];simp
 rw [e]
theorem repl_get {x:Int} {m j:Nat} {v:Value} (h:(List.replicate m (Value.int .i64 x))[j]?=some v):j<m/\v=.int .i64 x:=by
 rw [List.getElem?_replicate] at h
 split at h
 ·injection h with h
  exact ⟨by assumption,h.symm⟩
 ·cases h
theorem RqB.copy {w:World} {g n c m:Nat} {x:Int} (h:RqB w g n c x) (hm:c+m<=n) (sLen sCap dCap:Nat) (hmin:Nat.min sLen (n-c)=m) (a:Addr) (hsrc:∀ j v,(List.replicate m (Value.int .i64 x))[j]?=some v->w.cell? (a.add j)=some v) :
  ∃ w',(Builtin.copy_ #[23,23] 3 #[.slice (some ⟨g,c,none⟩) (n-c) dCap,.slice (some a) sLen sCap]).run Tryz.prog w=.ok (.int .i64 (m:Int)) w'/\RqB w' g n (c+m) x/\w'.heap.size=w.heap.size/\Aside [g] w.heap.size w w':=by
 obtain ⟨cur,h1,h2,h3⟩:=h;have hr:=run_copyK (P:=Tryz.prog) w 23 23 3 3 g c (n-c) dCap a sLen sCap 1 cur 3 (List.replicate m (Value.int .i64 x)) Tryz.underlying23 (by kernel_rfl) h1 (by rw [List.length_replicate,hmin,Nat.mul_one]) hsrc (by rw [List.length_replicate,h2];omega) (fun v hv=>by rw [(List.mem_replicate.1 hv).2];rfl);rw [hmin] at hr;have hlt:=zH h1;have hl:cur.toList.length=n:=(by simpa using h2);refine ⟨_,hr,⟨_,setRow_heap w g cur _ 3 (0,0) h1,?_,fun i hi=>?_⟩,?_,?_⟩
 ·simp only [List.size_toArray,List.length_append,List.length_take,List.length_drop,List.length_replicate,hl]
  omega
 ·rw [gT]
  by_cases hic:i<c
  ·have:=h3 i hic
   rw [seg_lo (by omega) (by omega)]
   simpa using this
  ·rw [seg_mid (by omega) (by rw [List.length_replicate];omega) (by omega),List.getElem?_replicate,if_pos (by omega)]
 ·simp [World.setRow]
 ·refine ⟨rfl,rfl,rfl,by simp [World.setRow],fun k hk hn=>?_⟩
  have hne:k≠g:=(by simpa using hn);simp [World.setRow,Array.getElem?_modify,Ne.symm hne]
theorem Tryz.infoInt3:(Tryz.prog.info? 3).map (fun i=>(i.zero,i.size,i.bytes))=some (some (.int .i64 0),1,8):=by kernel_rfl
theorem make_ints (c:Nat) (hn:c<=1000000) (V:World):∃ cur:Array Value,(Instr.makeSlice 23 (.int .i64 (c:Int)) (.int .i64 (c:Int))).run Tryz.prog V=.ok (.slice (some ⟨V.heap.size,0,none⟩) c c) (V.alloc (.cells cur 3 (0,0)))/\cur.size=c:=by
 obtain ⟨i0,hi,hz0,hz1,hz2⟩:=info_parts Tryz.infoInt3;have h:=run_make (P:=Tryz.prog) V 23 3 i0 (.int .i64 0) Tryz.underlying23 hi hz0 .i64 .i64 (c:Int) (c:Int) (by omega) (by omega) (by rw [hz2];simp;omega) (by omega);refine ⟨madeCells (Value.int .i64 0).cells (((c:Int)).toNat*i0.size),by simpa using h,?_⟩;rw [hz1];simp [madeCells]
theorem xB {w:World} {xb:Nat} {x:Int} (n:Nat) (hn:n<=1000) (hx:w.heap[xb]?=some (.cells #[.int .i64 x] 3 (0,0))) :
  Calls Tryz.prog 70 #[.slice (some ⟨xb,0,none⟩) 1 1,.int .i64 (n:Int)] w fun e w'=>∃ g,e=.returned (.slice (some ⟨g,0,none⟩) n n)/\w.heap.size<=g/\IB w' g (List.replicate n x)/\Below w.heap.size w w':=by
 obtain ⟨cur,hmk,hcur⟩:=make_ints n (by omega) w;have hw1:(IntKind.u64.wrap (1:Int))=1:=(by decide);have hw2:(IntKind.u64.wrap (n:Int))=(n:Int):=(by rw [IntKind.wrap_u64];omega);have hw3:wrap64 (n:Int)=(n:Int):=(by unfold wrap64;omega);have hmul:=mul22_any n (by omega) w;have b1:Below w.heap.size w (w.alloc (.cells cur 3 (0,0))):=(Below.refl _ _).alloc zL _;have k1:=zJ w (.cells cur 3 (0,0));have hx1:=(b1.block _ (zH hx)).trans hx;have hxw:=zH hx;have hge:¬((n:Int)<0):=(by omega);have r0:RqB (w.alloc (.cells cur 3 (0,0))) w.heap.size n 0 x:=⟨cur,k1,hcur,fun i hi=>absurd hi (Nat.not_lt_zero _)⟩;obtain ⟨m0,hm0⟩:∃ m0,Nat.min 1 n=m0:=⟨_,rfl⟩;have hm1:m0<=n:=(by rw [<-hm0];exact Nat.min_le_right 1 n);have hm3:m0<=1:=(by rw [<-hm0];exact Nat.min_le_left 1 n);have hm2:m0=0->n=0:=by
  intro e;rw [e] at hm0;rcases Nat.eq_zero_or_pos n with q | q
  ·exact q
  ·have:Nat.min 1 n=1:=Nat.min_eq_left q
   omega
 obtain ⟨w2,hrun,r2,hs2,a2⟩:=RqB.copy (m:=m0) r0 (by omega) 1 1 n (by rw [Nat.sub_zero];exact hm0) ⟨xb,0,none⟩ (fun j v hv=>by
  obtain ⟨hj,rfl⟩:=repl_get hv;have e0:j=0:=(by omega);subst e0;have adds:∀ j,(⟨xb,0,none⟩:Addr).add j=⟨xb,0+j,none⟩:=fun j=>by unfold Addr.add;split<;>simp_all
  rw [adds];simp [World.cell?,hx1])
 rw [Nat.zero_add] at r2;rw [Nat.sub_zero] at hrun;have HM2:=zG hm2;have HR2:=zG r2;have B2:Below w.heap.size w w2:=b1.trans ((a2.mono (by simp)).below (fun k hk=>by simp at hk;omega));have HB2:=zG B2;have hgl:w.heap.size<w2.heap.size:=(by rw [hs2];simp);clear hx hx1 k1 r0 hcur r2 hm0 hm2 b1 a2 B2 hs2;go_enter Tryz.func70,Tryz.ntmps70;go_wp2_with fail;refine hmul.mono ?_;rintro e w0 ⟨rfl,hw0⟩;rw [hw0];clear hw0;clear hmul
 go_wp2_with (at_builtin;refine Lib.wpList_copy_run _ rfl _ _ 23 23 rfl _ _ rfl rfl hrun ?_)
 go_loopg [8] (n-m0) (fun k v wr=>∃ c,c<=n/\k=n-c/\v=.int .i64 (c:Nat)/\Hid (c=0->n=0)/\Hid (RqB wr w.heap.size n c x)/\Below w.heap.size w wr/\w.heap.size<wr.heap.size)
 case atStart=>exact ⟨m0,hm1,rfl,rfl,HM2,HR2,HB2.out,hgl⟩
 case round=>
  clear HM2 HR2 HB2 hrun hm3;obtain ⟨c,hc,rfl,rfl,HC,HR,hbr,hgr⟩:=hrel;by_cases hlt:c<n
  case neg=>
   have hin:c=n:=(by omega);subst hin;go_wp2;go_ret;exact ⟨w.heap.size,rfl,Nat.le_refl _,HR.out.all,hbr⟩
  case pos=>
   have hc1:1<=c:=by
    rcases Nat.eq_zero_or_pos c with q | q
    ·have:=HC.out q;omega
    ·exact q
   obtain ⟨m,hm⟩:∃ m,Nat.min c (n-c)=m:=⟨_,rfl⟩;have hmc:m<=c:=(by rw [<-hm];exact Nat.min_le_left _ _);have hmn:m<=n-c:=(by rw [<-hm];exact Nat.min_le_right _ _);have hmp:1<=m:=(by rw [<-hm];exact Nat.le_min.2 ⟨hc1,by omega⟩);have bD:Below wr.heap.size wr wr.drew:=(Below.refl _ _).drew;have hRd:RqB wr.drew w.heap.size n c x:=by
    obtain ⟨cur,h1,h2⟩:=HR.out;exact ⟨cur,(bD.block _ hgr).trans h1,h2⟩
   obtain ⟨w3,hrun3,r3,hs3,a3⟩:=hRd.copy (m:=m) (by omega) c n (n-c) hm ⟨w.heap.size,0,none⟩ (fun j v hv=>by
    obtain ⟨hj,rfl⟩:=repl_get hv;have adds:∀ j,(⟨w.heap.size,0,none⟩:Addr).add j=⟨w.heap.size,0+j,none⟩:=fun j=>by unfold Addr.add;split<;>simp_all
    rw [adds];obtain ⟨cur,h1,h2,h3⟩:=hRd;have h4:=h3 j (by omega);simp [World.cell?,h1,h4])
   have hcl:c+m<=n:=(by omega);have hcm:c+m<=1000:=(by omega);have HWR:=zG (show IntKind.i64.wrap ((c:Int)+(m:Int))=(c:Int)+(m:Int) by simp [IntKind.wrap,IntKind.signed,IntKind.bits];omega);have HR3:=zG r3;have BD:=hbr.trans (bD.mono hbr.size);have B3:Below w.heap.size w w3:=BD.trans ((a3.mono BD.size).below (fun k hk=>by simp at hk;omega));have hg3:w.heap.size<w3.heap.size:=(by rw [hs3];have:=bD.size;omega);obtain ⟨wd,hwd⟩:=nmQ (wr.drew);rw [<-hwd] at hrun3;clear hm HR HC hRd r3 hs3 a3 bD BD hbr;go_upto_region 9 with fail;refine zK (fun _=>True) (fun _=>false) (by kernel_rfl) ?_;rw [<-hwd];clear hwd;refine' tkR 0 38 trivial ?o1
   refine' tkR 1 39 trivial ?o2
   refine' tkR 2 40 trivial ?o3
   refine' zM (i:=3) (oi:=⟨some 41,_,_,_,_,_⟩) (v:=.slice (some ⟨w.heap.size,c,none⟩) (n-c) (n-c)) rfl (by kernel_rfl) (by kernel_rfl) (by kernel_rfl) (by kernel_rfl) (fun _ _ _ h=>h) trivial (by rfl) ?hyv ?o4
   case hyv=>
    intro wz hSw;go_simp
    try (intro hh;omega)
    try rfl
   try simp only [Act.put,sT,sZ,sS]
   refine' tkR 4 42 trivial ?o5
   refine' tkR 5 43 trivial ?o6
   refine' zM (i:=6) (oi:=⟨some 44,_,_,_,_,_⟩) (v:=.slice (some ⟨w.heap.size,0,none⟩) c n) rfl (by kernel_rfl) (by kernel_rfl) (by kernel_rfl) (by kernel_rfl) (fun _ _ _ h=>h) trivial (by rfl) ?hyv ?o7
   case hyv=>
    intro wz hSw;go_simp
    try (intro hh;omega)
    try rfl
   try simp only [Act.put,sT,sZ,sS]
   refine xV (i:=7) (o:=⟨some 45,_,_,_,_,_⟩) rfl (by kernel_rfl) (by rfl) (fun K hK=>?_);refine Lib.wp_copy_run _ _ _ 23 23 rfl _ _ (by rfl) (by rfl) hrun3 ?_;refine hK.out _ _ (fun _=>trivial) ?_;clear hK K
   try simp only [Act.put,sT,sZ,sS]
   refine' tkR 8 46 trivial ?o8
   refine' tkR 9 8 trivial ?o9
   refine zI (by kernel_rfl) ?_ _;go_wp2_with fail;go_roundg (n-(c+m))
   case measure=>omega
   case rel=>exact ⟨c+m,hcl,rfl,by rw [HWR.out,Int.natCast_add],zG (fun h=>by omega),HR3,B3,hg3⟩
structure SpV (w:World) (sb g:Nat) (l:List Sk.Sp):Prop where
 var:w.heap[sb]?=some (.cells #[.slice (some ⟨g,0,none⟩) l.length l.length] 51 (0,0))
 row:SpB w g l
 ne:sb≠g
theorem SpV.keep {w w':World} {sb g:Nat} {l:List Sk.Sp} (h:SpV w sb g l) (h1:w'.heap[sb]?=w.heap[sb]?) (h2:w'.heap[g]?=w.heap[g]?):SpV w' sb g l:=⟨h1.trans h.var,h.row.keep h2,h.ne⟩
theorem SpV.under {w w':World} {sb g:Nat} {l:List Sk.Sp} (h:SpV w sb g l) (b:Below w.heap.size w w'):SpV w' sb g l:=h.keep (b.block _ (zH h.var)) (b.block _ h.row.lt)
theorem SpV.len {w:World} {sb g:Nat} {l l':List Sk.Sp} (h:SpV w sb g l) (e:l=l'):SpV w sb g l':=e ▸ h
theorem vJ {w:World} {sb g:Nat} {l:List Sk.Sp} (h:SpV w sb g l) (p:Int) (v:Nat) (hv:v<l.length) (hl:l.length<=1000) :
  Calls Tryz.prog 67 #[.int .i64 p,.int .i64 (v:Int),.pointer (some ⟨sb,0,none⟩)] w fun e w'=>e=.returned (.tuple #[])/\SpV w' sb g (l.set v (p,p))/\Aside [g] w.heap.size w w':=by
 have c0:=coQ h.var 0;simp at c0;obtain ⟨x0,x1⟩:=h.row.at hv;have f0:=h.row.free (v*2);have f1:=h.row.free (v*2+1);have hA:Aside [g] w.heap.size w ((w.setCell ⟨g,v*2,none⟩ (.int .i64 p)).setCell ⟨g,v*2+1,none⟩ (.int .i64 p)):=(Aside.setCell (p:=⟨g,v*2,none⟩) (by simp) _).trans (Aside.setCell (B:=w.heap.size) (p:=⟨g,v*2+1,none⟩) (by simp) _) zL;have HEND:=zG (show SpV ((w.setCell ⟨g,v*2,none⟩ (.int .i64 p)).setCell ⟨g,v*2+1,none⟩ (.int .i64 p)) sb g (l.set v (p,p)) from ⟨by rw [List.length_set];exact zN (zN h.var (Ne.symm h.ne) _) (Ne.symm h.ne) _,h.row.set hv p p,h.ne⟩);have HA:=zG hA;generalize (l[v]).1=q1 at x0;generalize (l[v]).2=q2 at x1;obtain ⟨n,hn⟩:=nmQ (l.length);rw [<-hn] at c0 hl;have hvn:v<n:=(by omega);clear h hA hv hn;go_enter Tryz.func67,Tryz.ntmps67;go_wp2;refine bodyPost_end (v:=.tuple #[]) (by simp [results,Tryz.results67,go_sem]) rfl ?_;exact ⟨rfl,HEND.out,HA.out⟩
theorem eg14:∀ args w,(callFunc 67 args).run Tryz.prog w=.ok (.enter 67 args) w:=enters_of Tryz.func67 (by kernel_rfl) rfl
theorem eg16:∀ args w,(callFunc 69 args).run Tryz.prog w=.ok (.enter 69 args) w:=enters_of Tryz.func69 (by kernel_rfl) rfl
theorem qG {w:World} {sb g:Nat} {l:List Sk.Sp} (h:SpV w sb g l) (p:Int) (v:Nat) (hv:v<l.length) (hl:l.length<=1000) :
  Calls Tryz.prog 69 #[.int .i64 p,.int .i64 (v:Int),.pointer (some ⟨sb,0,none⟩)] w fun e w'=>e=.returned (.tuple #[])/\SpV w' sb g (Sk.upTo l (v:Int) p)/\Aside [g] w.heap.size w w':=by
 have c0:=coQ h.var 0;simp at c0;obtain ⟨x0,x1⟩:=h.row.at hv;have yS:=zH h.var;have yG:=h.row.lt;have eU:Sk.upTo l (v:Int) p=l.set v ((l[v]).1,max (l[v]).2 p):=by
  unfold Sk.upTo Sk.spAt;rw [Int.toNat_natCast,List.getD_eq_getElem?_getD,List.getElem?_eq_getElem hv];rfl
 rw [eU];have HH:=zG h;obtain ⟨q1,hq1⟩:=nmQ ((l[v]).1);rw [<-hq1];have HQ1:=zG (show ∀ hv':v<l.length,(l[v]'hv').1=q1 from fun _=>hq1.symm);generalize (l[v]).2=q2 at x1
 obtain ⟨n,hn⟩:=nmQ (l.length);rw [<-hn] at c0 hl;have hvn:v<n:=(by omega);have HV:=zG hv;clear h eU hv hn hq1 x0;go_enter Tryz.func69,Tryz.ntmps69;refine zK (fun w'=>Below w.heap.size w w') (fun i=>i==11) (by kernel_rfl) ?_;have hH0:Below w.heap.size w w.drew:=(Below.refl _ _).drew;generalize w.drew=wd0 at hH0 ⊢;refine' tkQ 0 5 hH0 ?hyv ?o1
 case hyv=>
  intro wz hSw;have zc0:=(hSw.cell (p:=⟨sb,0,none⟩) yS).trans c0;have zc1:=(hSw.cell (p:=⟨g,v*2+1,none⟩) yG).trans x1;go_simp
  try rfl
 try simp only [Act.put,sT,sZ,sS]
 refine' tkR 1 6 hH0 ?o2
 refine' tkQ 2 7 hH0 ?hyv ?o3
 case hyv=>
  intro wz hSw;have zc0:=(hSw.cell (p:=⟨sb,0,none⟩) yS).trans c0;have zc1:=(hSw.cell (p:=⟨g,v*2+1,none⟩) yG).trans x1;go_simp
  try rfl
 try simp only [Act.put,sT,sZ,sS]
 refine' tkR 3 8 hH0 ?o4
 refine' tkR 4 9 hH0 ?o5
 refine' tkR 5 10 hH0 ?o6
 refine' tkQ 6 11 hH0 ?hyv ?o7
 case hyv=>
  intro wz hSw;have zc0:=(hSw.cell (p:=⟨sb,0,none⟩) yS).trans c0;have zc1:=(hSw.cell (p:=⟨g,v*2+1,none⟩) yG).trans x1;go_simp
  try rfl
 try simp only [Act.put,sT,sZ,sS]
 refine' tkR 7 12 hH0 ?o8
 refine' tkR 8 13 hH0 ?o9
 refine tnQ 9 (fun K hK=>?_);go_simp;have hH1:=hH0;obtain ⟨wd1,hwd1⟩:=nmQ (wd0);rw [<-hwd1] at hH1;refine hK.out _ _ (fun _=>by rw [<-hwd1];exact hH1) ?_;clear hK K
 try simp only [Act.put,sT,sZ,sS]
 rw [<-hwd1];clear hwd1;refine' tkR 10 15 hH1 ?o10
 refine tnQ 11 (fun K hK=>?_);have hr:=HH.out.under hH1;obtain ⟨-,st1⟩:=hr.row.at HV.out;have ff1:=hr.row.free (v*2+1);have hne:=HH.out.ne;have HEND:=zG (show SpV (wd1.setCell ⟨g,v*2+1,none⟩ (.int .i64 (max q2 p))) sb g (l.set v (q1,max q2 p)) from ⟨by rw [List.length_set];exact zN hr.var (Ne.symm hne) _,by have h5:=hr.row.setTo HV.out (max q2 p);rw [HQ1.out HV.out] at h5;exact h5,hne⟩);have HA:=zG (show Aside [g] w.heap.size w (wd1.setCell ⟨g,v*2+1,none⟩ (.int .i64 (max q2 p))) from (aside hH1).trans (Aside.setCell (B:=w.heap.size) (p:=⟨g,v*2+1,none⟩) (by simp) _) zL);clear hr hne;go_simp;refine hK.out _ _ (fun h=>absurd h (by decide)) ?_;clear hK K
 try simp only [Act.put,sT,sZ,sS]
 clear st1 ff1;generalize wd1.setCell ⟨g,v*2+1,none⟩ (.int .i64 (max q2 p))=wd2 at HEND HA ⊢;refine zI (by kernel_rfl) ?_ _;go_wp2;refine bodyPost_end (v:=.tuple #[]) (by simp [results,Tryz.results69,go_sem]) rfl ?_;exact ⟨rfl,HEND.out,HA.out⟩
end Go.Proofs.YtegakbobaecdlaaGreatDoor
