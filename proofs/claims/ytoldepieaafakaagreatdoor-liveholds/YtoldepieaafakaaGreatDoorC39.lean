import Derived.Test.YtoldepieaafakaaGreatDoorC38
set_option linter.unusedVariables false
set_option linter.unusedSimpArgs false
set_option maxHeartbeats 64000000
set_option maxRecDepth 100000
namespace Go.Proofs.YtoldepieaafakaaGreatDoor
open Go.RowKit Go.IntWalk
def RpB (w:World) (g n c:Nat) (x y:Int):Prop:=∃ cur:Array Value,w.heap[g]?=some (.cells cur 44 (0,0))/\cur.size=n*2/\∀ i,i<c->cur[i*2]?=some (.int .i64 x)/\cur[i*2+1]?=some (.int .i64 y)
theorem RpB.all {w:World} {g n:Nat} {x y:Int} (h:RpB w g n n x y):SpB w g (List.replicate n (x,y)):=by
 obtain ⟨cur,h1,h2,h3⟩:=h;refine ⟨cur,h1,by rw [List.length_replicate];exact h2,fun i hi=>?_⟩;rw [List.length_replicate] at hi;rw [List.getElem_replicate];exact h3 i hi
def spFill (x y:Int):Nat->List Value
 | 0=>[]
 | m+1=>.int .i64 x :: .int .i64 y :: spFill x y m
theorem zC (x y:Int):∀ m,(spFill x y m).length=m*2
 | 0=>rfl
 | m+1=>by simp [spFill,zC x y m];omega
theorem vI (x y:Int):∀ m i,i<m->(spFill x y m)[i*2]?=some (.int .i64 x)/\(spFill x y m)[i*2+1]?=some (.int .i64 y)
 | 0,i,h=>absurd h (Nat.not_lt_zero _)
 | m+1,0,h=>⟨rfl,rfl⟩
 | m+1,i+1,h=>by
  have:=vI x y m i (by omega);have e1:(i+1)*2=i*2+1+1:=(by omega);rw [e1];exact this
theorem zBA (x y:Int):∀ m,∀ v ∈ spFill x y m,v.oneCell'=true
 | 0,v,h=>by cases h
 | m+1,v,h=>by
  simp only [spFill,List.mem_cons] at h;rcases h with rfl | rfl | h
  ·rfl
  ·rfl
  ·exact zBA x y m v h
theorem zBB (x y:Int) (m j:Nat) (v:Value) (h:(spFill x y m)[j]?=some v):∃ i,i<m/\((j=i*2/\v=.int .i64 x)\/(j=i*2+1/\v=.int .i64 y)):=by
 have hj:j<(spFill x y m).length:=by
  rcases Nat.lt_or_ge j (spFill x y m).length with q | q
  ·exact q
  ·rw [List.getElem?_eq_none q] at h;cases h
 rw [zC] at hj;refine ⟨j / 2,by omega,?_⟩;have hs:=vI x y m (j / 2) (by omega);rcases Nat.mod_two_eq_zero_or_one j with e | e
 ·left
  have ej:j=j / 2*2:=(by omega);refine ⟨ej,?_⟩;rw [ej,hs.1] at h;injection h with h;exact h.symm
 ·right
  have ej:j=j / 2*2+1:=(by omega);refine ⟨ej,?_⟩;rw [ej,hs.2] at h;injection h with h;exact h.symm
theorem seg_lo {cur cs:List Value} {o j:Nat} (h:j<o) (ho:o<=cur.length):(cur.take o++cs++cur.drop (o+cs.length))[j]?=cur[j]?:=by
 rw [List.append_assoc,List.getElem?_append_left (by rw [List.length_take];omega),List.getElem?_take,if_pos h]
theorem seg_mid {cur cs:List Value} {o j:Nat} (h:o<=j) (h2:j<o+cs.length) (ho:o<=cur.length):(cur.take o++cs++cur.drop (o+cs.length))[j]?=cs[j-o]?:=by
 have hl:(cur.take o).length=o:=(by rw [List.length_take];omega);rw [List.append_assoc,List.getElem?_append_right (by rw [hl];exact h),hl,List.getElem?_append_left (by omega)]
theorem RpB.copy {w:World} {g n c m:Nat} {x y:Int} (h:RpB w g n c x y) (hm:c+m<=n) (sLen sCap dCap:Nat) (hmin:Nat.min sLen (n-c)=m) (a:Addr) (hsrc:∀ j v,(spFill x y m)[j]?=some v->w.cell? (a.add j)=some v) :
  ∃ w',(Builtin.copy_ #[29,29] 3 #[.slice (some ⟨g,c*2,none⟩) (n-c) dCap,.slice (some a) sLen sCap]).run Tryz.prog w=.ok (.int .i64 (m:Int)) w'/\RpB w' g n (c+m) x y/\w'.heap.size=w.heap.size/\Aside [g] w.heap.size w w':=by
 obtain ⟨cur,h1,h2,h3⟩:=h;have hr:=run_copyK (P:=Tryz.prog) w 29 29 3 44 g (c*2) (n-c) dCap a sLen sCap 2 cur 44 (spFill x y m) Tryz.underlying29 (by kernel_rfl) h1 (by rw [zC,hmin]) hsrc (by rw [zC,h2];omega) (zBA x y m);rw [hmin] at hr;have hlt:=zG h1;have hl:cur.toList.length=n*2:=(by simpa using h2);refine ⟨_,hr,⟨_,setRow_heap w g cur _ 44 (0,0) h1,?_,fun i hi=>?_⟩,?_,?_⟩
 ·simp only [List.size_toArray,List.length_append,List.length_take,List.length_drop,zC,hl]
  omega
 ·rw [gT,gT]
  by_cases hic:i<c
  ·have:=h3 i hic
   rw [seg_lo (by omega) (by omega),seg_lo (by omega) (by omega)]
   simpa using this
  ·have hs:=vI x y m (i-c) (by omega)
   rw [seg_mid (by omega) (by rw [zC];omega) (by omega),seg_mid (by omega) (by rw [zC];omega) (by omega)];have e1:i*2-c*2=(i-c)*2:=(by omega);have e2:i*2+1-c*2=(i-c)*2+1:=(by omega);rw [e1,e2];exact hs
 ·simp [World.setRow]
 ·refine ⟨rfl,rfl,rfl,by simp [World.setRow],fun k hk hn=>?_⟩
  have hne:k≠g:=(by simpa using hn);simp [World.setRow,Array.getElem?_modify,Ne.symm hne]
theorem repeat12_any {w:World} {xb:Nat} {x y:Int} (n:Nat) (hn:n<=1000) (hx:w.heap[xb]?=some (.cells #[.int .i64 x,.int .i64 y] 44 (0,0))) :
  Calls Tryz.prog 12 #[.slice (some ⟨xb,0,none⟩) 1 1,.int .i64 (n:Int)] w fun e w'=>∃ g,e=.returned (.slice (some ⟨g,0,none⟩) n n)/\w.heap.size<=g/\SpB w' g (List.replicate n (x,y))/\Below w.heap.size w w':=by
 obtain ⟨cur,hmk,hcur⟩:=make_spans n (by omega) w;have hw1:(IntKind.u64.wrap (1:Int))=1:=(by decide);have hw2:(IntKind.u64.wrap (n:Int))=(n:Int):=(by rw [IntKind.wrap_u64];omega);have hw3:wrap64 (n:Int)=(n:Int):=(by unfold wrap64;omega);have hmul:=mul22_any n (by omega) w;have b1:Below w.heap.size w (w.alloc (.cells cur 44 (0,0))):=(Below.refl _ _).alloc zL _;have k1:=zH w (.cells cur 44 (0,0));have hx1:=(b1.block _ (zG hx)).trans hx;have hxw:=zG hx;have hge:¬((n:Int)<0):=(by omega);have r0:RpB (w.alloc (.cells cur 44 (0,0))) w.heap.size n 0 x y:=⟨cur,k1,hcur,fun i hi=>absurd hi (Nat.not_lt_zero _)⟩;obtain ⟨m0,hm0⟩:∃ m0,Nat.min 1 n=m0:=⟨_,rfl⟩;have hm1:m0<=n:=(by rw [<-hm0];exact Nat.min_le_right 1 n);have hm3:m0<=1:=(by rw [<-hm0];exact Nat.min_le_left 1 n);have hm2:m0=0->n=0:=by
  intro e;rw [e] at hm0;rcases Nat.eq_zero_or_pos n with q | q
  ·exact q
  ·have:Nat.min 1 n=1:=Nat.min_eq_left q
   omega
 obtain ⟨w2,hrun,r2,hs2,a2⟩:=RpB.copy (m:=m0) r0 (by omega) 1 1 n (by rw [Nat.sub_zero];exact hm0) ⟨xb,0,none⟩ (fun j v hv=>by
  obtain ⟨i,hi,h⟩:=zBB x y _ j v hv;have e0:i=0:=(by omega);subst e0;have adds:∀ j,(⟨xb,0,none⟩:Addr).add j=⟨xb,0+j,none⟩:=fun j=>by unfold Addr.add;split<;>simp_all
  rw [adds];rcases h with ⟨rfl,rfl⟩ | ⟨rfl,rfl⟩<;>simp [World.cell?,hx1])
 rw [Nat.zero_add] at r2;rw [Nat.zero_mul,Nat.sub_zero] at hrun;have HM2:=zD hm2;have HR2:=zD r2;have B2:Below w.heap.size w w2:=b1.trans ((a2.mono (by simp)).below (fun k hk=>by simp at hk;omega));have HB2:=zD B2;have hgl:w.heap.size<w2.heap.size:=(by rw [hs2];simp);clear hx hx1 k1 r0 hcur r2 hm0 hm2 b1 a2 B2 hs2;go_enter Tryz.func12,Tryz.ntmps12;go_wp2_with fail;refine hmul.mono ?_;rintro e w0 ⟨rfl,hw0⟩;rw [hw0];clear hw0;clear hmul
 go_wp2_with (at_builtin;refine Lib.wpList_copy_run _ rfl _ _ 29 29 rfl _ _ rfl rfl hrun ?_)
 go_loopg [8] (n-m0) (fun k v wr=>∃ c,c<=n/\k=n-c/\v=.int .i64 (c:Nat)/\Hid (c=0->n=0)/\Hid (RpB wr w.heap.size n c x y)/\Below w.heap.size w wr/\w.heap.size<wr.heap.size)
 case atStart=>exact ⟨m0,hm1,rfl,rfl,HM2,HR2,HB2.out,hgl⟩
 case round=>
  clear HM2 HR2 HB2 hrun hm3;obtain ⟨c,hc,rfl,rfl,HC,HR,hbr,hgr⟩:=hrel;by_cases hlt:c<n
  case neg=>
   have hin:c=n:=(by omega);subst hin;go_wp2;go_ret;exact ⟨w.heap.size,rfl,Nat.le_refl _,HR.out.all,hbr⟩
  case pos=>
   have hc1:1<=c:=by
    rcases Nat.eq_zero_or_pos c with q | q
    ·have:=HC.out q;omega
    ·exact q
   obtain ⟨m,hm⟩:∃ m,Nat.min c (n-c)=m:=⟨_,rfl⟩;have hmc:m<=c:=(by rw [<-hm];exact Nat.min_le_left _ _);have hmn:m<=n-c:=(by rw [<-hm];exact Nat.min_le_right _ _);have hmp:1<=m:=(by rw [<-hm];exact Nat.le_min.2 ⟨hc1,by omega⟩);have bD:Below wr.heap.size wr wr.drew:=(Below.refl _ _).drew;have hRd:RpB wr.drew w.heap.size n c x y:=by
    obtain ⟨cur,h1,h2⟩:=HR.out;exact ⟨cur,(bD.block _ hgr).trans h1,h2⟩
   obtain ⟨w3,hrun3,r3,hs3,a3⟩:=hRd.copy (m:=m) (by omega) c n (n-c) hm ⟨w.heap.size,0,none⟩ (fun j v hv=>by
    obtain ⟨i,hi,h⟩:=zBB x y _ j v hv;have adds:∀ j,(⟨w.heap.size,0,none⟩:Addr).add j=⟨w.heap.size,0+j,none⟩:=fun j=>by unfold Addr.add;split<;>simp_all
    rw [adds];obtain ⟨cur,h1,h2,h3⟩:=hRd;have h4:=h3 i (by omega);rcases h with ⟨rfl,rfl⟩ | ⟨rfl,rfl⟩
    ·simp [World.cell?,h1,h4.1]
    ·simp [World.cell?,h1,h4.2])
   have hcl:c+m<=n:=(by omega);have hcm:c+m<=1000:=(by omega);have HWR:=zD (show IntKind.i64.wrap ((c:Int)+(m:Int))=(c:Int)+(m:Int) by simp [IntKind.wrap,IntKind.signed,IntKind.bits];omega);have HR3:=zD r3;have BD:=hbr.trans (bD.mono hbr.size);have B3:Below w.heap.size w w3:=BD.trans ((a3.mono BD.size).below (fun k hk=>by simp at hk;omega));have hg3:w.heap.size<w3.heap.size:=(by rw [hs3];have:=bD.size;omega);obtain ⟨wd,hwd⟩:=nmQ (wr.drew);rw [<-hwd] at hrun3;clear hm HR HC hRd r3 hs3 a3 bD BD hbr;go_upto_region 9 with fail;refine zK (fun _=>True) (fun _=>false) (by kernel_rfl) ?_;rw [<-hwd];clear hwd;refine' tkR 0 38 trivial ?o1
   refine' tkR 1 39 trivial ?o2
   refine' tkR 2 40 trivial ?o3
   refine' zS (i:=3) (oi:=⟨some 41,_,_,_,_,_⟩) (v:=.slice (some ⟨w.heap.size,c*2,none⟩) (n-c) (n-c)) rfl (by kernel_rfl) (by kernel_rfl) (by kernel_rfl) (by kernel_rfl) (fun _ _ _ h=>h) trivial (by rfl) ?hyv ?o4
   case hyv=>
    intro wz hSw;go_simp
    try (intro hh;omega)
    try rfl
   try simp only [Act.put,sT,sZ,sS]
   refine' tkR 4 42 trivial ?o5
   refine' tkR 5 43 trivial ?o6
   refine' zS (i:=6) (oi:=⟨some 44,_,_,_,_,_⟩) (v:=.slice (some ⟨w.heap.size,0,none⟩) c n) rfl (by kernel_rfl) (by kernel_rfl) (by kernel_rfl) (by kernel_rfl) (fun _ _ _ h=>h) trivial (by rfl) ?hyv ?o7
   case hyv=>
    intro wz hSw;go_simp
    try (intro hh;omega)
    try rfl
   try simp only [Act.put,sT,sZ,sS]
   refine zAb (i:=7) (o:=⟨some 45,_,_,_,_,_⟩) rfl (by kernel_rfl) (by rfl) (fun K hK=>?_);refine Lib.wp_copy_run _ _ _ 29 29 rfl _ _ (by rfl) (by rfl) hrun3 ?_;refine hK.out _ _ (fun _=>trivial) ?_;clear hK K
   try simp only [Act.put,sT,sZ,sS]
   refine' tkR 8 46 trivial ?o8
   refine' tkR 9 8 trivial ?o9
   refine zJ (by kernel_rfl) ?_ _;go_wp2_with fail;go_roundg (n-(c+m))
   case measure=>omega
   case rel=>exact ⟨c+m,hcl,rfl,by rw [HWR.out,Int.natCast_add],zD (fun h=>by omega),HR3,B3,hg3⟩
structure SpV (w:World) (sb g:Nat) (l:List Sk.Sp):Prop where
 var:w.heap[sb]?=some (.cells #[.slice (some ⟨g,0,none⟩) l.length l.length] 29 (0,0))
 row:SpB w g l
 ne:sb≠g
theorem SpV.keep {w w':World} {sb g:Nat} {l:List Sk.Sp} (h:SpV w sb g l) (h1:w'.heap[sb]?=w.heap[sb]?) (h2:w'.heap[g]?=w.heap[g]?):SpV w' sb g l:=⟨h1.trans h.var,h.row.keep h2,h.ne⟩
theorem SpV.under {w w':World} {sb g:Nat} {l:List Sk.Sp} (h:SpV w sb g l) (b:Below w.heap.size w w'):SpV w' sb g l:=h.keep (b.block _ (zG h.var)) (b.block _ h.row.lt)
theorem SpV.len {w:World} {sb g:Nat} {l l':List Sk.Sp} (h:SpV w sb g l) (e:l=l'):SpV w sb g l':=e ▸ h
theorem vT {w:World} {sb g:Nat} {l:List Sk.Sp} (h:SpV w sb g l) (p:Int) (v:Nat) (hv:v<l.length) (hl:l.length<=1000) :
  Calls Tryz.prog 14 #[.int .i64 p,.int .i64 (v:Int),.pointer (some ⟨sb,0,none⟩)] w fun e w'=>e=.returned (.tuple #[])/\SpV w' sb g (l.set v (p,p))/\Aside [g] w.heap.size w w':=by
 have c0:=coQ h.var 0;simp at c0;obtain ⟨x0,x1⟩:=h.row.at hv;have f0:=h.row.free (v*2);have f1:=h.row.free (v*2+1);have hA:Aside [g] w.heap.size w ((w.setCell ⟨g,v*2,none⟩ (.int .i64 p)).setCell ⟨g,v*2+1,none⟩ (.int .i64 p)):=(Aside.setCell (p:=⟨g,v*2,none⟩) (by simp) _).trans (Aside.setCell (B:=w.heap.size) (p:=⟨g,v*2+1,none⟩) (by simp) _) zL;have HEND:=zD (show SpV ((w.setCell ⟨g,v*2,none⟩ (.int .i64 p)).setCell ⟨g,v*2+1,none⟩ (.int .i64 p)) sb g (l.set v (p,p)) from ⟨by rw [List.length_set];exact zQ (zQ h.var (Ne.symm h.ne) _) (Ne.symm h.ne) _,h.row.set hv p p,h.ne⟩);have HA:=zD hA;generalize (l[v]).1=q1 at x0;generalize (l[v]).2=q2 at x1;obtain ⟨n,hn⟩:=nmQ (l.length);rw [<-hn] at c0 hl;have hvn:v<n:=(by omega);clear h hA hv hn;go_enter Tryz.func14,Tryz.ntmps14;go_wp2;refine bodyPost_end (v:=.tuple #[]) (by simp [results,Tryz.results14,go_sem]) rfl ?_;exact ⟨rfl,HEND.out,HA.out⟩
theorem eg14:∀ args w,(callFunc 14 args).run Tryz.prog w=.ok (.enter 14 args) w:=enters_of Tryz.func14 (by kernel_rfl) rfl
theorem eg16:∀ args w,(callFunc 16 args).run Tryz.prog w=.ok (.enter 16 args) w:=enters_of Tryz.func16 (by kernel_rfl) rfl
theorem zO {w:World} {sb g:Nat} {l:List Sk.Sp} (h:SpV w sb g l) (p:Int) (v:Nat) (hv:v<l.length) (hl:l.length<=1000) :
  Calls Tryz.prog 16 #[.int .i64 p,.int .i64 (v:Int),.pointer (some ⟨sb,0,none⟩)] w fun e w'=>e=.returned (.tuple #[])/\SpV w' sb g (Sk.upTo l (v:Int) p)/\Aside [g] w.heap.size w w':=by
 have c0:=coQ h.var 0;simp at c0;obtain ⟨x0,x1⟩:=h.row.at hv;have yS:=zG h.var;have yG:=h.row.lt;have eU:Sk.upTo l (v:Int) p=l.set v ((l[v]).1,max (l[v]).2 p):=by
  unfold Sk.upTo Sk.spAt;rw [Int.toNat_natCast,List.getD_eq_getElem?_getD,List.getElem?_eq_getElem hv];rfl
 rw [eU];have HH:=zD h;obtain ⟨q1,hq1⟩:=nmQ ((l[v]).1);rw [<-hq1];have HQ1:=zD (show ∀ hv':v<l.length,(l[v]'hv').1=q1 from fun _=>hq1.symm);generalize (l[v]).2=q2 at x1
 obtain ⟨n,hn⟩:=nmQ (l.length);rw [<-hn] at c0 hl;have hvn:v<n:=(by omega);have HV:=zD hv;clear h eU hv hn hq1 x0;go_enter Tryz.func16,Tryz.ntmps16;refine zK (fun w'=>Below w.heap.size w w') (fun i=>i==11) (by kernel_rfl) ?_;have hH0:Below w.heap.size w w.drew:=(Below.refl _ _).drew;generalize w.drew=wd0 at hH0 ⊢;refine' tkQ 0 5 hH0 ?hyv ?o1
 case hyv=>
  intro wz hSw;have zc0:=(hSw.cell (p:=⟨sb,0,none⟩) yS).trans c0;have zc1:=(hSw.cell (p:=⟨g,v*2+1,none⟩) yG).trans x1;go_simp
  try rfl
 try simp only [Act.put,sT,sZ,sS]
 refine' tkR 1 6 hH0 ?o2
 refine' tkQ 2 7 hH0 ?hyv ?o3
 case hyv=>
  intro wz hSw;have zc0:=(hSw.cell (p:=⟨sb,0,none⟩) yS).trans c0;have zc1:=(hSw.cell (p:=⟨g,v*2+1,none⟩) yG).trans x1;go_simp
  try rfl
 try simp only [Act.put,sT,sZ,sS]
 refine' tkR 3 8 hH0 ?o4
 refine' tkR 4 9 hH0 ?o5
 refine' tkR 5 10 hH0 ?o6
 refine' tkQ 6 11 hH0 ?hyv ?o7
 case hyv=>
  intro wz hSw;have zc0:=(hSw.cell (p:=⟨sb,0,none⟩) yS).trans c0;have zc1:=(hSw.cell (p:=⟨g,v*2+1,none⟩) yG).trans x1;go_simp
  try rfl
 try simp only [Act.put,sT,sZ,sS]
 refine' tkR 7 12 hH0 ?o8
 refine' tkR 8 13 hH0 ?o9
 refine tnQ 9 (fun K hK=>?_);go_simp;have hH1:=hH0;obtain ⟨wd1,hwd1⟩:=nmQ (wd0);rw [<-hwd1] at hH1;refine hK.out _ _ (fun _=>by rw [<-hwd1];exact hH1) ?_;clear hK K
 try simp only [Act.put,sT,sZ,sS]
 rw [<-hwd1];clear hwd1;refine' tkR 10 15 hH1 ?o10
 refine tnQ 11 (fun K hK=>?_);have hr:=HH.out.under hH1;obtain ⟨-,st1⟩:=hr.row.at HV.out;have ff1:=hr.row.free (v*2+1);have hne:=HH.out.ne;have HEND:=zD (show SpV (wd1.setCell ⟨g,v*2+1,none⟩ (.int .i64 (max q2 p))) sb g (l.set v (q1,max q2 p)) from ⟨by rw [List.length_set];exact zQ hr.var (Ne.symm hne) _,by have h5:=hr.row.setTo HV.out (max q2 p);rw [HQ1.out HV.out] at h5;exact h5,hne⟩);have HA:=zD (show Aside [g] w.heap.size w (wd1.setCell ⟨g,v*2+1,none⟩ (.int .i64 (max q2 p))) from (aside hH1).trans (Aside.setCell (B:=w.heap.size) (p:=⟨g,v*2+1,none⟩) (by simp) _) zL);clear hr hne;go_simp;refine hK.out _ _ (fun h=>absurd h (by decide)) ?_;clear hK K
 try simp only [Act.put,sT,sZ,sS]
 clear st1 ff1;generalize wd1.setCell ⟨g,v*2+1,none⟩ (.int .i64 (max q2 p))=wd2 at HEND HA ⊢;refine zJ (by kernel_rfl) ?_ _;go_wp2;refine bodyPost_end (v:=.tuple #[]) (by simp [results,Tryz.results16,go_sem]) rfl ?_;exact ⟨rfl,HEND.out,HA.out⟩
end Go.Proofs.YtoldepieaafakaaGreatDoor
