import Derived.Test.YtegakbobaecdlaaGreatDoorG31
import Derived.Shelf.Bits.Mul64
import Derived.Laws.CopyRow
import Derived.Lib.SlBuf
set_option linter.unusedVariables false
set_option linter.unusedSimpArgs false
set_option maxHeartbeats 64000000
set_option maxRecDepth 100000
namespace Go.Proofs.YtegakbobaecdlaaGreatDoor
open Go.RowKit Go.IntWalk
theorem Tryz.infoSp:(Tryz.prog.info? 57).map (fun i=>(i.zero,i.size,i.bytes))=some (some (.agg #[.int .i64 0,.int .i64 0]),2,16):=by kernel_rfl
def SpB (w:World) (g:Nat) (l:List Sk.Sp):Prop:=∃ cur:Array Value,w.heap[g]?=some (.cells cur 57 (0,0))/\cur.size=l.length*2/\∀ i (h:i<l.length),cur[i*2]?=some (.int .i64 (l[i]).1)/\cur[i*2+1]?=some (.int .i64 (l[i]).2)
theorem SpB.lt {w:World} {g:Nat} {l:List Sk.Sp} (h:SpB w g l):g<w.heap.size:=by
 obtain ⟨cur,h1,-⟩:=h;exact zH h1
theorem SpB.keep {w w':World} {g:Nat} {l:List Sk.Sp} (h:SpB w g l) (hk:w'.heap[g]?=w.heap[g]?):SpB w' g l:=by
 obtain ⟨cur,h1,h2⟩:=h;exact ⟨cur,hk.trans h1,h2⟩
theorem SpB.under {w w':World} {g:Nat} {l:List Sk.Sp} (h:SpB w g l) (b:Below w.heap.size w w'):SpB w' g l:=h.keep (b.block _ h.lt)
theorem SpB.at {w:World} {g:Nat} {l:List Sk.Sp} (h:SpB w g l) {i:Nat} (hi:i<l.length):w.cell? ⟨g,i*2,none⟩=some (.int .i64 (l[i]).1)/\w.cell? ⟨g,i*2+1,none⟩=some (.int .i64 (l[i]).2):=by
 obtain ⟨cur,h1,h2,h3⟩:=h;have:=h3 i hi;exact ⟨by simp [World.cell?,h1,this.1],by simp [World.cell?,h1,this.2]⟩
theorem SpB.free {w:World} {g:Nat} {l:List Sk.Sp} (h:SpB w g l) (o:Nat):w.frozen? ⟨g,o,none⟩=false:=by
 obtain ⟨cur,h1,-⟩:=h;exact foQ h1 o
theorem SpB.setTo {w:World} {g:Nat} {l:List Sk.Sp} (h:SpB w g l) {i:Nat} (hi:i<l.length) (b:Int):SpB (w.setCell ⟨g,i*2+1,none⟩ (.int .i64 b)) g (l.set i ((l[i]).1,b)):=by
 obtain ⟨cur,h1,h2,h3⟩:=h;refine ⟨_,zO h1 (i*2+1) (.int .i64 b),by simp [h2],fun j hj=>?_⟩;rw [List.length_set] at hj;have hs:=h3 j hj;rw [Array.getElem?_setIfInBounds,Array.getElem?_setIfInBounds,if_neg (by omega)];by_cases e:j=i
 ·subst e
  rw [if_pos rfl,if_pos (by rw [h2];omega)];simp [hs.1]
 ·rw [if_neg (by omega)]
  rw [List.getElem_set_ne (by omega)];exact hs
theorem SpB.set {w:World} {g:Nat} {l:List Sk.Sp} (h:SpB w g l) {i:Nat} (hi:i<l.length) (a b:Int):SpB ((w.setCell ⟨g,i*2,none⟩ (.int .i64 a)).setCell ⟨g,i*2+1,none⟩ (.int .i64 b)) g (l.set i (a,b)):=by
 obtain ⟨cur,h1,h2,h3⟩:=h;refine ⟨_,zO (zO h1 (i*2) (.int .i64 a)) (i*2+1) (.int .i64 b),by simp [h2],fun j hj=>?_⟩;rw [List.length_set] at hj;have hs:=h3 j hj;rw [Array.getElem?_setIfInBounds,Array.getElem?_setIfInBounds,Array.getElem?_setIfInBounds,Array.getElem?_setIfInBounds,if_neg (by omega)];by_cases e:j=i
 ·subst e
  rw [if_pos rfl,if_pos (by rw [h2];omega),if_pos rfl,if_pos (by simp [h2];omega)];simp
 ·rw [if_neg (by omega),if_neg (by omega),if_neg (by omega)]
  rw [List.getElem_set_ne (by omega)];exact hs
theorem make_spans (c:Nat) (hn:c<=1000000) (V:World):∃ cur:Array Value,(Instr.makeSlice 51 (.int .i64 (c:Int)) (.int .i64 (c:Int))).run Tryz.prog V=.ok (.slice (some ⟨V.heap.size,0,none⟩) c c) (V.alloc (.cells cur 57 (0,0)))/\cur.size=c*2:=by
 obtain ⟨i0,hi,hz0,hz1,hz2⟩:=info_parts Tryz.infoSp;have h:=run_make (P:=Tryz.prog) V 51 57 i0 (.agg #[.int .i64 0,.int .i64 0]) Tryz.underlying51 hi hz0 .i64 .i64 (c:Int) (c:Int) (by omega) (by omega) (by rw [hz2];simp;omega) (by omega);refine ⟨madeCells (Value.agg #[.int .i64 0,.int .i64 0]).cells (((c:Int)).toNat*i0.size),by simpa using h,?_⟩;rw [hz1];simp [madeCells]
theorem run_copyK {P:Program} (w:World) (dT sT ty elem:TypeId) (g o dLen dCap:Nat) (a:Addr) (sLen sCap k:Nat) (cur:Array Value) (t:TypeId) (cs:List Value)
  (hu:P.underlying dT=some (.slice elem)) (hs:(P.info? elem).map (·.size)=some k)
  (hg:w.heap[g]?=some (.cells cur t (0,0))) (hn:cs.length=Nat.min sLen dLen*k)
  (hsrc:∀ j v,cs[j]?=some v->w.cell? (a.add j)=some v) (hfit:o+cs.length<=cur.size) (h1:∀ v ∈ cs,v.oneCell'=true) :
  (Builtin.copy_ #[dT,sT] ty #[.slice (some ⟨g,o,none⟩) dLen dCap,.slice (some a) sLen sCap]).run P w =
   .ok (goInt (Nat.min sLen dLen)) (w.setRow g (cur.toList.take o++cs++cur.toList.drop (o+cs.length)).toArray):=by
 have hl:=run_loadCells_list (P:=P) w a cs hsrc;have hst:=run_storeCells_at P g o t cs 0 cur w hg (by simpa using hfit) h1
 cases hq:P.info? elem with
 | none=>simp [hq] at hs
 | some i=>
  have hi:i.size=k:=(by simpa [hq] using hs);simp [Builtin.copy_,run_underlying hu,Builtin.lenOf,Builtin.firstCells,sizeOf,typeInfo,hq,hi,<-hn,hl,hst]
theorem mul49_any (x y:Nat) (hx:x<18446744073709551616) (hy:y<18446744073709551616) (w:World) :
  Calls Tryz.prog 128 #[.int .u64 x,.int .u64 y] w fun e w'=>e=.returned (.tuple #[.int .u64 ((x*y / 18446744073709551616:Nat):Int),.int .u64 ((x*y % 18446744073709551616:Nat):Int)])/\w'=w:=by
 obtain ⟨bd,bt,bw,hhi⟩:=Lib.mul64_hi x y hx hy;have ba:=Lib.half_mul_le (a:=x / 4294967296) (b:=y / 4294967296) (by omega) (by omega);have bb:=Lib.half_mul_le (a:=x / 4294967296) (b:=y % 4294967296) (by omega) (by omega);have bc:=Lib.half_mul_le (a:=x % 4294967296) (b:=y / 4294967296) (by omega) (by omega);have ba':x / 4294967296*(y / 4294967296)<18446744073709551616:=(by omega);have bb':x / 4294967296*(y % 4294967296)<18446744073709551616:=(by omega);have bc':x % 4294967296*(y / 4294967296)<18446744073709551616:=(by omega);have bh1:x / 4294967296*(y / 4294967296)+(x / 4294967296*(y % 4294967296)+x % 4294967296*(y % 4294967296) / 4294967296) / 4294967296<18446744073709551616:=(by omega);have bh:x / 4294967296*(y / 4294967296)+(x / 4294967296*(y % 4294967296)+x % 4294967296*(y % 4294967296) / 4294967296) / 4294967296+((x / 4294967296*(y % 4294967296)+x % 4294967296*(y % 4294967296) / 4294967296) % 4294967296+x % 4294967296*(y / 4294967296)) / 4294967296<18446744073709551616:=(by omega);go_enter Tryz.func128,Tryz.ntmps128;go_wp2;simp only [Mul64.maskN x hx,Mul64.maskN y hy,Mul64.divN,Mul64.mulN,Mul64.addN,Mul64.wrapN _ bd,Mul64.wrapN _ bb',Mul64.wrapN _ bt,Mul64.maskN _ bt,Mul64.wrapN _ bc',Mul64.wrapN _ bw,Mul64.wrapN _ ba',Mul64.wrapN _ bh1,Mul64.wrapN _ bh,Mul64.wrapM (x*y)];rw [hhi]
 go_ret2
 exact ⟨rfl,rfl⟩
theorem mul22_any (n:Nat) (hn:n<18446744073709551616) (w:World) :
  Calls Tryz.prog 104 #[.int .u64 1,.int .u64 (n:Int)] w fun e w'=>e=.returned (.tuple #[.int .u64 0,.int .u64 (n:Int)])/\w'=w:=by
 have h:=mul49_any 1 n (by omega) hn w;rw [Nat.one_mul,Nat.div_eq_of_lt hn,Nat.mod_eq_of_lt hn] at h;go_enter Tryz.func104,Tryz.ntmps104;go_wp2_with fail;refine h.mono ?_;rintro e w2 ⟨rfl,hw⟩;subst hw;go_wp2
 go_ret2
 exact ⟨rfl,rfl⟩
def RpB (w:World) (g n c:Nat) (x y:Int):Prop:=∃ cur:Array Value,w.heap[g]?=some (.cells cur 57 (0,0))/\cur.size=n*2/\∀ i,i<c->cur[i*2]?=some (.int .i64 x)/\cur[i*2+1]?=some (.int .i64 y)
theorem RpB.lt {w:World} {g n c:Nat} {x y:Int} (h:RpB w g n c x y):g<w.heap.size:=by
 obtain ⟨cur,h1,-⟩:=h;exact zH h1
theorem RpB.all {w:World} {g n:Nat} {x y:Int} (h:RpB w g n n x y):SpB w g (List.replicate n (x,y)):=by
 obtain ⟨cur,h1,h2,h3⟩:=h;refine ⟨cur,h1,by rw [List.length_replicate];exact h2,fun i hi=>?_⟩;rw [List.length_replicate] at hi;rw [List.getElem_replicate];exact h3 i hi
def spFill (x y:Int):Nat->List Value
 | 0=>[]
 | m+1=>.int .i64 x :: .int .i64 y :: spFill x y m
theorem xC (x y:Int):∀ m,(spFill x y m).length=m*2
 | 0=>rfl
 | m+1=>by simp [spFill,xC x y m];omega
theorem vH (x y:Int):∀ m i,i<m->(spFill x y m)[i*2]?=some (.int .i64 x)/\(spFill x y m)[i*2+1]?=some (.int .i64 y)
 | 0,i,h=>absurd h (Nat.not_lt_zero _)
 | m+1,0,h=>⟨rfl,rfl⟩
 | m+1,i+1,h=>by
  have:=vH x y m i (by omega);have e1:(i+1)*2=i*2+1+1:=(by omega);rw [e1];exact this
theorem zAE (x y:Int):∀ m,∀ v ∈ spFill x y m,v.oneCell'=true
 | 0,v,h=>by cases h
 | m+1,v,h=>by
  simp only [spFill,List.mem_cons] at h;rcases h with rfl | rfl | h
  ·rfl
  ·rfl
  ·exact zAE x y m v h
theorem zAF (x y:Int) (m j:Nat) (v:Value) (h:(spFill x y m)[j]?=some v):∃ i,i<m/\((j=i*2/\v=.int .i64 x)\/(j=i*2+1/\v=.int .i64 y)):=by
 have hj:j<(spFill x y m).length:=by
  rcases Nat.lt_or_ge j (spFill x y m).length with q | q
  ·exact q
  ·rw [List.getElem?_eq_none q] at h;cases h
 rw [xC] at hj;refine ⟨j / 2,by omega,?_⟩;have hs:=vH x y m (j / 2) (by omega);rcases Nat.mod_two_eq_zero_or_one j with e | e
 ·left
  have ej:j=j / 2*2:=(by omega);refine ⟨ej,?_⟩;rw [ej,hs.1] at h;injection h with h;exact h.symm
 ·right
  have ej:j=j / 2*2+1:=(by omega);refine ⟨ej,?_⟩;rw [ej,hs.2] at h;injection h with h;exact h.symm
theorem seg_lo {cur cs:List Value} {o j:Nat} (h:j<o) (ho:o<=cur.length):(cur.take o++cs++cur.drop (o+cs.length))[j]?=cur[j]?:=by
 rw [List.append_assoc,List.getElem?_append_left (by rw [List.length_take];omega),List.getElem?_take,if_pos h]
theorem seg_mid {cur cs:List Value} {o j:Nat} (h:o<=j) (h2:j<o+cs.length) (ho:o<=cur.length):(cur.take o++cs++cur.drop (o+cs.length))[j]?=cs[j-o]?:=by
 have hl:(cur.take o).length=o:=(by rw [List.length_take];omega);rw [List.append_assoc,List.getElem?_append_right (by rw [hl];exact h),hl,List.getElem?_append_left (by omega)]
theorem RpB.copy {w:World} {g n c m:Nat} {x y:Int} (h:RpB w g n c x y) (hm:c+m<=n) (sLen sCap dCap:Nat) (hmin:Nat.min sLen (n-c)=m) (a:Addr) (hsrc:∀ j v,(spFill x y m)[j]?=some v->w.cell? (a.add j)=some v) :
  ∃ w',(Builtin.copy_ #[51,51] 3 #[.slice (some ⟨g,c*2,none⟩) (n-c) dCap,.slice (some a) sLen sCap]).run Tryz.prog w=.ok (.int .i64 (m:Int)) w'/\RpB w' g n (c+m) x y/\w'.heap.size=w.heap.size/\Aside [g] w.heap.size w w':=by
 obtain ⟨cur,h1,h2,h3⟩:=h;have hr:=run_copyK (P:=Tryz.prog) w 51 51 3 57 g (c*2) (n-c) dCap a sLen sCap 2 cur 57 (spFill x y m) Tryz.underlying51 (by kernel_rfl) h1 (by rw [xC,hmin]) hsrc (by rw [xC,h2];omega) (zAE x y m);rw [hmin] at hr;have hlt:=zH h1;have hl:cur.toList.length=n*2:=(by simpa using h2);refine ⟨_,hr,⟨_,setRow_heap w g cur _ 57 (0,0) h1,?_,fun i hi=>?_⟩,?_,?_⟩
 ·simp only [List.size_toArray,List.length_append,List.length_take,List.length_drop,xC,hl]
  omega
 ·rw [gT,gT]
  by_cases hic:i<c
  ·have:=h3 i hic
   rw [seg_lo (by omega) (by omega),seg_lo (by omega) (by omega)]
   simpa using this
  ·have hs:=vH x y m (i-c) (by omega)
   rw [seg_mid (by omega) (by rw [xC];omega) (by omega),seg_mid (by omega) (by rw [xC];omega) (by omega)];have e1:i*2-c*2=(i-c)*2:=(by omega);have e2:i*2+1-c*2=(i-c)*2+1:=(by omega);rw [e1,e2];exact hs
 ·simp [World.setRow]
 ·refine ⟨rfl,rfl,rfl,by simp [World.setRow],fun k hk hn=>?_⟩
  have hne:k≠g:=(by simpa using hn);simp [World.setRow,Array.getElem?_modify,Ne.symm hne]
theorem repeat12_any {w:World} {xb:Nat} {x y:Int} (n:Nat) (hn:n<=1000) (hx:w.heap[xb]?=some (.cells #[.int .i64 x,.int .i64 y] 57 (0,0))) :
  Calls Tryz.prog 65 #[.slice (some ⟨xb,0,none⟩) 1 1,.int .i64 (n:Int)] w fun e w'=>∃ g,e=.returned (.slice (some ⟨g,0,none⟩) n n)/\w.heap.size<=g/\SpB w' g (List.replicate n (x,y))/\Below w.heap.size w w':=by
 obtain ⟨cur,hmk,hcur⟩:=make_spans n (by omega) w;have hw1:(IntKind.u64.wrap (1:Int))=1:=(by decide);have hw2:(IntKind.u64.wrap (n:Int))=(n:Int):=(by rw [IntKind.wrap_u64];omega);have hw3:wrap64 (n:Int)=(n:Int):=(by unfold wrap64;omega);have hmul:=mul22_any n (by omega) w;have b1:Below w.heap.size w (w.alloc (.cells cur 57 (0,0))):=(Below.refl _ _).alloc zL _;have k1:=zJ w (.cells cur 57 (0,0));have hx1:=(b1.block _ (zH hx)).trans hx;have hxw:=zH hx;have hge:¬((n:Int)<0):=(by omega);have r0:RpB (w.alloc (.cells cur 57 (0,0))) w.heap.size n 0 x y:=⟨cur,k1,hcur,fun i hi=>absurd hi (Nat.not_lt_zero _)⟩;obtain ⟨m0,hm0⟩:∃ m0,Nat.min 1 n=m0:=⟨_,rfl⟩;have hm1:m0<=n:=(by rw [<-hm0];exact Nat.min_le_right 1 n);have hm3:m0<=1:=(by rw [<-hm0];exact Nat.min_le_left 1 n);have hm2:m0=0->n=0:=by
  intro e;rw [e] at hm0;rcases Nat.eq_zero_or_pos n with q | q
  ·exact q
  ·have:Nat.min 1 n=1:=Nat.min_eq_left q
   omega
 obtain ⟨w2,hrun,r2,hs2,a2⟩:=RpB.copy (m:=m0) r0 (by omega) 1 1 n (by rw [Nat.sub_zero];exact hm0) ⟨xb,0,none⟩ (fun j v hv=>by
  obtain ⟨i,hi,h⟩:=zAF x y _ j v hv;have e0:i=0:=(by omega);subst e0;have adds:∀ j,(⟨xb,0,none⟩:Addr).add j=⟨xb,0+j,none⟩:=fun j=>by unfold Addr.add;split<;>simp_all
  rw [adds];rcases h with ⟨rfl,rfl⟩ | ⟨rfl,rfl⟩<;>simp [World.cell?,hx1])
 rw [Nat.zero_add] at r2;rw [Nat.zero_mul,Nat.sub_zero] at hrun;have HM2:=zG hm2;have HR2:=zG r2;have B2:Below w.heap.size w w2:=b1.trans ((a2.mono (by simp)).below (fun k hk=>by simp at hk;omega));have HB2:=zG B2;have hgl:w.heap.size<w2.heap.size:=(by rw [hs2];simp);clear hx hx1 k1 r0 hcur r2 hm0 hm2 b1 a2 B2 hs2;go_enter Tryz.func65,Tryz.ntmps65;go_wp2_with fail;refine hmul.mono ?_;rintro e w0 ⟨rfl,hw0⟩;rw [hw0];clear hw0;clear hmul
 go_wp2_with (at_builtin;refine Lib.wpList_copy_run _ rfl _ _ 51 51 rfl _ _ rfl rfl hrun ?_)
 go_loopg [8] (n-m0) (fun k v wr=>∃ c,c<=n/\k=n-c/\v=.int .i64 (c:Nat)/\Hid (c=0->n=0)/\Hid (RpB wr w.heap.size n c x y)/\Below w.heap.size w wr/\w.heap.size<wr.heap.size)
 case atStart=>exact ⟨m0,hm1,rfl,rfl,HM2,HR2,HB2.out,hgl⟩
 case round=>
  clear HM2 HR2 HB2 hrun hm3;obtain ⟨c,hc,rfl,rfl,HC,HR,hbr,hgr⟩:=hrel;by_cases hlt:c<n
  case neg=>
   have hin:c=n:=(by omega);subst hin;go_wp2;go_ret;exact ⟨w.heap.size,rfl,Nat.le_refl _,HR.out.all,hbr⟩
  case pos=>
   have hc1:1<=c:=by
    rcases Nat.eq_zero_or_pos c with q | q
    ·have:=HC.out q;omega
    ·exact q
   obtain ⟨m,hm⟩:∃ m,Nat.min c (n-c)=m:=⟨_,rfl⟩;have hmc:m<=c:=(by rw [<-hm];exact Nat.min_le_left _ _);have hmn:m<=n-c:=(by rw [<-hm];exact Nat.min_le_right _ _);have hmp:1<=m:=(by rw [<-hm];exact Nat.le_min.2 ⟨hc1,by omega⟩);have bD:Below wr.heap.size wr wr.drew:=(Below.refl _ _).drew;have hRd:RpB wr.drew w.heap.size n c x y:=by
    obtain ⟨cur,h1,h2⟩:=HR.out;exact ⟨cur,(bD.block _ hgr).trans h1,h2⟩
   obtain ⟨w3,hrun3,r3,hs3,a3⟩:=hRd.copy (m:=m) (by omega) c n (n-c) hm ⟨w.heap.size,0,none⟩ (fun j v hv=>by
    obtain ⟨i,hi,h⟩:=zAF x y _ j v hv;have adds:∀ j,(⟨w.heap.size,0,none⟩:Addr).add j=⟨w.heap.size,0+j,none⟩:=fun j=>by unfold Addr.add;split<;>simp_all
    rw [adds];obtain ⟨cur,h1,h2,h3⟩:=hRd;have h4:=h3 i (by omega);rcases h with ⟨rfl,rfl⟩ | ⟨rfl,rfl⟩
    ·simp [World.cell?,h1,h4.1]
    ·simp [World.cell?,h1,h4.2])
   have hcl:c+m<=n:=(by omega);have hcm:c+m<=1000:=(by omega);have HWR:=zG (show IntKind.i64.wrap ((c:Int)+(m:Int))=(c:Int)+(m:Int) by simp [IntKind.wrap,IntKind.signed,IntKind.bits];omega);have HR3:=zG r3;have BD:=hbr.trans (bD.mono hbr.size);have B3:Below w.heap.size w w3:=BD.trans ((a3.mono BD.size).below (fun k hk=>by simp at hk;omega));have hg3:w.heap.size<w3.heap.size:=(by rw [hs3];have:=bD.size;omega);obtain ⟨wd,hwd⟩:=nmQ (wr.drew);rw [<-hwd] at hrun3;clear hm HR HC hRd r3 hs3 a3 bD BD hbr;go_upto_region 9 with fail;refine zK (fun _=>True) (fun _=>false) (by kernel_rfl) ?_;rw [<-hwd];clear hwd;refine' tkR 0 38 trivial ?o1
   refine' tkR 1 39 trivial ?o2
   refine' tkR 2 40 trivial ?o3
   refine' zM (i:=3) (oi:=⟨some 41,_,_,_,_,_⟩) (v:=.slice (some ⟨w.heap.size,c*2,none⟩) (n-c) (n-c)) rfl (by kernel_rfl) (by kernel_rfl) (by kernel_rfl) (by kernel_rfl) (fun _ _ _ h=>h) trivial (by rfl) ?hyv ?o4
   case hyv=>
    intro wz hSw;go_simp
    try (intro hh;omega)
    try rfl
   try simp only [Act.put,sT,sZ,sS]
   refine' tkR 4 42 trivial ?o5
   refine' tkR 5 43 trivial ?o6
   refine' zM (i:=6) (oi:=⟨some 44,_,_,_,_,_⟩) (v:=.slice (some ⟨w.heap.size,0,none⟩) c n) rfl (by kernel_rfl) (by kernel_rfl) (by kernel_rfl) (by kernel_rfl) (fun _ _ _ h=>h) trivial (by rfl) ?hyv ?o7
   case hyv=>
    intro wz hSw;go_simp
    try (intro hh;omega)
    try rfl
   try simp only [Act.put,sT,sZ,sS]
   refine xV (i:=7) (o:=⟨some 45,_,_,_,_,_⟩) rfl (by kernel_rfl) (by rfl) (fun K hK=>?_);refine Lib.wp_copy_run _ _ _ 51 51 rfl _ _ (by rfl) (by rfl) hrun3 ?_;refine hK.out _ _ (fun _=>trivial) ?_;clear hK K
   try simp only [Act.put,sT,sZ,sS]
   refine' tkR 8 46 trivial ?o8
   refine' tkR 9 8 trivial ?o9
   refine zI (by kernel_rfl) ?_ _;go_wp2_with fail;go_roundg (n-(c+m))
   case measure=>omega
   case rel=>exact ⟨c+m,hcl,rfl,by rw [HWR.out,Int.natCast_add],zG (fun h=>by omega),HR3,B3,hg3⟩
end Go.Proofs.YtegakbobaecdlaaGreatDoor
