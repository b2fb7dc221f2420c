import Derived.Test.YtfhghlpfeeiaeaaGreatDoorX26
set_option linter.unusedVariables false
set_option linter.unusedSimpArgs false
set_option maxHeartbeats 64000000
set_option maxRecDepth 100000
namespace Go.Proofs.YtfhghlpfeeiaeaaGreatDoor
open Go.RowKit Go.IntWalk
theorem zCb (k:Int) (w:World) :
  Calls Tryz.prog 61 #[.int .i64 k] w fun r w'=>r=.returned (.tuple #[.int .u8 (Kd.opT k).1,.int .u8 (Kd.opT k).2.1,.int .i64 (Kd.opT k).2.2])/\Below w.heap.size w w':=by
 by_cases h1:k<1
 ·have e:Kd.opT k=(0,0,0):=by
   unfold Kd.opT;by_cases h0:k<0
   ·rw [if_pos (.inl h0)]
   ·have:k=0:=by omega
    subst this;rfl
  rw [e];go_enter Tryz.func61,Tryz.ntmps61;go_wp2;exact bodyPost_ret (v:=.tuple #[.int .u8 0,.int .u8 0,.int .i64 0]) (by simp [results,Tryz.results61,go_sem]) rfl ⟨rfl,Below.refl _ _⟩
 ·by_cases h2:14<k
  ·have e:Kd.opT k=(0,0,0):=by
    unfold Kd.opT;rw [if_pos (.inr (by omega))]
   rw [e];go_enter Tryz.func61,Tryz.ntmps61;go_wp2;exact bodyPost_ret (v:=.tuple #[.int .u8 0,.int .u8 0,.int .i64 0]) (by simp [results,Tryz.results61,go_sem]) rfl ⟨rfl,Below.refl _ _⟩
  ·have hk:k=1\/k=2\/k=3\/k=4\/k=5\/k=6\/k=7\/k=8\/k=9\/k=10\/k=11\/k=12\/k=13\/k=14:=by omega
   clear h1 h2;rcases hk with rfl | rfl | rfl | rfl | rfl | rfl | rfl | rfl | rfl | rfl | rfl | rfl | rfl | rfl
   ·have e:Kd.opT 1=(105,105,2):=by decide
    rw [e];clear e;go_enter Tryz.func61,Tryz.ntmps61;go_upto_region 8 with fail;go_quiet (fail);go_wp2;exact bodyPost_ret (v:=.tuple #[.int .u8 105,.int .u8 105,.int .i64 2]) (by simp [results,Tryz.results61,go_sem];exact ⟨rfl,rfl⟩) rfl ⟨rfl,zBX (Below.refl _ _) _⟩
   ·have e:Kd.opT 2=(105,105,2):=by decide
    rw [e];clear e;go_enter Tryz.func61,Tryz.ntmps61;go_upto_region 8 with fail;go_quiet (fail);go_wp2;exact bodyPost_ret (v:=.tuple #[.int .u8 105,.int .u8 105,.int .i64 2]) (by simp [results,Tryz.results61,go_sem];exact ⟨rfl,rfl⟩) rfl ⟨rfl,zBX (Below.refl _ _) _⟩
   ·have e:Kd.opT 3=(105,105,2):=by decide
    rw [e];clear e;go_enter Tryz.func61,Tryz.ntmps61;go_upto_region 8 with fail;go_quiet (fail);go_wp2;exact bodyPost_ret (v:=.tuple #[.int .u8 105,.int .u8 105,.int .i64 2]) (by simp [results,Tryz.results61,go_sem];exact ⟨rfl,rfl⟩) rfl ⟨rfl,zBX (Below.refl _ _) _⟩
   ·have e:Kd.opT 4=(105,105,2):=by decide
    rw [e];clear e;go_enter Tryz.func61,Tryz.ntmps61;go_upto_region 8 with fail;go_quiet (fail);go_wp2;exact bodyPost_ret (v:=.tuple #[.int .u8 105,.int .u8 105,.int .i64 2]) (by simp [results,Tryz.results61,go_sem];exact ⟨rfl,rfl⟩) rfl ⟨rfl,zBX (Below.refl _ _) _⟩
   ·have e:Kd.opT 5=(105,105,2):=by decide
    rw [e];clear e;go_enter Tryz.func61,Tryz.ntmps61;go_upto_region 8 with fail;go_quiet (fail);go_wp2;exact bodyPost_ret (v:=.tuple #[.int .u8 105,.int .u8 105,.int .i64 2]) (by simp [results,Tryz.results61,go_sem];exact ⟨rfl,rfl⟩) rfl ⟨rfl,zBX (Below.refl _ _) _⟩
   ·have e:Kd.opT 6=(105,105,2):=by decide
    rw [e];clear e;go_enter Tryz.func61,Tryz.ntmps61;go_upto_region 8 with fail;go_quiet (fail);go_wp2;exact bodyPost_ret (v:=.tuple #[.int .u8 105,.int .u8 105,.int .i64 2]) (by simp [results,Tryz.results61,go_sem];exact ⟨rfl,rfl⟩) rfl ⟨rfl,zBX (Below.refl _ _) _⟩
   ·have e:Kd.opT 7=(105,105,2):=by decide
    rw [e];clear e;go_enter Tryz.func61,Tryz.ntmps61;go_upto_region 8 with fail;go_quiet (fail);go_wp2;exact bodyPost_ret (v:=.tuple #[.int .u8 105,.int .u8 105,.int .i64 2]) (by simp [results,Tryz.results61,go_sem];exact ⟨rfl,rfl⟩) rfl ⟨rfl,zBX (Below.refl _ _) _⟩
   ·have e:Kd.opT 8=(105,98,2):=by decide
    rw [e];clear e;go_enter Tryz.func61,Tryz.ntmps61;go_upto_region 8 with fail;go_quiet (fail);go_wp2;exact bodyPost_ret (v:=.tuple #[.int .u8 105,.int .u8 98,.int .i64 2]) (by simp [results,Tryz.results61,go_sem];exact ⟨rfl,rfl⟩) rfl ⟨rfl,zBX (Below.refl _ _) _⟩
   ·have e:Kd.opT 9=(105,98,2):=by decide
    rw [e];clear e;go_enter Tryz.func61,Tryz.ntmps61;go_upto_region 8 with fail;go_quiet (fail);go_wp2;exact bodyPost_ret (v:=.tuple #[.int .u8 105,.int .u8 98,.int .i64 2]) (by simp [results,Tryz.results61,go_sem];exact ⟨rfl,rfl⟩) rfl ⟨rfl,zBX (Below.refl _ _) _⟩
   ·have e:Kd.opT 10=(98,98,2):=by decide
    rw [e];clear e;go_enter Tryz.func61,Tryz.ntmps61;go_upto_region 8 with fail;go_quiet (fail);go_wp2;exact bodyPost_ret (v:=.tuple #[.int .u8 98,.int .u8 98,.int .i64 2]) (by simp [results,Tryz.results61,go_sem];exact ⟨rfl,rfl⟩) rfl ⟨rfl,zBX (Below.refl _ _) _⟩
   ·have e:Kd.opT 11=(98,98,2):=by decide
    rw [e];clear e;go_enter Tryz.func61,Tryz.ntmps61;go_upto_region 8 with fail;go_quiet (fail);go_wp2;exact bodyPost_ret (v:=.tuple #[.int .u8 98,.int .u8 98,.int .i64 2]) (by simp [results,Tryz.results61,go_sem];exact ⟨rfl,rfl⟩) rfl ⟨rfl,zBX (Below.refl _ _) _⟩
   ·have e:Kd.opT 12=(98,98,2):=by decide
    rw [e];clear e;go_enter Tryz.func61,Tryz.ntmps61;go_upto_region 8 with fail;go_quiet (fail);go_wp2;exact bodyPost_ret (v:=.tuple #[.int .u8 98,.int .u8 98,.int .i64 2]) (by simp [results,Tryz.results61,go_sem];exact ⟨rfl,rfl⟩) rfl ⟨rfl,zBX (Below.refl _ _) _⟩
   ·have e:Kd.opT 13=(105,105,1):=by decide
    rw [e];clear e;go_enter Tryz.func61,Tryz.ntmps61;go_upto_region 8 with fail;go_quiet (fail);go_wp2;exact bodyPost_ret (v:=.tuple #[.int .u8 105,.int .u8 105,.int .i64 1]) (by simp [results,Tryz.results61,go_sem];exact ⟨rfl,rfl⟩) rfl ⟨rfl,zBX (Below.refl _ _) _⟩
   ·have e:Kd.opT 14=(98,98,1):=by decide
    rw [e];clear e;go_enter Tryz.func61,Tryz.ntmps61;go_upto_region 8 with fail;go_quiet (fail);go_wp2;exact bodyPost_ret (v:=.tuple #[.int .u8 98,.int .u8 98,.int .i64 1]) (by simp [results,Tryz.results61,go_sem];exact ⟨rfl,rfl⟩) rfl ⟨rfl,zBX (Below.refl _ _) _⟩
theorem zCE (k:Int) (w:World) :
  Calls Tryz.prog 62 #[.int .i64 k] w fun r w'=>r=.returned (.bool (Kd.folds k))/\Below w.heap.size w w':=by
 have hc:=zCb k w;unfold Kd.folds;generalize Kd.opT k=oq at hc ⊢;obtain ⟨tk,mk,n⟩:=oq
 dsimp only at hc ⊢
 go_enter Tryz.func62,Tryz.ntmps62;go_wp2_with fail;refine hc.mono ?_;rintro r w1 ⟨rfl,b1⟩;by_cases h2:n=2
 ·subst h2
  by_cases he:tk=mk
  ·subst he
   go_wp2;go_ret;exact ⟨by simp,b1⟩
  ·have OC:(tk==mk)=false:=by simpa using he
   go_wp2;go_ret;exact ⟨by simp [he],b1⟩
 ·have h3:(n==2)=false:=by simpa using h2
  go_wp2;go_ret;exact ⟨by simp [h2],b1⟩
theorem small79_any (n:Int) (w:World):Calls Tryz.prog 75 #[.int .i64 n] w fun e w'=>e=.returned (.bool (decide (-1000000<=n)&&decide (n<=1000000)))/\w=w':=by
 by_cases h1 : -1000000<=n
 case neg=>
  have hf:(decide (-1000000<=n)&&decide (n<=1000000))=false:=(by simp [h1]);rw [hf];go_enter Tryz.func75,Tryz.ntmps75;go_wp2;go_ret;exact ⟨rfl,rfl⟩
 case pos=>
  by_cases h2:n<=1000000
  case neg=>
   have hf:(decide (-1000000<=n)&&decide (n<=1000000))=false:=(by simp [h2]);rw [hf];go_enter Tryz.func75,Tryz.ntmps75;go_wp2;go_ret;exact ⟨rfl,rfl⟩
  case pos=>
   have hf:(decide (-1000000<=n)&&decide (n<=1000000))=true:=(by simp [h1,h2]);rw [hf];go_enter Tryz.func75,Tryz.ntmps75;go_wp2;go_ret;exact ⟨rfl,rfl⟩
end Go.Proofs.YtfhghlpfeeiaeaaGreatDoor
namespace Go.Proofs.YtfhghlpfeeiaeaaGreatDoor
open Go.RowKit Go.IntWalk
namespace Sk
theorem VrOk.ne {v:Vr} (h:VrOk v):v.elem≠0:=by rcases h.1 with e | e<;>rw [e]<;>decide
theorem treeL_step {V:List Vr} {n:Int} {st pre:List Int} {p:Pu} {r:List Pu} {tk:List Int} {mk:Int} (he:effect V p n st=(tk,mk)) (hm:mk≠0) (hs:st=pre++tk):treeL V n st (p :: r)=treeL V n (pre++[mk]) r:=by
 have h1:ends st tk=true:=by
  unfold ends;subst hs;simp
 have h2:st.take (st.length-tk.length)=pre:=by
  subst hs;simp
 rw [treeL,he]
 dsimp only
 rw [if_neg (by rintro (h | h);exact hm h;rw [h1] at h;cases h),h2]
theorem t_num0 {V:List Vr} {n:Int} {st:List Int} {r:List Pu} (v x:Int):treeL V n st (⟨1,0,v,x⟩ :: r)=treeL V n (st++[105]) r :=
 treeL_step (tk:=[]) (by unfold effect;rw [if_pos rfl];rfl) (by decide) (by simp)
theorem t_num1 {V:List Vr} {n:Int} {st:List Int} {r:List Pu} (v:Int) {x:Int} (h:x=0\/x=1):treeL V n st (⟨1,1,v,x⟩ :: r)=treeL V n (st++[98]) r :=
 treeL_step (tk:=[]) (by unfold effect;rw [if_pos rfl];rcases h with h | h<;>subst h<;>rfl) (by decide) (by simp)
theorem t_sca {V:List Vr} {n:Int} {st:List Int} {r:List Pu} (k v x:Int) (hv:VrOk (vAt V v)) (h:(vAt V v).n=0):treeL V n st (⟨2,k,v,x⟩ :: r)=treeL V n (st++[(vAt V v).elem]) r :=
 treeL_step (tk:=[]) (by
  unfold effect;rw [if_neg (by intro h;cases h),if_pos (.inl rfl)];unfold madeVar;rw [if_pos rfl];have:arr (vAt V v)=false:=(by unfold arr;rw [h];rfl);rw [this];rfl) hv.ne (by simp)
theorem t_arr {V:List Vr} {n:Int} {st:List Int} {r:List Pu} (k v x:Int) (hv:VrOk (vAt V v)) (h:(vAt V v).n≠0) (h0:0<=x) (h1:x<=(vAt V v).n-n):treeL V n st (⟨3,k,v,x⟩ :: r)=treeL V n (st++[(vAt V v).elem]) r :=
 treeL_step (tk:=[]) (by
  unfold effect;rw [if_neg (by intro h;cases h),if_pos (.inr rfl)];unfold madeVar;rw [if_neg (by intro h;cases h)];have h2:=hv.2.1;have:arr (vAt V v)=true:=(by unfold arr;simp;omega);rw [this];simp only [h0,h1,decide_true,Bool.and_self];rfl) hv.ne (by simp)
theorem t_idx {V:List Vr} {n:Int} {st:List Int} {r:List Pu} (k v x:Int) (h:(decide (-1000000<=x)&&decide (x<=1000000))=true):treeL V n st (⟨4,k,v,x⟩ :: r)=treeL V n (st++[105]) r :=
 treeL_step (tk:=[]) (by
  unfold effect;rw [if_neg (by intro h;cases h),if_neg (by rintro (h | h)<;>cases h),if_pos rfl]
  dsimp only
  rw [h];rfl) (by decide) (by simp)
theorem opT_el (k:Int):(Kd.opT k).2.2=0\/((Kd.opT k).1=105\/(Kd.opT k).1=98)/\((Kd.opT k).2.1=105\/(Kd.opT k).2.1=98):=by
 unfold Kd.opT;by_cases h:k<0\/15<=k
 ·rw [if_pos h];exact .inl rfl
 ·rw [if_neg h]
  obtain ⟨j,rfl⟩:∃ j:Nat,k=(j:Int):=⟨k.toNat,by omega⟩;rw [Int.toNat_natCast];have hj:j<15:=(by omega);have:∀ j:Fin 15,(Kd.opN j.1).2.2=0\/((Kd.opN j.1).1=105\/(Kd.opN j.1).1=98)/\((Kd.opN j.1).2.1=105\/(Kd.opN j.1).2.1=98):=(by decide);exact this ⟨j,hj⟩
theorem t_un {V:List Vr} {n:Int} {st pre:List Int} {r:List Pu} (k v x:Int) {a b:Int} (h:Kd.opT k=(a,b,1)) (hs:st=pre++[a]):treeL V n st (⟨5,k,v,x⟩ :: r)=treeL V n (pre++[b]) r :=
 treeL_step (tk:=[a]) (by
  unfold effect;rw [if_neg (by intro h;cases h),if_neg (by rintro (h | h)<;>cases h),if_neg (by intro h;cases h),if_pos (.inl rfl)];unfold opEff
  dsimp only
  rw [h];rfl) (by have:=opT_el k;rw [h] at this;rcases this with q | ⟨_,q⟩;cases q;dsimp only at q;rcases q with q | q<;>rw [q]<;>decide) hs
theorem t_bin {V:List Vr} {n:Int} {st pre:List Int} {r:List Pu} (k v x:Int) {a b:Int} (h:Kd.opT k=(a,b,2)) (hs:st=pre++[a,a]):treeL V n st (⟨6,k,v,x⟩ :: r)=treeL V n (pre++[b]) r :=
 treeL_step (tk:=[a,a]) (by
  unfold effect;rw [if_neg (by intro h;cases h),if_neg (by rintro (h | h)<;>cases h),if_neg (by intro h;cases h),if_pos (.inr rfl)];unfold opEff
  dsimp only
  rw [h];rfl) (by have:=opT_el k;rw [h] at this;rcases this with q | ⟨_,q⟩;cases q;dsimp only at q;rcases q with q | q<;>rw [q]<;>decide) hs
theorem t_sel {V:List Vr} {n:Int} {st pre:List Int} {r:List Pu} (k v x:Int) {a:Int} (ha:a≠0) (hs:st=pre++[98,a,a]):treeL V n st (⟨7,k,v,x⟩ :: r)=treeL V n (pre++[a]) r :=
 treeL_step (tk:=[98,a,a]) (by
  unfold effect;rw [if_neg (by intro h;cases h),if_neg (by rintro (h | h)<;>cases h),if_neg (by intro h;cases h),if_neg (by rintro (h | h)<;>cases h),if_pos rfl];unfold choice;have:st.getLast?=some a:=(by rw [hs];simp);rw [this]) ha hs
theorem t_at {V:List Vr} {n:Int} {st pre:List Int} {r:List Pu} (k v x:Int) (hv:VrOk (vAt V v)) (h:(vAt V v).n≠0) (hs:st=pre++[105,(vAt V v).elem]):treeL V n st (⟨8,k,v,x⟩ :: r)=treeL V n (pre++[(vAt V v).elem]) r :=
 treeL_step (tk:=[105,(vAt V v).elem]) (by
  unfold effect;rw [if_neg (by intro h;cases h),if_neg (by rintro (h | h)<;>cases h),if_neg (by intro h;cases h),if_neg (by rintro (h | h)<;>cases h),if_neg (by intro h;cases h),if_pos rfl];have h2:=hv.2.1;have:arr (vAt V v)=true:=(by unfold arr;simp;omega)
  dsimp only
  rw [this];rfl) hv.ne hs
theorem last1 {l:List Int} {m:Nat} (h:l.length=m+1) (hm:m<l.length):l=l.take m++[l[m]]:=by
 have:=List.take_succ_eq_append_getElem hm;rw [<-this,<-h,List.take_length]
theorem last2 {l:List Int} {m:Nat} (h:l.length=m+2) (h0:m<l.length) (h1:m+1<l.length):l=l.take m++[l[m],l[m+1]]:=by
 have e:=last1 (m:=m+1) h h1;rw [List.take_succ_eq_append_getElem h0,List.append_assoc] at e;exact e
theorem last3 {l:List Int} {m:Nat} (h:l.length=m+3) (h0:m<l.length) (h1:m+1<l.length) (h2:m+2<l.length):l=l.take m++[l[m],l[m+1],l[m+2]]:=by
 have e:=last2 (m:=m+1) h h1 h2;rw [List.take_succ_eq_append_getElem h0,List.append_assoc] at e;exact e
def Els (l:List Int):Prop:=∀ x ∈ l,x=105\/x=98
theorem Els.push {l:List Int} (h:Els l) {x:Int} (hx:x=105\/x=98):Els (l++[x]):=fun y hy=>by
 rcases List.mem_append.1 hy with q | q
 ·exact h y q
 ·simp at q;rw [q];exact hx
theorem Els.take {l:List Int} (h:Els l) (m:Nat):Els (l.take m):=fun y hy=>h y (List.mem_of_mem_take hy)
theorem Els.at {l:List Int} (h:Els l) {i:Nat} (hi:i<l.length):l[i]=105\/l[i]=98:=h _ (List.getElem_mem hi)
theorem same_self (v:Vr):same v v=true:=by unfold same;simp
theorem same_iff {a b:Vr}:same a b=true↔a=b:=by
 unfold same;rw [Bool.and_eq_true,beq_iff_eq,beq_iff_eq]
 constructor
 ·rintro ⟨h1,h2⟩
  cases a;cases b
  dsimp only at h1 h2
  rw [h1,h2]
 ·rintro rfl
  exact ⟨rfl,rfl⟩
end Sk
namespace Sk
theorem ne_of_sc {v:Vr}:arr v=true↔0<v.n:=by unfold arr;simp
theorem fits_1 {k n:Int} {o:Vr} {a:List Vr} (h:o=sc 105\/o=sc 98/\(n=0\/n=1)):fits 1 k n o a=true:=by
 unfold fits;rw [if_pos rfl];rcases h with h | ⟨h,q⟩
 ·rw [h,same_self];rfl
 ·have:truth n=true:=by unfold truth;rcases q with q | q<;>rw [q]<;>rfl
  rw [h,same_self,this];simp
theorem fits_2 {k n:Int} {o:Vr} {a:List Vr} (h:nt a 0=o):fits 2 k n o a=true:=by
 unfold fits;rw [if_neg (by intro h;cases h),if_pos rfl,h,same_self]
theorem operates_1 {k:Int} {o x:Vr} {t m:Int} (hk:Kd.opT k=(t,m,1)) (h1:x.elem=t) (ho:o=⟨m,x.n⟩):operates k o [x]=true:=by
 unfold operates other;rw [hk];have h3:x=⟨t,x.n⟩:=(by cases x;dsimp only at h1 ⊢;rw [h1]);have h2:same x ⟨t,x.n⟩=true:=same_iff.2 h3;simp [h2,ho,same_self]
theorem operates_2 {k:Int} {o x y:Vr} {t m:Int} (hk:Kd.opT k=(t,m,2)) (h1:x.elem=t) (hy:y=x) (ho:o=⟨m,x.n⟩):operates k o [x,y]=true:=by
 unfold operates other;rw [hk];subst hy;have h3:y=⟨t,y.n⟩:=(by cases y;dsimp only at h1 ⊢;rw [h1]);have h2:same y ⟨t,y.n⟩=true:=same_iff.2 h3;simp [h2,ho,same_self]
theorem fits_3 {k n:Int} {o:Vr} {a:List Vr} (h:operates k o a=true):fits 3 k n o a=true:=by
 unfold fits;rw [if_neg (by intro h;cases h),if_neg (by intro h;cases h),if_pos (.inl rfl),h]
theorem fits_4 {k n:Int} {o:Vr} {a:List Vr} (h:operates k o a=true):fits 4 k n o a=true:=by
 unfold fits;rw [if_neg (by intro h;cases h),if_neg (by intro h;cases h),if_pos (.inr rfl),h]
theorem fits_5 {k n:Int} {o:Vr} {a:List Vr} (h0:nt a 0=sc 98) (h1:nt a 1=o) (h2:nt a 2=o):fits 5 k n o a=true:=by
 unfold fits;rw [if_neg (by intro h;cases h),if_neg (by intro h;cases h),if_neg (by rintro (h | h)<;>cases h),if_pos rfl,h0,h1,h2,same_self,same_self];rfl
theorem goesFrom_of {k:Int} {f:Vr} (hk:Kd.folds k=true) (h:f=sc (Kd.opT k).1):goesFrom k f=true:=by
 unfold goesFrom;rw [hk,<-h,same_self];rfl
theorem arrOf_of {v c:Vr} (h:0<v.n) (h2:sc v.elem=c):arrOf v c=true:=by
 unfold arrOf;rw [h2,same_self,ne_of_sc.2 h];rfl
theorem goesOver_of {k:Int} {f a:Vr} (hk:Kd.folds k=true) (h:f=sc (Kd.opT k).1) (h2:0<a.n) (h3:a.elem=(Kd.opT k).1):goesOver k f a=true:=by
 unfold goesOver;rw [goesFrom_of hk h,arrOf_of h2 (by rw [h3,h])];rfl
theorem fits_6 {k n:Int} {o:Vr} {a:List Vr} (hk:Kd.folds k=true) (h:nt a 0=sc (Kd.opT k).1) (h2:0<(nt a 1).n) (h3:(nt a 1).elem=(Kd.opT k).1) (ho:o=nt a 0):fits 6 k n o a=true:=by
 unfold fits;rw [if_neg (by intro h;cases h),if_neg (by intro h;cases h),if_neg (by rintro (h | h)<;>cases h),if_neg (by intro h;cases h),if_pos rfl,goesOver_of hk h h2 h3,ho,same_self];rfl
theorem fits_7 {k n:Int} {o:Vr} {a:List Vr} (hk:Kd.folds k=true) (h:nt a 0=sc (Kd.opT k).1) (h2:0<(nt a 1).n) (h3:(nt a 1).elem=(Kd.opT k).1) (ho:o=nt a 1):fits 7 k n o a=true:=by
 unfold fits;rw [if_neg (by intro h;cases h),if_neg (by intro h;cases h),if_neg (by rintro (h | h)<;>cases h),if_neg (by intro h;cases h),if_neg (by intro h;cases h),if_pos rfl,goesOver_of hk h h2 h3,ho,same_self];rfl
theorem fits_8 {k n:Int} {o:Vr} {a:List Vr} (h:(nt a 0).n=0) (h2:0<o.n) (h3:o.elem=(nt a 0).elem):fits 8 k n o a=true:=by
 unfold fits;rw [if_neg (by intro h;cases h),if_neg (by intro h;cases h),if_neg (by rintro (h | h)<;>cases h),if_neg (by intro h;cases h),if_neg (by intro h;cases h),if_neg (by intro h;cases h),if_pos rfl];refine arrOf_of h2 ?_;generalize nt a 0=x at h h3
 cases x
 dsimp only at h h3
 unfold sc;rw [h,h3]
theorem hasPlace_of {x y z:Vr} (h:0<x.n) (h1:y=sc 105) (h2:z=sc x.elem):hasPlace x y z=true:=by
 unfold hasPlace;rw [arrOf_of h h2.symm,h1,same_self];rfl
theorem fits_9 {k n:Int} {o:Vr} {a:List Vr} (h:0<(nt a 0).n) (h1:nt a 1=sc 105) (h2:nt a 2=sc (nt a 0).elem) (ho:o=nt a 2):fits 9 k n o a=true:=by
 unfold fits;rw [if_neg (by intro h;cases h),if_neg (by intro h;cases h),if_neg (by rintro (h | h)<;>cases h),if_neg (by intro h;cases h),if_neg (by intro h;cases h),if_neg (by intro h;cases h),if_neg (by intro h;cases h),if_pos rfl,hasPlace_of h h1 h2,ho,same_self];rfl
theorem fits_10 {k n:Int} {o:Vr} {a:List Vr} (h:0<(nt a 0).n) (h1:nt a 1=sc 105) (h2:nt a 2=sc (nt a 0).elem) (ho:o=nt a 0):fits 10 k n o a=true:=by
 unfold fits;rw [if_neg (by intro h;cases h),if_neg (by intro h;cases h),if_neg (by rintro (h | h)<;>cases h),if_neg (by intro h;cases h),if_neg (by intro h;cases h),if_neg (by intro h;cases h),if_neg (by intro h;cases h),if_neg (by intro h;cases h),if_pos rfl,hasPlace_of h h1 h2,ho,same_self];rfl
theorem fits_11 {k n:Int} {o:Vr} {a:List Vr} (ho:0<o.n) (h:0<(nt a 0).n) (he:o.elem=(nt a 0).elem) (h0:0<=n) (h1:n<=(nt a 0).n-o.n):fits 11 k n o a=true:=by
 unfold fits;rw [if_neg (by intro h;cases h),if_neg (by intro h;cases h),if_neg (by rintro (h | h)<;>cases h),if_neg (by intro h;cases h),if_neg (by intro h;cases h),if_neg (by intro h;cases h),if_neg (by intro h;cases h),if_neg (by intro h;cases h),if_neg (by intro h;cases h),if_pos rfl,ne_of_sc.2 h,arrOf_of ho (by rw [he])];simp [h0,h1]
theorem fits_12 {k n:Int} {o:Vr} {a:List Vr} (h:0<(nt a 0).n) (h1:0<(nt a 1).n) (he:(nt a 0).elem=(nt a 1).elem) (ho:o=⟨(nt a 0).elem,(nt a 0).n+(nt a 1).n⟩):fits 12 k n o a=true:=by
 unfold fits;rw [if_neg (by intro h;cases h),if_neg (by intro h;cases h),if_neg (by rintro (h | h)<;>cases h),if_neg (by intro h;cases h),if_neg (by intro h;cases h),if_neg (by intro h;cases h),if_neg (by intro h;cases h),if_neg (by intro h;cases h),if_neg (by intro h;cases h),if_neg (by intro h;cases h),if_pos rfl,ne_of_sc.2 h,arrOf_of h1 (by rw [he]),ho,same_self];rfl
theorem fits_13 {k n:Int} {o:Vr} {a:List Vr} (h:nt a 0=o) (h1:nt a 1=o):fits 13 k n o a=true:=by
 unfold fits;rw [if_neg (by intro h;cases h),if_neg (by intro h;cases h),if_neg (by rintro (h | h)<;>cases h),if_neg (by intro h;cases h),if_neg (by intro h;cases h),if_neg (by intro h;cases h),if_neg (by intro h;cases h),if_neg (by intro h;cases h),if_neg (by intro h;cases h),if_neg (by intro h;cases h),if_neg (by intro h;cases h),h,h1,same_self];rfl
end Sk
end Go.Proofs.YtfhghlpfeeiaeaaGreatDoor
namespace Go.Proofs.YtfhghlpfeeiaeaaGreatDoor
open Go.RowKit Go.IntWalk
namespace Sk
theorem t_zero {V:List Vr} {n:Int} {st:List Int} {p:Pu} {r:List Pu} (h:(effect V p n st).2=0\/ends st (effect V p n st).1=false):treeL V n st (p :: r)=0:=by rw [treeL,if_pos h]
theorem ends_short {st t:List Int} (h:st.length<t.length):ends st t=false:=by
 unfold ends;have:decide (t.length<=st.length)=false:=(by simp;omega);rw [this];rfl
theorem ends_other {pre s t:List Int} (hl:s.length=t.length) (h:s≠t):ends (pre++s) t=false:=by
 unfold ends;have e:(pre++s).length-t.length=pre.length:=(by rw [List.length_append];omega);rw [e,List.drop_left];have:(s==t)=false:=(by simpa using h);rw [this];simp
theorem no_1 {V:List Vr} {n:Int} {st:List Int} {r:List Pu} {k x:Int} (v:Int) (h:k≠0) (h1:k=1->x≠0/\x≠1):treeL V n st (⟨1,k,v,x⟩ :: r)=0 :=
 t_zero (.inl (by
  unfold effect madeNum;rw [if_pos rfl]
  dsimp only
  rw [if_neg h];by_cases e:k=1
  ·rw [if_pos e]
   have:=h1 e;unfold when truth;simp [this.1,this.2]
  ·rw [if_neg e]))
theorem no_2 {V:List Vr} {n:Int} {st:List Int} {r:List Pu} (k v x:Int) (hv:VrOk (vAt V v)) (h:(vAt V v).n≠0):treeL V n st (⟨2,k,v,x⟩ :: r)=0 :=
 t_zero (.inl (by
  unfold effect madeVar;rw [if_neg (by intro h;cases h),if_pos (.inl rfl)]
  dsimp only
  rw [if_pos rfl];have h2:=hv.2.1;have:arr (vAt V v)=true:=(by unfold arr;simp;omega);rw [this];rfl))
theorem no_3 {V:List Vr} {n:Int} {st:List Int} {r:List Pu} (k v x:Int) (h:(vAt V v).n=0\/x<0\/(vAt V v).n-n<x):treeL V n st (⟨3,k,v,x⟩ :: r)=0 :=
 t_zero (.inl (by
  unfold effect madeVar;rw [if_neg (by intro h;cases h),if_pos (.inr rfl)]
  dsimp only
  rw [if_neg (by intro h;cases h)];unfold when;rw [if_neg];intro q;simp [arr] at q;omega))
theorem no_4 {V:List Vr} {n:Int} {st:List Int} {r:List Pu} (k v x:Int) (h:(decide (-1000000<=x)&&decide (x<=1000000))=false):treeL V n st (⟨4,k,v,x⟩ :: r)=0 :=
 t_zero (.inl (by
  unfold effect;rw [if_neg (by intro h;cases h),if_neg (by rintro (h | h)<;>cases h),if_pos rfl]
  dsimp only
  rw [h];rfl))
theorem eff_5 {V:List Vr} {n:Int} {st:List Int} {k v x a b c:Int} (h:Kd.opT k=(a,b,c)):effect V ⟨5,k,v,x⟩ n st=(List.replicate c.toNat a,when (c==1) b):=by
 unfold effect;rw [if_neg (by intro h;cases h),if_neg (by rintro (h | h)<;>cases h),if_neg (by intro h;cases h),if_pos (.inl rfl)];unfold opEff
 dsimp only
 rw [h];simp
theorem eff_6 {V:List Vr} {n:Int} {st:List Int} {k v x a b c:Int} (h:Kd.opT k=(a,b,c)):effect V ⟨6,k,v,x⟩ n st=(List.replicate c.toNat a,when (c==2) b):=by
 unfold effect;rw [if_neg (by intro h;cases h),if_neg (by rintro (h | h)<;>cases h),if_neg (by intro h;cases h),if_pos (.inr rfl)];unfold opEff
 dsimp only
 rw [h];simp
theorem no_5 {V:List Vr} {n:Int} {st:List Int} {r:List Pu} {k a b c:Int} (v x:Int) (h:Kd.opT k=(a,b,c)) (h2:c≠1\/st.length<1\/∃ pre z,st=pre++[z]/\z≠a):treeL V n st (⟨5,k,v,x⟩ :: r)=0:=by
 refine t_zero ?_;rw [eff_5 h];by_cases hc:c=1
 ·subst hc
  right
  rcases h2 with q | q | ⟨pre,z,e,q⟩
  ·exact absurd rfl q
  ·exact ends_short (by simpa using q)
  ·subst e
   exact ends_other (s:=[z]) (t:=List.replicate (1:Int).toNat a) rfl (fun e=>q (by injection e))
 ·left
  unfold when;simp [hc]
theorem no_6 {V:List Vr} {n:Int} {st:List Int} {r:List Pu} {k a b c:Int} (v x:Int) (h:Kd.opT k=(a,b,c)) (h2:c≠2\/st.length<2\/∃ pre z y,st=pre++[z,y]/\(y≠a\/z≠a)):treeL V n st (⟨6,k,v,x⟩ :: r)=0:=by
 refine t_zero ?_;rw [eff_6 h];by_cases hc:c=2
 ·subst hc
  right
  rcases h2 with q | q | ⟨pre,z,y,e,q⟩
  ·exact absurd rfl q
  ·exact ends_short (by simpa using q)
  ·subst e
   exact ends_other (s:=[z,y]) (t:=List.replicate (2:Int).toNat a) rfl (fun e=>by
    injection e with e1 e2;injection e2 with e2 _;rcases q with q | q
    ·exact q e2
    ·exact q e1)
 ·left
  unfold when;simp [hc]
theorem no_7 {V:List Vr} {n:Int} {st:List Int} {r:List Pu} (k v x:Int) (h2:st.length<3\/∃ pre z y u,st=pre++[z,y,u]/\(z≠98\/y≠u)):treeL V n st (⟨7,k,v,x⟩ :: r)=0:=by
 refine t_zero ?_;have e:effect V ⟨7,k,v,x⟩ n st=choice st:=by
  unfold effect;rw [if_neg (by intro h;cases h),if_neg (by rintro (h | h)<;>cases h),if_neg (by intro h;cases h),if_neg (by rintro (h | h)<;>cases h),if_pos rfl]
 rw [e];unfold choice
 cases hl:st.getLast? with
 | none=>left;rfl
 | some t=>
  right
  rcases h2 with q | ⟨pre,z,y,u,e,q⟩
  ·exact ends_short (by simpa using q)
  ·subst e
   have hu:t=u:=by
    rw [show pre++[z,y,u]=(pre++[z,y])++[u] by simp,List.getLast?_concat] at hl;injection hl with hl;exact hl.symm
   subst hu;exact ends_other (s:=[z,y,t]) (t:=[98,t,t]) rfl (fun e=>by
    injection e with e1 e2;injection e2 with e2 _;rcases q with q | q
    ·exact q e1
    ·exact q e2)
theorem no_8 {V:List Vr} {n:Int} {st:List Int} {r:List Pu} (k v x:Int) (h2:(vAt V v).n=0\/st.length<2\/∃ pre z u,st=pre++[z,u]/\(z≠105\/u≠(vAt V v).elem)):treeL V n st (⟨8,k,v,x⟩ :: r)=0:=by
 refine t_zero ?_;have e:effect V ⟨8,k,v,x⟩ n st=([105,(vAt V v).elem],when (arr (vAt V v)) (vAt V v).elem):=by
  unfold effect;rw [if_neg (by intro h;cases h),if_neg (by rintro (h | h)<;>cases h),if_neg (by intro h;cases h),if_neg (by rintro (h | h)<;>cases h),if_neg (by intro h;cases h),if_pos rfl]
 rw [e];rcases h2 with q | q | ⟨pre,z,u,e,q⟩
 ·left
  have:arr (vAt V v)=false:=(by unfold arr;rw [q];rfl);rw [this];rfl
 ·exact .inr (ends_short (by simpa using q))
 ·subst e
  exact .inr (ends_other (s:=[z,u]) (t:=[105,(vAt V v).elem]) rfl (fun e=>by
   injection e with e1 e2;injection e2 with e2 _;rcases q with q | q
   ·exact q e1
   ·exact q e2))
theorem no_op {V:List Vr} {n:Int} {st:List Int} {r:List Pu} {op:Int} (k v x:Int) (h:op≠1/\op≠2/\op≠3/\op≠4/\op≠5/\op≠6/\op≠7/\op≠8):treeL V n st (⟨op,k,v,x⟩ :: r)=0 :=
 t_zero (.inl (by
  obtain ⟨h1,h2,h3,h4,h5,h6,h7,h8⟩:=h;unfold effect
  dsimp only
  rw [if_neg h1,if_neg (by rintro (h | h);exact h2 h;exact h3 h),if_neg h4,if_neg (by rintro (h | h);exact h5 h;exact h6 h),if_neg h7,if_neg h8]))
theorem sv {a b:Vr} (h:same a b=true):a.elem=b.elem/\a.n=b.n:=by rw [same_iff.1 h];exact ⟨rfl,rfl⟩
theorem sarr {v c:Vr} (h:arrOf v c=true):0<v.n/\v.elem=c.elem/\c.n=0:=by
 unfold arrOf at h;rw [Bool.and_eq_true] at h;have h1:=sv h.2;exact ⟨ne_of_sc.1 h.1,h1.1,h1.2.symm⟩
theorem sfrom {k:Int} {f:Vr} (h:goesFrom k f=true):Kd.folds k=true/\f.elem=(Kd.opT k).1/\f.n=0:=by
 unfold goesFrom at h;rw [Bool.and_eq_true] at h;exact ⟨h.1,sv h.2⟩
theorem sover {k:Int} {f a:Vr} (h:goesOver k f a=true):(Kd.folds k=true/\f.elem=(Kd.opT k).1/\f.n=0)/\0<a.n/\a.elem=f.elem:=by
 unfold goesOver at h;rw [Bool.and_eq_true] at h;have:=sarr h.2;exact ⟨sfrom h.1,this.1,this.2.1⟩
theorem splace {a b c:Vr} (h:hasPlace a b c=true):0<a.n/\a.elem=c.elem/\c.n=0/\b.elem=105/\b.n=0:=by
 unfold hasPlace at h;rw [Bool.and_eq_true] at h;have h1:=sarr h.1;have h2:=sv h.2;exact ⟨h1.1,h1.2.1,h1.2.2,h2.1,h2.2⟩
theorem need_1 {k n:Int} {o:Vr} {a:List Vr} (h:fits 1 k n o a=true):(o.elem=105/\o.n=0)\/(o.elem=98/\o.n=0/\(n=0\/n=1)):=by
 unfold fits at h;rw [if_pos rfl,Bool.or_eq_true,Bool.and_eq_true] at h;rcases h with h | ⟨h,q⟩
 ·exact .inl (sv h)
 ·have:=sv h
  unfold truth at q;simp at q;exact .inr ⟨this.1,this.2,q⟩
theorem need_2 {k n:Int} {o:Vr} {a:List Vr} (h:fits 2 k n o a=true):o.elem=(nt a 0).elem/\o.n=(nt a 0).n:=by
 simp [fits] at h;exact sv h
theorem need_3 {k n:Int} {o x:Vr} (h:fits 3 k n o [x]=true):(Kd.opT k).2.2=1/\x.elem=(Kd.opT k).1/\o.elem=(Kd.opT k).2.1/\o.n=x.n:=by
 simp [fits,operates,other] at h;have h1:=sv h.2.1;have h2:=sv h.2.2;exact ⟨h.1,h1.1,h2.1,h2.2⟩
theorem need_4 {k n:Int} {o x y:Vr} (h:fits 4 k n o [x,y]=true):(Kd.opT k).2.2=2/\x.elem=(Kd.opT k).1/\y.elem=(Kd.opT k).1/\y.n=x.n/\o.elem=(Kd.opT k).2.1/\o.n=x.n:=by
 simp [fits,operates,other] at h;have h1:=sv h.2.1.1;have h3:=sv h.2.1.2;have h2:=sv h.2.2;exact ⟨h.1,h1.1,h3.1,h3.2,h2.1,h2.2⟩
theorem need_5 {k n:Int} {o:Vr} {a:List Vr} (h:fits 5 k n o a=true):(nt a 0).elem=98/\(nt a 0).n=0/\(nt a 1).elem=(nt a 2).elem/\(nt a 1).n=(nt a 2).n/\o.elem=(nt a 1).elem/\o.n=(nt a 1).n:=by
 simp [fits] at h;have h1:=sv h.1.1;have h2:=sv h.1.2;have h3:=sv h.2;exact ⟨h1.1,h1.2,h2.1,h2.2,h3.1,h3.2⟩
theorem need_6 {k n:Int} {o:Vr} {a:List Vr} (h:fits 6 k n o a=true):Kd.folds k=true/\(nt a 0).elem=(Kd.opT k).1/\(nt a 0).n=0/\0<(nt a 1).n/\(nt a 1).elem=(nt a 0).elem/\o.elem=(nt a 0).elem/\o.n=(nt a 0).n:=by
 simp [fits] at h;have h1:=sover h.1;have h3:=sv h.2;exact ⟨h1.1.1,h1.1.2.1,h1.1.2.2,h1.2.1,h1.2.2,h3.1,h3.2⟩
theorem need_7 {k n:Int} {o:Vr} {a:List Vr} (h:fits 7 k n o a=true):Kd.folds k=true/\(nt a 0).elem=(Kd.opT k).1/\(nt a 0).n=0/\0<(nt a 1).n/\(nt a 1).elem=(nt a 0).elem/\o.elem=(nt a 1).elem/\o.n=(nt a 1).n:=by
 simp [fits] at h;have h1:=sover h.1;have h3:=sv h.2;exact ⟨h1.1.1,h1.1.2.1,h1.1.2.2,h1.2.1,h1.2.2,h3.1,h3.2⟩
theorem need_8 {k n:Int} {o:Vr} {a:List Vr} (h:fits 8 k n o a=true):0<o.n/\o.elem=(nt a 0).elem/\(nt a 0).n=0:=by
 simp [fits] at h;exact sarr h
theorem need_9 {k n:Int} {o:Vr} {a:List Vr} (h:fits 9 k n o a=true):0<(nt a 0).n/\(nt a 0).elem=(nt a 2).elem/\(nt a 2).n=0/\(nt a 1).elem=105/\(nt a 1).n=0/\o.elem=(nt a 2).elem/\o.n=(nt a 2).n:=by
 simp [fits] at h;have h1:=splace h.1;have h3:=sv h.2;exact ⟨h1.1,h1.2.1,h1.2.2.1,h1.2.2.2.1,h1.2.2.2.2,h3.1,h3.2⟩
theorem need_10 {k n:Int} {o:Vr} {a:List Vr} (h:fits 10 k n o a=true):0<(nt a 0).n/\(nt a 0).elem=(nt a 2).elem/\(nt a 2).n=0/\(nt a 1).elem=105/\(nt a 1).n=0/\o.elem=(nt a 0).elem/\o.n=(nt a 0).n:=by
 simp [fits] at h;have h1:=splace h.1;have h3:=sv h.2;exact ⟨h1.1,h1.2.1,h1.2.2.1,h1.2.2.2.1,h1.2.2.2.2,h3.1,h3.2⟩
theorem need_11 {k n:Int} {o:Vr} {a:List Vr} (h:fits 11 k n o a=true):0<(nt a 0).n/\0<o.n/\o.elem=(nt a 0).elem/\0<=n/\n<=(nt a 0).n-o.n:=by
 simp [fits] at h;have h1:=ne_of_sc.1 h.1.1.1;have h3:=sarr h.1.1.2;exact ⟨h1,h3.1,h3.2.1,h.1.2,h.2⟩
theorem need_12 {k n:Int} {o:Vr} {a:List Vr} (h:fits 12 k n o a=true):0<(nt a 0).n/\0<(nt a 1).n/\(nt a 1).elem=(nt a 0).elem/\o.elem=(nt a 0).elem/\o.n=(nt a 0).n+(nt a 1).n:=by
 simp [fits] at h;have h1:=ne_of_sc.1 h.1.1;have h2:=sarr h.1.2;have h3:=sv h.2;exact ⟨h1,h2.1,h2.2.1,h3.1,h3.2⟩
theorem need_13 {k n:Int} {o:Vr} {a:List Vr} (h:fits 13 k n o a=true):(nt a 0).elem=(nt a 1).elem/\(nt a 0).n=(nt a 1).n/\o.elem=(nt a 0).elem/\o.n=(nt a 0).n:=by
 simp [fits] at h;have h1:=sv h.1;have h3:=sv h.2;exact ⟨h1.1,h1.2,h3.1,h3.2⟩
theorem needR {V:List Vr} {op k out x:Int} {A:List Int} {E:List Pu} (bd:op<14) (h:fitsR V ⟨op,k,out,x,A,E⟩=true):fits op k x (vAt V out) (A.map (vAt V))=true:=by
 unfold fitsR at h
 dsimp only at h
 rwa [if_pos bd] at h
theorem needR_14 {V:List Vr} {k out x:Int} {A:List Int} {E:List Pu} (h:fitsR V ⟨14,k,out,x,A,E⟩=true):treeL V (max 1 (vAt V out).n) [] E=(vAt V out).elem:=by
 unfold fitsR at h
 dsimp only at h
 rw [if_neg (by decide)] at h
 simpa [fitsT] using h
theorem needR_15 {V:List Vr} {k out x:Int} {A:List Int} {E:List Pu} (h:fitsR V ⟨15,k,out,x,A,E⟩=true):Kd.folds k=true/\(nt (A.map (vAt V)) 0).elem=(Kd.opT k).1/\(nt (A.map (vAt V)) 0).n=0/\(vAt V out).elem=(nt (A.map (vAt V)) 0).elem/\(vAt V out).n=(nt (A.map (vAt V)) 0).n/\1<=x/\x<=300/\treeL V x [] E=(vAt V out).elem:=by
 unfold fitsR at h
 dsimp only at h
 rw [if_neg (by decide)] at h;unfold fitsT at h;rw [if_neg (by decide),if_pos rfl] at h;simp only [Bool.and_eq_true,decide_eq_true_eq,beq_iff_eq] at h;obtain ⟨⟨⟨⟨h1,h2⟩,h3⟩,h4⟩,h5⟩:=h;have q1:=sfrom h1;have q2:=sv h2;exact ⟨q1.1,q1.2.1,q1.2.2,q2.1,q2.2,h3,h4,h5⟩
theorem needR_16 {V:List Vr} {k out x:Int} {A:List Int} {E:List Pu} (h:fitsR V ⟨16,k,out,x,A,E⟩=true):Kd.folds k=true/\(nt (A.map (vAt V)) 0).elem=(Kd.opT k).1/\(nt (A.map (vAt V)) 0).n=0/\0<(vAt V out).n/\(vAt V out).elem=(nt (A.map (vAt V)) 0).elem/\treeL V (vAt V out).n [] E=(vAt V out).elem:=by
 unfold fitsR at h
 dsimp only at h
 rw [if_neg (by decide)] at h;unfold fitsT at h;rw [if_neg (by decide),if_neg (by decide)] at h;simp only [Bool.and_eq_true,beq_iff_eq] at h;obtain ⟨⟨h1,h2⟩,h3⟩:=h;have q1:=sfrom h1;have q2:=sarr h2;exact ⟨q1.1,q1.2.1,q1.2.2,q2.1,q2.2.1,h3⟩
end Sk
end Go.Proofs.YtfhghlpfeeiaeaaGreatDoor
