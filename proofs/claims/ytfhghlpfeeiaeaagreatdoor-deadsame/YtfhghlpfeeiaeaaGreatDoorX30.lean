import Derived.Test.YtfhghlpfeeiaeaaGreatDoorX27
set_option linter.unusedVariables false
set_option linter.unusedSimpArgs false
set_option maxHeartbeats 64000000
set_option maxRecDepth 100000
namespace Go.Proofs.YtfhghlpfeeiaeaaGreatDoor
open Go.RowKit Go.IntWalk
structure MgV where
 aV:Option Addr
 cV:Nat
 aI:Option Addr
 cI:Nat
 aO:Option Addr
 cO:Nat
 aR:Option Addr
 cR:Nat
 vK:Value
 rows:Int
abbrev mgC (g:MgV) (S:Sk.Sys) (vb:Nat):Array Value:=#[.slice g.aV S.V.length g.cV,.slice g.aI S.I.length g.cI,.slice g.aO S.O.length g.cO,.slice g.aR S.R.length g.cR,g.vK,.slice (some ⟨vb,0,none⟩) S.V.length S.V.length,.int .i64 g.rows]
def RowS (L:List Nat) (w:World) (u:Value) (l:List Int):Prop:=∃ a c,u=.slice (some a) l.length c/\HInts (· ∉ L) w u l
theorem RowS.keep {L:List Nat} {w w':World} {u:Value} {l:List Int} (h:RowS L w u l) (h1:w.heap.size<=w'.heap.size) (h2:∀ i,i ∉ L->i<w.heap.size->w'.heap[i]?=w.heap[i]?):RowS L w' u l:=by
 obtain ⟨a,c,e,h⟩:=h;exact ⟨a,c,e,h.keep h1 h2⟩
theorem RowS.of {L:List Nat} {w:World} {u:Value} {l:List Int} (h:HInts (· ∉ L) w u l) (h0:0<l.length):RowS L w u l:=by
 obtain ⟨ao,cap,e,h1,h2,bo⟩:=h.at;obtain ⟨b,o,ea,_⟩:=bo 0 h0;subst ea;exact ⟨_,_,e,h⟩
def Memo (L:List Nat) (w:World) (vb:Nat) (S:Sk.Sys) (C:List (List Int)):Prop :=
 ∃ cs:Array Value,w.heap[vb]?=some (.cells cs 44 (0,0))/\cs.size=S.V.length/\(∀ i,i<S.V.length->cs[i]?=some (.slice none 0 0)\/∃ u,cs[i]?=some u/\RowS L w u (Sk.cAt C (i:Int)))/\∀ x ∈ S.I,∃ u,cs[x.toNat]?=some u/\RowS L w u (Sk.cAt C x)
def KeepM (L:List Nat) (w:World) (vK:Value) (rows:Int) (S:Sk.Sys) (ah:Int->Option (List Int)):Prop :=
 (rows=0/\∀ r ∈ S.R,r.op=13->ah (Sk.aN r 1)=none) \/
 (0<rows/\∃ kb ks,vK=.slice (some ⟨kb,0,none⟩) S.R.length S.R.length/\kb ∉ L/\w.heap[kb]?=some (.cells ks 44 (0,0))/\∀ i (hi:i<S.R.length),(S.R[i]).op=13->∃ l u,ah (Sk.aN S.R[i] 1)=some l/\ks[i]?=some u/\RowS L w u l)
theorem KeepM.keep {L:List Nat} {w w':World} {vK:Value} {rows:Int} {S:Sk.Sys} {ah:Int->Option (List Int)} (h:KeepM L w vK rows S ah) (h1:w.heap.size<=w'.heap.size) (h2:∀ i,i ∉ L->i<w.heap.size->w'.heap[i]?=w.heap[i]?):KeepM L w' vK rows S ah:=by
 rcases h with h | ⟨h0,kb,ks,e,hk,hh,hr⟩
 ·exact .inl h
 ·refine .inr ⟨h0,kb,ks,e,hk,(h2 kb hk (zBM hh)).trans hh,fun i hi ho=>?_⟩
  obtain ⟨l,u,e1,e2,h3⟩:=hr i hi ho;exact ⟨l,u,e1,e2,h3.keep h1 h2⟩
theorem Memo.keep {L:List Nat} {w w':World} {vb:Nat} {S:Sk.Sys} {C:List (List Int)} (h:Memo L w vb S C) (h0:w'.heap[vb]?=w.heap[vb]?) (h1:w.heap.size<=w'.heap.size) (h2:∀ i,i ∉ L->i<w.heap.size->w'.heap[i]?=w.heap[i]?):Memo L w' vb S C:=by
 obtain ⟨cs,k,hs,hm,hI⟩:=h;refine ⟨cs,h0.trans k,hs,fun i hi=>?_,fun x hx=>?_⟩
 ·rcases hm i hi with h | ⟨u,e,hr⟩
  ·exact .inl h
  ·exact .inr ⟨u,e,hr.keep h1 h2⟩
 ·obtain ⟨u,e,hr⟩:=hI x hx
  exact ⟨u,e,hr.keep h1 h2⟩
theorem Memo.set {L:List Nat} {w:World} {vb:Nat} {S:Sk.Sys} {C:List (List Int)} (h:Memo L w vb S C) (hL:vb ∈ L) (hb:∀ x ∈ S.I,0<=x/\x<S.V.length) {i:Nat} {u:Value} (hi:i<S.V.length) (hu:RowS L w u (Sk.cAt C (i:Int))):Memo L (w.setCell ⟨vb,i,none⟩ u) vb S C:=by
 obtain ⟨cs,k,hs,hm,hI⟩:=h;have dt:w.heap.size<=(w.setCell ⟨vb,i,none⟩ u).heap.size:=(by simp [World.setCell]);have jN:∀ j,j ∉ L->j<w.heap.size->(w.setCell ⟨vb,i,none⟩ u).heap[j]?=w.heap[j]?:=fun j hj _=>zBU _ _ _ (fun e=>hj (by rw [<-e];exact hL));refine ⟨_,zBQ k i u,by rw [Array.size_setIfInBounds];exact hs,fun j hj=>?_,fun x hx=>?_⟩
 ·by_cases e:i=j
  ·subst e
   exact .inr ⟨u,by rw [Array.getElem?_setIfInBounds_self_of_lt (by omega)],hu.keep dt jN⟩
  ·rw [Array.getElem?_setIfInBounds_ne e]
   rcases hm j hj with h | ⟨v,e,hr⟩
   ·exact .inl h
   ·exact .inr ⟨v,e,hr.keep dt jN⟩
 ·have nj:=hb x hx
  by_cases e:i=x.toNat
  ·have ex:(i:Int)=x:=by omega
   rw [<-ex];exact ⟨u,by rw [Int.toNat_natCast,Array.getElem?_setIfInBounds_self_of_lt (by omega)],hu.keep dt jN⟩
  ·obtain ⟨v,e2,hr⟩:=hI x hx
   exact ⟨v,by rw [Array.getElem?_setIfInBounds_ne e];exact e2,hr.keep dt jN⟩
structure MgSt (L:List Nat) (mb vb:Nat) (g:MgV) (S:Sk.Sys) (ah:Int->Option (List Int)) (C:List (List Int)) (w:World):Prop where
 m:w.heap[mb]?=some (.cells (mgC g S vb) 73 (0,0))
 sys:HSys (· ∉ L) w g.aV g.aI g.aO g.aR g.cV g.cI g.cO g.cR S
 keep:KeepM L w g.vK g.rows S ah
 memo:Memo L w vb S C
 mL:mb ∈ L
 vL:vb ∈ L
 lt:∀ q ∈ L,q<w.heap.size
 ne:mb≠vb
theorem MgSt.under {L:List Nat} {mb vb:Nat} {g:MgV} {S:Sk.Sys} {ah:Int->Option (List Int)} {C:List (List Int)} {w w':World} (h:MgSt L mb vb g S ah C w) (b:Below w.heap.size w w'):MgSt L mb vb g S ah C w' :=
 ⟨(b.block _ (zBM h.m)).trans h.m,h.sys.under b,h.keep.keep b.size (fun i _ hl=>b.block i hl),h.memo.keep (b.block _ (h.lt _ h.vL)) b.size (fun i _ hl=>b.block i hl),h.mL,h.vL,fun q hq=>Nat.lt_of_lt_of_le (h.lt q hq) b.size,h.ne⟩
theorem MgSt.set {L:List Nat} {mb vb:Nat} {g:MgV} {S:Sk.Sys} {ah:Int->Option (List Int)} {C:List (List Int)} {w:World} (h:MgSt L mb vb g S ah C w) (hb:∀ x ∈ S.I,0<=x/\x<S.V.length) {i:Nat} {u:Value} (hi:i<S.V.length) (hu:RowS L w u (Sk.cAt C (i:Int))):MgSt L mb vb g S ah C (w.setCell ⟨vb,i,none⟩ u):=by
 have dt:w.heap.size<=(w.setCell ⟨vb,i,none⟩ u).heap.size:=(by simp [World.setCell]);have jN:∀ j,j ∉ L->j<w.heap.size->(w.setCell ⟨vb,i,none⟩ u).heap[j]?=w.heap[j]?:=fun j hj _=>zBU _ _ _ (fun e=>hj (by rw [<-e];exact h.vL));exact ⟨(zBU _ _ _ (fun e=>h.ne e.symm)).trans h.m,h.sys.keep dt jN,h.keep.keep dt jN,h.memo.set h.vL hb hi hu,h.mL,h.vL,fun q hq=>Nat.lt_of_lt_of_le (h.lt q hq) dt,h.ne⟩
def OfPost (L:List Nat) (mb vb:Nat) (g:MgV) (S:Sk.Sys) (ah:Int->Option (List Int)) (C:List (List Int)) (x:Int) (w:World) (e:Ending) (w':World):Prop :=
 ∃ u,e=.returned u/\RowS L w' u (Sk.cAt C x)/\MgSt L mb vb g S ah C w'/\Aside [vb] w.heap.size w w'
abbrev OfAt (L:List Nat) (mb vb:Nat) (g:MgV) (S:Sk.Sys) (ah:Int->Option (List Int)) (C:List (List Int)) (z:Int):Prop :=
 ∀ W,MgSt L mb vb g S ah C W->Calls Tryz.prog 38 #[.pointer (some ⟨mb,0,none⟩),.int .i64 z] W (OfPost L mb vb g S ah C z W)
theorem zCD {L:List Nat} {vb:Nat} {w w':World} {v:Value} {E:List Pu} (h:HPu (· ∉ L) w v E) (a:Aside [vb] w.heap.size w w') (hv:vb ∈ L):HPu (· ∉ L) w' v E :=
 h.keep a.size fun i hi hl=>a.block i hl (by simp;intro e;exact hi (e ▸ hv))
theorem ints_keep {L:List Nat} {vb:Nat} {w w':World} {v:Value} {l:List Int} (h:HInts (· ∉ L) w v l) (a:Aside [vb] w.heap.size w w') (hv:vb ∈ L):HInts (· ∉ L) w' v l :=
 h.keep a.size fun i hi hl=>a.block i hl (by simp;intro e;exact hi (e ▸ hv))
theorem zCw {w:World} {PY:Nat->Prop} {vC:Value} {M:List Int} (hC:HInts PY w vC M) (i x:Int):Calls Tryz.prog 76 #[vC,.int .i64 i,.int .i64 x] w fun e w'=>e=.returned (.int .i64 (Sk.cellAt M i x))/\Below w.heap.size w w':=by
 obtain ⟨aC,cC,rfl,h1,h2,bo⟩:=hC.at;unfold maxLen at h2;unfold Sk.cellAt;by_cases y7:i<0
 ·rw [if_pos (.inl y7)]
  clear bo hC;generalize M.length=nC at *;have e1:decide (0<=i)=false:=(by simp;omega);go_enter Tryz.func76,Tryz.ntmps76;go_wp2;go_ret;exact ⟨rfl,Below.refl _ _⟩
 ·by_cases p9:(M.length:Int)<=i
  ·rw [if_pos (.inr p9)]
   clear bo hC;generalize M.length=nC at *;have e1:decide (0<=i)=true:=(by simp;omega);have e2:decide (i<(nC:Int))=false:=(by simp;omega);go_enter Tryz.func76,Tryz.ntmps76;go_wp2;go_ret;exact ⟨rfl,Below.refl _ _⟩
  ·rw [if_neg (by omega)]
   obtain ⟨n,rfl⟩:∃ n:Nat,i=(n:Int):=⟨i.toNat,by omega⟩;have hn:n<M.length:=(by omega);obtain ⟨b,o,rfl,hb,hc⟩:=bo n hn;have er:M.getD ((n:Int)).toNat 0=M[n]:=(by simp [List.getD_eq_getElem?_getD,hn]);rw [er];clear er;generalize M[n]=y at hc ⊢;clear bo hC;generalize M.length=nC at *;have e1:decide ((0:Int)<=(n:Int))=true:=(by simp);have e2:decide ((n:Int)<(nC:Int))=true:=(by simp;omega);go_enter Tryz.func76,Tryz.ntmps76;go_wp2;go_ret;exact ⟨rfl,Below.refl _ _⟩
def PartD (L:List Nat) (mb vb:Nat) (g:MgV) (S:Sk.Sys) (ah:Int->Option (List Int)) (C:List (List Int)) (k:Nat) (E:List Pu) (i:Nat) (w:World) (e:Ending) (w':World):Prop :=
 ∃ (v:Int) (j:Nat),e=.returned (.tuple #[.int .i64 v,.int .i64 ((j:Int)-1)])/\Sk.PartS C k E i v j/\MgSt L mb vb g S ah C w'/\Aside [vb] w.heap.size w w'
theorem zBu {i:Nat} (h:(i:Int)<=24):IntKind.i64.wrap ((i:Int)-1)=(i:Int)-1:=i64_in _ (by omega)
theorem Sk.PartS.wide {C:List (List Int)} {k:Nat} {E:List Pu} {i j:Nat} {v:Int} (h:Sk.PartS C k E i v j) (hC:Sk.WdC C) (hE:Sk.PW E) (hk:k<=1000000) (hi:i<=E.length):I64 v :=
 Sk.stkS_wide hC hE hk i hi v (by rw [h.2];simp)
theorem Sk.PartS.lt {C:List (List Int)} {k:Nat} {E:List Pu} {i j:Nat} {v:Int} (h:Sk.PartS C k E i v j):j<=i:=Nat.le_of_lt h.1
theorem partD1_any {L:List Nat} {mb vb:Nat} {g:MgV} {S:Sk.Sys} {ah:Int->Option (List Int)} {C:List (List Int)} {w:World} {E:List Pu} {aE:Option Addr} {cE i k:Nat} (hs:MgSt L mb vb g S ah C w) (hE:HPu (· ∉ L) w (.slice aE E.length cE) E) (hi:i<E.length) (hlen:E.length<=24) {pk pv pn:Int} (eb:E[i]=⟨1,pk,pv,pn⟩):Calls Tryz.prog 87 #[.pointer (some ⟨mb,0,none⟩),.slice aE E.length cE,.int .i64 (i:Int),.int .i64 (k:Int)] w (PartD L mb vb g S ah C k E (i+1) w):=by
 obtain ⟨gw,dk,eqs,bH,cG,bg⟩:=hE.at;injection eqs with q1 q2 q3;subst q1 q3;unfold maxLen at cG;obtain ⟨bb,o,rfl,hb,e0,e1,e2,e3⟩:=bg i hi;rw [eb] at e0 e1 e2 e3
 dsimp only at e0 e1 e2 e3
 have b1:Below w.heap.size w (w.alloc (.cells #[.int .i64 1,.int .i64 pk,.int .i64 pv,.int .i64 pn] 66 (0,0))):=(Below.refl _ _).alloc zBR _;have kP:=zBO w (.cells #[.int .i64 1,.int .i64 pk,.int .i64 pv,.int .i64 pn] 66 (0,0));have rv:vb<w.heap.size:=hs.lt _ hs.vL;have ij:=zBK (hs.under b1);have iZ:=zBK (hE.under b1);have fF:=zBK hs.vL;have vU:=zBK (zBu (i:=i) (by omega));have HI:=zBK (show Sk.PartS C k E (i+1) (pn) i from by
  have h:=Sk.partS_0 (C:=C) (k:=k) hi (by rw [eb];rfl);rw [eb] at h;exact h)
 clear hs hE bg q2 eb;generalize E.length=ne at *;have gW:(i:Int)<24:=(by omega);go_enter Tryz.func87,Tryz.ntmps87;go_upto_region 2 with fail;clear e0 e1 e2 e3;generalize w.alloc (.cells #[.int .i64 1,.int .i64 pk,.int .i64 pv,.int .i64 pn] 66 (0,0))=w1 at b1 kP ij iZ HI ⊢;have p0:=coQ kP 0;have p1:=coQ kP 1;have p2:=coQ kP 2;have p3:=coQ kP 3;simp at p0 p1 p2 p3;go_wp2;exact bodyPost_ret (v:=.tuple #[.int .i64 (pn),.int .i64 ((i:Int)-1)]) (by simp [results,Tryz.results87,go_sem]) rfl ⟨_,_,rfl,HI.out,ij.out,aside b1⟩
theorem partD4_any {L:List Nat} {mb vb:Nat} {g:MgV} {S:Sk.Sys} {ah:Int->Option (List Int)} {C:List (List Int)} {w:World} {E:List Pu} {aE:Option Addr} {cE i k:Nat} (hs:MgSt L mb vb g S ah C w) (hE:HPu (· ∉ L) w (.slice aE E.length cE) E) (hi:i<E.length) (hlen:E.length<=24) {pk pv pn:Int} (eb:E[i]=⟨4,pk,pv,pn⟩) (nK:k<=300) (hpn : -1000000<=pn/\pn<=1000000):Calls Tryz.prog 87 #[.pointer (some ⟨mb,0,none⟩),.slice aE E.length cE,.int .i64 (i:Int),.int .i64 (k:Int)] w (PartD L mb vb g S ah C k E (i+1) w):=by
 obtain ⟨gw,dk,eqs,bH,cG,bg⟩:=hE.at;injection eqs with q1 q2 q3;subst q1 q3;unfold maxLen at cG;obtain ⟨bb,o,rfl,hb,e0,e1,e2,e3⟩:=bg i hi;rw [eb] at e0 e1 e2 e3
 dsimp only at e0 e1 e2 e3
 have b1:Below w.heap.size w (w.alloc (.cells #[.int .i64 4,.int .i64 pk,.int .i64 pv,.int .i64 pn] 66 (0,0))):=(Below.refl _ _).alloc zBR _;have kP:=zBO w (.cells #[.int .i64 4,.int .i64 pk,.int .i64 pv,.int .i64 pn] 66 (0,0));have rv:vb<w.heap.size:=hs.lt _ hs.vL;have ij:=zBK (hs.under b1);have iZ:=zBK (hE.under b1);have fF:=zBK hs.vL;have vU:=zBK (zBu (i:=i) (by omega));have HI:=zBK (show Sk.PartS C k E (i+1) ((k:Int)+pn) i from by
  have h:=Sk.partS_0 (C:=C) (k:=k) hi (by rw [eb];rfl);rw [eb] at h;exact h)
 clear hs hE bg q2 eb;generalize E.length=ne at *;have gW:(i:Int)<24:=(by omega);have HW:Hid (IntKind.i64.wrap ((k:Int)+pn)=(k:Int)+pn):=zBK (i64_in _ ⟨by omega,by omega⟩);obtain ⟨z,hz⟩:=nmQ ((k:Int)+pn);have hw:IntKind.i64.wrap ((k:Int)+pn)=z:=HW.out.trans hz.symm;rw [<-hz] at HI;clear hz HW hpn;go_enter Tryz.func87,Tryz.ntmps87;go_upto_region 2 with fail;clear e0 e1 e2 e3;generalize w.alloc (.cells #[.int .i64 4,.int .i64 pk,.int .i64 pv,.int .i64 pn] 66 (0,0))=w1 at b1 kP ij iZ HI ⊢;have p0:=coQ kP 0;have p1:=coQ kP 1;have p2:=coQ kP 2;have p3:=coQ kP 3;simp at p0 p1 p2 p3;go_wp2;exact bodyPost_ret (v:=.tuple #[.int .i64 (z),.int .i64 ((i:Int)-1)]) (by simp [results,Tryz.results87,go_sem];try exact hw) rfl ⟨_,_,rfl,HI.out,ij.out,aside b1⟩
theorem partD2_any {L:List Nat} {mb vb:Nat} {g:MgV} {S:Sk.Sys} {ah:Int->Option (List Int)} {C:List (List Int)} {w:World} {E:List Pu} {aE:Option Addr} {cE i k:Nat} (hs:MgSt L mb vb g S ah C w) (hE:HPu (· ∉ L) w (.slice aE E.length cE) E) (hi:i<E.length) (hlen:E.length<=24) {pk pv pn:Int} (eb:E[i]=⟨2,pk,pv,pn⟩) (hO:OfAt L mb vb g S ah C pv) (hv:0<(Sk.cAt C pv).length):Calls Tryz.prog 87 #[.pointer (some ⟨mb,0,none⟩),.slice aE E.length cE,.int .i64 (i:Int),.int .i64 (k:Int)] w (PartD L mb vb g S ah C k E (i+1) w):=by
 obtain ⟨gw,dk,eqs,bH,cG,bg⟩:=hE.at;injection eqs with q1 q2 q3;subst q1 q3;unfold maxLen at cG;obtain ⟨bb,o,rfl,hb,e0,e1,e2,e3⟩:=bg i hi;rw [eb] at e0 e1 e2 e3
 dsimp only at e0 e1 e2 e3
 have b1:Below w.heap.size w (w.alloc (.cells #[.int .i64 2,.int .i64 pk,.int .i64 pv,.int .i64 pn] 66 (0,0))):=(Below.refl _ _).alloc zBR _;have kP:=zBO w (.cells #[.int .i64 2,.int .i64 pk,.int .i64 pv,.int .i64 pn] 66 (0,0));have rv:vb<w.heap.size:=hs.lt _ hs.vL;have ij:=zBK (hs.under b1);have iZ:=zBK (hE.under b1);have fF:=zBK hs.vL;have vU:=zBK (zBu (i:=i) (by omega));have HI:=zBK (show Sk.PartS C k E (i+1) ((Sk.cAt C pv).getD 0 0) i from by
  have h:=Sk.partS_0 (C:=C) (k:=k) hi (by rw [eb];rfl);rw [eb] at h;exact h)
 have HO:=zBK hO;clear hs hE bg q2 eb;clear hO;generalize E.length=ne at *;have gW:(i:Int)<24:=(by omega);obtain ⟨M,hM⟩:=nmQ (Sk.cAt C pv);go_enter Tryz.func87,Tryz.ntmps87;go_upto_region 2 with fail;clear e0 e1 e2 e3;generalize w.alloc (.cells #[.int .i64 2,.int .i64 pk,.int .i64 pv,.int .i64 pn] 66 (0,0))=w1 at b1 kP ij iZ HI ⊢;have p0:=coQ kP 0;have p1:=coQ kP 1;have p2:=coQ kP 2;have p3:=coQ kP 3;simp at p0 p1 p2 p3;go_wp2_with fail;refine (HO.out _ ij.out).mono ?_;clear HO ij iZ p0 p1 p3;rintro e w2 ⟨u,rfl,dC,cQ,ha⟩;obtain ⟨au,cu,rfl,uf⟩:=dC;obtain ⟨Ns,NF,F0,lL,j8,pW⟩:=uf.at;injection F0 with z1 z2 z3;subst z1 z3;unfold maxLen at j8;obtain ⟨bu,ou,wj,Ov,ld⟩:=pW 0 hv;injection wj with wj;subst wj;have er:(Sk.cAt C pv).getD 0 0=(Sk.cAt C pv)[0]:=(by simp [List.getD_eq_getElem?_getD,hv]);rw [er] at HI;generalize (Sk.cAt C pv)[0]=y at ld HI;simp at ld;have eF:=zBK cQ;have HA:=zBK ((aside b1).trans ha b1.size);clear pW uf er z2 cQ ha;generalize (Sk.cAt C pv).length=nu at *;go_wp2;exact bodyPost_ret (v:=.tuple #[.int .i64 y,.int .i64 ((i:Int)-1)]) (by simp [results,Tryz.results87,go_sem];try exact i64_in _ (by omega)) rfl ⟨_,_,rfl,HI.out,eF.out,HA.out⟩
theorem partD3_any {L:List Nat} {mb vb:Nat} {g:MgV} {S:Sk.Sys} {ah:Int->Option (List Int)} {C:List (List Int)} {w:World} {E:List Pu} {aE:Option Addr} {cE i k:Nat} (hs:MgSt L mb vb g S ah C w) (hE:HPu (· ∉ L) w (.slice aE E.length cE) E) (hi:i<E.length) (hlen:E.length<=24) {pk pv:Int} {m:Nat} (eb:E[i]=⟨3,pk,pv,(m:Int)⟩) (hO:OfAt L mb vb g S ah C pv) (hv:k+m<(Sk.cAt C pv).length) (OU:k+m<=1000000):Calls Tryz.prog 87 #[.pointer (some ⟨mb,0,none⟩),.slice aE E.length cE,.int .i64 (i:Int),.int .i64 (k:Int)] w (PartD L mb vb g S ah C k E (i+1) w):=by
 obtain ⟨gw,dk,eqs,bH,cG,bg⟩:=hE.at;injection eqs with q1 q2 q3;subst q1 q3;unfold maxLen at cG;obtain ⟨bb,o,rfl,hb,e0,e1,e2,e3⟩:=bg i hi;rw [eb] at e0 e1 e2 e3
 dsimp only at e0 e1 e2 e3
 have b1:Below w.heap.size w (w.alloc (.cells #[.int .i64 3,.int .i64 pk,.int .i64 pv,.int .i64 (m:Int)] 66 (0,0))):=(Below.refl _ _).alloc zBR _;have kP:=zBO w (.cells #[.int .i64 3,.int .i64 pk,.int .i64 pv,.int .i64 (m:Int)] 66 (0,0));have rv:vb<w.heap.size:=hs.lt _ hs.vL;have ij:=zBK (hs.under b1);have iZ:=zBK (hE.under b1);have fF:=zBK hs.vL;have vU:=zBK (zBu (i:=i) (by omega));have HI:=zBK (show Sk.PartS C k E (i+1) ((Sk.cAt C pv).getD (k+m) 0) i from by
  have h:=Sk.partS_0 (C:=C) (k:=k) hi (by rw [eb];rfl);rw [eb] at h;exact h)
 have HO:=zBK hO;clear hs hE bg q2 eb;clear hO;generalize E.length=ne at *;have gW:(i:Int)<24:=(by omega);obtain ⟨z,hz⟩:=nmQ (k+m);have HW:Hid (IntKind.i64.wrap ((k:Int)+(m:Int))=(z:Int)):=zBK (by
  have h2:IntKind.i64.wrap ((k:Int)+(m:Int))=(k:Int)+(m:Int):=i64_in _ ⟨by omega,by omega⟩;rw [h2];omega)
 rw [<-hz] at hv HI;clear hz OU;go_enter Tryz.func87,Tryz.ntmps87;go_upto_region 2 with fail;clear e0 e1 e2 e3;generalize w.alloc (.cells #[.int .i64 3,.int .i64 pk,.int .i64 pv,.int .i64 (m:Int)] 66 (0,0))=w1 at b1 kP ij iZ HI ⊢;have p0:=coQ kP 0;have p1:=coQ kP 1;have p2:=coQ kP 2;have p3:=coQ kP 3;simp at p0 p1 p2 p3;have yP:=zBM kP;have dh:w.heap.size ∉ [vb]:=(by simp;omega);go_upto_region 8 with fail;have aM:=zBK (fun (wz:World) (hSw:Aside [vb] w1.heap.size w1 wz)=>And.intro ((zBL hSw (p:=⟨w.heap.size,0,none⟩) yP dh).trans p0) (And.intro ((zBL hSw (p:=⟨w.heap.size,1,none⟩) yP dh).trans p1) (And.intro ((zBL hSw (p:=⟨w.heap.size,2,none⟩) yP dh).trans p2) ((zBL hSw (p:=⟨w.heap.size,3,none⟩) yP dh).trans p3))));refine zBP (fun w'=>Aside [vb] w1.heap.size w1 w') (fun _=>false) (by kernel_rfl) ?_;have ab:Aside [vb] w1.heap.size w1 w1.drew:=(Aside.refl _).drew;have wG:MgSt L mb vb g S ah C w1.drew:=ij.out.under (Below.refl _ _).drew;generalize w1.drew=ag at ab wG ⊢;have vH:=zBK wG;clear wG;refine' tkR 0 43 ab ?o1
 refine' tkR 1 44 ab ?o2
 refine' tkQ 2 45 ab ?hyv ?o3
 case hyv=>
  intro wz hSw;have bk:=aM.out wz hSw;go_simp
  try rfl
 try simp only [Act.put,sT,sZ,sS]
 refine' tkR 4 47 ab ?o4
 refine' tkR 5 48 ab ?o5
 refine' tkQ 6 49 ab ?hyv ?o6
 case hyv=>
  intro wz hSw;have bk:=aM.out wz hSw;go_simp
  try rfl
 try simp only [Act.put,sT,sZ,sS]
 refine' zBS (i:=7) (oi:=⟨some 50,_,_,_,_,_⟩) (v:=.int .i64 (z:Int)) rfl (by kernel_rfl) (by kernel_rfl) (by kernel_rfl) (by kernel_rfl) (fun _ _ _ h=>h) ab (by rfl) ?hyv ?o7
 case hyv=>
  intro wz hSw;go_simp;rw [HW.out]
 try simp only [Act.put,sT,sZ,sS]
 refine' tkR 10 53 ab ?o8
 refine' tkR 11 54 ab ?o9
 refine tnQ 3 (fun K hK=>?_);go_simp;refine (HO.out _ vH.out).mono ?_;rintro eq aw ⟨u,rfl,dC,cQ,wJ⟩;have af:Aside [vb] w1.heap.size w1 aw:=ab.trans wJ ab.size;obtain ⟨au,cu,rfl,uf⟩:=dC;obtain ⟨Ns,NF,F0,lL,j8,pW⟩:=uf.at;injection F0 with z1 z2 z3;subst z1 z3;unfold maxLen at j8;obtain ⟨bu,ou,wj,Ov,ld⟩:=pW z hv;injection wj with wj;subst wj;have er:(Sk.cAt C pv).getD z 0=(Sk.cAt C pv)[z]:=(by simp [List.getD_eq_getElem?_getD,hv]);rw [er] at HI;generalize (Sk.cAt C pv)[z]=y at ld HI;have eF:=zBK cQ;clear pW uf er z2 cQ HO vH;generalize (Sk.cAt C pv).length=nu at *;refine hK.out _ _ (fun _=>af) ?_;clear hK K
 try simp only [Act.put,sT,sZ,sS]
 refine' tkR 8 51 af ?o10
 refine tnQ 9 (fun K hK=>?_);go_simp;refine hK.out _ _ (fun _=>af) ?_;clear hK K
 try simp only [Act.put,sT,sZ,sS]
 obtain ⟨aJ,Pz⟩:∃ x,x=aw:=⟨_,rfl⟩;subst Pz;have ay:=af;refine' tkR 12 8 ay ?o11
 refine' tkR 13 9 ay ?o12
 refine zBN (by kernel_rfl) ?_ _;go_wp2;exact bodyPost_ret (v:=.tuple #[.int .i64 y,.int .i64 ((i:Int)-1)]) (by simp [results,Tryz.results87,go_sem];try exact i64_in _ (by omega)) rfl ⟨_,_,rfl,HI.out,eF.out,(aside b1).trans ay b1.size⟩
end Go.Proofs.YtfhghlpfeeiaeaaGreatDoor
