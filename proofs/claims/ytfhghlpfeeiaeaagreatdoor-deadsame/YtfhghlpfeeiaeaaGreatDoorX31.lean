import Derived.Test.YtfhghlpfeeiaeaaGreatDoorX30
set_option linter.unusedVariables false
set_option linter.unusedSimpArgs false
set_option maxHeartbeats 64000000
set_option maxRecDepth 100000
namespace Go.Proofs.YtfhghlpfeeiaeaaGreatDoor
open Go.RowKit Go.IntWalk
theorem zBp (k a b:Int) (w:World) (ha:I64 a) (hb:I64 b):Calls Tryz.prog 78 #[.int .i64 k,.int .i64 a,.int .i64 b] w fun e w'=>e=.returned (.int .i64 (apT k a b))/\Below w.heap.size w w':=(refApply_any k a b w ha hb).mono (by rintro e w' ⟨rfl,rfl⟩;exact ⟨rfl,Below.refl _ _⟩)
theorem partDU_any {L:List Nat} {mb vb:Nat} {g:MgV} {S:Sk.Sys} {ah:Int->Option (List Int)} {C:List (List Int)} {w:World} {E:List Pu} {aE:Option Addr} {cE i k:Nat} (hs:MgSt L mb vb g S ah C w) (hE:HPu (· ∉ L) w (.slice aE E.length cE) E) (hi:i<E.length) (hlen:E.length<=24) (hC:Sk.WdC C) (lZ:Sk.PW E) (hk:k<=1000000) {pk pv pn:Int} (eb:E[i]=⟨5,pk,pv,pn⟩) (dS:∀ W,MgSt L mb vb g S ah C W->HPu (· ∉ L) W (.slice aE E.length cE) E->Calls Tryz.prog 87 #[.pointer (some ⟨mb,0,none⟩),.slice aE E.length cE,.int .i64 ((i:Int)-1),.int .i64 (k:Int)] W (PartD L mb vb g S ah C k E (i) W)):Calls Tryz.prog 87 #[.pointer (some ⟨mb,0,none⟩),.slice aE E.length cE,.int .i64 (i:Int),.int .i64 (k:Int)] w (PartD L mb vb g S ah C k E (i+1) w):=by
 obtain ⟨gw,dk,eqs,bH,cG,bg⟩:=hE.at;injection eqs with q1 q2 q3;subst q1 q3;unfold maxLen at cG;obtain ⟨bb,o,rfl,hb,e0,e1,e2,e3⟩:=bg i hi;rw [eb] at e0 e1 e2 e3
 dsimp only at e0 e1 e2 e3
 have b1:Below w.heap.size w (w.alloc (.cells #[.int .i64 5,.int .i64 pk,.int .i64 pv,.int .i64 pn] 66 (0,0))):=(Below.refl _ _).alloc zBR _;have kP:=zBO w (.cells #[.int .i64 5,.int .i64 pk,.int .i64 pv,.int .i64 pn] 66 (0,0));have rv:vb<w.heap.size:=hs.lt _ hs.vL;have ij:=zBK (hs.under b1);have iZ:=zBK (hE.under b1);have fF:=zBK hs.vL;have vU:=zBK (zBu (i:=i) (by omega));have iG:=zBK dS;have r6:=zBK (fun (j:Nat) (v:Int) (m:Nat) (h:Sk.PartS C k E j v m) (hj:j<=i)=>h.wide hC lZ hk (Nat.le_trans hj (Nat.le_of_lt hi)));have eF:=zBK (show ∀ a j,Sk.PartS C k E i a j->Sk.PartS C k E (i+1) (apT pk a 0) j from fun a j h=>by
  have h:=Sk.partS_1 hi (by rw [eb];rfl) h;rw [eb] at h;exact h)
 clear hs hE bg q2 eb dS hC lZ ;generalize E.length=ne at *;go_enter Tryz.func87,Tryz.ntmps87;go_upto_region 2 with fail;clear e0 e1 e2 e3;generalize w.alloc (.cells #[.int .i64 5,.int .i64 pk,.int .i64 pv,.int .i64 pn] 66 (0,0))=w1 at b1 kP ij iZ ⊢;have p0:=coQ kP 0;have p1:=coQ kP 1;have p2:=coQ kP 2;have p3:=coQ kP 3;simp at p0 p1 p2 p3;have yP:=zBM kP;have dh:w.heap.size ∉ [vb]:=(by simp;omega);have fy:=zBK (show Aside [vb] w.heap.size w w1 from aside b1);go_wp2_with fail;refine (iG.out _ ij.out iZ.out).mono ?_;rintro e A ⟨a,j,rfl,pS,cQ,gl⟩;have pA:=zBK pS;have vE:=zBK cQ;have rP:=zBK (zCD iZ.out gl fF.out);have pc:=zBK (fy.out.trans gl fy.out.size)
 replace p0:=(zBL gl (p:=⟨w.heap.size,0,none⟩) yP dh).trans p0
 replace p1:=(zBL gl (p:=⟨w.heap.size,1,none⟩) yP dh).trans p1
 replace p2:=(zBL gl (p:=⟨w.heap.size,2,none⟩) yP dh).trans p2
 replace p3:=(zBL gl (p:=⟨w.heap.size,3,none⟩) yP dh).trans p3
 replace yP:=Nat.lt_of_lt_of_le yP gl.size
 clear pS cQ gl;go_wp2_with fail;refine (zBp pk a 0 _ (r6.out _ _ _ pA.out zBR) (by unfold I64;omega)).mono ?_;rintro e wE ⟨rfl,bE⟩;have AH:=zBK (vE.out.under bE);have zL:=zBK (pc.out.trans (aside bE) pc.out.size);clear bE;go_wp2;exact bodyPost_ret (v:=.tuple #[.int .i64 (apT pk a 0),.int .i64 ((j:Int)-1)]) (by simp [results,Tryz.results87,go_sem]) rfl ⟨_,_,rfl,eF.out _ _ pA.out,AH.out,zL.out⟩
theorem partDB_any {L:List Nat} {mb vb:Nat} {g:MgV} {S:Sk.Sys} {ah:Int->Option (List Int)} {C:List (List Int)} {w:World} {E:List Pu} {aE:Option Addr} {cE i k:Nat} (hs:MgSt L mb vb g S ah C w) (hE:HPu (· ∉ L) w (.slice aE E.length cE) E) (hi:i<E.length) (hlen:E.length<=24) (hC:Sk.WdC C) (lZ:Sk.PW E) (hk:k<=1000000) {pk pv pn:Int} (eb:E[i]=⟨6,pk,pv,pn⟩) (dS:∀ W,MgSt L mb vb g S ah C W->HPu (· ∉ L) W (.slice aE E.length cE) E->Calls Tryz.prog 87 #[.pointer (some ⟨mb,0,none⟩),.slice aE E.length cE,.int .i64 ((i:Int)-1),.int .i64 (k:Int)] W (PartD L mb vb g S ah C k E (i) W)) (fT:∀ (b:Int) (m:Nat),Sk.PartS C k E i b m->∀ W,MgSt L mb vb g S ah C W->HPu (· ∉ L) W (.slice aE E.length cE) E->Calls Tryz.prog 87 #[.pointer (some ⟨mb,0,none⟩),.slice aE E.length cE,.int .i64 ((m:Int)-1),.int .i64 (k:Int)] W (PartD L mb vb g S ah C k E (m) W)):Calls Tryz.prog 87 #[.pointer (some ⟨mb,0,none⟩),.slice aE E.length cE,.int .i64 (i:Int),.int .i64 (k:Int)] w (PartD L mb vb g S ah C k E (i+1) w):=by
 obtain ⟨gw,dk,eqs,bH,cG,bg⟩:=hE.at;injection eqs with q1 q2 q3;subst q1 q3;unfold maxLen at cG;obtain ⟨bb,o,rfl,hb,e0,e1,e2,e3⟩:=bg i hi;rw [eb] at e0 e1 e2 e3
 dsimp only at e0 e1 e2 e3
 have b1:Below w.heap.size w (w.alloc (.cells #[.int .i64 6,.int .i64 pk,.int .i64 pv,.int .i64 pn] 66 (0,0))):=(Below.refl _ _).alloc zBR _;have kP:=zBO w (.cells #[.int .i64 6,.int .i64 pk,.int .i64 pv,.int .i64 pn] 66 (0,0));have rv:vb<w.heap.size:=hs.lt _ hs.vL;have ij:=zBK (hs.under b1);have iZ:=zBK (hE.under b1);have fF:=zBK hs.vL;have vU:=zBK (zBu (i:=i) (by omega));have iG:=zBK dS;have r6:=zBK (fun (j:Nat) (v:Int) (m:Nat) (h:Sk.PartS C k E j v m) (hj:j<=i)=>h.wide hC lZ hk (Nat.le_trans hj (Nat.le_of_lt hi)));have km:=zBK fT;have eF:=zBK (show ∀ b m a j,Sk.PartS C k E i b m->Sk.PartS C k E m a j->Sk.PartS C k E (i+1) (apT pk a b) j from fun b m a j h1 h2=>by
  have h:=Sk.partS_2 hi (by rw [eb];rfl) h1 h2;rw [eb] at h;exact h)
 clear hs hE bg q2 eb dS hC lZ fT;generalize E.length=ne at *;go_enter Tryz.func87,Tryz.ntmps87;go_upto_region 2 with fail;clear e0 e1 e2 e3;generalize w.alloc (.cells #[.int .i64 6,.int .i64 pk,.int .i64 pv,.int .i64 pn] 66 (0,0))=w1 at b1 kP ij iZ ⊢;have p0:=coQ kP 0;have p1:=coQ kP 1;have p2:=coQ kP 2;have p3:=coQ kP 3;simp at p0 p1 p2 p3;have yP:=zBM kP;have dh:w.heap.size ∉ [vb]:=(by simp;omega);have fy:=zBK (show Aside [vb] w.heap.size w w1 from aside b1);go_wp2_with fail;refine (iG.out _ ij.out iZ.out).mono ?_;rintro e A ⟨b,m,rfl,tS,cQ,gl⟩;have oh:=zBK tS;have vE:=zBK cQ;have rP:=zBK (zCD iZ.out gl fF.out);have pc:=zBK (fy.out.trans gl fy.out.size)
 replace p0:=(zBL gl (p:=⟨w.heap.size,0,none⟩) yP dh).trans p0
 replace p1:=(zBL gl (p:=⟨w.heap.size,1,none⟩) yP dh).trans p1
 replace p2:=(zBL gl (p:=⟨w.heap.size,2,none⟩) yP dh).trans p2
 replace p3:=(zBL gl (p:=⟨w.heap.size,3,none⟩) yP dh).trans p3
 replace yP:=Nat.lt_of_lt_of_le yP gl.size
 clear tS cQ gl;go_wp2_with fail;refine (km.out b m oh.out _ vE.out rP.out).mono ?_;rintro e B ⟨a,j,rfl,pS,cQ,iH⟩;have pA:=zBK pS;have mU:=zBK cQ;have Df:=zBK (zCD rP.out iH fF.out);have k7:=zBK (pc.out.trans iH pc.out.size)
 replace p0:=(zBL iH (p:=⟨w.heap.size,0,none⟩) yP dh).trans p0
 replace p1:=(zBL iH (p:=⟨w.heap.size,1,none⟩) yP dh).trans p1
 replace p2:=(zBL iH (p:=⟨w.heap.size,2,none⟩) yP dh).trans p2
 replace p3:=(zBL iH (p:=⟨w.heap.size,3,none⟩) yP dh).trans p3
 replace yP:=Nat.lt_of_lt_of_le yP iH.size
 clear pS cQ iH;go_wp2_with fail;refine (zBp pk a b _ (r6.out _ _ _ pA.out oh.out.lt) (r6.out _ _ _ oh.out zBR)).mono ?_;rintro e wE ⟨rfl,bE⟩;have AH:=zBK (mU.out.under bE);have zL:=zBK (k7.out.trans (aside bE) k7.out.size);clear bE;go_wp2;exact bodyPost_ret (v:=.tuple #[.int .i64 (apT pk a b),.int .i64 ((j:Int)-1)]) (by simp [results,Tryz.results87,go_sem]) rfl ⟨_,_,rfl,eF.out _ _ _ _ oh.out pA.out,AH.out,zL.out⟩
theorem partDS_any {L:List Nat} {mb vb:Nat} {g:MgV} {S:Sk.Sys} {ah:Int->Option (List Int)} {C:List (List Int)} {w:World} {E:List Pu} {aE:Option Addr} {cE i k:Nat} (hs:MgSt L mb vb g S ah C w) (hE:HPu (· ∉ L) w (.slice aE E.length cE) E) (hi:i<E.length) (hlen:E.length<=24) (hC:Sk.WdC C) (lZ:Sk.PW E) (hk:k<=1000000) {pk pv pn:Int} (eb:E[i]=⟨7,pk,pv,pn⟩) (dS:∀ W,MgSt L mb vb g S ah C W->HPu (· ∉ L) W (.slice aE E.length cE) E->Calls Tryz.prog 87 #[.pointer (some ⟨mb,0,none⟩),.slice aE E.length cE,.int .i64 ((i:Int)-1),.int .i64 (k:Int)] W (PartD L mb vb g S ah C k E (i) W)) (fT:∀ (b:Int) (m:Nat),Sk.PartS C k E i b m->∀ W,MgSt L mb vb g S ah C W->HPu (· ∉ L) W (.slice aE E.length cE) E->Calls Tryz.prog 87 #[.pointer (some ⟨mb,0,none⟩),.slice aE E.length cE,.int .i64 ((m:Int)-1),.int .i64 (k:Int)] W (PartD L mb vb g S ah C k E (m) W)) (Kq:∀ (b:Int) (m:Nat) (a:Int) (q:Nat),Sk.PartS C k E i b m->Sk.PartS C k E m a q->∀ W,MgSt L mb vb g S ah C W->HPu (· ∉ L) W (.slice aE E.length cE) E->Calls Tryz.prog 87 #[.pointer (some ⟨mb,0,none⟩),.slice aE E.length cE,.int .i64 ((q:Int)-1),.int .i64 (k:Int)] W (PartD L mb vb g S ah C k E (q) W)):Calls Tryz.prog 87 #[.pointer (some ⟨mb,0,none⟩),.slice aE E.length cE,.int .i64 (i:Int),.int .i64 (k:Int)] w (PartD L mb vb g S ah C k E (i+1) w):=by
 obtain ⟨gw,dk,eqs,bH,cG,bg⟩:=hE.at;injection eqs with q1 q2 q3;subst q1 q3;unfold maxLen at cG;obtain ⟨bb,o,rfl,hb,e0,e1,e2,e3⟩:=bg i hi;rw [eb] at e0 e1 e2 e3
 dsimp only at e0 e1 e2 e3
 have b1:Below w.heap.size w (w.alloc (.cells #[.int .i64 7,.int .i64 pk,.int .i64 pv,.int .i64 pn] 66 (0,0))):=(Below.refl _ _).alloc zBR _;have kP:=zBO w (.cells #[.int .i64 7,.int .i64 pk,.int .i64 pv,.int .i64 pn] 66 (0,0));have rv:vb<w.heap.size:=hs.lt _ hs.vL;have ij:=zBK (hs.under b1);have iZ:=zBK (hE.under b1);have fF:=zBK hs.vL;have vU:=zBK (zBu (i:=i) (by omega));have iG:=zBK dS;have r6:=zBK (fun (j:Nat) (v:Int) (m:Nat) (h:Sk.PartS C k E j v m) (hj:j<=i)=>h.wide hC lZ hk (Nat.le_trans hj (Nat.le_of_lt hi)));have km:=zBK fT;have MM:=zBK Kq;have eF:=zBK (show ∀ b m a q c j,Sk.PartS C k E i b m->Sk.PartS C k E m a q->Sk.PartS C k E q c j->Sk.PartS C k E (i+1) (if c≠0 then a else b) j from fun b m a q c j h1 h2 h3=>by
  have h:=Sk.partS_3 hi (by rw [eb];rfl) h1 h2 h3;rw [eb] at h;exact h)
 clear hs hE bg q2 eb dS hC lZ fT Kq;generalize E.length=ne at *;go_enter Tryz.func87,Tryz.ntmps87;go_upto_region 2 with fail;clear e0 e1 e2 e3;generalize w.alloc (.cells #[.int .i64 7,.int .i64 pk,.int .i64 pv,.int .i64 pn] 66 (0,0))=w1 at b1 kP ij iZ ⊢;have p0:=coQ kP 0;have p1:=coQ kP 1;have p2:=coQ kP 2;have p3:=coQ kP 3;simp at p0 p1 p2 p3;have yP:=zBM kP;have dh:w.heap.size ∉ [vb]:=(by simp;omega);have fy:=zBK (show Aside [vb] w.heap.size w w1 from aside b1);go_wp2_with fail;refine (iG.out _ ij.out iZ.out).mono ?_;rintro e A ⟨b,m,rfl,tS,cQ,gl⟩;have oh:=zBK tS;have vE:=zBK cQ;have rP:=zBK (zCD iZ.out gl fF.out);have pc:=zBK (fy.out.trans gl fy.out.size)
 replace p0:=(zBL gl (p:=⟨w.heap.size,0,none⟩) yP dh).trans p0
 replace p1:=(zBL gl (p:=⟨w.heap.size,1,none⟩) yP dh).trans p1
 replace p2:=(zBL gl (p:=⟨w.heap.size,2,none⟩) yP dh).trans p2
 replace p3:=(zBL gl (p:=⟨w.heap.size,3,none⟩) yP dh).trans p3
 replace yP:=Nat.lt_of_lt_of_le yP gl.size
 clear tS cQ gl;go_wp2_with fail;refine (km.out b m oh.out _ vE.out rP.out).mono ?_;rintro e B ⟨a,q,rfl,pS,cQ,iH⟩;have pA:=zBK pS;have mU:=zBK cQ;have Df:=zBK (zCD rP.out iH fF.out);have k7:=zBK (pc.out.trans iH pc.out.size)
 replace p0:=(zBL iH (p:=⟨w.heap.size,0,none⟩) yP dh).trans p0
 replace p1:=(zBL iH (p:=⟨w.heap.size,1,none⟩) yP dh).trans p1
 replace p2:=(zBL iH (p:=⟨w.heap.size,2,none⟩) yP dh).trans p2
 replace p3:=(zBL iH (p:=⟨w.heap.size,3,none⟩) yP dh).trans p3
 replace yP:=Nat.lt_of_lt_of_le yP iH.size
 clear pS cQ iH;go_wp2_with fail;refine (MM.out b m a q oh.out pA.out _ mU.out Df.out).mono ?_;rintro e D ⟨c,j,rfl,Kz,cQ,tT⟩;have Jn:=zBK Kz;have vH:=zBK cQ;have QA:=zBK (zCD Df.out tT fF.out);have IM:=zBK (k7.out.trans tT k7.out.size)
 replace p0:=(zBL tT (p:=⟨w.heap.size,0,none⟩) yP dh).trans p0
 replace p1:=(zBL tT (p:=⟨w.heap.size,1,none⟩) yP dh).trans p1
 replace p2:=(zBL tT (p:=⟨w.heap.size,2,none⟩) yP dh).trans p2
 replace p3:=(zBL tT (p:=⟨w.heap.size,3,none⟩) yP dh).trans p3
 replace yP:=Nat.lt_of_lt_of_le yP tT.size
 clear Kz cQ tT;by_cases h0:c=0
 ·have e0:(c != 0)=false:=by simp [h0]
  have HZ:=zBK (show Sk.PartS C k E (i+1) b j by
   have:=eF.out _ _ _ _ _ _ oh.out pA.out Jn.out;rw [if_neg (by simp [h0])] at this;exact this)
  clear h0;go_wp2;exact bodyPost_ret (v:=.tuple #[.int .i64 b,.int .i64 ((j:Int)-1)]) (by simp [results,Tryz.results87,go_sem]) rfl ⟨_,_,rfl,HZ.out,vH.out,IM.out⟩
 ·have e0:(c != 0)=true:=by simp [h0]
  have HZ:=zBK (show Sk.PartS C k E (i+1) a j by
   have:=eF.out _ _ _ _ _ _ oh.out pA.out Jn.out;rw [if_pos h0] at this;exact this)
  clear h0;go_wp2;exact bodyPost_ret (v:=.tuple #[.int .i64 a,.int .i64 ((j:Int)-1)]) (by simp [results,Tryz.results87,go_sem]) rfl ⟨_,_,rfl,HZ.out,vH.out,IM.out⟩
theorem partDA_any {L:List Nat} {mb vb:Nat} {g:MgV} {S:Sk.Sys} {ah:Int->Option (List Int)} {C:List (List Int)} {w:World} {E:List Pu} {aE:Option Addr} {cE i k:Nat} (hs:MgSt L mb vb g S ah C w) (hE:HPu (· ∉ L) w (.slice aE E.length cE) E) (hi:i<E.length) (hlen:E.length<=24) (hC:Sk.WdC C) (lZ:Sk.PW E) (hk:k<=1000000) {pk pv pn:Int} (eb:E[i]=⟨8,pk,pv,pn⟩) (hO:OfAt L mb vb g S ah C pv) (dS:∀ W,MgSt L mb vb g S ah C W->HPu (· ∉ L) W (.slice aE E.length cE) E->Calls Tryz.prog 87 #[.pointer (some ⟨mb,0,none⟩),.slice aE E.length cE,.int .i64 ((i:Int)-1),.int .i64 (k:Int)] W (PartD L mb vb g S ah C k E (i) W)) (fT:∀ (b:Int) (m:Nat),Sk.PartS C k E i b m->∀ W,MgSt L mb vb g S ah C W->HPu (· ∉ L) W (.slice aE E.length cE) E->Calls Tryz.prog 87 #[.pointer (some ⟨mb,0,none⟩),.slice aE E.length cE,.int .i64 ((m:Int)-1),.int .i64 (k:Int)] W (PartD L mb vb g S ah C k E (m) W)):Calls Tryz.prog 87 #[.pointer (some ⟨mb,0,none⟩),.slice aE E.length cE,.int .i64 (i:Int),.int .i64 (k:Int)] w (PartD L mb vb g S ah C k E (i+1) w):=by
 obtain ⟨gw,dk,eqs,bH,cG,bg⟩:=hE.at;injection eqs with q1 q2 q3;subst q1 q3;unfold maxLen at cG;obtain ⟨bb,o,rfl,hb,e0,e1,e2,e3⟩:=bg i hi;rw [eb] at e0 e1 e2 e3
 dsimp only at e0 e1 e2 e3
 have b1:Below w.heap.size w (w.alloc (.cells #[.int .i64 8,.int .i64 pk,.int .i64 pv,.int .i64 pn] 66 (0,0))):=(Below.refl _ _).alloc zBR _;have kP:=zBO w (.cells #[.int .i64 8,.int .i64 pk,.int .i64 pv,.int .i64 pn] 66 (0,0));have rv:vb<w.heap.size:=hs.lt _ hs.vL;have ij:=zBK (hs.under b1);have iZ:=zBK (hE.under b1);have fF:=zBK hs.vL;have vU:=zBK (zBu (i:=i) (by omega));have iG:=zBK dS;have r6:=zBK (fun (j:Nat) (v:Int) (m:Nat) (h:Sk.PartS C k E j v m) (hj:j<=i)=>h.wide hC lZ hk (Nat.le_trans hj (Nat.le_of_lt hi)));have km:=zBK fT;have HO:=zBK hO;have eF:=zBK (show ∀ b m a j,Sk.PartS C k E i b m->Sk.PartS C k E m a j->Sk.PartS C k E (i+1) (Sk.cellAt (Sk.cAt C pv) a b) j from fun b m a j h1 h2=>by
  have h:=Sk.partS_2 hi (by rw [eb];rfl) h1 h2;rw [eb] at h;exact h)
 clear hs hE bg q2 eb dS hC lZ fT hO;generalize E.length=ne at *;go_enter Tryz.func87,Tryz.ntmps87;go_upto_region 2 with fail;clear e0 e1 e2 e3;generalize w.alloc (.cells #[.int .i64 8,.int .i64 pk,.int .i64 pv,.int .i64 pn] 66 (0,0))=w1 at b1 kP ij iZ ⊢;have p0:=coQ kP 0;have p1:=coQ kP 1;have p2:=coQ kP 2;have p3:=coQ kP 3;simp at p0 p1 p2 p3;have yP:=zBM kP;have dh:w.heap.size ∉ [vb]:=(by simp;omega);have fy:=zBK (show Aside [vb] w.heap.size w w1 from aside b1);go_wp2_with fail;refine (iG.out _ ij.out iZ.out).mono ?_;rintro e A ⟨b,m,rfl,tS,cQ,gl⟩;have oh:=zBK tS;have vE:=zBK cQ;have rP:=zBK (zCD iZ.out gl fF.out);have pc:=zBK (fy.out.trans gl fy.out.size)
 replace p0:=(zBL gl (p:=⟨w.heap.size,0,none⟩) yP dh).trans p0
 replace p1:=(zBL gl (p:=⟨w.heap.size,1,none⟩) yP dh).trans p1
 replace p2:=(zBL gl (p:=⟨w.heap.size,2,none⟩) yP dh).trans p2
 replace p3:=(zBL gl (p:=⟨w.heap.size,3,none⟩) yP dh).trans p3
 replace yP:=Nat.lt_of_lt_of_le yP gl.size
 clear tS cQ gl;go_wp2_with fail;refine (km.out b m oh.out _ vE.out rP.out).mono ?_;rintro e B ⟨a,j,rfl,pS,cQ,iH⟩;have pA:=zBK pS;have mU:=zBK cQ;have Df:=zBK (zCD rP.out iH fF.out);have k7:=zBK (pc.out.trans iH pc.out.size)
 replace p0:=(zBL iH (p:=⟨w.heap.size,0,none⟩) yP dh).trans p0
 replace p1:=(zBL iH (p:=⟨w.heap.size,1,none⟩) yP dh).trans p1
 replace p2:=(zBL iH (p:=⟨w.heap.size,2,none⟩) yP dh).trans p2
 replace p3:=(zBL iH (p:=⟨w.heap.size,3,none⟩) yP dh).trans p3
 replace yP:=Nat.lt_of_lt_of_le yP iH.size
 clear pS cQ iH;go_wp2_with fail;refine (HO.out _ mU.out).mono ?_;rintro e wU ⟨u,rfl,dC,cQ,Bf⟩;have Dy:=zBK cQ;have IQ:=zBK (k7.out.trans Bf k7.out.size);obtain ⟨au,cu,rfl,uf⟩:=dC;have tx:=zBK (zCw uf a b);clear uf cQ Bf p0 p1 p2 p3;obtain ⟨y,hy⟩:=nmQ (Sk.cellAt (Sk.cAt C pv) a b);rw [<-hy] at tx;have HY:=zBK hy;clear hy;generalize (Sk.cAt C pv).length=nu at *;go_wp2_with fail;refine tx.out.mono ?_;rintro e wE ⟨rfl,bE⟩;have AH:=zBK (Dy.out.under bE);have zL:=zBK (IQ.out.trans (aside bE) IQ.out.size);clear bE;go_wp2;exact bodyPost_ret (v:=.tuple #[.int .i64 (y),.int .i64 ((j:Int)-1)]) (by simp [results,Tryz.results87,go_sem]) rfl ⟨_,_,rfl,(by rw [HY.out];exact eF.out _ _ _ _ oh.out pA.out),AH.out,zL.out⟩
end Go.Proofs.YtfhghlpfeeiaeaaGreatDoor
