import Derived.Test.YtegakbobaecdlaaGreatDoorK39
import Derived.Test.YtegakbobaecdlaaGreatDoorK35
set_option linter.unusedVariables false
set_option linter.unusedSimpArgs false
set_option maxHeartbeats 64000000
set_option maxRecDepth 100000
namespace Go.Proofs.YtegakbobaecdlaaGreatDoor
open Go.RowKit Go.IntWalk
theorem maker_any {ok okR:Nat->Prop} {w:World} {b:Nat} {x:WkV} {vN vL:Value} {m:List Bool} {N:List (List Int)} {R:List Sk.Ru} (h:WkAt w b x vN vL) (hm:Md w x.g m) (hn:x.nV=m.length) (hN:HRow kIL ok w vN N) (hR:HRus okR w (.slice x.aR x.nR x.cR) R) (j:Nat) (hj:j<N.length) (hr:∀ z ∈ N[j],0<=z/\z<m.length) (hmi:(N[j]).any (fun z => !(m.getD z.toNat false))=true) :
  Calls Tryz.prog 55 #[.pointer (some ⟨b,0,none⟩),.int .i64 (j:Int)] w fun e w'=>∃ z ∈ N[j],m.getD z.toNat false=false/\e=.returned (.int .i64 (Sk.idxI (fun o=>o==z) 0 (R.map (·.out))))/\Below w.heap.size w w':=by
 have h2:=h;unfold WkAt at h2;obtain ⟨aN,cN,rfl,hc1,hc2,hat⟩:=hN.ilAt;unfold maxLen at hc2;obtain ⟨bN,oN,u,rfl,hb,hcell,hu⟩:=hat j hj;have c4:=coQ h2 4;have c3:=coQ h2 3;simp at c3 c4;have yb:=zG h2;have hct:=qE (p:=fun z => !(m.getD z.toNat false)) (a:=.pointer (some ⟨b,0,none⟩)) eg62 hu (fun z hz W hW=>by
  obtain ⟨zn,rfl⟩:∃ zn:Nat,z=(zn:Int):=⟨z.toNat,by have:=hr z hz;omega⟩;have:=vD (h.under hW) (hm.under hW) hn zn (by have:=hr _ hz;omega);rw [Int.toNat_natCast];exact this)
 rcases Sk.idx_cases (fun z => !(m.getD z.toNat false)) N[j] 0 with ⟨h1,-⟩ | ⟨i,hi,h1,-,h3⟩
 ·exfalso
  rw [List.any_eq_true] at hmi;obtain ⟨z,hz,e⟩:=hmi;have:=h1 z hz;rw [this] at e
  cases e
 rw [h3,Nat.zero_add] at hct;obtain ⟨z,hz⟩:=nmQ ((N[j])[i]);obtain ⟨au,cu,rfl,hu1,hu2,hat3⟩:=hu.at;unfold maxLen at hu2;obtain ⟨bu,ou,rfl,yu,cui⟩:=hat3 i hi;rw [<-hz] at cui h1;have HZ:=zE (And.intro (show z ∈ N[j] by rw [hz];exact List.getElem_mem _) (show m.getD z.toNat false=false by simpa using h1));have HR:=zE hR;obtain ⟨L,hL⟩:=nmQ (N.length);have hjL:j<L:=(by omega);rw [<-hL] at c4 hc1;generalize N[j]=nj at hct hcell hi hu1 HZ ⊢;obtain ⟨n,hnn⟩:=nmQ (nj.length);rw [<-hnn] at hct hcell hi hu1;clear h h2 hm hn hN hat hat3 hr hmi hL hu hR hz h1 h3 hnn hj;go_enter Tryz.func55,Tryz.ntmps55;go_wp2_with fail;refine hct.mono ?_;rintro e w2 ⟨rfl,b2⟩;have b3:Below w2.heap.size w2 (w2.alloc (.cells #[.int .i64 z] 3 (0,0))):=(Below.refl _ _).alloc zM _;have k3:=zI w2 (.cells #[.int .i64 z] 3 (0,0));have cui2:=(b2.cell (p:=⟨bu,ou+i,none⟩) yu).trans cui;have B3:=b2.trans (b3.mono b2.size);have hne:¬((i:Int)<0):=(by omega);clear hct cui c4 hcell;go_upto_region 3 with fail;generalize w2.alloc (.cells #[.int .i64 z] 3 (0,0))=w3 at b3 k3 B3 ⊢;have c33:=(B3.cell (p:=⟨b,3,none⟩) yb).trans c3;have hc94:=zAA (p:=fun o=>o==z) (a:=.pointer (some ⟨w2.heap.size,0,none⟩)) eg95 (HR.out.under B3) (fun r y W hW=>maker95_any ((hW.block _ (zG k3)).trans k3));clear cui2 c3 hne;go_wp2_with fail;refine hc94.mono ?_;rintro e w4 ⟨rfl,b4⟩;go_wp2;go_ret;exact ⟨z,HZ.out.1,HZ.out.2,rfl,B3.trans (b4.mono B3.size)⟩
theorem next_any {okN okR:Nat->Prop} {w:World} {b:Nat} {x:WkV} {vN vL:Value} {m:List Bool} {S:Sk.Sys} {left tk:List Nat} (hk:WkAt w b x vN vL) (hm:Md w x.g m) (hn:x.nV=m.length) (hN:HRow kIL okN w vN (S.R.map Sk.needs)) (hR:HRus okR w (.slice x.aR x.nR x.cR) S.R) (okS:Sk.Okay S) (hT:Sk.Taken S m left tk) (hst:left.find? (Sk.canC (S.R.map Sk.needs) m)=none) {j:Nat} (hj:j ∈ left) :
  Calls Tryz.prog 55 #[.pointer (some ⟨b,0,none⟩),.int .i64 (j:Int)] w fun e w'=>∃ k:Nat,e=.returned (.int .i64 (k:Int))/\k ∈ left/\Sk.Nx S j k/\Below w.heap.size w w':=by
 have hjl:=hT.lt hj;have hjN:j<(S.R.map Sk.needs).length:=(by simpa using hjl);have e:(S.R.map Sk.needs)[j]=Sk.needs (S.R.getD j Sk.noRu):=(by simp [List.getD_eq_getElem?_getD,hjl]);have hrg:∀ z ∈ Sk.needs (S.R.getD j Sk.noRu),0<=z/\z<S.V.length:=Sk.needs_in okS _ (Sk.getD_mem hjl);refine (maker_any hk hm hn hN hR j hjN (by rw [e,hT.made.1];exact hrg) (by rw [e];exact Sk.left_misses hT hst hj)).mono ?_;rintro r w' ⟨z,hz,hmz,rfl,bw⟩;rw [e] at hz;rcases Sk.idx_cases (fun o=>o==z) (S.R.map (·.out)) 0 with ⟨h1,-⟩ | ⟨k,hk2,h1,-,h3⟩
 ·exfalso
  obtain ⟨k,hk,e2⟩:=Sk.left_made okS hT hjl hz hmz;have:=h1 z (List.mem_map.2 ⟨_,Sk.getD_mem hk,e2⟩);simp at this
 ·have hkl:k<S.R.length:=by simpa using hk2
  have e3:(S.R.getD k Sk.noRu).out=z:=by
   have:(S.R.map (·.out))[k]=z:=(by simpa using h1)
   simpa [List.getD_eq_getElem?_getD,hkl] using this
  refine ⟨k,by rw [h3,Nat.zero_add],Sk.left_maker hT (hrg z hz) hmz hkl e3,?_,bw⟩;unfold Sk.Nx;rw [e3];exact hz
theorem nI_any (l:List Nat) (n:Nat):(nI l).any (fun z=>(n:Int)==z)=decide (n ∈ l):=by
 rw [Bool.eq_iff_iff,List.any_eq_true,decide_eq_true_iff]
 constructor
 ·rintro ⟨z,hz,e⟩
  obtain ⟨y,hy,rfl⟩:=List.mem_map.1 hz;have:(n:Int)=Int.ofNat y:=(by simpa using e);have h2:n=y:=(by have h3:(n:Int)=(y:Int):=this;omega);exact h2 ▸ hy
 ·intro h
  exact ⟨(n:Int),List.mem_map.2 ⟨n,h,rfl⟩,by simp⟩
theorem round_any {okN okR okL:Nat->Prop} {w:World} {b:Nat} {x:WkV} {vN vL:Value} {m:List Bool} {S:Sk.Sys} {left tk:List Nat} (hk:WkAt w b x vN vL) (hm:Md w x.g m) (hn:x.nV=m.length) (hN:HRow kIL okN w vN (S.R.map Sk.needs)) (hR:HRus okR w (.slice x.aR x.nR x.cR) S.R) (hL:HInts okL w vL (nI left)) (okS:Sk.Okay S) (hT:Sk.Taken S m left tk) (hst:left.find? (Sk.canC (S.R.map Sk.needs) m)=none) :
  Calls Tryz.prog 35 #[.pointer (some ⟨b,0,none⟩)] w fun e w'=>∃ l v,e=.returned v/\HInts (fun i=>w.heap.size<=i) w' v (nI l)/\(left=[]->l=[])/\(left≠[]->∃ way k,∃ hk:k<way.length,l=way.drop k/\Sk.WayAt S left way way[k])/\Below w.heap.size w w':=by
 have h2:=hk;unfold WkAt at h2;obtain ⟨aL,cL,rfl,hcL1,hcL2,hatL⟩:=hL.at;unfold maxLen at hcL2;have c6:=coQ h2 6;simp at c6;rw [xK] at c6 hcL1
 cases left with
 | nil=>
  simp only [List.length_nil] at c6;clear h2 hk hm hn hN hR hL hT hst hatL okS;go_enter Tryz.func35,Tryz.ntmps35;go_wp2;go_ret;exact ⟨[],_,rfl,zR (OwnL.nil (T:=kInt) (B:=w.heap.size)).row,fun _=>rfl,fun h=>absurd rfl h,Below.refl _ _⟩
 | cons j0 rest=>
  obtain ⟨bL,oL,rfl,yL,cL0⟩:=hatL 0 (by simp [nI]);have e0:(nI (j0 :: rest))[0]'(by simp [nI])=(j0:Int):=rfl;rw [e0,Nat.add_zero] at cL0;have HRL:=zE okS.nR;have HLT:=zE (show ∀ j ∈ j0 :: rest,j<S.R.length from fun j hj=>hT.lt hj);have HNX:=zE (fun (W:World) (hb:Below w.heap.size w W) (j:Nat) (hj:j ∈ j0 :: rest)=>next_any (hk.under hb) (hm.under hb) hn (hN.keep hb.size (fun i _ hl=>hb.block i hl)) (hR.under hb) okS hT hst hj);have hl0:(j0 :: rest).length=rest.length+1:=rfl;rw [hl0] at c6 hcL1;generalize rest.length=n0 at c6 hcL1;have hz0:(((n0:Int)+1)==0)=false:=(by simp;omega);clear h2 hk hm hn hN hR hL hT hst hatL okS e0 hl0;go_enter Tryz.func35,Tryz.ntmps35;go_wp2_with fail;go_loopg [3,4] S.R.length (fun k v3 v4 wr=>∃ (way:List Nat) (n:Nat),k=S.R.length-way.length/\v4=.int .i64 (n:Nat)/\Hid (OwnL kInt w.heap.size wr v3 (nI way))/\Hid (Sk.WayAt S (j0 :: rest) way n)/\Below w.heap.size w wr)
  case atStart=>exact ⟨[],j0,by simp,rfl,zE OwnL.nil,zE Sk.WayAt.start,Below.refl _ _⟩
  case round=>
   clear c6 cL0;obtain ⟨way,n,rfl,rfl,HO,HW,hbr⟩:=hrel;obtain ⟨a3,c3,e3,hc31,hc32⟩:=HO.out.form;rw [xK] at e3 hc31;unfold maxLen at hc32;subst e3;have hfew:=HW.out.few HLT.out;have hRL:=HRL.out;have hct:=zAT (n:Int) (zR HO.out.row);rw [nI_any] at hct;by_cases hin:n ∈ way
   case pos=>
    rw [decide_eq_true hin] at hct;have hix:=Sk.idx_cases (fun z=>(n:Int)==z) (nI way) 0;rcases hix with ⟨h1,-⟩ | ⟨k,hk,h1,-,h3⟩
    ·exfalso
     have:=h1 (n:Int) (List.mem_map.2 ⟨n,hin,rfl⟩);simp at this
    rw [Nat.zero_add] at h3;have hkw:k<way.length:=(by rw [xK] at hk;exact hk);have hwk:way[k]=n:=by
     have h5:(n:Int)=(nI way)[k]:=(by simpa using h1);rw [jM] at h5;omega
    have HG:=zE (show Sk.WayAt S (j0 :: rest) way way[k] by rw [hwk];exact HW.out);have H3:=zE h3;clear h1 h3 hwk hin hk;go_wp2_with fail;refine hct.mono ?_;rintro e w2 ⟨rfl,b2⟩;have hx:=jR (n:Int) (zR (HO.out.below b2).row);rw [H3.out] at hx;have hkc:k<=c3:=(by omega);have hkw2:k<=way.length:=(by omega);clear hct;go_wp2_with fail;refine hx.mono ?_;rintro e w4 ⟨rfl,b4⟩;have B4:=(hbr.trans (b2.mono hbr.size)).trans (b4.mono (Nat.le_trans hbr.size b2.size));have HR:=zE (show HRow kInt (fun i=>w.heap.size<=i) w4 (.slice (Option.map (fun x=>x.add k) a3) (way.length-k) (c3-k)) ((nI way).drop k) by
     have h:=row_tail (T:=kInt) ((HO.out.below b2).below b4).row hkw2;have e:sliced a3 k way.length c3 kInt.k=.slice (Option.map (fun x=>x.add k) a3) (way.length-k) (c3-k):=by
      unfold sliced;rw [if_neg (by omega),show k*kInt.k=k from Nat.mul_one k]
     rw [e] at h;exact h)
    go_wp2;go_ret;refine ⟨way.drop k,_,rfl,?_,fun h=>absurd h (by simp),fun _=>⟨way,k,hkw,rfl,HG.out⟩,B4⟩;have hd:nI (way.drop k)=(nI way).drop k:=(by simp [nI,List.map_drop]);rw [hd];exact zR HR.out
   case neg=>
    rw [decide_eq_false hin] at hct;have HIN:=zE hin;have hnow:=HW.out.now;have q2:((nI way).length+1)*8<=140737488355328:=(by rw [xK];omega);have q3:(nI way).length+1<=maxLen:=(by rw [xK];unfold maxLen;omega);clear hin;go_wp2_with fail;refine hct.mono ?_;rintro e w2 ⟨rfl,b2⟩;have B2:=hbr.trans (b2.mono hbr.size);have zw:=B2.size;have own2:=HO.out.below b2;have HNb:=zE (show ∀ k,(Value.slice a3 way.length c3).ownBlock=some k->k<w2.heap.size from fun k hk=>(own2.lt k hk).2);have HO2:=zE own2;clear own2 hct HO
    go_wp2_with (at_builtin;refine zQ kInt rfl _ _ 23 3 rfl Tryz.underlying23 w.heap.size w2.heap.size _ (nI way) (by rfl) HO2.out [.int .i64 (n:Int)] (n:Int) rfl (by rfl) HNb.out zw zw q2 q3 ?_;intro v8 w8 own8 b8 _ _;have HO8:=zE own8;clear own8 HO2 HNb)
    have B8:=B2.trans b8;refine (HNX.out w8 B8 n hnow).mono ?_;rintro e w9 ⟨k,rfl,hkl,hnx,b9⟩;have HNEW:=zE (HW.out.more HIN.out hnx hkl);have hfew2:=HNEW.out.few HLT.out;rw [List.length_append,List.length_singleton] at hfew2;clear hnx hkl;go_wp2_with fail;go_roundg (S.R.length-(way.length+1))
    case measure=>omega
    case rel=>exact ⟨way++[n],k,by simp,rfl,zE (by have e:nI (way++[n])=nI way++[(n:Int)]:=(by simp [nI]);rw [e];exact HO8.out.below b9),HNEW,B8.trans (b9.mono B8.size)⟩
end Go.Proofs.YtegakbobaecdlaaGreatDoor
namespace Go.Proofs.YtegakbobaecdlaaGreatDoor
open Go.RowKit Go.IntWalk
theorem round11_any {ok:Nat->Prop} {w:World} {aV aI aO aR:Option Addr} {cV cI cO cR:Nat} {S:Sk.Sys} (hG:GlobK w) (hP:GlobP w) (hS:HSys ok w aV aI aO aR cV cI cO cR S) (hfit:∀ r ∈ S.R,r.A.length<=1000000/\r.E.length<=1000000) (okS:Sk.Okay S) :
  Calls Tryz.prog 11 #[.agg #[.slice aV S.V.length cV,.slice aI S.I.length cI,.slice aO S.O.length cO,.slice aR S.R.length cR]] w fun e w'=>∃ l v,e=.returned (.tuple #[v,.agg #[.int .i64 0,.int .i64 0]])/\HInts (fun i=>w.heap.size<=i) w' v (nI l)/\((Sk.turns S).2.2=[]->l=[])/\((Sk.turns S).2.2≠[]->∃ way k,∃ hk:k<way.length,l=way.drop k/\Sk.WayAt S (Sk.turns S).2.2 way way[k])/\Below w.heap.size w w':=by
 have b1:Below w.heap.size w ((w.alloc (.cells #[.slice aV S.V.length cV,.slice aI S.I.length cI,.slice aO S.O.length cO,.slice aR S.R.length cR] 26 (0,0))).alloc (.cells #[.int .i64 0,.int .i64 0] 30 (0,0))):=((Below.refl _ _).alloc zM _).alloc (by simp) _;have kS:((w.alloc (.cells #[.slice aV S.V.length cV,.slice aI S.I.length cI,.slice aO S.O.length cO,.slice aR S.R.length cR] 26 (0,0))).alloc (.cells #[.int .i64 0,.int .i64 0] 30 (0,0))).heap[w.heap.size]?=some (.cells #[.slice aV S.V.length cV,.slice aI S.I.length cI,.slice aO S.O.length cO,.slice aR S.R.length cR] 26 (0,0)):=(Below.heap_alloc _ _ _ (by simp)).trans (zI w _);have kF:((w.alloc (.cells #[.slice aV S.V.length cV,.slice aI S.I.length cI,.slice aO S.O.length cO,.slice aR S.R.length cR] 26 (0,0))).alloc (.cells #[.int .i64 0,.int .i64 0] 30 (0,0))).heap[w.heap.size+1]?=some (.cells #[.int .i64 0,.int .i64 0] 30 (0,0)):=by
  have:=zI (w.alloc (.cells #[.slice aV S.V.length cV,.slice aI S.I.length cI,.slice aO S.O.length cO,.slice aR S.R.length cR] 26 (0,0))) (.cells #[.int .i64 0,.int .i64 0] 30 (0,0))
  simpa using this
 have hwo:=vR (hG.under b1) (hP.under b1) (hS.under b1) hfit;have HC:=zE ((Sk.check_zero S).2 okS);have HOK:=zE okS;clear hS hG hP hfit okS;go_enter Tryz.func11,Tryz.ntmps11;go_upto_region 1 with fail;generalize (w.alloc (.cells #[.slice aV S.V.length cV,.slice aI S.I.length cI,.slice aO S.O.length cO,.slice aR S.R.length cR] 26 (0,0))).alloc (.cells #[.int .i64 0,.int .i64 0] 30 (0,0))=w1 at b1 kS kF hwo ⊢;have s0:=coQ kS 0;have s1:=coQ kS 1;have s2:=coQ kS 2;have s3:=coQ kS 3;simp at s0 s1 s2 s3;go_wp2_with fail;refine hwo.mono ?_;rintro e w2 (⟨hne,-⟩ | ⟨hOk,b,g,w5,gb,gg,bw5,gw5,nbg,z5,rfl,hWo,hS2,b2⟩)
 case inl=>exact absurd (by rw [HC.out]) hne
 clear hwo s0 s1 s2 s3;have kF2:=(b2.block _ (zG kF)).trans kF;have b3:Below w2.heap.size w2 (w2.alloc (.cells #[.int .i64 0,.int .i64 0] 30 (0,0))):=(Below.refl _ _).alloc zM _;have kE:=zI w2 (.cells #[.int .i64 0,.int .i64 0] 30 (0,0));have kF3:=(b3.block _ (zG kF2)).trans kF2;have z1:w.heap.size+1<w1.heap.size:=zG kF;have B3:=(b1.trans (b2.mono b1.size)).trans (b3.mono (Nat.le_trans b1.size b2.size));obtain ⟨vN,vL,okN,hk,hN,hL,hokN,hdis⟩:=hWo.rows;have z2:=b2.size;have hN2:OwnX kIL okN w2 vN (S.R.map Sk.needs):=(by rw [List.take_length] at hN;exact hN);have hlw:∀ k,vL.ownBlock=some k->w5.heap.size<=k/\k<w2.heap.size:=hL.lt;have hni:=Sk.needs_in hOk;have h0:TkAt okN (fun i=>i<w1.heap.size) (w2.alloc (.cells #[.int .i64 0,.int .i64 0] 30 (0,0))) (w2.alloc (.cells #[.int .i64 0,.int .i64 0] 30 (0,0))) b w5.heap.size ⟨aV,S.V.length,cV,aI,S.I.length,cI,aO,S.O.length,cO,aR,S.R.length,cR,g⟩ vN vL.ownBlock (S.R.map Sk.needs) S.R (.slice none 0 0) (Sk.inM S) (List.range S.R.length) []:=
  ⟨⟨vL,hk.under b3,hL.below b3,rfl⟩,hWo.made.under b3,by show S.V.length=(Sk.inM S).length;rw [<-Sk.inMi_all,Sk.inMi_len],hN2.row.keep b3.size (fun i _ hl=>b3.block i hl),(hS2.under b3).R,OwnL.nil,Nat.le_refl _,by simp,List.nodup_range,fun j hj=>by simpa using hj,fun S' _ _ _=>Aside.refl _⟩
 have hbw2:b<w2.heap.size:=zG hk;have hgw2:g<w2.heap.size:=zG hWo.made;have hlen:(Sk.inM S).length=S.V.length:=(by rw [<-Sk.inMi_all,Sk.inMi_len]);have zz:(w2.alloc (.cells #[.int .i64 0,.int .i64 0] 30 (0,0))).heap.size=w2.heap.size+1:=(by simp);have gob:∀ k,vL.ownBlock=some k->k<(w2.alloc (.cells #[.int .i64 0,.int .i64 0] 30 (0,0))).heap.size/\k≠b/\k≠g/\¬okN k/\¬k<w1.heap.size:=fun k hk=>⟨by rw [zz];have:=(hlw k hk).2;omega,by have:=(hlw k hk).1;omega,by show k≠g;have:=(hlw k hk).1;omega,hdis k hk,by show ¬k<w1.heap.size;have:=(hlw k hk).1;omega⟩;have gNb:¬okN b/\¬okN g:=⟨fun q=>by have:=(hokN b q).1;omega,fun q=>by have:=(hokN g q).1;omega⟩;have gNl:∀ i,okN i->i<(w2.alloc (.cells #[.int .i64 0,.int .i64 0] 30 (0,0))).heap.size:=fun i hi=>by rw [zz];have:=(hokN i hi).2;omega
 have hta:=jW h0 nbg gob gNb ⟨by show ¬b<w1.heap.size;omega,by show ¬g<w1.heap.size;omega⟩ (by rw [zz];omega) gNl (fun i hi=>by rw [zz];have h3:i<w1.heap.size:=hi;omega) hOk.nR (by simp) (fun j hj z hz=>by rw [hlen];simp at hj;exact hni S.R[j] (List.getElem_mem _) z (by simpa using hz)) (fun r hr=>by rw [hlen];exact (hOk.rules r hr).1.1);have hRT:Sk.takeF (S.R.map Sk.needs) (S.R.map Sk.Ru.out) (List.range S.R.length).length (Sk.inM S) (List.range S.R.length) []=Sk.turns S:=(by unfold Sk.turns;rw [List.length_range]);rw [hRT] at hta;have HTA:=zE hta;have HLW:=zE hlw;generalize hob:vL.ownBlock=ob at HTA HLW;clear hWo hS2 hk hN hL hokN hdis hN2 hni h0 hta hRT hlen hlw hob kS kF kF2 b3 hOk gob gNb gNl;go_upto_region 2 with fail;generalize w2.alloc (.cells #[.int .i64 0,.int .i64 0] 30 (0,0))=w3 at kF3 B3 HTA zz kE ⊢;have e0:=coQ kE 0;simp at e0;have zF:=zG kF3;go_wp2_with fail;refine HTA.out.mono ?_;rintro e w4 ⟨v,rfl,T4⟩;obtain ⟨vL4,hk4,own4,hob4⟩:=T4.left;have hA4:=T4.frame (b :: g :: ob.toList) (by simp) (by simp) (fun k hk=>by rw [hk];simp);have hge:∀ k ∈ (b :: g :: ob.toList),w1.heap.size<=k:=by
  intro k hk;simp at hk;rcases hk with rfl | rfl | hk
  ·exact gb
  ·exact gg
  ·have:=(HLW.out k hk).1;omega
 have z4:=hA4.size;have B4:Below w.heap.size w w4:=B3.trans ((hA4.mono (by omega)).below (fun k hk=>by have:=hge k hk;omega));have kF4:=hA4.keep kF3 zF (fun hm=>by have:=hge _ hm;omega);have zF4:=zG kF4;have HRD:=zE (round_any hk4 T4.made T4.len T4.needs T4.rules (zR own4.row) HOK.out (Sk.turns_taken HOK.out (Sk.needs_in HOK.out)) (Sk.turns_stuck HOK.out (Sk.needs_in HOK.out)));obtain ⟨aT,cT,rfl,-,-⟩:=T4.taken.form;clear hk4 own4 hob4 hA4 hge T4 HTA e0 kE;go_wp2_with fail;refine HRD.out.mono ?_;rintro e w6 ⟨l,v6,rfl,hl,hz0,hz1,b6⟩;have HL:=zE hl;have HZ:=zE (And.intro hz0 hz1);obtain ⟨a6,c6,rfl,-,-,-⟩:=hl.at;have kF6:=(b6.block _ zF4).trans kF4;have B6:=B4.trans (b6.mono B4.size);have f0:=coQ kF6 0;have f1:=coQ kF6 1;have g0:=foQ kF6 0;have g1:=foQ kF6 1;simp at f0 f1;have KE:=zJ (zJ kF6 0 (.int .i64 0)) 1 (.int .i64 0);simp at KE;have BE:=(B6.setCell (p:=⟨w.heap.size+1,0,none⟩) (by simp) (.int .i64 0)).setCell (p:=⟨w.heap.size+1,1,none⟩) (by simp) (.int .i64 0);have r0:=coQ KE 0;have r1:=coQ KE 1;simp at r0 r1;have HEND:=zE (show HInts (fun i=>w.heap.size<=i) ((w6.setCell ⟨w.heap.size+1,0,none⟩ (.int .i64 0)).setCell ⟨w.heap.size+1,1,none⟩ (.int .i64 0)) (.slice a6 (nI l).length c6) (nI l) from (HL.out.keep (by simp [World.setCell]) (fun i hi _=>by rw [zN _ _ _ (by show w.heap.size+1≠i;have h1:w4.heap.size<=i:=hi;omega),zN _ _ _ (by show w.heap.size+1≠i;have h1:w4.heap.size<=i:=hi;omega)])).wide fun i hi _=>by have h1:w4.heap.size<=i:=hi;omega);clear hl hz0 hz1 HL KE kF6 HRD;go_wp2;exact bodyPost_ret (v:=.tuple #[.slice a6 (nI l).length c6,.agg #[.int .i64 0,.int .i64 0]]) (by simp [results,Tryz.results11,go_sem,r0,r1]) rfl ⟨l,_,rfl,HEND.out,HZ.out.1,HZ.out.2,BE⟩
namespace Sk
end Sk
end Go.Proofs.YtegakbobaecdlaaGreatDoor
namespace Go.Proofs.YtegakbobaecdlaaGreatDoor
open Go.RowKit Go.IntWalk
theorem heap_set_o8 (w:World) (p:Addr) (u:Value) {i:Nat} (h:p.block≠i):(w.setCell p u).heap[i]?=w.heap[i]?:=by
 cases e:w.heap[i]? with
 | none=>
  have hs:(w.setCell p u).heap.size=w.heap.size:=(by simp [World.setCell]);rw [Array.getElem?_eq_none_iff] at e ⊢;omega
 | some o=>exact zP e h u
end Go.Proofs.YtegakbobaecdlaaGreatDoor
namespace Go.Proofs.YtegakbobaecdlaaGreatDoor
open Go.Shelf Go.RowKit Go.Lib Go.IntWalk
def ins (n:Int):List Int->List Int
 | []=>[n]
 | x :: t=>if n<=x then (if n<x then n :: x :: t else x :: t) else x :: ins n t
def insD (n:Int) (p:List Int):Bool:=p.any (fun x=>decide (n<=x))
def insP (n:Int) (p:List Int):List Int:=if insD n p=true then ins n p else p
theorem ins_none (n:Int):∀ (p:List Int),insD n p=false->ins n p=p++[n]
 | [],_=>rfl
 | x :: t,h=>by
  simp [insD] at h;have:=ins_none n t (by simpa [insD] using h.2);rw [ins,if_neg (by omega),this];rfl
theorem ins_some (n x:Int):∀ (p:List Int),insD n p=true->ins n (p++[x])=ins n p++[x]
 | [],h=>by simp [insD] at h
 | y :: t,h=>by
  by_cases hy:n<=y
  ·by_cases hz:n<y
   ·simp [ins,hy,hz]
   ·simp [ins,hy,hz]
  ·have h2:insD n t=true:=by
    simp only [insD,List.any_cons,Bool.or_eq_true,decide_eq_true_eq] at h;rcases h with h | h
    ·omega
    ·simpa [insD] using h
   simp [ins,hy,ins_some n x t h2]
theorem ins_at (n x:Int) (hx:n<=x):∀ (p:List Int),insD n p=false->ins n (p++[x])=p++(if n<x then [n,x] else [x])
 | [],_=>by simp [ins,hx]
 | y :: t,h=>by
  simp [insD] at h;have:=ins_at n x hx t (by simpa [insD] using h.2);rw [List.cons_append,ins,if_neg (by omega),this];rfl
theorem xY (n x:Int) (p:List Int):insD n (p++[x])=(insD n p || decide (n<=x)):=by simp [insD]
theorem insP_true {n x:Int} {p:List Int} (h:insD n p=true):insP n (p++[x])=insP n p++[x]:=by
 have e:insD n (p++[x])=true:=(by rw [xY,h];rfl);rw [insP,insP,if_pos e,if_pos h,ins_some n x p h]
theorem insP_less {n x:Int} {p:List Int} (h:insD n p=false) (hx:¬n<=x):insP n (p++[x])=insP n p++[x]:=by
 have e:insD n (p++[x])=false:=(by rw [xY,h];simpa using hx);rw [insP,insP,if_neg (by simp [e]),if_neg (by simp [h])]
theorem insP_here {n x:Int} {p:List Int} (h:insD n p=false) (hx:n<=x):insP n (p++[x])=insP n p++(if n<x then [n,x] else [x]):=by
 have e:insD n (p++[x])=true:=(by rw [xY,h];simpa using hx);rw [insP,insP,if_pos e,if_neg (by simp [h]),ins_at n x hx p h]
theorem insP_end (n:Int) (p:List Int):ins n p=insP n p++(if insD n p=true then [] else [n]):=by
 unfold insP;by_cases h:insD n p=true
 ·simp [h]
 ·rw [if_neg h,if_neg h,ins_none n p (by simpa using h)]
theorem ins_len (n:Int):∀ (p:List Int),(ins n p).length<=p.length+1
 | []=>by simp [ins]
 | x :: t=>by
  have:=ins_len n t;rw [ins]
  split
  ·split<;>simp
  ·simp;omega
theorem insP_len (n:Int) (p:List Int):(insP n p).length<=p.length+1:=by
 unfold insP
 split
 ·exact ins_len n p
 ·omega
theorem zAh {ok:Nat->Prop} {w:World} {v:Value} {l:List Int} (n:Int) (hl:HInts ok w v l) (hll:l.length<=2000000) :
  Calls Tryz.prog 77 #[v,.int .i64 n] w fun e w'=>∃ v',e=.returned v'/\OwnL kInt w.heap.size w' v' (ins n l)/\Below w.heap.size w w':=by
 obtain ⟨ao,cap,rfl,hc1,hc2,_⟩:=hl.at;have HL:=zE hl;clear hl;have mE:∀ (N:Nat) (V:World) (x:Int),kInt.E (fun i=>N<=i) V [.int .i64 x] x:=fun _ _ _=>rfl;have mM:∀ k:Nat,k<=3000000->(k+1)*kInt.bytes<=140737488355328:=fun k hk=>by show (k+1)*8<=_;omega
 have mL:∀ k:Nat,k<=3000000->k+1<=maxLen:=fun k hk=>by unfold maxLen;omega
 go_enter Tryz.func77,Tryz.ntmps77;go_wp2_with fail;go_loopg [5,6,7] l.length (fun gh s5 s6 s7 wr=>∃ (i:Nat) (d:Bool),s7=.int .i64 (i:Int)/\s6=.bool d/\i<=l.length/\l.length<=gh+i/\Hid (d=insD n (l.take i))/\Hid (OwnL kInt w.heap.size wr s5 (insP n (l.take i)))/\Below w.heap.size w wr)
 case atStart=>exact ⟨0,false,rfl,rfl,by omega,by omega,zE rfl,zE OwnL.nil,Below.refl _ _⟩
 case round=>
  obtain ⟨i,d,rfl,rfl,his,hgi,HD,HO,bR⟩:=hrel;have yR:=bR.size;have hpl:=insP_len n (l.take i);rw [List.length_take,Nat.min_eq_left his] at hpl;have own:=HO.out;have hNb:=fun k hk=>(own.lt k hk).2;by_cases hlt:i<l.length
  case neg=>
   have hge:¬(i:Int)<(l.length:Int):=(by omega);have hie:i=l.length:=(by omega);have HE:=zE (insP_end n l);have HD2:=zE (show d=insD n l by rw [HD.out,hie,List.take_length]);have eT:l.take i=l:=(by rw [hie,List.take_length]);rw [eT] at own hpl;clear HD HO eT
   cases d with
   | true=>
    go_wp2_with fail;go_ret;refine ⟨_,rfl,?_,bR⟩;rw [HE.out,<-HD2.out,if_pos rfl,List.append_nil];exact own
   | false=>
    generalize hP:insP n l=P at own hpl
    go_wp2_with (at_builtin;refine zQ kInt rfl _ _ 23 3 rfl Tryz.underlying23 w.heap.size wr.heap.size _ P (by rfl) own [.int .i64 n] n (mE _ _ _) (by rfl) hNb yR yR (mM _ (by omega)) (mL _ (by omega)) ?_;intro v8 w8 own8 b8 _ _)
    go_ret;refine ⟨_,rfl,?_,bR.trans b8⟩;rw [HE.out,<-HD2.out,hP];exact own8
  case pos=>
   have hltI:(i:Int)<(l.length:Int):=(by omega);obtain ⟨ao',cap',ev,_,_,hatR⟩:=(HL.out.under bR).at;injection ev with ev1 ev2 ev3;subst ev1;obtain ⟨b,o,rfl,hb,c0⟩:=hatR i hlt;clear hatR ev2 ev3;have HX:Hid (∀ V:World,Below w.heap.size w V->V.cell? ⟨b,o+i,none⟩=some (.int .i64 l[i])):=zE (fun V bV=>by
    obtain ⟨ao',cap',ev,_,_,hatV⟩:=(HL.out.under bV).at;injection ev with ev1 ev2 ev3;subst ev1;obtain ⟨b',o',e,hb',c1⟩:=hatV i hlt;injection e with e;injection e with e1 e2 e3;subst e1 e2;exact c1)
   have HT:=zE (List.take_succ_eq_append_getElem hlt);generalize l[i]=x at c0 HT HX;generalize hp:l.take i=p at HD HO own hpl HT;generalize hP:insP n p=P at own hpl HO;have HP:=zE hP;clear hP hp
   cases d with
   | true=>
    have HS:=zE (show insP n (l.take (i+1))=P++[x] by rw [HT.out,insP_true HD.out.symm,HP.out]);have HS2:=zE (show true=insD n (l.take (i+1)) by rw [HT.out,xY,<-HD.out];rfl);clear HT HD HP
    go_wp2_with (at_builtin;refine zQ kInt rfl _ _ 23 3 rfl Tryz.underlying23 w.heap.size wr.heap.size _ P (by rfl) own [.int .i64 x] x (mE _ _ _) (by rfl) hNb yR yR (mM _ (by omega)) (mL _ (by omega)) ?_;intro v8 w8 own8 b8 _ _)
    go_roundg (gk-1)
    case measure=>omega
    case rel=>exact ⟨i+1,true,by go_num,rfl,by omega,by omega,HS2,zE (by rw [HS.out];exact own8),bR.trans b8⟩
   | false=>
    by_cases hx:n<=x
    ·have HS2:=zE (show true=insD n (l.take (i+1)) by rw [HT.out,xY,<-HD.out];simpa using hx)
     by_cases hy:n<x
     ·have HS:=zE (show insP n (l.take (i+1))=(P++[n])++[x] by rw [HT.out,insP_here HD.out.symm hx,HP.out,if_pos hy];simp)
      clear HT HD HP;go_upto_region 9 with (at_builtin;refine zQ kInt rfl _ _ 23 3 rfl Tryz.underlying23 w.heap.size wr.heap.size _ P (by rfl) own [.int .i64 n] n (mE _ _ _) (by rfl) hNb yR yR (mM _ (by omega)) (mL _ (by omega)) ?_;intro v8 w8 own8 b8 _ _);have y8:=(bR.trans b8).size;have hN8:=fun k hk=>(own8.lt k hk).2;have c8:=HX.out w8 (bR.trans b8);clear c0;have hl8:(P++[n]).length<=3000000:=(by simp;omega);generalize P++[n]=P2 at own8 HS hl8
      go_wp2_with (at_builtin;refine zQ kInt rfl _ _ 23 3 rfl Tryz.underlying23 w.heap.size w8.heap.size _ P2 (by rfl) own8 [.int .i64 x] x (mE _ _ _) (by rfl) hN8 y8 y8 (mM _ hl8) (mL _ hl8) ?_;intro v9 w9 own9 b9 _ _)
      go_roundg (gk-1)
      case measure=>omega
      case rel=>exact ⟨i+1,true,by go_num,rfl,by omega,by omega,HS2,zE (by rw [HS.out];exact own9),(bR.trans b8).trans b9⟩
     ·have HS:=zE (show insP n (l.take (i+1))=P++[x] by rw [HT.out,insP_here HD.out.symm hx,HP.out,if_neg hy])
      clear HT HD HP
      go_wp2_with (at_builtin;refine zQ kInt rfl _ _ 23 3 rfl Tryz.underlying23 w.heap.size wr.heap.size _ P (by rfl) own [.int .i64 x] x (mE _ _ _) (by rfl) hNb yR yR (mM _ (by omega)) (mL _ (by omega)) ?_;intro v8 w8 own8 b8 _ _)
      go_roundg (gk-1)
      case measure=>omega
      case rel=>exact ⟨i+1,true,by go_num,rfl,by omega,by omega,HS2,zE (by rw [HS.out];exact own8),bR.trans b8⟩
    ·have HS:=zE (show insP n (l.take (i+1))=P++[x] by rw [HT.out,insP_less HD.out.symm hx,HP.out])
     have HS2:=zE (show false=insD n (l.take (i+1)) by rw [HT.out,xY,<-HD.out];simpa using hx);clear HT HD HP
     go_wp2_with (at_builtin;refine zQ kInt rfl _ _ 23 3 rfl Tryz.underlying23 w.heap.size wr.heap.size _ P (by rfl) own [.int .i64 x] x (mE _ _ _) (by rfl) hNb yR yR (mM _ (by omega)) (mL _ (by omega)) ?_;intro v8 w8 own8 b8 _ _)
     go_roundg (gk-1)
     case measure=>omega
     case rel=>exact ⟨i+1,false,by go_num,rfl,by omega,by omega,HS2,zE (by rw [HS.out];exact own8),bR.trans b8⟩
end Go.Proofs.YtegakbobaecdlaaGreatDoor
