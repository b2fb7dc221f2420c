import Derived.Test.YtegakbobaecdlaaGreatDoorL41
import Derived.Test.YtegakbobaecdlaaGreatDoorL39
import Derived.Shelf.Bits.Mul64
import Derived.Laws.CopyRow
import Derived.Lib.SlBuf
set_option linter.unusedVariables false
set_option linter.unusedSimpArgs false
set_option maxHeartbeats 64000000
set_option maxRecDepth 100000
namespace Go.Proofs.YtegakbobaecdlaaGreatDoor
open Go.RowKit Go.IntWalk
namespace Sk
abbrev Sp:=Int × Int
def spAt (l:List Sp) (v:Int):Sp:=l.getD v.toNat (0,-1)
def startI:List Int->List Sp->List Sp
 | [],l=>l
 | v :: r,l=>startI r (l.set v.toNat (-1,-1))
def startR:Nat->List Ru->List Sp->List Sp
 | _,[],l=>l
 | i,r :: R,l=>startR (i+1) R (l.set r.out.toNat ((i:Int),(i:Int)))
def upTo (l:List Sp) (v p:Int):List Sp:=l.set v.toNat ((spAt l v).1,max (spAt l v).2 p)
def needL (p:Int):List Int->List Sp->List Sp
 | [],l=>l
 | z :: r,l=>needL p r (upTo l z p)
def needRu (n:Int) (i:Nat) (r:Ru) (l:List Sp):List Sp:=if r.op=13 then upTo (needL (i:Int) (needs r) l) (r.A.getD 1 0) n else needL (i:Int) (needs r) l
def needR (n:Int):Nat->List Ru->List Sp->List Sp
 | _,[],l=>l
 | i,r :: R,l=>needR n (i+1) R (needRu n i r l)
def start (S:Sys):List Sp:=startR 0 S.R (startI S.I (List.replicate S.V.length (0,-1)))
def spans (S:Sys):List Sp:=needL (S.R.length:Int) S.O (needR (S.R.length:Int) 0 S.R (start S))
end Sk
end Go.Proofs.YtegakbobaecdlaaGreatDoor
namespace Go.Proofs.YtegakbobaecdlaaGreatDoor
open Go.RowKit Go.IntWalk
def SpB (w:World) (g:Nat) (l:List Sk.Sp):Prop:=∃ cur:Array Value,w.heap[g]?=some (.cells cur 57 (0,0))/\cur.size=l.length*2/\∀ i (h:i<l.length),cur[i*2]?=some (.int .i64 (l[i]).1)/\cur[i*2+1]?=some (.int .i64 (l[i]).2)
theorem SpB.lt {w:World} {g:Nat} {l:List Sk.Sp} (h:SpB w g l):g<w.heap.size:=by
 obtain ⟨cur,h1,-⟩:=h;exact zG h1
theorem SpB.keep {w w':World} {g:Nat} {l:List Sk.Sp} (h:SpB w g l) (hk:w'.heap[g]?=w.heap[g]?):SpB w' g l:=by
 obtain ⟨cur,h1,h2⟩:=h;exact ⟨cur,hk.trans h1,h2⟩
theorem SpB.under {w w':World} {g:Nat} {l:List Sk.Sp} (h:SpB w g l) (b:Below w.heap.size w w'):SpB w' g l:=h.keep (b.block _ h.lt)
theorem SpB.at {w:World} {g:Nat} {l:List Sk.Sp} (h:SpB w g l) {i:Nat} (hi:i<l.length):w.cell? ⟨g,i*2,none⟩=some (.int .i64 (l[i]).1)/\w.cell? ⟨g,i*2+1,none⟩=some (.int .i64 (l[i]).2):=by
 obtain ⟨cur,h1,h2,h3⟩:=h;have:=h3 i hi;exact ⟨by simp [World.cell?,h1,this.1],by simp [World.cell?,h1,this.2]⟩
theorem SpB.set {w:World} {g:Nat} {l:List Sk.Sp} (h:SpB w g l) {i:Nat} (hi:i<l.length) (a b:Int):SpB ((w.setCell ⟨g,i*2,none⟩ (.int .i64 a)).setCell ⟨g,i*2+1,none⟩ (.int .i64 b)) g (l.set i (a,b)):=by
 obtain ⟨cur,h1,h2,h3⟩:=h;refine ⟨_,zJ (zJ h1 (i*2) (.int .i64 a)) (i*2+1) (.int .i64 b),by simp [h2],fun j hj=>?_⟩;rw [List.length_set] at hj;have hs:=h3 j hj;rw [Array.getElem?_setIfInBounds,Array.getElem?_setIfInBounds,Array.getElem?_setIfInBounds,Array.getElem?_setIfInBounds,if_neg (by omega)];by_cases e:j=i
 ·subst e
  rw [if_pos rfl,if_pos (by rw [h2];omega),if_pos rfl,if_pos (by simp [h2];omega)];simp
 ·rw [if_neg (by omega),if_neg (by omega),if_neg (by omega)]
  rw [List.getElem_set_ne (by omega)];exact hs
def RpB (w:World) (g n c:Nat) (x y:Int):Prop:=∃ cur:Array Value,w.heap[g]?=some (.cells cur 57 (0,0))/\cur.size=n*2/\∀ i,i<c->cur[i*2]?=some (.int .i64 x)/\cur[i*2+1]?=some (.int .i64 y)
theorem RpB.lt {w:World} {g n c:Nat} {x y:Int} (h:RpB w g n c x y):g<w.heap.size:=by
 obtain ⟨cur,h1,-⟩:=h;exact zG h1
structure SpV (w:World) (sb g:Nat) (l:List Sk.Sp):Prop where
 var:w.heap[sb]?=some (.cells #[.slice (some ⟨g,0,none⟩) l.length l.length] 51 (0,0))
 row:SpB w g l
 ne:sb≠g
theorem SpV.keep {w w':World} {sb g:Nat} {l:List Sk.Sp} (h:SpV w sb g l) (h1:w'.heap[sb]?=w.heap[sb]?) (h2:w'.heap[g]?=w.heap[g]?):SpV w' sb g l:=⟨h1.trans h.var,h.row.keep h2,h.ne⟩
theorem SpV.under {w w':World} {sb g:Nat} {l:List Sk.Sp} (h:SpV w sb g l) (b:Below w.heap.size w w'):SpV w' sb g l:=h.keep (b.block _ (zG h.var)) (b.block _ h.row.lt)
theorem SpV.len {w:World} {sb g:Nat} {l l':List Sk.Sp} (h:SpV w sb g l) (e:l=l'):SpV w sb g l':=e ▸ h
theorem maker_any {ok okR:Nat->Prop} {w:World} {b:Nat} {x:WkV} {vN vL:Value} {m:List Bool} {N:List (List Int)} {R:List Sk.Ru} (h:WkAt w b x vN vL) (hm:Md w x.g m) (hn:x.nV=m.length) (hN:HRow kIL ok w vN N) (hR:HRus okR w (.slice x.aR x.nR x.cR) R) (j:Nat) (hj:j<N.length) (hr:∀ z ∈ N[j],0<=z/\z<m.length) (hmi:(N[j]).any (fun z => !(m.getD z.toNat false))=true) :
  Calls Tryz.prog 55 #[.pointer (some ⟨b,0,none⟩),.int .i64 (j:Int)] w fun e w'=>∃ z ∈ N[j],m.getD z.toNat false=false/\e=.returned (.int .i64 (Sk.idxI (fun o=>o==z) 0 (R.map (·.out))))/\Below w.heap.size w w':=by
 have h2:=h;unfold WkAt at h2;obtain ⟨aN,cN,rfl,hc1,hc2,hat⟩:=hN.ilAt;unfold maxLen at hc2;obtain ⟨bN,oN,u,rfl,hb,hcell,hu⟩:=hat j hj;have c4:=coQ h2 4;have c3:=coQ h2 3;simp at c3 c4;have yb:=zG h2;have hct:=qE (p:=fun z => !(m.getD z.toNat false)) (a:=.pointer (some ⟨b,0,none⟩)) eg62 hu (fun z hz W hW=>by
  obtain ⟨zn,rfl⟩:∃ zn:Nat,z=(zn:Int):=⟨z.toNat,by have:=hr z hz;omega⟩;have:=vD (h.under hW) (hm.under hW) hn zn (by have:=hr _ hz;omega);rw [Int.toNat_natCast];exact this)
 rcases Sk.idx_cases (fun z => !(m.getD z.toNat false)) N[j] 0 with ⟨h1,-⟩ | ⟨i,hi,h1,-,h3⟩
 ·exfalso
  rw [List.any_eq_true] at hmi;obtain ⟨z,hz,e⟩:=hmi;have:=h1 z hz;rw [this] at e
  cases e
 rw [h3,Nat.zero_add] at hct;obtain ⟨z,hz⟩:=nmQ ((N[j])[i]);obtain ⟨au,cu,rfl,hu1,hu2,hat3⟩:=hu.at;unfold maxLen at hu2;obtain ⟨bu,ou,rfl,yu,cui⟩:=hat3 i hi;rw [<-hz] at cui h1;have HZ:=zE (And.intro (show z ∈ N[j] by rw [hz];exact List.getElem_mem _) (show m.getD z.toNat false=false by simpa using h1));have HR:=zE hR;obtain ⟨L,hL⟩:=nmQ (N.length);have hjL:j<L:=(by omega);rw [<-hL] at c4 hc1;generalize N[j]=nj at hct hcell hi hu1 HZ ⊢;obtain ⟨n,hnn⟩:=nmQ (nj.length);rw [<-hnn] at hct hcell hi hu1;clear h h2 hm hn hN hat hat3 hr hmi hL hu hR hz h1 h3 hnn hj;go_enter Tryz.func55,Tryz.ntmps55;go_wp2_with fail;refine hct.mono ?_;rintro e w2 ⟨rfl,b2⟩;have b3:Below w2.heap.size w2 (w2.alloc (.cells #[.int .i64 z] 3 (0,0))):=(Below.refl _ _).alloc zM _;have k3:=zI w2 (.cells #[.int .i64 z] 3 (0,0));have cui2:=(b2.cell (p:=⟨bu,ou+i,none⟩) yu).trans cui;have B3:=b2.trans (b3.mono b2.size);have hne:¬((i:Int)<0):=(by omega);clear hct cui c4 hcell;go_upto_region 3 with fail;generalize w2.alloc (.cells #[.int .i64 z] 3 (0,0))=w3 at b3 k3 B3 ⊢;have c33:=(B3.cell (p:=⟨b,3,none⟩) yb).trans c3;have hc94:=zAA (p:=fun o=>o==z) (a:=.pointer (some ⟨w2.heap.size,0,none⟩)) eg95 (HR.out.under B3) (fun r y W hW=>maker95_any ((hW.block _ (zG k3)).trans k3));clear cui2 c3 hne;go_wp2_with fail;refine hc94.mono ?_;rintro e w4 ⟨rfl,b4⟩;go_wp2;go_ret;exact ⟨z,HZ.out.1,HZ.out.2,rfl,B3.trans (b4.mono B3.size)⟩
theorem next_any {okN okR:Nat->Prop} {w:World} {b:Nat} {x:WkV} {vN vL:Value} {m:List Bool} {S:Sk.Sys} {left tk:List Nat} (hk:WkAt w b x vN vL) (hm:Md w x.g m) (hn:x.nV=m.length) (hN:HRow kIL okN w vN (S.R.map Sk.needs)) (hR:HRus okR w (.slice x.aR x.nR x.cR) S.R) (okS:Sk.Okay S) (hT:Sk.Taken S m left tk) (hst:left.find? (Sk.canC (S.R.map Sk.needs) m)=none) {j:Nat} (hj:j ∈ left) :
  Calls Tryz.prog 55 #[.pointer (some ⟨b,0,none⟩),.int .i64 (j:Int)] w fun e w'=>∃ k:Nat,e=.returned (.int .i64 (k:Int))/\k ∈ left/\Sk.Nx S j k/\Below w.heap.size w w':=by
 have hjl:=hT.lt hj;have hjN:j<(S.R.map Sk.needs).length:=(by simpa using hjl);have e:(S.R.map Sk.needs)[j]=Sk.needs (S.R.getD j Sk.noRu):=(by simp [List.getD_eq_getElem?_getD,hjl]);have hrg:∀ z ∈ Sk.needs (S.R.getD j Sk.noRu),0<=z/\z<S.V.length:=Sk.needs_in okS _ (Sk.getD_mem hjl);refine (maker_any hk hm hn hN hR j hjN (by rw [e,hT.made.1];exact hrg) (by rw [e];exact Sk.left_misses hT hst hj)).mono ?_;rintro r w' ⟨z,hz,hmz,rfl,bw⟩;rw [e] at hz;rcases Sk.idx_cases (fun o=>o==z) (S.R.map (·.out)) 0 with ⟨h1,-⟩ | ⟨k,hk2,h1,-,h3⟩
 ·exfalso
  obtain ⟨k,hk,e2⟩:=Sk.left_made okS hT hjl hz hmz;have:=h1 z (List.mem_map.2 ⟨_,Sk.getD_mem hk,e2⟩);simp at this
 ·have hkl:k<S.R.length:=by simpa using hk2
  have e3:(S.R.getD k Sk.noRu).out=z:=by
   have:(S.R.map (·.out))[k]=z:=(by simpa using h1)
   simpa [List.getD_eq_getElem?_getD,hkl] using this
  refine ⟨k,by rw [h3,Nat.zero_add],Sk.left_maker hT (hrg z hz) hmz hkl e3,?_,bw⟩;unfold Sk.Nx;rw [e3];exact hz
theorem nI_any (l:List Nat) (n:Nat):(nI l).any (fun z=>(n:Int)==z)=decide (n ∈ l):=by
 rw [Bool.eq_iff_iff,List.any_eq_true,decide_eq_true_iff]
 constructor
 ·rintro ⟨z,hz,e⟩
  obtain ⟨y,hy,rfl⟩:=List.mem_map.1 hz;have:(n:Int)=Int.ofNat y:=(by simpa using e);have h2:n=y:=(by have h3:(n:Int)=(y:Int):=this;omega);exact h2 ▸ hy
 ·intro h
  exact ⟨(n:Int),List.mem_map.2 ⟨n,h,rfl⟩,by simp⟩
theorem round_any {okN okR okL:Nat->Prop} {w:World} {b:Nat} {x:WkV} {vN vL:Value} {m:List Bool} {S:Sk.Sys} {left tk:List Nat} (hk:WkAt w b x vN vL) (hm:Md w x.g m) (hn:x.nV=m.length) (hN:HRow kIL okN w vN (S.R.map Sk.needs)) (hR:HRus okR w (.slice x.aR x.nR x.cR) S.R) (hL:HInts okL w vL (nI left)) (okS:Sk.Okay S) (hT:Sk.Taken S m left tk) (hst:left.find? (Sk.canC (S.R.map Sk.needs) m)=none) :
  Calls Tryz.prog 35 #[.pointer (some ⟨b,0,none⟩)] w fun e w'=>∃ l v,e=.returned v/\HInts (fun i=>w.heap.size<=i) w' v (nI l)/\(left=[]->l=[])/\(left≠[]->∃ way k,∃ hk:k<way.length,l=way.drop k/\Sk.WayAt S left way way[k])/\Below w.heap.size w w':=by
 have h2:=hk;unfold WkAt at h2;obtain ⟨aL,cL,rfl,hcL1,hcL2,hatL⟩:=hL.at;unfold maxLen at hcL2;have c6:=coQ h2 6;simp at c6;rw [xK] at c6 hcL1
 cases left with
 | nil=>
  simp only [List.length_nil] at c6;clear h2 hk hm hn hN hR hL hT hst hatL okS;go_enter Tryz.func35,Tryz.ntmps35;go_wp2;go_ret;exact ⟨[],_,rfl,zR (OwnL.nil (T:=kInt) (B:=w.heap.size)).row,fun _=>rfl,fun h=>absurd rfl h,Below.refl _ _⟩
 | cons j0 rest=>
  obtain ⟨bL,oL,rfl,yL,cL0⟩:=hatL 0 (by simp [nI]);have e0:(nI (j0 :: rest))[0]'(by simp [nI])=(j0:Int):=rfl;rw [e0,Nat.add_zero] at cL0;have HRL:=zE okS.nR;have HLT:=zE (show ∀ j ∈ j0 :: rest,j<S.R.length from fun j hj=>hT.lt hj);have HNX:=zE (fun (W:World) (hb:Below w.heap.size w W) (j:Nat) (hj:j ∈ j0 :: rest)=>next_any (hk.under hb) (hm.under hb) hn (hN.keep hb.size (fun i _ hl=>hb.block i hl)) (hR.under hb) okS hT hst hj);have hl0:(j0 :: rest).length=rest.length+1:=rfl;rw [hl0] at c6 hcL1;generalize rest.length=n0 at c6 hcL1;have hz0:(((n0:Int)+1)==0)=false:=(by simp;omega);clear h2 hk hm hn hN hR hL hT hst hatL okS e0 hl0;go_enter Tryz.func35,Tryz.ntmps35;go_wp2_with fail;go_loopg [3,4] S.R.length (fun k v3 v4 wr=>∃ (way:List Nat) (n:Nat),k=S.R.length-way.length/\v4=.int .i64 (n:Nat)/\Hid (OwnL kInt w.heap.size wr v3 (nI way))/\Hid (Sk.WayAt S (j0 :: rest) way n)/\Below w.heap.size w wr)
  case atStart=>exact ⟨[],j0,by simp,rfl,zE OwnL.nil,zE Sk.WayAt.start,Below.refl _ _⟩
  case round=>
   clear c6 cL0;obtain ⟨way,n,rfl,rfl,HO,HW,hbr⟩:=hrel;obtain ⟨a3,c3,e3,hc31,hc32⟩:=HO.out.form;rw [xK] at e3 hc31;unfold maxLen at hc32;subst e3;have hfew:=HW.out.few HLT.out;have hRL:=HRL.out;have hct:=zAT (n:Int) (zR HO.out.row);rw [nI_any] at hct;by_cases hin:n ∈ way
   case pos=>
    rw [decide_eq_true hin] at hct;have hix:=Sk.idx_cases (fun z=>(n:Int)==z) (nI way) 0;rcases hix with ⟨h1,-⟩ | ⟨k,hk,h1,-,h3⟩
    ·exfalso
     have:=h1 (n:Int) (List.mem_map.2 ⟨n,hin,rfl⟩);simp at this
    rw [Nat.zero_add] at h3;have hkw:k<way.length:=(by rw [xK] at hk;exact hk);have hwk:way[k]=n:=by
     have h5:(n:Int)=(nI way)[k]:=(by simpa using h1);rw [jM] at h5;omega
    have HG:=zE (show Sk.WayAt S (j0 :: rest) way way[k] by rw [hwk];exact HW.out);have H3:=zE h3;clear h1 h3 hwk hin hk;go_wp2_with fail;refine hct.mono ?_;rintro e w2 ⟨rfl,b2⟩;have hx:=jR (n:Int) (zR (HO.out.below b2).row);rw [H3.out] at hx;have hkc:k<=c3:=(by omega);have hkw2:k<=way.length:=(by omega);clear hct;go_wp2_with fail;refine hx.mono ?_;rintro e w4 ⟨rfl,b4⟩;have B4:=(hbr.trans (b2.mono hbr.size)).trans (b4.mono (Nat.le_trans hbr.size b2.size));have HR:=zE (show HRow kInt (fun i=>w.heap.size<=i) w4 (.slice (Option.map (fun x=>x.add k) a3) (way.length-k) (c3-k)) ((nI way).drop k) by
     have h:=row_tail (T:=kInt) ((HO.out.below b2).below b4).row hkw2;have e:sliced a3 k way.length c3 kInt.k=.slice (Option.map (fun x=>x.add k) a3) (way.length-k) (c3-k):=by
      unfold sliced;rw [if_neg (by omega),show k*kInt.k=k from Nat.mul_one k]
     rw [e] at h;exact h)
    go_wp2;go_ret;refine ⟨way.drop k,_,rfl,?_,fun h=>absurd h (by simp),fun _=>⟨way,k,hkw,rfl,HG.out⟩,B4⟩;have hd:nI (way.drop k)=(nI way).drop k:=(by simp [nI,List.map_drop]);rw [hd];exact zR HR.out
   case neg=>
    rw [decide_eq_false hin] at hct;have HIN:=zE hin;have hnow:=HW.out.now;have q2:((nI way).length+1)*8<=140737488355328:=(by rw [xK];omega);have q3:(nI way).length+1<=maxLen:=(by rw [xK];unfold maxLen;omega);clear hin;go_wp2_with fail;refine hct.mono ?_;rintro e w2 ⟨rfl,b2⟩;have B2:=hbr.trans (b2.mono hbr.size);have zw:=B2.size;have own2:=HO.out.below b2;have HNb:=zE (show ∀ k,(Value.slice a3 way.length c3).ownBlock=some k->k<w2.heap.size from fun k hk=>(own2.lt k hk).2);have HO2:=zE own2;clear own2 hct HO
    go_wp2_with (at_builtin;refine zQ kInt rfl _ _ 23 3 rfl Tryz.underlying23 w.heap.size w2.heap.size _ (nI way) (by rfl) HO2.out [.int .i64 (n:Int)] (n:Int) rfl (by rfl) HNb.out zw zw q2 q3 ?_;intro v8 w8 own8 b8 _ _;have HO8:=zE own8;clear own8 HO2 HNb)
    have B8:=B2.trans b8;refine (HNX.out w8 B8 n hnow).mono ?_;rintro e w9 ⟨k,rfl,hkl,hnx,b9⟩;have HNEW:=zE (HW.out.more HIN.out hnx hkl);have hfew2:=HNEW.out.few HLT.out;rw [List.length_append,List.length_singleton] at hfew2;clear hnx hkl;go_wp2_with fail;go_roundg (S.R.length-(way.length+1))
    case measure=>omega
    case rel=>exact ⟨way++[n],k,by simp,rfl,zE (by have e:nI (way++[n])=nI way++[(n:Int)]:=(by simp [nI]);rw [e];exact HO8.out.below b9),HNEW,B8.trans (b9.mono B8.size)⟩
end Go.Proofs.YtegakbobaecdlaaGreatDoor
