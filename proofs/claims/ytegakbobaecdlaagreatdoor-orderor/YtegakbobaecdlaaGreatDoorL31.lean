import Derived.Test.YtegakbobaecdlaaGreatDoorL30
import Derived.WalkKit
import Derived.WalkSpells
import Derived.IntWalk
import Derived.Deep.Cut
import Derived.Deep.LoopGhost
import Derived.Laws.Cover1
import Derived.Lib.Hide
import Derived.Lib.MakeNoZero
import Derived.Ground.NamesProg
import Derived.Laws.EntriesVeiled
import Derived.Laws.Externs
import Derived.Lib.SlBuf
import Derived.Shelf.Bytes.SlSmallAll
import Derived.Shelf.Lay
set_option linter.unusedVariables false
set_option linter.unusedSimpArgs false
set_option maxHeartbeats 64000000
set_option maxRecDepth 100000
namespace Go.Proofs.YtegakbobaecdlaaGreatDoor
open Go.Shelf Go.RowKit Go.Lib Go.IntWalk
theorem zAX {ok:Nat->Prop} {w:World} {v:Value} {l:List Int} {N:Nat} {a:Value} {p:Int->Bool} (eg:∀ args w,(callFunc N args).run Tryz.prog w=.ok (.enter N args) w) (hl:HInts ok w v l) (hp:∀ x ∈ l,∀ W,Below w.heap.size w W->Calls Tryz.prog N #[.int .i64 x,a] W fun e W'=>e=.returned (.bool (p x))/\Below W.heap.size W W') :
  Calls Tryz.prog 50 #[v,.func (.func N) #[] #[a]] w fun e w'=>e=.returned (.int .i64 (Sk.idxI p 0 l))/\Below w.heap.size w w':=by
 obtain ⟨ao,cap,rfl,hc1,hc2,-⟩:=hl.at;unfold maxLen at hc2;obtain ⟨R,hR⟩:=nmQ (Sk.idxI p 0 l);rw [<-hR];have HR:=zE (show R=Sk.idxI p 0 (l.drop 0) by rw [List.drop_zero];exact hR);have HL:=zE hl;have HP:=zE hp;clear hR hl hp;obtain ⟨n,hn⟩:=nmQ (l.length);rw [<-hn] at hc1 ⊢;have HN:=zE hn;clear hn;go_enter Tryz.func50,Tryz.ntmps50;go_wp2_with fail;go_loopg [8] n (fun k v wr=>∃ i,i<=n/\k=n-i/\v=.int .i64 (i:Nat)/\Hid (R=Sk.idxI p i (l.drop i))/\Below w.heap.size w wr)
 case atStart=>exact ⟨0,Nat.zero_le _,rfl,rfl,HR,Below.refl _ _⟩
 case round=>
  clear HR;obtain ⟨i,hi,rfl,rfl,H,hbr⟩:=hrel;by_cases hlt:i<n
  case neg=>
   have hin:i=n:=(by omega);subst hin;have e1:l.drop i=[]:=List.drop_of_length_le (by have:=HN.out;omega);have HZ:=zE (show R = -1 by rw [H.out,e1];rfl);clear e1;go_wp2;go_ret;exact ⟨by rw [HZ.out];rfl,hbr⟩
  case pos=>
   have hil:i<l.length:=(by have:=HN.out;omega);have hdr:l.drop i=l[i] :: l.drop (i+1):=List.drop_eq_getElem_cons hil;have hR1:=H.out;rw [hdr] at hR1;obtain ⟨ao',cap',eqs,-,-,hat2⟩:=(HL.out.under hbr).at;injection eqs with q1 q2 q3;subst q1;obtain ⟨bb,o,rfl,hb,e0⟩:=hat2 i hil;obtain ⟨y,hy⟩:=nmQ (l[i]);have hc:=HP.out y (by rw [hy];exact List.getElem_mem hil) wr hbr;rw [<-hy] at e0 hR1;unfold Sk.idxI at hR1;generalize p y=q at hc hR1;have HR1:=zE hR1;clear hat2 q2 q3 hy hdr hR1 H;go_wp2_with fail;refine hc.mono ?_;rintro e w4 ⟨rfl,b4⟩;have B4:=hbr.trans (b4.mono hbr.size);clear hc
   cases q
   case false=>
    have HZ:Hid (R=Sk.idxI p (i+1) (l.drop (i+1))):=zE (by rw [HR1.out];simp);clear HR1;go_wp2_with fail;go_roundg (n-(i+1))
    case measure=>omega
    case rel=>exact ⟨i+1,by omega,rfl,by go_num,HZ,B4⟩
   case true=>
    have HZ:Hid (R=(i:Int)):=zE (by rw [HR1.out];simp);clear HR1;go_wp2;go_ret;exact ⟨by rw [HZ.out];rfl,B4⟩
theorem zAY {w:World} {nb:Nat} {num:Int} (hn:w.heap[nb]?=some (.cells #[.int .i64 num] 3 (0,0))) (x:Int):Calls Tryz.prog 63 #[.int .i64 x,.pointer (some ⟨nb,0,none⟩)] w fun e w'=>e=.returned (.bool (x==num))/\Below w.heap.size w w':=by
 have c0:=coQ hn 0;simp at c0;clear hn;go_enter Tryz.func63,Tryz.ntmps63;go_wp2;go_ret;exact ⟨rfl,Below.refl _ _⟩
theorem eg64:∀ args w,(callFunc 63 args).run Tryz.prog w=.ok (.enter 63 args) w:=enters_of Tryz.func63 (by kernel_rfl) rfl
namespace Sk
theorem idx_cases (p:Int->Bool):∀ (l:List Int) (i:Nat),((∀ x ∈ l,p x=false)/\idxI p i l = -1)\/∃ k,∃ h:k<l.length,p l[k]=true/\(∀ j (hj:j<k),p (l[j]'(by omega))=false)/\idxI p i l=((i+k:Nat):Int)
 | [],i=>.inl ⟨fun x hx=>(by cases hx),rfl⟩
 | x :: r,i=>by
  unfold idxI
  cases hx:p x with
  | true=>exact .inr ⟨0,by simp,hx,fun j hj=>absurd hj (Nat.not_lt_zero _),by simp⟩
  | false=>
   rcases idx_cases p r (i+1) with ⟨h1,h2⟩ | ⟨k,hk,h1,h2,h3⟩
   ·refine .inl ⟨fun u hu=>?_,by simpa using h2⟩
    rcases List.mem_cons.1 hu with rfl | hu
    ·exact hx
    ·exact h1 u hu
   ·refine .inr ⟨k+1,by simpa using hk,h1,fun j hj=>?_,?_⟩
    ·cases j with
     | zero=>exact hx
     | succ j=>exact h2 j (by omega)
    ·simp only [Bool.false_eq_true,if_false]
     rw [h3];omega
structure KI (kp:Int->Bool) (l:List Int) (j i:Nat) (cur:List Int):Prop where
 len:cur.length=l.length
 lt:i<j
 le:j<=l.length
 kept:cur.take i=(l.take j).filter kp
 rest:∀ q,j<=q->cur[q]?=l[q]?
theorem KI.start {kp:Int->Bool} {l:List Int} {i:Nat} (h:i<l.length) (h1:kp l[i]=false) (h2:∀ j (hj:j<i),kp (l[j]'(by omega))=true):KI kp l (i+1) i l:=by
 refine ⟨rfl,by omega,by omega,?_,fun _ _=>rfl⟩;rw [List.take_succ_eq_append_getElem h,List.filter_append];simp only [List.filter_cons,h1,Bool.false_eq_true,if_false,List.filter_nil,List.append_nil]
 symm
 rw [List.filter_eq_self];intro t ht;obtain ⟨j,hj,rfl⟩:=List.mem_iff_getElem.1 ht;simp at hj;rw [List.getElem_take];exact h2 j (by omega)
theorem KI.keep {kp:Int->Bool} {l cur:List Int} {j i:Nat} (h:KI kp l j i cur) (hj:j<l.length) (hk:kp l[j]=true):KI kp l (j+1) (i+1) (cur.set i l[j]):=by
 have hi:i<cur.length:=(by rw [h.len];have:=h.lt;omega);refine ⟨by simp [h.len],by have:=h.lt;omega,by omega,?_,fun q hq=>?_⟩
 ·have hl2:i<(cur.set i l[j]).length:=by simpa using hi
  rw [List.take_succ_eq_append_getElem hl2,List.take_succ_eq_append_getElem hj,List.filter_append,List.getElem_set_self,List.take_set_of_le zM,h.kept];simp [hk]
 ·rw [List.getElem?_set_ne (by have:=h.lt;omega)]
  exact h.rest q (by omega)
theorem KI.skip {kp:Int->Bool} {l cur:List Int} {j i:Nat} (h:KI kp l j i cur) (hj:j<l.length) (hk:kp l[j]=false):KI kp l (j+1) i cur:=by
 refine ⟨h.len,by have:=h.lt;omega,by omega,?_,fun q hq=>h.rest q (by omega)⟩;rw [List.take_succ_eq_append_getElem hj,List.filter_append,h.kept];simp [hk]
end Sk
theorem IBlk.lt {w:World} {g:Nat} {l:List Int} {sp:List Value} (h:IBlk w g l sp):g<w.heap.size:=zG h
theorem IBlk.below {w w':World} {g:Nat} {l:List Int} {sp:List Value} (h:IBlk w g l sp) (b:Below w.heap.size w w'):IBlk w' g l sp:=(b.block _ h.lt).trans h
theorem IBlk.free {w:World} {g:Nat} {l:List Int} {sp:List Value} (h:IBlk w g l sp) (o:Nat):w.frozen? ⟨g,o,none⟩=false:=foQ h o
theorem IBlk.set {w:World} {g:Nat} {l:List Int} {sp:List Value} (h:IBlk w g l sp) {i:Nat} (hi:i<l.length) (x:Int):IBlk (w.setCell ⟨g,i,none⟩ (.int .i64 x)) g (l.set i x) sp:=by
 have:=zJ h i (.int .i64 x);unfold IBlk;rw [this]
 congr 2
 apply Array.ext_getElem?
 intro k;have hl:(ics l).length=l.length:=xD l;have hl2:(ics (l.set i x)).length=l.length:=(by rw [xD,List.length_set]);rw [Array.getElem?_setIfInBounds];by_cases e:i=k
 ·subst e
  rw [if_pos rfl,if_pos (by simp [hl];omega)];simp [List.getElem?_append_left,hl2,hi,ics]
 ·rw [if_neg e]
  simp only [gT];by_cases hk:k<l.length
  ·rw [List.getElem?_append_left (by omega),List.getElem?_append_left (by omega)]
   simp [ics,List.getElem?_set,e]
  ·rw [List.getElem?_append_right (by omega),List.getElem?_append_right (by omega),hl,hl2]
theorem zeroI_cells (m:Nat):(Builtin.zeroCells (Value.int .i64 0).cells m).toList=List.replicate m (.int .i64 0):=by
 unfold Builtin.zeroCells;have hs:(Value.int .i64 0).cells=#[.int .i64 0]:=rfl;rw [hs]
 apply List.ext_getElem?
 intro k;by_cases hk:k<m
 ·simp [hk,Nat.mod_one]
 ·simp [hk]
theorem run_clearI {w:World} {g c i m:Nat} {ty:TypeId} {cur:List Int} {sp:List Value} (h:IBlk w g cur sp) (hm:i+(m+1)=cur.length) :
  ∃ w',(Builtin.clear_ #[23] ty #[.slice (some ⟨g,i,none⟩) (m+1) c]).run Tryz.prog w=.ok (.tuple #[]) w'/\Aside [g] w.heap.size w w'/\IBlk w' g (cur.take i) (List.replicate (m+1) (.int .i64 0)++sp):=by
 have hv:∀ w,(zeroValue 3).run Tryz.prog w=.ok (.int .i64 0) w:=fun w=>by kernel_rfl
 have hZ:=zeroI_cells (m+1);have hst:=run_storeCells_at (P:=Tryz.prog) g i 3 (List.replicate (m+1) (.int .i64 0)) 0 _ w h (by simp [xD];omega) (fun u hu=>by have:=(List.mem_replicate.1 hu).2;subst this;rfl);obtain ⟨Z,hZd⟩:=nmQ (List.replicate (m+1) (Value.int .i64 0));have hzl:Z.length=m+1:=(by rw [hZd];simp);rw [<-hZd] at hst hZ ⊢;obtain ⟨R,hR⟩:=nmQ ((List.take (i+0) (ics cur++sp).toArray.toList++Z++List.drop (i+0+Z.length) (ics cur++sp).toArray.toList).toArray);rw [<-hR] at hst;refine ⟨w.setRow g R,by simp [Builtin.clear_,run_underlying Tryz.underlying23,hv,hZ,hst],⟨rfl,rfl,rfl,by simp,fun k hk hn=>setRow_other w g k R (by simpa using hn)⟩,?_⟩;unfold IBlk;rw [setRow_heap _ _ _ _ _ _ h,hR]
 congr 3
 rw [List.toList_toArray,Nat.add_zero,hzl];have e1:ics cur=ics (cur.take i)++ics (cur.drop i):=(by rw [<-qM,List.take_append_drop]);have l1:(ics (cur.take i)).length=i:=(by rw [xD,List.length_take];omega);have l2:(ics (cur.drop i)).length=m+1:=(by rw [xD,List.length_drop];omega);have take1:List.take i (ics (cur.take i)++ics (cur.drop i)++sp)=ics (cur.take i):=(by rw [List.append_assoc,List.take_left' l1]);have drop1:List.drop (i+(m+1)) (ics (cur.take i)++ics (cur.drop i)++sp)=sp:=List.drop_left' (by rw [List.length_append,l1,l2]);rw [e1,take1,drop1,List.append_assoc]
theorem delete_any {B nb:Nat} {num:Int} {w:World} {v:Value} {l:List Int} (hown:OwnL kInt B w v l) (hlen:l.length<=1000) (hn:w.heap[nb]?=some (.cells #[.int .i64 num] 3 (0,0))) (hnv:v.ownBlock≠some nb) (hBw:B<=w.heap.size) :
  Calls Tryz.prog 62 #[v,.func (.func 63) #[] #[.pointer (some ⟨nb,0,none⟩)]] w fun e w'=>∃ v',e=.returned v'/\OwnL kInt B w' v' (l.filter (· != num))/\v'.ownBlock=v.ownBlock/\(∀ S,(∀ k,v.ownBlock=some k->k ∈ S)->Aside S w.heap.size w w'):=by
 have hidx:=zAX (p:=fun x=>x==num) (a:=.pointer (some ⟨nb,0,none⟩)) eg64 (zR hown.row) (fun x hx W hW=>zAY ((hW.block _ (zG hn)).trans hn) x);rcases Sk.idx_cases (fun x=>x==num) l 0 with ⟨h1,h2⟩ | ⟨i0,hi0,h1,h2,h3⟩
 ·rw [h2] at hidx
  obtain ⟨ao,cap,rfl,_,_⟩:=hown.form;have HO:=zE hown;have HF:=zE (show l.filter (· != num)=l from List.filter_eq_self.2 fun x hx=>by have:=h1 x hx;simpa using this);clear hown h1 h2 hn;go_enter Tryz.func62,Tryz.ntmps62;go_wp2_with fail;refine hidx.mono ?_;rintro e w2 ⟨rfl,b2⟩;go_wp2;go_ret;rw [HF.out];exact ⟨_,rfl,HO.out.below b2,rfl,fun S _=>aside b2⟩
 ·rcases vP hown with ⟨rfl,rfl⟩ | ⟨g,c,sp,rfl,hB,hb,hc,hm,hs⟩
  ·simp at hi0
  rw [h3,Nat.zero_add] at hidx;have hne1:((i0:Int) == -1)=false:=beq_eq_false_iff_ne.2 (by omega);have HK:=zE (Sk.KI.start (kp:=fun x=>x != num) hi0 (by simp at h1;simp [h1]) (fun j hj=>by have:=h2 j hj;simpa using this));have hgn:g≠nb:=fun e=>hnv (by rw [e];rfl);clear h1 h2 h3 hown hnv;unfold maxLen at hm;have HB:=zE hb;have hgl:=hb.lt;have HNB:=zE hn;clear hb hn;go_enter Tryz.func62,Tryz.ntmps62;go_wp2_with fail;refine hidx.mono ?_;rintro e w2 ⟨rfl,b2⟩;have HB2:=zE (HB.out.below b2);have HN2:=zE ((b2.block _ (zG HNB.out)).trans HNB.out);clear HB hidx HNB;have y2:=b2.size;go_wp2_with fail;go_loopg [5,6,7] l.length (fun gh s5 s6 _ wr=>∃ (i j:Nat) (cur:List Int),s5=.int .i64 (i:Int)/\s6=.int .i64 (j:Int)/\j<=l.length/\l.length<=gh+j/\i<j/\cur.length=l.length/\Hid (Sk.KI (fun x=>x != num) l j i cur)/\Hid (IBlk wr g cur sp)/\Hid (wr.heap[nb]?=some (.cells #[.int .i64 num] 3 (0,0)))/\Aside [g] w.heap.size w wr)
  case atStart=>exact ⟨i0,i0+1,l,rfl,by go_num,by omega,by omega,by omega,rfl,HK,HB2,HN2,aside b2⟩
  case round=>
   clear HK HB2 HN2;obtain ⟨i,j,cur,rfl,rfl,hjl,hgj,hij,hcl,HI,HBr,HNr,hA⟩:=hrel;have hgr:=HBr.out.lt;by_cases hlt:j<l.length
   case pos=>
    have hltI:(j:Int)<(l.length:Int):=(by omega);have hiI:(i:Int)<(l.length:Int):=(by omega);have c0:=HBr.out.cell (i:=j) (by omega);have hcj:cur[j]'(by omega)=l[j]:=by
     have:=HI.out.rest j zM;rw [List.getElem?_eq_getElem (by omega),List.getElem?_eq_getElem hlt] at this;exact Option.some.inj this
    rw [hcj] at c0;have HKP:=zE (HI.out.keep hlt);have HSK:=zE (HI.out.skip hlt);generalize l[j]=t at c0 HKP HSK;clear hcj;have hcall:=zAY HNr.out t;obtain ⟨q,hq⟩:=nmQ ((t==num));rw [<-hq] at hcall;have HQ:=zE hq;clear hq;go_wp2_with fail;refine hcall.mono ?_;rintro e w5 ⟨rfl,b5⟩;have B5:=HBr.out.below b5;have HB5:=zE B5;have HN5:=zE ((b5.block _ (zG HNr.out)).trans HNr.out);have A5:=hA.trans (aside (S:=[g]) b5) hA.size;have f0:=B5.cell (i:=i) (by omega);have ff:=B5.free i;generalize cur[i]'(by omega)=u at f0;clear hcall B5 c0 b2
    cases q
    case false=>
     have hk:(t != num)=true:=(by have:=HQ.out;simp at this;simp;exact this);go_wp2_with fail;go_roundg (gk-1)
     case measure=>omega
     case rel=>exact ⟨i+1,j+1,cur.set i t,by go_num,by go_num,by omega,by omega,by omega,by simp [hcl],zE (HKP.out hk),zE (HB5.out.set (by omega) t),zE (zP HN5.out hgn _),A5.trans (Aside.setCell (B:=w5.heap.size) (p:=⟨g,i,none⟩) (by simp) _) A5.size⟩
    case true=>
     have hk:(t != num)=false:=(by have:=HQ.out;simp at this;simp;exact this);go_wp2_with fail;go_roundg (gk-1)
     case measure=>omega
     case rel=>exact ⟨i,j+1,cur,rfl,by go_num,by omega,by omega,by omega,hcl,zE (HSK.out hk),HB5,HN5,A5⟩
   case neg=>
    have hje:j=l.length:=(by omega);subst hje;have hge:¬(l.length:Int)<(l.length:Int):=(by omega);obtain ⟨m,hm2⟩:∃ m,i+(m+1)=l.length:=⟨l.length-i-1,by omega⟩;have hm3:l.length-i=m+1:=(by omega);have hkp:=HI.out.kept;rw [List.take_length] at hkp;obtain ⟨w6,hrun,A6,B6⟩:=run_clearI (ty:=0) (c:=c-i) (i:=i) (m:=m) HBr.out (by omega);have HKP:=zE hkp;have HB6:=zE B6;clear hkp b2 hjl hgj HI B6;go_wp2;go_ret;have hil:(cur.take i).length=i:=(by rw [List.length_take];omega);have hb6:=qX (B:=B) (c:=c) HB6.out hB (by omega) (by unfold maxLen;omega) (by rw [List.length_append,List.length_replicate,hil];omega);rw [hil,HKP.out] at hb6;exact ⟨_,rfl,hb6,rfl,fun S hS=>(hA.trans A6 hA.size).wide (fun k _ hk hm=>hk (by simp at hm;subst hm;exact hS k rfl))⟩
end Go.Proofs.YtegakbobaecdlaaGreatDoor
namespace Go.Proofs.YtegakbobaecdlaaGreatDoor
open Go.RowKit Go.IntWalk
theorem Tryz.infoIL:(Tryz.prog.info? 23).map (fun i=>(i.zero,i.size,i.bytes))=some (some (.slice none 0 0),1,24):=by kernel_rfl
def kIL:Kind (List Int) where
 ty:=23
 k:=1
 bytes:=24
 zero:=.slice none 0 0
 E:=fun ok w cs l=>∃ u,cs=[u]/\HInts ok w u l
 pos:=by decide
 zs:=rfl
 info:=Tryz.infoIL
 len:=by rintro _ _ _ _ ⟨u,rfl,_⟩;rfl
 one:=by
  rintro _ _ _ _ ⟨u,rfl,h⟩ v hv;simp at hv;subst hv;obtain ⟨ao,cap,rfl,_⟩:=h.at;rfl
 keep:=by rintro _ _ _ _ _ ⟨u,rfl,h⟩ hs hk;exact ⟨u,rfl,h.keep hs hk⟩
 wide:=by rintro _ _ _ _ _ ⟨u,rfl,h⟩ hk;exact ⟨u,rfl,h.wide hk⟩
theorem HRow.ilAt {ok:Nat->Prop} {w:World} {v:Value} {l:List (List Int)} (h:HRow kIL ok w v l) :
  ∃ ao cap,v=.slice ao l.length cap/\l.length<=cap/\cap<=maxLen/\∀ i (h:i<l.length),∃ b o u,ao=some ⟨b,o,none⟩/\b<w.heap.size/\w.cell? ⟨b,o+i,none⟩=some u/\HInts ok w u l[i]:=by
 obtain ⟨C,⟨ao,cap,hv,h1,h2,h3⟩,hC⟩:=h;refine ⟨ao,cap,hv,h1,h2,fun i hi=>?_⟩;obtain ⟨b,o,ha,hob,hb,hc⟩:=h3 (by omega);obtain ⟨u,e,hu⟩:=hC i hi;have:=(hc i hi).2 0 (by decide);rw [e] at this;exact ⟨b,o,u,ha,hb,by simpa [kIL] using this,hu⟩
structure WkV where
 aV:Option Addr
 nV:Nat
 cV:Nat
 aI:Option Addr
 nI:Nat
 cI:Nat
 aO:Option Addr
 nO:Nat
 cO:Nat
 aR:Option Addr
 nR:Nat
 cR:Nat
 g:Nat
def WkAt (w:World) (b:Nat) (x:WkV) (vN vL:Value):Prop:=w.heap[b]?=some (.cells #[.slice x.aV x.nV x.cV,.slice x.aI x.nI x.cI,.slice x.aO x.nO x.cO,.slice x.aR x.nR x.cR,vN,.slice (some ⟨x.g,0,none⟩) x.nV x.nV,vL] 72 (0,0))
theorem WkAt.under {w w':World} {b:Nat} {x:WkV} {vN vL:Value} (h:WkAt w b x vN vL) (a:Below w.heap.size w w'):WkAt w' b x vN vL:=(a.block _ (zG h)).trans h
theorem vD {w:World} {b:Nat} {x:WkV} {vN vL:Value} {m:List Bool} (h:WkAt w b x vN vL) (hm:Md w x.g m) (hn:x.nV=m.length) (v:Nat) (hv:v<m.length) :
  Calls Tryz.prog 61 #[.pointer (some ⟨b,0,none⟩),.int .i64 (v:Int)] w fun e w'=>e=.returned (.bool (!(m.getD v false)))/\Below w.heap.size w w':=by
 unfold WkAt at h;have c5:=coQ h 5;simp at c5;have cv:=hm.cell hv;have hvn:v<x.nV:=(by omega);rw [List.getD_eq_getElem?_getD,List.getElem?_eq_getElem hv,Option.getD_some];generalize m[v]=q at cv ⊢;clear h hm hn hv;go_enter Tryz.func61,Tryz.ntmps61;go_wp2;go_ret;exact ⟨rfl,Below.refl _ _⟩
theorem eg62:∀ args w,(callFunc 61 args).run Tryz.prog w=.ok (.enter 61 args) w:=enters_of Tryz.func61 (by kernel_rfl) rfl
theorem eg37:∀ args w,(callFunc 37 args).run Tryz.prog w=.ok (.enter 37 args) w:=enters_of Tryz.func37 (by kernel_rfl) rfl
theorem zAz {ok:Nat->Prop} {w:World} {b:Nat} {x:WkV} {vN vL:Value} {m:List Bool} {N:List (List Int)} (h:WkAt w b x vN vL) (hm:Md w x.g m) (hn:x.nV=m.length) (hN:HRow kIL ok w vN N) (j:Nat) (hj:j<N.length) (hr:∀ z ∈ N[j],0<=z/\z<m.length) :
  Calls Tryz.prog 37 #[.pointer (some ⟨b,0,none⟩),.int .i64 (j:Int)] w fun e w'=>e=.returned (.bool (Sk.canC N m j))/\Below w.heap.size w w':=by
 have h2:=h;unfold WkAt at h2;obtain ⟨aN,cN,rfl,hc1,hc2,hat⟩:=hN.ilAt;unfold maxLen at hc2;obtain ⟨bN,oN,u,rfl,hb,hcell,hu⟩:=hat j hj;have c4:=coQ h2 4;simp at c4;have hct:=qG (p:=fun z => !(m.getD z.toNat false)) (a:=.pointer (some ⟨b,0,none⟩)) eg62 hu (fun z hz W hW=>by
  obtain ⟨zn,rfl⟩:∃ zn:Nat,z=(zn:Int):=⟨z.toNat,by have:=hr z hz;omega⟩;have:=vD (h.under hW) (hm.under hW) hn zn (by have:=hr _ hz;omega);rw [Int.toNat_natCast];exact this)
 have e:Sk.canC N m j = !((N[j]).any fun z => !(m.getD z.toNat false)):=by
  unfold Sk.canC;rw [List.getD_eq_getElem?_getD,List.getElem?_eq_getElem hj,Option.getD_some]
 rw [e];generalize (N[j]).any (fun z => !(m.getD z.toNat false))=q at hct ⊢;obtain ⟨L,hL⟩:=nmQ (N.length);rw [<-hL] at c4 hc1 hj;obtain ⟨au,cu,rfl,-⟩:=hu.at;clear h h2 hm hn hN hat hr e hL hu;generalize (N[j]?).getD []=nj at *;go_enter Tryz.func37,Tryz.ntmps37;go_wp2_with fail;refine hct.mono ?_;rintro e w2 ⟨rfl,b2⟩;go_wp2;go_ret;exact ⟨rfl,b2⟩
theorem needs_any {ok:Nat->Prop} {w:World} {r:Sk.Ru} {y:RuV} (hR:HRu ok w y r) (hAl:r.A.length<=1000000) (hEl:r.E.length<=1000000) :
  Calls Tryz.prog 13 #[.agg #[.int .i64 r.op,.int .i64 r.k,.int .i64 r.out,.int .i64 r.n,.slice y.aA y.nA y.cA,.slice y.aE y.nE y.cE]] w fun e w'=>∃ v,e=.returned v/\HInts (fun i=>w.heap.size<=i) w' v (Sk.needs r)/\Below w.heap.size w w':=by
 obtain ⟨op,k,out,n,A,E⟩:=r;obtain ⟨aA,nA,cA,aE,nE,cE⟩:=y;have hA:=hR.A;have hE:=hR.E
 dsimp only at hA hE hAl hEl ⊢
 obtain ⟨ao,cap,ev,hc1,hc2,hat⟩:=hA.at;injection ev with e1 e2 e3;subst e1 e2 e3;unfold maxLen at hc2;have b1:Below w.heap.size w (w.alloc (.cells #[.int .i64 op,.int .i64 k,.int .i64 out,.int .i64 n,.slice aA A.length cA,.slice aE nE cE] 40 (0,0))):=(Below.refl _ _).alloc zM _;have kA:=zI w (.cells #[.int .i64 op,.int .i64 k,.int .i64 out,.int .i64 n,.slice aA A.length cA,.slice aE nE cE] 40 (0,0));unfold Sk.needs
 dsimp only
 by_cases hp:op=13/\A.length=2
 case pos=>
  rw [if_pos hp];obtain ⟨rfl,hl2⟩:=hp;obtain ⟨bA,oA,rfl,hb,c0⟩:=hat 0 (by omega);have C0:=(b1.cell (p:=⟨bA,oA+0,none⟩) hb).trans c0;have e0:A[0]'(by omega)=A.getD 0 0:=(by simp [List.getD_eq_getElem?_getD,show 0<A.length by omega]);rw [e0,Nat.add_zero] at C0;generalize A.getD 0 0=a0 at C0 ⊢;rw [hl2] at hc1 b1 kA C0 ⊢;clear hR hA hE hat hl2 e0 c0 hAl;go_enter Tryz.func13,Tryz.ntmps13;go_upto_region 1 with fail;generalize w.alloc (.cells #[.int .i64 13,.int .i64 k,.int .i64 out,.int .i64 n,.slice (some ⟨bA,oA,none⟩) 2 cA,.slice aE nE cE] 40 (0,0))=w1 at b1 kA C0 ⊢;have d0:=coQ kA 0;have d4:=coQ kA 4;simp at d0 d4;have HI:=zE (show HInts (fun i=>w.heap.size<=i) (w1.alloc (.cells #[.int .i64 a0] 3 (0,0))) (.slice (some ⟨w1.heap.size,0,none⟩) 1 1) [a0] from zR ((OwnL.lit (T:=kInt) (B:=w.heap.size) (w:=w1) (cs:=[.int .i64 a0]) (x:=a0) b1.size rfl).row));have HB:=zE (b1.alloc b1.size (.cells #[.int .i64 a0] 3 (0,0)));clear kA;go_wp2;go_ret;exact ⟨_,rfl,HI.out,HB.out⟩
 case neg=>
  rw [if_neg hp];unfold Sk.uses
  dsimp only
  have hel2:(Sk.ownE op E).length<=1000000:=(by unfold Sk.ownE;split;exact Nat.zero_le _;exact hEl);have hcond:((op==13)&&((A.length:Int)==2))=false:=by
   cases h1:(op==13)
   ·rfl
   ·cases h2:((A.length:Int)==2)
    ·rfl
    ·exact absurd ⟨by simpa using h1,by have:=(beq_iff_eq.1 h2);omega⟩ hp
  have HHA:=zE (show HInts (fun i=>i<w.heap.size) _ (.slice aA A.length cA) A from (hA.wide (ok':=fun i=>i<w.heap.size) fun i _ hl=>hl).under b1);have HHE:=zE (show HPu (fun i=>i<w.heap.size) _ (.slice aE nE cE) E from (hE.wide (ok':=fun i=>i<w.heap.size) fun i _ hl=>hl).under b1);clear hR hA hE hat hp;by_cases h14:op<14
  case pos=>
   have e2:Sk.ownE op E=[]:=(by unfold Sk.ownE;rw [if_pos h14]);rw [e2] at hel2 ⊢;have hcu:∀ W,Below w.heap.size (w.alloc (.cells #[.int .i64 op,.int .i64 k,.int .i64 out,.int .i64 n,.slice aA A.length cA,.slice aE nE cE] 40 (0,0))) W->Calls Tryz.prog 36 #[.agg #[.int .i64 op,.int .i64 k,.int .i64 out,.int .i64 n,.slice aA A.length cA,.slice none 0 0]] W _:=fun W hW=>jI (ok:=fun i=>i<w.heap.size) op k out n (HHA.out.keep hW.size (fun i hi _=>hW.block i hi)) (HPu.hnil) hAl (Nat.zero_le _);generalize usesT A []=l at hcu ⊢;have HCU:=zE hcu;clear e2 hcu;by_cases h13:op=13
   case pos=>
    subst h13;have hA2:((A.length:Int)==2)=false:=(by simpa using hcond);clear hcond;go_enter Tryz.func13,Tryz.ntmps13;go_upto_region 1 with fail;generalize w.alloc (.cells #[.int .i64 13,.int .i64 k,.int .i64 out,.int .i64 n,.slice aA A.length cA,.slice aE nE cE] 40 (0,0))=w1 at b1 kA HHA HHE HCU ⊢;have d0:=coQ kA 0;have d1:=coQ kA 1;have d2:=coQ kA 2;have d3:=coQ kA 3;have d4:=coQ kA 4;have d5:=coQ kA 5;have f5:=foQ kA 5;simp at d0 d1 d2 d3 d4 d5;have KR:=zJ kA 5 (.slice none 0 0);simp at KR;have B2:=b1.setCell (p:=⟨w.heap.size,5,none⟩) zM (.slice none 0 0);have HW:=zE (show Below w.heap.size w1 (w1.setCell ⟨w.heap.size,5,none⟩ (.slice none 0 0)) from (Below.refl _ _).setCell (p:=⟨w.heap.size,5,none⟩) zM (.slice none 0 0));go_upto_region 5 with fail;generalize w1.setCell ⟨w.heap.size,5,none⟩ (.slice none 0 0)=w2 at KR B2 HW ⊢;have g0:=coQ KR 0;have g1:=coQ KR 1;have g2:=coQ KR 2;have g3:=coQ KR 3;have g4:=coQ KR 4;have g5:=coQ KR 5;simp at g0 g1 g2 g3 g4 g5;clear d0 d1 d2 d3 d4 d5 f5;go_wp2_with fail;refine (HCU.out w2 HW.out).mono ?_;rintro e w3 ⟨v,rfl,own3,b3⟩;have HO:=zE ((zR own3.row).wide (ok':=fun i=>w.heap.size<=i) fun i hi _=>Nat.le_trans B2.size hi);clear own3;go_wp2;go_ret;exact ⟨v,rfl,HO.out,B2.trans (b3.mono B2.size)⟩
   case neg=>
    have hb13:(op==13)=false:=(by simpa using h13);clear h13 hcond;go_enter Tryz.func13,Tryz.ntmps13;go_upto_region 1 with fail;generalize w.alloc (.cells #[.int .i64 op,.int .i64 k,.int .i64 out,.int .i64 n,.slice aA A.length cA,.slice aE nE cE] 40 (0,0))=w1 at b1 kA HHA HHE HCU ⊢;have d0:=coQ kA 0;have d1:=coQ kA 1;have d2:=coQ kA 2;have d3:=coQ kA 3;have d4:=coQ kA 4;have d5:=coQ kA 5;have f5:=foQ kA 5;simp at d0 d1 d2 d3 d4 d5;have KR:=zJ kA 5 (.slice none 0 0);simp at KR;have B2:=b1.setCell (p:=⟨w.heap.size,5,none⟩) zM (.slice none 0 0);have HW:=zE (show Below w.heap.size w1 (w1.setCell ⟨w.heap.size,5,none⟩ (.slice none 0 0)) from (Below.refl _ _).setCell (p:=⟨w.heap.size,5,none⟩) zM (.slice none 0 0));go_upto_region 5 with fail;generalize w1.setCell ⟨w.heap.size,5,none⟩ (.slice none 0 0)=w2 at KR B2 HW ⊢;have g0:=coQ KR 0;have g1:=coQ KR 1;have g2:=coQ KR 2;have g3:=coQ KR 3;have g4:=coQ KR 4;have g5:=coQ KR 5;simp at g0 g1 g2 g3 g4 g5;clear d0 d1 d2 d3 d4 d5 f5;go_wp2_with fail;refine (HCU.out w2 HW.out).mono ?_;rintro e w3 ⟨v,rfl,own3,b3⟩;have HO:=zE ((zR own3.row).wide (ok':=fun i=>w.heap.size<=i) fun i hi _=>Nat.le_trans B2.size hi);clear own3;go_wp2;go_ret;exact ⟨v,rfl,HO.out,B2.trans (b3.mono B2.size)⟩
  case neg=>
   have e2:Sk.ownE op E=E:=(by unfold Sk.ownE;rw [if_neg h14]);rw [e2] at hel2 ⊢;have hcu:=jI op k out n HHA.out HHE.out hAl hEl;generalize usesT A E=l at hcu ⊢;have HCU:=zE hcu;clear e2 hcu;go_enter Tryz.func13,Tryz.ntmps13;go_upto_region 1 with fail;generalize w.alloc (.cells #[.int .i64 op,.int .i64 k,.int .i64 out,.int .i64 n,.slice aA A.length cA,.slice aE nE cE] 40 (0,0))=w1 at b1 kA HHA HHE HCU ⊢;have d0:=coQ kA 0;have d1:=coQ kA 1;have d2:=coQ kA 2;have d3:=coQ kA 3;have d4:=coQ kA 4;have d5:=coQ kA 5;simp at d0 d1 d2 d3 d4 d5;have h13:(op==13)=false:=(by simp;omega);clear hcond;go_wp2_with fail;refine HCU.out.mono ?_;rintro e w3 ⟨v,rfl,own3,b3⟩;have HO:=zE ((zR own3.row).wide (ok':=fun i=>w.heap.size<=i) fun i hi _=>Nat.le_trans b1.size hi);clear own3;go_wp2;go_ret;exact ⟨v,rfl,HO.out,b1.trans (b3.mono b1.size)⟩
end Go.Proofs.YtegakbobaecdlaaGreatDoor
