import Derived.Test.YtegakbobaecdlaaGreatDoorG36
import Derived.WalkKit
import Derived.WalkSpells
import Derived.IntWalk
import Derived.Deep.Cut
import Derived.Deep.LoopGhost
import Derived.Ground.NamesProg
import Derived.Laws.Cover1
import Derived.Laws.EntriesVeiled
import Derived.Laws.Externs
import Derived.Lib.Hide
import Derived.Lib.MakeNoZero
import Derived.Lib.SlBuf
import Derived.Shelf.Bytes.SlSmallAll
import Derived.Shelf.Lay
set_option linter.unusedVariables false
set_option linter.unusedSimpArgs false
set_option maxHeartbeats 64000000
set_option maxRecDepth 100000
namespace Go.Proofs.YtegakbobaecdlaaGreatDoor
open Go.RowKit Go.IntWalk
theorem zAL (v:Sk.Vr) (w:World):Calls Tryz.prog 143 #[vv v] w fun e w'=>e=.returned (.int .i64 (Sk.cnt v:Nat))/\Below w.heap.size w w':=by
 have e:((Sk.cnt v:Nat):Int)=max 1 v.n:=(by unfold Sk.cnt;omega);rw [e];go_enter Tryz.func143,Tryz.ntmps143;go_wp2;go_ret;exact ⟨rfl,(Below.refl _ _).alloc zL _⟩
theorem width_any {w:World} {ok okL:Nat->Prop} {aV aI aO aR:Option Addr} {nV cV nI cI nO cO nR cR:Nat} {V:List Sk.Vr} {u:Value} {L:List Int} (hV:HVars ok w (.slice aV nV cV) V) (hL:HInts okL w u L) (hc:∀ x:Int,0<=x->x<(V.length:Int)->Sk.cnt (Sk.vAt V x)<=300) (hl:L.length<=1000000) :
  Calls Tryz.prog 129 #[.agg #[.slice aV nV cV,.slice aI nI cI,.slice aO nO cO,.slice aR nR cR],u] w fun e w'=>e=.returned (.int .i64 (Sk.width V L:Nat))/\Below w.heap.size w w':=by
 obtain ⟨ao,cap,ev,hv1,hv2,-⟩:=hV.at;injection ev with q1 q2 q3;subst q1 q2 q3;unfold maxLen at hv2;obtain ⟨aL,cL,rfl,hl1,hl2,-⟩:=hL.at;unfold maxLen at hl2;obtain ⟨R,hR⟩:=nmQ (Sk.width V L);rw [<-hR];have HR:=zG (show R=0+Sk.width V (L.drop 0) by rw [List.drop_zero,Nat.zero_add];exact hR);obtain ⟨nv,hnv⟩:=nmQ (V.length);obtain ⟨n,hn⟩:=nmQ (L.length);rw [<-hnv] at hv1 hV ⊢;rw [<-hn] at hl1 hl hL ⊢;have b1:Below w.heap.size w (w.alloc (.cells #[.slice aV nv cV,.slice aI nI cI,.slice aO nO cO,.slice aR nR cR] 26 (0,0))):=(Below.refl _ _).alloc zL _;have kS:=zJ w (.cells #[.slice aV nv cV,.slice aI nI cI,.slice aO nO cO,.slice aR nR cR] 26 (0,0));have HV:=zG (hV.under b1);have HL:=zG (hL.under b1);have HC:=zG hc;have HN:=zG hn;have HNV:=zG hnv;clear hR hV hL hc hn hnv;go_enter Tryz.func129,Tryz.ntmps129;go_upto_region 1 with fail;obtain ⟨w1,hw1⟩:=nmQ (w.alloc (.cells #[.slice aV nv cV,.slice aI nI cI,.slice aO nO cO,.slice aR nR cR] 26 (0,0)));rw [<-hw1] at b1 kS HV HL ⊢;clear hw1;go_wp2_with fail;go_loopg [5,10] n (fun k u v wr=>∃ (i a:Nat),i<=n/\k=n-i/\u=.int .i64 (a:Nat)/\v=.int .i64 (i:Nat)/\Hid (R=a+Sk.width V (L.drop i))/\a<=300*i/\Below w1.heap.size w1 wr)
 case atStart=>exact ⟨0,0,Nat.zero_le _,rfl,rfl,rfl,HR,Nat.zero_le _,Below.refl _ _⟩
 case round=>
  clear HR;obtain ⟨i,a,hi,rfl,rfl,rfl,H,ha,hbr⟩:=hrel;by_cases hlt:i<n
  case neg=>
   have hin:i=n:=(by omega);subst hin;have e1:L.drop i=[]:=List.drop_of_length_le (by have:=HN.out;omega);have HZ:=zG (show a=R by rw [H.out,e1];rfl);clear e1 H;go_wp2;go_ret;exact ⟨by rw [HZ.out];rfl,b1.trans (hbr.mono b1.size)⟩
  case pos=>
   have hil:i<L.length:=(by have:=HN.out;omega);have hdr:L.drop i=L[i] :: L.drop (i+1):=List.drop_eq_getElem_cons hil;have hR1:=H.out;rw [hdr] at hR1;unfold Sk.width at hR1;obtain ⟨ao',cap',eqs,-,-,hat2⟩:=(HL.out.under hbr).at;injection eqs with q1 q2 q3;subst q1;obtain ⟨bb,o,rfl,hb,e0⟩:=hat2 i hil;obtain ⟨y,hy⟩:=nmQ (L[i]);rw [<-hy] at e0 hR1;have kS1:=(hbr.block _ (zH kS)).trans kS;have s0:=coQ kS1 0;simp at s0;clear hat2 q2 q3 hy hdr H kS1;by_cases h0:0<=y
   case neg=>
    rw [if_neg (by omega),Nat.zero_add] at hR1;have HR1:=zG hR1;have g0:y<0:=(by omega);clear hR1 h0;go_wp2_with fail;go_roundg (n-(i+1))
    case measure=>omega
    case rel=>exact ⟨i+1,a,by omega,rfl,rfl,by go_num,HR1,by omega,hbr⟩
   case pos=>
    obtain ⟨q,rfl⟩:∃ q:Nat,y=(q:Int):=⟨y.toNat,by omega⟩;by_cases h1:q<nv
    case neg=>
     rw [if_neg (by have:=HNV.out;omega),Nat.zero_add] at hR1;have HR1:=zG hR1;have h2:nv<=q:=(by omega);clear hR1 h0 h1;go_wp2_with fail;go_roundg (n-(i+1))
     case measure=>omega
     case rel=>exact ⟨i+1,a,by omega,rfl,rfl,by go_num,HR1,by omega,hbr⟩
    case pos=>
     have hqV:q<V.length:=(by have:=HNV.out;omega);rw [if_pos (by omega)] at hR1;have hcq:=HC.out (q:Int) (by omega) (by omega);have ev:Sk.vAt V (q:Int)=V[q]:=vAt_get hqV;rw [ev] at hR1 hcq;obtain ⟨ao3,cap3,eq3,-,-,hat3⟩:=(HV.out.under hbr).at;injection eq3 with z1 z2 z3;subst z1;obtain ⟨bv,ov,rfl,yv,x0,y0⟩:=hat3 q hqV;generalize V[q]=va at x0 y0 hR1 hcq;have hct:=zAL va;generalize Sk.cnt va=cc at hct hR1 hcq;have HR1:=zG (show R=(a+cc)+Sk.width V (L.drop (i+1)) by rw [hR1];omega);have HCT:=zG hct;clear hat3 z2 z3 ev hR1 hct h0;unfold vv at HCT;go_wp2_with fail;refine (HCT.out _).mono ?_;rintro e w4 ⟨rfl,b4⟩;have B4:=hbr.trans (b4.mono hbr.size);clear HCT x0 y0 s0 e0;go_wp2_with fail;go_roundg (n-(i+1))
     case measure=>omega
     case rel=>exact ⟨i+1,a+cc,by omega,rfl,by go_num,by go_num,HR1,by omega,B4⟩
structure GdV where
 aV:Option Addr
 cV:Nat
 aI:Option Addr
 cI:Nat
 aO:Option Addr
 cO:Nat
 aR:Option Addr
 cR:Nat
 sg:Nat
 ga:Nat
 gk:Nat
def GdAt (w:World) (gb:Nat) (x:GdV) (S:Sk.Sys) (c b:Nat) (vL:Value):Prop:=w.heap[gb]?=some (.cells #[.slice x.aV S.V.length x.cV,.slice x.aI S.I.length x.cI,.slice x.aO S.O.length x.cO,.slice x.aR S.R.length x.cR,.slice (some ⟨x.sg,0,none⟩) S.V.length S.V.length,.slice (some ⟨x.ga,0,none⟩) S.V.length S.V.length,.slice (some ⟨x.gk,0,none⟩) S.R.length S.R.length,.int .i64 (c:Int),.int .i64 (b:Int),vL] 86 (0,0))
structure Gnd (B:Nat) (w:World) (gb:Nat) (x:GdV) (S:Sk.Sys) (K:List Int) (b:Nat) (st:Sk.St) (vL:Value):Prop where
 gd:GdAt w gb x S st.c b vL
 at_:IB w x.ga st.A
 keep_:IB w x.gk K
 la:st.A.length=S.V.length
 lk:K.length=S.R.length
 laid:OwnL kInt B w vL st.L
 vne:vL.ownBlock≠some gb/\vL.ownBlock≠some x.ga/\vL.ownBlock≠some x.gk
 nes:gb≠x.ga/\gb≠x.gk/\x.ga≠x.gk
 lo:B<=gb/\B<=x.ga/\B<=x.gk
 sys:HSys (fun k=>k<B) w x.aV x.aI x.aO x.aR x.cV x.cI x.cO x.cR S
 sp:SpB w x.sg (Sk.spans S)
 sl:x.sg<B
 spl:(Sk.spans S).length=S.V.length
 lin:∀ o ∈ st.L,0<=o/\o<S.V.length
 few:st.L.length<=1000
theorem ownI_same {B:Nat} {w w':World} {v:Value} {l:List Int} (h:OwnL kInt B w v l) (hk:∀ k,v.ownBlock=some k->w'.heap[k]?=w.heap[k]?):OwnL kInt B w' v l:=ownI_keep h hk
theorem Gnd.same {B:Nat} {w w':World} {gb:Nat} {x:GdV} {S:Sk.Sys} {K:List Int} {b:Nat} {st:Sk.St} {vL:Value} (h:Gnd B w gb x S K b st vL) (hs:w.heap.size<=w'.heap.size) (hk:∀ k,k<w.heap.size->(k<B\/k=gb\/k=x.ga\/k=x.gk\/vL.ownBlock=some k)->w'.heap[k]?=w.heap[k]?):Gnd B w' gb x S K b st vL :=
 { h with
  gd:=(hk gb (zH h.gd) (.inr (.inl rfl))).trans h.gd
  at_:=h.at_.keep (hk _ h.at_.lt (.inr (.inr (.inl rfl))))
  keep_:=h.keep_.keep (hk _ h.keep_.lt (.inr (.inr (.inr (.inl rfl)))))
  laid:=ownI_same h.laid (fun k e=>hk k (h.laid.lt k e).2 (.inr (.inr (.inr (.inr e)))))
  sys:=h.sys.keep hs (fun i hi hl=>hk i hl (.inl hi))
  sp:=h.sp.keep (hk _ h.sp.lt (.inl h.sl)) }
theorem Gnd.under {B:Nat} {w w':World} {gb:Nat} {x:GdV} {S:Sk.Sys} {K:List Int} {b:Nat} {st:Sk.St} {vL:Value} (h:Gnd B w gb x S K b st vL) (a:Below w.heap.size w w'):Gnd B w' gb x S K b st vL:=h.same a.size (fun k hk _=>a.block k hk)
theorem xF (w:World) (p:Addr) (u:Value):(w.setCell p u).heap.size=w.heap.size:=by simp [World.setCell]
theorem Gnd.setKeep {B:Nat} {w:World} {gb:Nat} {x:GdV} {S:Sk.Sys} {K:List Int} {b:Nat} {st:Sk.St} {vL:Value} (h:Gnd B w gb x S K b st vL) (i:Nat) (v:Int):Gnd B (w.setCell ⟨x.gk,i,none⟩ (.int .i64 v)) gb x S (K.set i v) b st vL :=
 { h with
  gd:=zN h.gd (Ne.symm h.nes.2.1) _
  at_:=zN h.at_ (Ne.symm h.nes.2.2) _
  keep_:=h.keep_.set i v
  lk:=by rw [List.length_set];exact h.lk
  laid:=zR h.laid h.vne.2.2 (fun _ _ _ _ _ q=>q) _
  sys:=h.sys.keep (by rw [xF];exact Nat.le_refl _) (fun k hk hl=>zQ _ _ _ (by have:=h.lo.2.2;show x.gk≠k;omega))
  sp:=h.sp.keep (zQ _ _ _ (by have:=h.lo.2.2;have:=h.sl;show x.gk≠x.sg;omega)) }
theorem Gnd.setAt {B:Nat} {w:World} {gb:Nat} {x:GdV} {S:Sk.Sys} {K:List Int} {b:Nat} {st:Sk.St} {vL:Value} (h:Gnd B w gb x S K b st vL) (i:Nat) (v:Int):Gnd B (w.setCell ⟨x.ga,i,none⟩ (.int .i64 v)) gb x S K b ⟨st.A.set i v,st.c,st.L⟩ vL :=
 { h with
  gd:=zN h.gd (Ne.symm h.nes.1) _
  at_:=h.at_.set i v
  keep_:=zN h.keep_ h.nes.2.2 _
  la:=by show (st.A.set i v).length=_;rw [List.length_set];exact h.la
  laid:=zR h.laid h.vne.2.1 (fun _ _ _ _ _ q=>q) _
  sys:=h.sys.keep (by rw [xF];exact Nat.le_refl _) (fun k hk hl=>zQ _ _ _ (by have:=h.lo.2.1;show x.ga≠k;omega))
  sp:=h.sp.keep (zQ _ _ _ (by have:=h.lo.2.1;have:=h.sl;show x.ga≠x.sg;omega)) }
theorem Gnd.setC {B:Nat} {w:World} {gb:Nat} {x:GdV} {S:Sk.Sys} {K:List Int} {b:Nat} {st:Sk.St} {vL:Value} (h:Gnd B w gb x S K b st vL) (c:Nat):Gnd B (w.setCell ⟨gb,7,none⟩ (.int .i64 (c:Int))) gb x S K b ⟨st.A,c,st.L⟩ vL :=
 { h with
  gd:=by have:=zO h.gd 7 (.int .i64 (c:Int));simpa [GdAt] using this
  at_:=zN h.at_ h.nes.1 _
  keep_:=zN h.keep_ h.nes.2.1 _
  laid:=zR h.laid h.vne.1 (fun _ _ _ _ _ q=>q) _
  sys:=h.sys.keep (by rw [xF];exact Nat.le_refl _) (fun k hk hl=>zQ _ _ _ (by have:=h.lo.1;show gb≠k;omega))
  sp:=h.sp.keep (zQ _ _ _ (by have:=h.lo.1;have:=h.sl;show gb≠x.sg;omega)) }
theorem Gnd.setB {B:Nat} {w:World} {gb:Nat} {x:GdV} {S:Sk.Sys} {K:List Int} {b:Nat} {st:Sk.St} {vL:Value} (h:Gnd B w gb x S K b st vL) (b':Nat):Gnd B (w.setCell ⟨gb,8,none⟩ (.int .i64 (b':Int))) gb x S K b' st vL :=
 { h with
  gd:=by have:=zO h.gd 8 (.int .i64 (b':Int));simpa [GdAt] using this
  at_:=zN h.at_ h.nes.1 _
  keep_:=zN h.keep_ h.nes.2.1 _
  laid:=zR h.laid h.vne.1 (fun _ _ _ _ _ q=>q) _
  sys:=h.sys.keep (by rw [xF];exact Nat.le_refl _) (fun k hk hl=>zQ _ _ _ (by have:=h.lo.1;show gb≠k;omega))
  sp:=h.sp.keep (zQ _ _ _ (by have:=h.lo.1;have:=h.sl;show gb≠x.sg;omega)) }
theorem Sk.ct_le {S:Sk.Sys} (ok:Sk.Okay S) (v:Int) (h0:0<=v) (h1:v<S.V.length):Sk.ct S v<=300:=by
 have hm:S.V[v.toNat]'(by omega) ∈ S.V:=List.getElem_mem _;have:=(ok.vars _ hm).2;unfold Sk.ct Sk.cnt Sk.vAt;rw [List.getD_eq_getElem?_getD,List.getElem?_eq_getElem (by omega)]
 show (max 1 (S.V[v.toNat]'(by omega)).n).toNat<=300
 omega
theorem Sk.width_one {S:Sk.Sys} {v:Nat} (h:v<S.V.length):Sk.width S.V [(v:Int)]=Sk.ct S (v:Int):=by
 have:=Sk.width_sum (V:=S.V) [v] (fun x hx=>by simp at hx;omega)
 simpa [Sk.ct] using this
theorem GdAt.cells {w:World} {gb:Nat} {x:GdV} {S:Sk.Sys} {c b:Nat} {vL:Value} (h:GdAt w gb x S c b vL) :
  w.cell? ⟨gb,0,none⟩=some (.slice x.aV S.V.length x.cV)/\w.cell? ⟨gb,1,none⟩=some (.slice x.aI S.I.length x.cI)/\w.cell? ⟨gb,2,none⟩=some (.slice x.aO S.O.length x.cO)/\w.cell? ⟨gb,3,none⟩=some (.slice x.aR S.R.length x.cR)/\w.cell? ⟨gb,4,none⟩=some (.slice (some ⟨x.sg,0,none⟩) S.V.length S.V.length)/\w.cell? ⟨gb,5,none⟩=some (.slice (some ⟨x.ga,0,none⟩) S.V.length S.V.length)/\w.cell? ⟨gb,6,none⟩=some (.slice (some ⟨x.gk,0,none⟩) S.R.length S.R.length)/\w.cell? ⟨gb,7,none⟩=some (.int .i64 (c:Int))/\w.cell? ⟨gb,8,none⟩=some (.int .i64 (b:Int))/\w.cell? ⟨gb,9,none⟩=some vL:=by
 unfold GdAt at h;refine ⟨?_,?_,?_,?_,?_,?_,?_,?_,?_,?_⟩<;>(rw [coQ h];rfl)
theorem xM {B:Nat} {w:World} {gb:Nat} {x:GdV} {S:Sk.Sys} {K:List Int} {b:Nat} {st:Sk.St} {vL:Value} (h:Gnd B w gb x S K b st vL) (ok:Sk.Okay S) (v:Nat) (hv:v<S.V.length) :
  Calls Tryz.prog 105 #[.pointer (some ⟨gb,0,none⟩),.int .i64 (v:Int)] w fun e w'=>e=.returned (.int .i64 (Sk.ct S (v:Int):Nat))/\Below w.heap.size w w':=by
 obtain ⟨c0,c1,c2,c3,-⟩:=h.gd.cells;have b1:Below w.heap.size w (w.alloc (.cells #[.int .i64 (v:Int)] 3 (0,0))):=(Below.refl _ _).alloc zL _;have hI:=zU ((OwnL.lit (T:=kInt) (B:=w.heap.size) (w:=w) (cs:=[.int .i64 (v:Int)]) (x:=(v:Int)) zL rfl).row);have hw:=width_any (aI:=x.aI) (nI:=S.I.length) (cI:=x.cI) (aO:=x.aO) (nO:=S.O.length) (cO:=x.cO) (aR:=x.aR) (nR:=S.R.length) (cR:=x.cR) (h.sys.V.under b1) hI (fun z h0 h1=>Sk.ct_le ok z h0 h1) (by simp);rw [Sk.width_one hv] at hw;generalize Sk.ct S (v:Int)=n at hw ⊢;clear h hI hv;go_enter Tryz.func105,Tryz.ntmps105;go_wp2_with fail;refine hw.mono ?_;rintro e w2 ⟨rfl,b2⟩;clear hw;go_wp2;go_ret;exact ⟨rfl,b1.trans (b2.mono b1.size)⟩
theorem jK {B:Nat} {w:World} {gb:Nat} {x:GdV} {S:Sk.Sys} {K:List Int} {b:Nat} {st:Sk.St} {vL:Value} (h:Gnd B w gb x S K b st vL) :
  Calls Tryz.prog 74 #[.pointer (some ⟨gb,0,none⟩)] w fun e w'=>e=.returned (.bool (decide (6000<(st.c:Int))))/\w=w':=by
 obtain ⟨c0,c1,c2,c3,c4,c5,c6,c7,c8,c9⟩:=h.gd.cells;clear h c0 c1 c2 c3 c4 c5 c6 c8 c9;go_enter Tryz.func74,Tryz.ntmps74;go_wp2;go_ret;exact ⟨by simp,rfl⟩
end Go.Proofs.YtegakbobaecdlaaGreatDoor
