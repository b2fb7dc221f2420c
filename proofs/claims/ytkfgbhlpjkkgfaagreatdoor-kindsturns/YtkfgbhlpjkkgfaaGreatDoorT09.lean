import Derived.Test.YtkfgbhlpjkkgfaaGreatDoorT08
import Derived.Maps.OwnSet
import Derived.StringKeys
import Derived.Laws.OwnMore
set_option linter.unusedVariables false
set_option linter.unusedSimpArgs false
set_option maxHeartbeats 64000000
set_option maxRecDepth 100000
namespace Go.Proofs.YtkfgbhlpjkkgfaaGreatDoor
open Go.Shelf Go.RowKit Go.Lib Go.IntWalk Go.Maps Go.WideMaps
def plc (names:List ByteArray) (k:Nat) (s:List UInt8):Option Nat:=if s=[] then none else (names.take k).findIdx? fun x=>x.data.toList==s
def PlD (names:List ByteArray) (k:Nat) (D:DataW Unit):Prop :=
 ∀ s:List UInt8,Maps.has D (.string s)=(plc names k s).isSome/\D.atKey (.string s) (.lit (.int .i64 0))=.lit (.int .i64 (((plc names k s).getD 0:Nat):Int))
theorem plc_zero (names:List ByteArray) (s:List UInt8):plc names 0 s=none:=by simp [plc]
theorem plc_step {names:List ByteArray} {k:Nat} (h:k<names.length) (s:List UInt8):plc names (k+1) s=if s=[] then none else match plc names k s with
  | some q=>some q
  | none=>if (names[k]).data.toList=s then some k else none:=by
 unfold plc;by_cases hs:s=[]
 ·simp [hs]
 ·rw [if_neg hs,if_neg hs,if_neg hs,List.take_succ_eq_append_getElem h,List.findIdx?_append]
  have hl:(names.take k).length=k:=(by rw [List.length_take];omega)
  cases h1:List.findIdx? (fun x=>x.data.toList==s) (names.take k) with
  | some q=>simp
  | none=>
   by_cases h2:(names[k]).data.toList=s
   ·simp [h2,hl]
   ·simp [h2]
theorem pld_start (names:List ByteArray):PlD names 0 (.map []):=fun s=>by
 rw [plc_zero];exact ⟨rfl,rfl⟩
theorem pld_skip {names:List ByteArray} {k:Nat} {D:DataW Unit} (h:PlD names k D) (hk:k<names.length) (hs:Maps.has D (.string (names[k]).data.toList)=true\/(names[k]).data.toList=[]):PlD names (k+1) D:=by
 intro s;have e:plc names (k+1) s=plc names k s:=by
  rw [plc_step hk];by_cases h0:s=[]
  ·simp [h0,plc]
  ·rw [if_neg h0]
   cases h1:plc names k s with
   | some q=>rfl
   | none=>
    simp only;rw [if_neg];intro e;rcases hs with hs | hs
    ·rw [e,(h s).1,h1] at hs
     cases hs
    ·exact h0 (e ▸ hs)
 rw [e];exact h s
theorem pld_put {names:List ByteArray} {k:Nat} {D:DataW Unit} (hD:IsMap D) (h:PlD names k D) (hk:k<names.length) (hs:Maps.has D (.string (names[k]).data.toList)=false) (cG:(names[k]).data.toList≠[]):PlD names (k+1) (D.put (.string (names[k]).data.toList) (.lit (.int .i64 (k:Int)))):=by
 intro s;rw [plc_step hk];have dI:WideAt.IsKeyLit (.string (names[k]).data.toList):=(by trivial);by_cases e:s=(names[k]).data.toList
 ·subst e
  have h1:plc names k (names[k]).data.toList=none:=by
   have:=(h (names[k]).data.toList).1;rw [hs] at this
   cases hx:plc names k (names[k]).data.toList with
   | none=>rfl
   | some q=>rw [hx] at this;cases this
  rw [if_neg cG,h1];simp only [if_true];exact ⟨has_put_same hD dI _,atKey_put_same hD dI _ _⟩
 ·have jU:(Lit.string s)≠.string (names[k]).data.toList:=fun q=>by injection q with q;exact e q
  rw [has_put_other jU,atKey_put_other jU];by_cases h0:s=[]
  ·have:=h s
   rw [if_pos h0]
   simpa [plc,h0] using this
  ·rw [if_neg h0]
   have:=h s
   cases h1:plc names k s with
   | some q=>rw [h1] at this;exact this
   | none=>
    rw [h1] at this;simp only;rw [if_neg (fun q=>e q.symm)];exact this
theorem law9:Keyed Tryz.prog 9:=string_keyed Tryz.underlying9
theorem zero3 (w:World):(zeroValue 3).run Tryz.prog w=.ok (.int .i64 0) w:=by kernel_rfl
structure FnP (ok:Nat->Prop) (w:World) (f:Value) (names:List ByteArray) (k:Nat):Prop where
 out:∃ B M n D,f=.func (.func 231) #[] #[.pointer (some ⟨B,0,none⟩)]/\ok B/\ok M/\w.heap[B]?=some (.cells #[.map (some M)] 133 (0,0))/\w.ownsMap Tryz.prog 9 (plainElem Tryz.prog 3) M n D/\PlD names k D
theorem FnP.keep {ok:Nat->Prop} {w w':World} {f:Value} {names:List ByteArray} {k:Nat} (h:FnP ok w f names k) (hk:∀ i,ok i->i<w.heap.size->w'.heap[i]?=w.heap[i]?):FnP ok w' f names k:=by
 obtain ⟨B,M,n,D,e,o1,o2,h1,h2,h3⟩:=h.out;obtain ⟨es,clock,hb,r⟩:=h2;exact ⟨B,M,n,D,e,o1,o2,(hk B o1 (zAB h1)).trans h1,⟨es,clock,(hk M o2 (zAB hb)).trans hb,r⟩,h3⟩
theorem FnP.below {ok:Nat->Prop} {w w':World} {f:Value} {names:List ByteArray} {k:Nat} (h:FnP ok w f names k) (hb:Below w.heap.size w w'):FnP ok w' f names k:=h.keep fun i _ hl=>hb.block i hl
theorem place36 {B M n:Nat} {D:DataW Unit} {names:List ByteArray} {k:Nat} {s:ByteArray} {w:World} (hB:w.heap[B]?=some (.cells #[.map (some M)] 133 (0,0))) (ah:w.ownsMap Tryz.prog 9 (plainElem Tryz.prog 3) M n D) (hD:PlD names k D) (hs:s.size<=maxLen) :
  Calls Tryz.prog 231 #[.string s,.pointer (some ⟨B,0,none⟩)] w fun e w'=>e=.returned (.tuple #[.int .i64 (((plc names k s.data.toList).getD 0:Nat):Int),.bool (plc names k s.data.toList).isSome])/\w'=w:=by
 have lF:keyOf Tryz.prog 9 (.string s)=some (.string s.data.toList):=keyOf_string_mk Tryz.underlying9 hs;have c0:=co hB 0;simp at c0;have HD:=zAA (hD s.data.toList);clear hD;go_enter Tryz.func231,Tryz.ntmps231
 go_wp2_with (at_lookup;refine wpList_lookup_own_ok_int _ rfl _ _ 133 rfl 9 3 .i64 law9 Tryz.underlying133 Tryz.underlying3 (zero3 _) M n D rfl ah _ _ rfl lF ?_;intro c ai oA)
 have h2:=HD.out.2;rw [ai] at h2;injection h2 with h2;injection h2 with _ h2;rw [<-HD.out.1,<-h2]
 go_ret2
 exact ⟨rfl,rfl⟩
theorem placesOf_any {ok:Nat->Prop} {w:World} {v:Value} {names:List ByteArray} {cnt:Nat} (hn:HNames ok w v names) (bo:∀ s ∈ names,s.size<=maxLen) (NP:cnt<9223372036854775807) :
  Calls Tryz.prog 196 #[v,.int .i64 (cnt:Int)] w fun e w'=>∃ f,e=.returned f/\FnP (fun i=>w.heap.size<=i) w' f names cnt/\Below w.heap.size w w':=by
 obtain ⟨ao,cap,rfl,aC,av,ai⟩:=hn.at;have sN:=@run_makeMap Tryz.prog;obtain ⟨m,hm⟩:=nmQ (min names.length cnt);have vY:m<=names.length:=(by omega);have mU:=zAA hm;unfold maxLen at av;have L7:min (names.length:Int) (cnt:Int)=(m:Int):=(by omega);clear hm;clear hn;go_enter Tryz.func196,Tryz.ntmps196;go_wp2_with fail;go_loopg [6,7,8,9,18] m (fun gh _ _ _ _ Oa wr=>∃ (k:Nat) (D:DataW Unit),Oa=.int .i64 (k:Int)/\k<=m/\m<=gh+k/\Hid (wr.ownsMap Tryz.prog 9 (plainElem Tryz.prog 3) w.heap.size k D)/\Hid (PlD names k D)/\Hid (wr.heap[w.heap.size+1]?=some (.cells #[.map (some w.heap.size)] 133 (0,0)))/\Below w.heap.size w wr)
 case atStart=>exact ⟨0,.map [],rfl,by omega,by omega,zAA ((World.ownsMap_made w _ _ _).alloc _),zAA (pld_start names),zAA (by have:=zAC (w.alloc (.map #[] 0)) (.cells #[.map (some w.heap.size)] 133 (0,0));simpa using this),((Below.refl _ w).alloc nR _).alloc (by simp) _⟩
 case round=>
  obtain ⟨k,D,rfl,NS,gE,HO,HD,HB,bR⟩:=hrel;have c0:=co HB.out 0;simp at c0;have yM:=HO.out.lt;have yB:=zAB HB.out;by_cases ak:k<m
  case neg=>
   have qn:¬(k:Int)<(m:Int):=(by omega);have qR:k=m:=(by omega);go_wp2_with fail;go_ret;refine ⟨_,rfl,⟨_,_,_,D,rfl,?_,?_,HB.out,HO.out,?_⟩,bR⟩
   ·show w.heap.size<=w.heap.size+1;omega
   ·exact Nat.le_refl _
   ·intro s
    have h:=HD.out s;have e:plc names k s=plc names cnt s:=by
     unfold plc;rw [qR,mU.out];rcases Nat.le_total names.length cnt with h | h
     ·rw [Nat.min_eq_left h,List.take_of_length_le nR,List.take_of_length_le h]
     ·rw [Nat.min_eq_right h]
    rw [<-e];exact h
  case pos=>
   have lz:(k:Int)<(m:Int):=(by omega);have qX:k<names.length:=(by omega);obtain ⟨b,o,rfl,hb,t0⟩:=ai k qX;have e0:=(bR.cell (p:=⟨b,o+k,none⟩) hb).trans t0;have lF:=keyOf_string_mk Tryz.underlying9 (bo _ (List.getElem_mem qX));have wJ:=zAA (pld_skip HD.out qX);have wN:=zAA (pld_put HO.out.isMap HD.out qX);generalize names[k]=x at e0 lF wJ wN;have ah:=HO.out;clear t0
   cases hh:Maps.has D (.string x.data.toList) with
   | true=>
    go_wp2_with (at_lookup;refine wpList_lookup_own_ok_int _ rfl _ _ 133 rfl 9 3 .i64 law9 Tryz.underlying133 Tryz.underlying3 (zero3 _) w.heap.size k D rfl ah _ _ rfl lF ?_;intro c br oA)
    go_roundg (gk-1)
    case measure=>omega
    case rel=>exact ⟨k+1,D,by go_num,by omega,by omega,zAA (ah.mono (by omega)),zAA (wJ.out (.inl hh)),HB,bR⟩
   | false=>
    by_cases nX:x.data.toList=[]
    ·have hx:x=⟨#[]⟩:=by
      have h1:x.data=#[]:=by
       have:=congrArg List.toArray nX
       simpa using this
      exact ByteArray.ext h1
     subst hx
     go_wp2_with (at_lookup;refine wpList_lookup_own_ok_int _ rfl _ _ 133 rfl 9 3 .i64 law9 Tryz.underlying133 Tryz.underlying3 (zero3 _) w.heap.size k D rfl ah _ _ rfl lF ?_;intro c br oA)
     go_roundg (gk-1)
     case measure=>omega
     case rel=>exact ⟨k+1,D,by go_num,by omega,by omega,zAA (ah.mono (by omega)),zAA (wJ.out (.inr (by first | trivial | rfl))),HB,bR⟩
    ·have iZ:=zAA (wN.out hh nX)
     have GK:x.toList.isEmpty=false:=by
      rw [Lib.toList_data]
      cases hc:x.data.toList with
      | nil=>exact absurd hc nX
      | cons a b=>rfl
     have jU:¬x.toList=[]:=(by rw [Lib.toList_data];exact nX);have NB:(x.toList==([]:List UInt8))=false:=(by simpa using jU)
     go_wp2_with (first
      | (at_lookup;refine wpList_lookup_own_ok_int _ rfl _ _ 133 rfl 9 3 .i64 law9 Tryz.underlying133 Tryz.underlying3 (zero3 _) w.heap.size k D rfl ah _ _ rfl lF ?_;intro c br oA)
      | (at_mapUpdate;refine wpList_mapUpdate_own _ rfl _ _ _ 133 rfl 9 3 law9 Tryz.underlying133 _ w.heap.size k D rfl ah (by unfold maxLen;omega) _ _ _ rfl rfl lF _ [] (plainElem_int Tryz.underlying3 (WalkArith.wf_i64 (by omega))) ?_;intro w4 cK wu))
     go_roundg (gk-1)
     case measure=>omega
     case rel=>exact ⟨k+1,_,by go_num,by omega,by omega,zAA cK,iZ,zAA ((wu.block _ yB (fun e=>by injection e with e;omega)).trans HB.out),bR.grown wu (Nat.le_of_lt yM) (fun j hj=>by cases hj;exact Nat.le_refl _)⟩
end Go.Proofs.YtkfgbhlpjkkgfaaGreatDoor
namespace Go.Proofs.YtkfgbhlpjkkgfaaGreatDoor
open Go.Shelf Go.RowKit Go.Lib Go.IntWalk Go.Maps
def HInts (ok:Nat->Prop) (w:World) (v:Value) (L:List Int):Prop:=∃ C,Sl ok 1 w v L.length C/\∀ i (h:i<L.length),C i=[.int .i64 L[i]]
theorem HInts.at {ok:Nat->Prop} {w:World} {v:Value} {l:List Int} (h:HInts ok w v l) :
  ∃ ao cap,v=.slice ao l.length cap/\l.length<=cap/\cap<=maxLen/\∀ i (h:i<l.length),∃ b o,ao=some ⟨b,o,none⟩/\b<w.heap.size/\w.cell? ⟨b,o+i,none⟩=some (.int .i64 l[i]):=by
 obtain ⟨C,⟨ao,cap,hv,h1,h2,h3⟩,hC⟩:=h;refine ⟨ao,cap,hv,h1,h2,fun i hi=>?_⟩;obtain ⟨b,o,ha,gA,hb,hc⟩:=h3 (by omega);have:=(hc i hi).2 0 (by decide);rw [hC i hi] at this;exact ⟨b,o,ha,hb,by simpa using this⟩
theorem HInts.keep {ok:Nat->Prop} {w w':World} {v:Value} {l:List Int} (h:HInts ok w v l) (h1:w.heap.size<=w'.heap.size) (h2:∀ i,ok i->i<w.heap.size->w'.heap[i]?=w.heap[i]?):HInts ok w' v l:=by
 obtain ⟨C,h3,h4⟩:=h;exact ⟨C,h3.keep h1 h2,h4⟩
theorem plc_lt {names:List ByteArray} {k q:Nat} {s:List UInt8} (h:plc names k s=some q):q<k/\q<names.length:=by
 unfold plc at h
 split at h
 ·cases h
 ·have h2:=(List.findIdx?_eq_some_iff_findIdx_eq.1 h).1
  rw [List.length_take] at h2;omega
end Go.Proofs.YtkfgbhlpjkkgfaaGreatDoor
namespace Go.Proofs.YtkfgbhlpjkkgfaaGreatDoor
open Go.Shelf Go.RowKit Go.Lib Go.IntWalk Go.Maps
theorem zEN {B:Nat} {w:World} {l:List Tm} {u:Value} {c a:Int} (h:NormP B w l u c a) :
  (c≠0/\FaultP l c a)\/(c=0/\a=0/\l.length<=1000/\(∀ t ∈ l,small t.1=true)/\∃ r,OwnL kTerm B w u r/\NF (l.map te) (r.map te)):=by
 rcases h with ⟨h1,h2,h3,h4⟩ | ⟨h1,i,h,h2,h3,h4,h5,h6⟩ | ⟨h1,h2,h3,h4,r,h5,h6⟩
 ·exact .inl ⟨by omega,.inl ⟨h1,h3,h4⟩⟩
 ·exact .inl ⟨by omega,.inr (.inl ⟨h1,i,h,h2,h3,h5,h6⟩)⟩
 ·exact .inr ⟨h3,h4,h1,h2,r,h5,h6⟩
end Go.Proofs.YtkfgbhlpjkkgfaaGreatDoor
namespace Go.Proofs.YtkfgbhlpjkkgfaaGreatDoor
open Go.Shelf Go.RowKit Go.Lib Go.IntWalk Go.Maps
def OkN (l:List Tm):Prop:=l.length<=1000/\∀ t ∈ l,small t.1=true
def SameN (a b:List Tm):Prop:=OkN a/\OkN b/\∃ r,NF (a.map te) r/\NF (b.map te) r
theorem teq_te {a b:Tm}:teq a b=true↔te a=te b:=by
 unfold teq seq te;rw [Lib.toList_data,Lib.toList_data];simp
theorem eqL_te:∀ {l r:List Tm},eqL teq l r=true↔l.map te=r.map te
 | [],[]=>by simp [eqL]
 | [],_ :: _=>by simp [eqL]
 | _ :: _,[]=>by simp [eqL]
 | a :: l,b :: r=>by
  unfold eqL;rw [Bool.and_eq_true,teq_te,eqL_te,List.map_cons,List.map_cons,List.cons.injEq]
theorem zFA {l:List Tm} {c a:Int} (h:FaultP l c a) (hc:c≠0):¬OkN l:=by
 rintro ⟨h1,h2⟩;rcases h with ⟨h3,_⟩ | ⟨_,i,hi,h3,_⟩ | ⟨_,_,h3,_⟩
 ·omega
 ·rw [h2 _ (List.getElem_mem hi)] at h3;cases h3
 ·exact hc h3
theorem same_any {ok ok':Nat->Prop} {w:World} {v u:Value} {a b:List Tm} (ha:HTerms ok w v a) (hb:HTerms ok' w u b) :
  Calls Tryz.prog 44 #[v,u] w fun e w'=>∃ q:Bool,e=.returned (.bool q)/\(q=true↔SameN a b)/\Below w.heap.size w w':=by
 have IL:=zEr ha;obtain ⟨aa,ca,rfl,_,_,_⟩:=ha.at;obtain ⟨ab,cb,rfl,_,_,_⟩:=hb.at;clear ha;go_enter Tryz.func44,Tryz.ntmps44;go_wp2_with fail;refine IL.mono ?_;rintro e w1 ⟨ra,c1,a1,rfl,BY,b1⟩;clear IL;go_upto_region 2 with fail;obtain ⟨w2,gX⟩:=nmQ (w1.alloc (.cells #[.int .i64 c1,.int .i64 a1] 29 (0,0)));have b2:=zAk gX;have K2:=zBa gX;rw [<-gX];clear gX;have B2:=b1.trans (b2.mono b1.size);have xc:=zEr (hb.keep (w':=w2) B2.size (fun i _ hl=>B2.block i hl));clear hb;go_wp2_with fail;refine xc.mono ?_;rintro e w3 ⟨rb,c2,a2,rfl,CJ,b3⟩;clear xc;have K3:=(b3.block _ (zAB K2)).trans K2;go_upto_region 3 with fail;obtain ⟨w4,mL⟩:=nmQ (w3.alloc (.cells #[.int .i64 c2,.int .i64 a2] 29 (0,0)));have b4:=zAk mL;have K4:=zBa mL;rw [<-mL];clear mL;have K5:=(b4.block _ (zAB K3)).trans K3;have B3:=B2.trans (b3.mono B2.size);have B4:=B3.trans (b4.mono B3.size);have d0:=co K4 0;have k0:=co K5 0;simp at d0 k0;rcases zEN BY with ⟨aC,f1⟩ | ⟨rfl,rfl,bh,dB,r1,js,Fm⟩
 ·have h1:(c1==0)=false:=by simpa using aC
  have HF:=zAA (zFA f1 aC);clear BY CJ f1;go_wp2;go_ret;exact ⟨false,rfl,⟨fun h=>(by cases h),fun h=>absurd h.1 HF.out⟩,B4⟩
 ·rcases zEN CJ with ⟨av,f2⟩ | ⟨rfl,rfl,ek,jk,r2,mS,Jy⟩
  ·have h1:(c2==0)=false:=by simpa using av
   have HF:=zAA (zFA f2 av);clear BY CJ f2 js Fm;go_wp2;go_ret;exact ⟨false,rfl,⟨fun h=>(by cases h),fun h=>absurd h.2.1 HF.out⟩,B4⟩
  ·have bb:Below w1.heap.size w1 w4:=b2.trans ((b3.mono b2.size).trans (b4.mono (Nat.le_trans b2.size b3.size)))
   have heq:=zFk (zBj ((js.below bb).row)) (zBj ((mS.below b4).row));have Bc:=zAA Fm;have zo:=zAA Jy;have CY:=zAA (show OkN a from ⟨bh,dB⟩);have DX:=zAA (show OkN b from ⟨ek,jk⟩);clear BY CJ js mS Fm Jy;go_wp2_with fail;refine heq.mono ?_;rintro e w5 ⟨rfl,b5⟩;go_wp2;go_ret;refine ⟨_,rfl,?_,B4.trans (b5.mono B4.size)⟩;rw [eqL_te]
   constructor
   ·intro h
    exact ⟨CY.out,DX.out,_,Bc.out,h ▸ zo.out⟩
   ·rintro ⟨_,_,r,n1,n2⟩
    rw [Bc.out.uniq n1,zo.out.uniq n2]
end Go.Proofs.YtkfgbhlpjkkgfaaGreatDoor
namespace Go.Proofs.YtkfgbhlpjkkgfaaGreatDoor
open Go.Shelf Go.RowKit Go.Lib Go.IntWalk Go.Maps
theorem HTerms.news {ok:Nat->Prop} {w:World} {a:Addr} {cap:Nat} {l:List Tm} (h:HTerms ok w (.slice (some a) l.length cap) l):∀ j u,(tcs l)[j]?=some u->w.cell? (a.add j)=some u:=by
 obtain ⟨ao,bE,ev,_,_,ai⟩:=h.at;injection ev with jw _ _;subst jw;intro j u hj;have cM:j<l.length*2:=by
  rcases Nat.lt_or_ge j (l.length*2) with h | h
  ·exact h
  ·rw [List.getElem?_eq_none (by rw [zAc];exact h)] at hj;cases hj
 have hq:j / 2<l.length:=(by omega);obtain ⟨b,o,e,hb,c0,c1⟩:=ai (j / 2) hq;injection e with e;subst e;have dn:(⟨b,o,none⟩:Addr).add j=⟨b,o+j,none⟩:=by unfold Addr.add;split<;>simp_all
 rw [dn];obtain ⟨g0,g1⟩:=zDd [] l (j / 2) hq;rw [List.append_nil] at g0 g1;rcases (by omega:j % 2=0\/j % 2=1) with e | e
 ·rw [show o+j / 2*2=o+j by omega] at c0
  rw [show j / 2*2=j by omega] at g0;rw [c0,<-hj,g0]
 ·rw [show o+j / 2*2+1=o+j by omega] at c1
  rw [show j / 2*2+1=j by omega] at g1;rw [c1,<-hj,g1]
theorem tcs_one (l:List Tm):∀ u ∈ tcs l,u.oneCell'=true:=by
 induction l with
 | nil=>intro u hu;simp [tcs] at hu
 | cons t l ih=>
  intro u hu;simp [tcs] at hu;rcases hu with rfl | rfl | hu
  ·rfl
  ·rfl
  ·exact ih u hu
theorem flat_tcs (l:List Tm):flat (fun j=>[.int .i64 (l[j]!).1,.string (l[j]!).2]) l.length=tcs l:=by
 have e1:=zBp (l:=l) (D:=fun j=>[.int .i64 (l[j]!).1,.string (l[j]!).2]) (fun j hj=>by simp [hj]) l.length nR;rw [List.take_length] at e1;exact e1
theorem zFB {B:Nat} {w:World} {v:Value} {l:List Tm} (h:OwnL kTerm B w v l):w.ownsRow B 83 2 v l.length (tcs l):=by
 obtain ⟨D,h1,h2⟩:=h;have e1:=zBp (l:=l) (D:=D) (fun j hj=>h2 j hj) l.length nR;rw [List.take_length] at e1;rw [<-e1];exact h1
theorem rows_own {B:Nat} {w:World} {v:Value} {l:List Tm} (h:w.ownsRow B 83 2 v l.length (tcs l)):OwnL kTerm B w v l:=by
 refine ⟨fun j=>[.int .i64 (l[j]!).1,.string (l[j]!).2],?_,fun j hj=>?_⟩
 ·rw [flat_tcs];exact h
 ·show [Value.int .i64 (l[j]!).1,.string (l[j]!).2]=[.int .i64 (l[j]).1,.string (l[j]).2]
  simp [hj]
theorem run_cat {ok:Nat->Prop} {B:Nat} {w:World} {v u:Value} {l m:List Tm} {ty:TypeId} (ah:OwnL kTerm B w v l) (hm:HTerms ok w u m) (hB:B<=w.heap.size) (aP:l.length+m.length<=3000000) :
  ∃ v' w',(Builtin.append_ #[33,33] ty #[v,u]).run Tryz.prog w=.ok v' w'/\OwnL kTerm B w' v' (l++m)/\Below B w w'/\w.grownBy w' v.ownBlock:=by
 obtain ⟨i0,hi,db,bP,bY⟩:=info_parts kTerm.info;obtain ⟨ao,cap,rfl,aC,av,ai⟩:=hm.at
 cases ao with
 | none=>
  cases m with
  | nil=>
   rw [List.length_nil,List.append_nil];have hr:(Builtin.append_ #[33,33] ty #[v,.slice none 0 cap]).run Tryz.prog w=.ok v w:=by
    have wC:Tryz.prog.info? 83=some i0:=hi;rcases (zFB ah).2 with ⟨rfl,h0⟩ | ⟨g,c,aR,rfl,_,_,eR,_⟩
    ·simp [Builtin.append_,run_underlying Tryz.underlying33,sizeOf,typeInfo,wC,Builtin.lenOf,Builtin.firstCells]
    ·simp [Builtin.append_,run_underlying Tryz.underlying33,sizeOf,typeInfo,wC,Builtin.lenOf,Builtin.firstCells,eR,storeCells]
   exact ⟨v,w,hr,ah,Below.refl _ _,⟨rfl,rfl,rfl,Nat.le_refl _,fun _ _ _=>rfl⟩⟩
  | cons t m'=>
   obtain ⟨b,o,e,_⟩:=ai 0 (by simp)
   cases e
 | some a=>
  obtain ⟨v',w',hr,h2,h3,h4⟩:=zCV (P:=Tryz.prog) w B 33 ty 83 i0 kTerm.zero 2 24 Tryz.underlying33 hi db bP bY rfl (by decide) v l.length _ (zFB ah) a m.length cap (tcs m) (zAc m) hm.news (tcs_one m) (by unfold maxLen;omega) (by omega) hB;refine ⟨v',w',hr,rows_own ?_,Below.push (Below.refl B w) hB (zFB ah) h3,h3⟩;rw [List.length_append,zCE];exact h2
structure STm (t:Tm):Prop where
 n : -3<=t.1/\t.1<=3
 name:t.2=⟨#[]⟩\/t.2=⟨#[107]⟩\/t.2=⟨#[109]⟩\/t.2=⟨#[110]⟩
end Go.Proofs.YtkfgbhlpjkkgfaaGreatDoor
namespace Go.Proofs.YtkfgbhlpjkkgfaaGreatDoor
open Go.Shelf Go.RowKit Go.Lib Go.IntWalk Go.Maps
def N4 (s:List UInt8):Prop:=s=[]\/s=[107]\/s=[109]\/s=[110]
theorem STm.n4 {t:Tm} (h:STm t):N4 t.2.data.toList:=by
 rcases h.name with e | e | e | e<;>rw [e]
 ·exact .inl rfl
 ·exact .inr (.inl rfl)
 ·exact .inr (.inr (.inl rfl))
 ·exact .inr (.inr (.inr rfl))
end Go.Proofs.YtkfgbhlpjkkgfaaGreatDoor
