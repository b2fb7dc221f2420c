import Derived.Test.YthkpanbgkimhoaaGreatDoorM14
import Derived.Test.YthkpanbgkimhoaaGreatDoorPg15
import Derived.Deep.CutBlock
import Derived.Deep.DeepCutAuto
set_option linter.unusedVariables false
set_option linter.unusedSimpArgs false
set_option maxHeartbeats 64000000
set_option maxRecDepth 100000
namespace Go.Proofs.YthkpanbgkimhoaaGreatDoor
open Go.RowKit Go.IntWalk
theorem nW {α:Sort _} (e:α):∃ x,x=e:=⟨e,rfl⟩
variable {b g cap:Nat} {ao:Option Addr} {I:Inp}
def lookU (I:Inp) (x:List UInt8):Res Unit→Bool
 | .ok _ n=>Ps.sees I x n
 | .err _ _=>false
def noU (I:Inp) (x:List UInt8):Res Unit→Bool
 | .ok _ n => !Ps.sees I x n
 | .err _ _=>false
theorem vH (hS:Sure I) (x:List UInt8) (hs:Known I x):Takes 44 [.string ⟨x.toArray⟩] b g cap ao I (fun _ _ v (_:Unit)=>v=.tuple #[]) (Ps.need I x):=must_t hS ⟨x.toArray⟩ hs
theorem zBJ {w:World} {u:Unit} {n:Nat} (h:An w b g cap ao I (.ok u n)) (x:List UInt8) (hs:Known I x) :
  Calls Tryz.prog 16 #[.pointer (some ⟨b,0,none⟩),.string ⟨x.toArray⟩] w fun e w'=>e=.returned (.bool (Ps.sees I x n))∧Below w.heap.size w w':=sees_n h ⟨x.toArray⟩ hs
theorem fin_eq {α:Type} {R:Nat→Res α} {s0 s:Res Unit} {q:α} (h:(s0.bind fun _ n=>R n)=s.bind fun _ m=>.ok q m):goS R s0=s∧GotR R s0 q:=by
 cases s0 with
 | ok u n=>
  have h:R n=s.bind fun _ m=>.ok q m:=h
  show (R n).bind _=s∧_
  cases s with
  | ok u2 m=>
   have h2:R n=.ok q m:=h;exact ⟨by rw [h2];rfl,fun n' v m' e1 e2=>by cases e1;rw [h2] at e2;cases e2;rfl⟩
  | err c a=>
   have h2:R n=.err c a:=h;exact ⟨by rw [h2];rfl,fun n' v m' e1 e2=>by cases e1;rw [h2] at e2;cases e2⟩
 | err c a=>
  cases s with
  | ok u2 m=>cases h
  | err c2 a2=>cases h;exact ⟨rfl,fun n' v m' e1 e2=>by cases e1⟩
theorem zCC {α β:Type} {M:Res β} {Mr:Res α} {K:α→Nat→Res β} {s:Res Unit} {acc:α} (h:M=Mr.bind K) (hr:Mr=s.bind fun _ n=>.ok acc n):M=s.bind fun _ n=>K acc n:=by
 rw [h,hr]
 cases s<;>rfl
theorem zBm {w w':World} {k o:Nat} {v:Value} (hb:Below w.heap.size w w') (h:w.cell? ⟨k,o,none⟩=some v):w'.cell? ⟨k,o,none⟩=some v:=by
 have hk:k<w.heap.size:=by
  by_cases hk:k<w.heap.size
  ·exact hk
  ·rw [World.cell?,Array.getElem?_eq_none (show w.heap.size≤k by omega)] at h
   cases h
 rw [World.cell?_of_block (w:=w) (hb.block k hk)];exact h
def eqR2 (I:Inp) (p:Int) (l:List ByteArray) (n2:Nat):Res Eqn:=if l.length=1∧Ps.sees I [99,97,108,108] n2=false then (Ps.whole I n2).bind fun e n3=>.ok ⟨p,l,⟨#[]⟩,[],[e]⟩ n3 else Ps.call I p l n2
def eqR (I:Inp) (p:Int) (l:List ByteArray) (n1:Nat):Res Eqn:=(Ps.need I [61] n1).bind fun _ n2=>eqR2 I p l n2
def callF (I:Inp) (p:Int) (l:List ByteArray) (nm:ByteArray) (z:List (List Tm)) (n6:Nat):Res Eqn :=
 (if Ps.sees I [41] n6=true then .ok [] (n6+1) else (Ps.row I (Ps.whole I) 30 [] n6).bind fun e n7=>(Ps.need I [41] n7).bind fun _ n8=>.ok e n8).bind fun e n9=>.ok ⟨p,l,nm,z,e⟩ n9
def callE (I:Inp) (p:Int) (l:List ByteArray) (nm:ByteArray) (z:List (List Tm)) (n5:Nat):Res Eqn:=(Ps.need I [40] n5).bind fun _ n6=>callF I p l nm z n6
def callS (I:Inp) (p:Int) (l:List ByteArray) (nm:ByteArray) (n2:Nat):Res Eqn :=
 (if Ps.sees I [60] n2=true then (Ps.row I (Ps.size I) 3 [] (n2+1)).bind fun z n3=>(Ps.need I [62] n3).bind fun _ n4=>.ok z n4 else .ok [] n2).bind fun z n5=>callE I p l nm z n5
theorem eq_start {I:Inp} {s:Res Unit} {p:Int} (hp:∀ n,s=.ok () n→p=((I.pk n).place:Int)):(s.bind fun _ n=>Ps.equation I n)=(s.bind fun _ n=>Ps.row I (Ps.name I) 30 [] n).bind (eqR I p):=by
 cases s with
 | ok u n=>rw [hp n rfl];rfl
 | err c a=>rfl
theorem eq_one {M:Res Eqn} {I:Inp} {p:Int} {l:List ByteArray} {n:Nat} (h:M=(Res.ok () n).bind fun _ n=>eqR2 I p l n) (hq:l.length=1∧Ps.sees I [99,97,108,108] n=false):M=(Res.ok () n).bind fun _ n=>(Ps.whole I n).bind fun e n3=>.ok ⟨p,l,⟨#[]⟩,[],[e]⟩ n3:=by
 rw [h,Res.ok_bind,eqR2,if_pos hq];rfl
theorem eq_call {M:Res Eqn} {I:Inp} {p:Int} {l:List ByteArray} {n:Nat} (h:M=(Res.ok () n).bind fun _ n=>eqR2 I p l n) (hq:¬(l.length=1∧Ps.sees I [99,97,108,108] n=false)):M=(Res.ok () n).bind fun _ n=>(Ps.need I [99,97,108,108] n).bind fun _ n1=>(Ps.name I n1).bind fun nm n2=>callS I p l nm n2:=by
 rw [h,Res.ok_bind,eqR2,if_neg hq];rfl
theorem calls_no {M:Res Eqn} {I:Inp} {p:Int} {l:List ByteArray} {nm:ByteArray} {s:Res Unit} (h:M=s.bind fun _ n=>callS I p l nm n) (hl:lookU I [60] s=false):M=s.bind fun _ n=>callE I p l nm [] n:=by
 rw [h]
 cases s with
 | ok u n=>
  have hl:Ps.sees I [60] n=false:=hl;simp only [Res.ok_bind,callS,hl];rfl
 | err c a=>rfl
theorem calls_yes {M:Res Eqn} {I:Inp} {p:Int} {l:List ByteArray} {nm:ByteArray} {n:Nat} (h:M=(Res.ok () n).bind fun _ n=>callS I p l nm n) (hl:Ps.sees I [60] n=true):M=((Res.ok () (n+1)).bind fun _ n=>Ps.row I (Ps.size I) 3 [] n).bind fun z n3=>(Ps.need I [62] n3).bind fun _ n4=>callE I p l nm z n4:=by
 rw [h];simp only [Res.ok_bind,callS,hl,if_true,Res.bind_bind]
theorem callf_no {M:Res Eqn} {I:Inp} {p:Int} {l:List ByteArray} {nm:ByteArray} {z:List (List Tm)} {s:Res Unit} (h:M=s.bind fun _ n=>callF I p l nm z n) (hl:noU I [41] s=false):M=s.bind fun _ n=>(Ps.need I [41] n).bind fun _ m=>.ok ⟨p,l,nm,z,[]⟩ m:=by
 rw [h]
 cases s with
 | ok u n=>
  have hl:(!Ps.sees I [41] n)=false:=hl;have hl:Ps.sees I [41] n=true:=(by simpa using hl);simp only [Res.ok_bind,callF,hl,if_true,zBV hl]
 | err c a=>rfl
theorem callf_yes {M:Res Eqn} {I:Inp} {p:Int} {l:List ByteArray} {nm:ByteArray} {z:List (List Tm)} {n:Nat} (h:M=(Res.ok () n).bind fun _ n=>callF I p l nm z n) (hl:Ps.sees I [41] n=false):M=((Res.ok () n).bind fun _ n=>Ps.row I (Ps.whole I) 30 [] n).bind fun e n7=>(Ps.need I [41] n7).bind fun _ m=>.ok ⟨p,l,nm,z,e⟩ m:=by
 rw [h];simp [Res.ok_bind,callF,hl,Res.bind_bind]
theorem eq_out {K0:Nat} {w:World} {okN okS okE:Nat→Prop} {p:Int} {nm:ByteArray} {aN aS aE:Option Addr} {nN cN nS cS nE cE:Nat} {l:List ByteArray} {z:List (List Tm)} {e:List Ex}
  (h1:HRow kName okN w (.slice aN nN cN) l) (h2:HRow kSize okS w (.slice aS nS cS) z) (h3:HRow kExpr okE w (.slice aE nE cE) e) (o1:∀ i,okN i→K0<i) (o2:∀ i,okS i→K0<i) (o3:∀ i,okE i→K0<i) :
  HEq (fun i=>K0≤i) (put5 w K0 ⟨p,aN,nN,cN,nm,aS,nS,cS,aE,nE,cE⟩) ⟨p,aN,nN,cN,nm,aS,nS,cS,aE,nE,cE⟩ ⟨p,l,nm,z,e⟩:=
 ⟨rfl,xP ((h1.put5 (k:=K0) (fun h=>absurd (o1 _ h) (by omega)) _).wide (fun i hi _=>Nat.le_of_lt (o1 i hi))),rfl,jW ((h2.put5 (k:=K0) (fun h=>absurd (o2 _ h) (by omega)) _).wide (fun i hi _=>Nat.le_of_lt (o2 i hi))),jX ((h3.put5 (k:=K0) (fun h=>absurd (o3 _ h) (by omega)) _).wide (fun i hi _=>Nat.le_of_lt (o3 i hi)))⟩
theorem An.put5 {w:World} {s:Res Unit} (h:An w b g cap ao I s) {k:Nat} (hb:k≠b) (hg:k≠g) (y:EqV):An (put5 w k y) b g cap ao I s :=
 h.same (jH _ _ _ _ (fun e=>hb e.symm)) (jH _ _ _ _ (fun e=>hg e.symm)) (Nat.le_of_eq (zAj _ _ _).symm)
theorem eq_t (hS:Sure I) (hL:I.L.length≤1099511627776):Takes 49 [] b g cap ao I eqV (Ps.equation I):=by
 intro s0 w h hgb
 show Calls Tryz.prog 49 #[.pointer (some ⟨b,0,none⟩)] w _
 have hbb:=h.lt;have A_w:Aside [b] w.heap.size w w:=Aside.refl _;obtain ⟨M,hM⟩:=nW (s0.bind fun _ n=>Ps.equation I n);have HM0:=zD hM;clear hM;have k61:=zD (hS.known [61] (.inr ⟨by decide,by decide⟩) (by decide));have kcall:=zD (hS.known [99,97,108,108] (.inl (by decide)) (by decide));have k60:=zD (hS.known [60] (.inr ⟨by decide,by decide⟩) (by decide));have k62:=zD (hS.known [62] (.inr ⟨by decide,by decide⟩) (by decide));have k40:=zD (hS.known [40] (.inr ⟨by decide,by decide⟩) (by decide));have k41:=zD (hS.known [41] (.inr ⟨by decide,by decide⟩) (by decide));obtain ⟨w1,hw1⟩:=nW (w.alloc (.cells #[.int .i64 0,.slice none 0 0,.string ⟨#[]⟩,.slice none 0 0,.slice none 0 0] 43 (0,0)));have bw1:=xA hw1;have K_w1:=xE hw1;have n_w1:=h.past bw1;have A_w1:=A_w.trans (aside bw1) A_w.size;have y_w1:=A_w1.size;clear A_w;go_enter Tryz.func49,Tryz.ntmps49;go_wp2_with fail;rw [←hw1];clear hw1 bw1 h;refine (place_n n_w1).mono ?_;rintro r w2 ⟨p,rfl,bl,hp⟩;have hM2:=eq_start (I:=I) hp;rw [←HM0.out] at hM2;have HM:=zD hM2;clear hp hM2;have K_w2:=(bl.block _ (zC K_w1)).trans K_w1;have n_w2:=n_w1.past bl;have A_w2:=A_w1.trans (aside bl) A_w1.size;have y_w2:=A_w2.size;clear K_w1  A_w1 bl y_w1 n_w1;go_wp2_with fail;refine Calls.mono (zCQ hS _ _ n_w2 (by omega)) ?_;rintro r w3 ⟨v,x,rfl,rfl,a,n_w3,got⟩;have HR:Hid (RowN (s0.bind fun _ n=>Ps.row I (Ps.name I) 30 [] n) I (Ps.name I) 30 [x] (goS (Ps.name I) s0)):=zD (zAk (f:=29) rfl got);clear got;generalize goS (Ps.name I) s0=s1 at n_w3 HR;clear n_w2;have K_w3:=a.keep K_w2 (zC K_w2) (by simp;omega);have A_w3:=A_w2.trans a A_w2.size;have y_w3:=A_w3.size;clear K_w2  A_w2 a y_w2;obtain ⟨w4,hw4⟩:=nW (w3.alloc (.cells #[.string x] 9 (0,0)));have bw4:=xA hw4;have zw4:=xU hw4;obtain ⟨w5,hw5⟩:=nW (w4.alloc (.cells #[.int .i64 p,.slice (some ⟨w3.heap.size,0,none⟩) 1 1,.string ⟨#[]⟩,.slice none 0 0,.slice none 0 0] 43 (0,0)));have bw5:=xA hw5;have X_w5:w5.heap[w3.heap.size+1]?=some (.cells #[.int .i64 p,.slice (some ⟨w3.heap.size,0,none⟩) 1 1,.string ⟨#[]⟩,.slice none 0 0,.slice none 0 0] 43 (0,0)):=(by rw [←zw4,hw5];exact zF _ _);have N_w4:OwnX kName (fun i=>w.heap.size<i∧i≠w3.heap.size+1) w4 (.slice (some ⟨w3.heap.size,0,none⟩) 1 1) [x]:=by
  rw [hw4];exact OwnX.lit (T:=kName) (cs:=[.string x]) ⟨by have:=zC K_w3;omega,by omega⟩ rfl
 have N_w5:=N_w4.under bw5;have K_w5:=(bw5.block _ (zC ((bw4.block _ (zC K_w3)).trans K_w3))).trans ((bw4.block _ (zC K_w3)).trans K_w3);have n_w5:=(n_w3.past bw4).past bw5;have A_w5:=(A_w3.trans (aside bw4) A_w3.size).trans (aside bw5) (by have:=bw4.size;omega);have y_w5:=A_w5.size;have ylt:=zC K_w3;clear bw4 zw4 bw5 N_w4 n_w3 A_w3 K_w3;obtain ⟨okN,hokN⟩:∃ okN:Nat→Prop,okN=fun i=>w.heap.size<i∧i≠w3.heap.size+1:=⟨_,rfl⟩;rw [←hokN] at N_w5;have oN:∀ i,okN i→w.heap.size<i∧i≠w3.heap.size+1:=fun i hi=>by rw [hokN] at hi;exact hi
 have uN:∀ i,w3.heap.size+1<i→okN i:=fun i hi=>by rw [hokN];exact ⟨by omega,by omega⟩
 clear hokN;obtain ⟨Mr,hMr⟩:=nW (s0.bind fun _ n=>Ps.row I (Ps.name I) 30 [] n);rw [←hMr] at HM HR;clear hMr;go_upto_block 0 with fail;rw [←hw4,←hw5];clear hw4 hw5;go_cut [] (fun wc=>∃ (acc:List ByteArray) (aa:Option Addr) (cc:Nat) (s:Res Unit),acc.length≤30∧wc.heap[w3.heap.size+1]?=some (.cells #[.int .i64 p,.slice aa acc.length cc,.string ⟨#[]⟩,.slice none 0 0,.slice none 0 0] 43 (0,0))∧OwnX kName okN wc (.slice aa acc.length cc) acc∧An wc b g cap ao I s∧Aside [b] w.heap.size w wc∧wc.heap[w.heap.size]?=some (.cells #[.int .i64 0,.slice none 0 0,.string ⟨#[]⟩,.slice none 0 0,.slice none 0 0] 43 (0,0))∧Hid (M=s.bind fun _ n=>eqR I p acc n))
 case first=>
  go_wp2_with fail;go_loopg [] 30 (fun k wr=>∃ (acc:List ByteArray) (aa:Option Addr) (cc:Nat) (s:Res Unit),k+acc.length=31∧acc.length≤30∧wr.heap[w3.heap.size+1]?=some (.cells #[.int .i64 p,.slice aa acc.length cc,.string ⟨#[]⟩,.slice none 0 0,.slice none 0 0] 43 (0,0))∧OwnX kName okN wr (.slice aa acc.length cc) acc∧An wr b g cap ao I s∧Aside [b] w.heap.size w wr∧wr.heap[w.heap.size]?=some (.cells #[.int .i64 0,.slice none 0 0,.string ⟨#[]⟩,.slice none 0 0,.slice none 0 0] 43 (0,0))∧Hid (RowN Mr I (Ps.name I) 30 acc s))
  case atStart=>exact ⟨[x],_,1,s1,rfl,by simp,X_w5,N_w5,n_w5,A_w5,K_w5,HR⟩
  case round=>
   clear X_w5 N_w5 n_w5 A_w5 K_w5 HR y_w5;obtain ⟨acc,aa,cc,s,hk,hk2,X_wr,N_wr,n_wr,A_wr,K_wr,HR⟩:=hrel;have y_wr:=A_wr.size;have cX:=co X_wr 1;simp only [gT,gZ,gS] at cX;go_wp2_with fail;refine (zCq n_wr hS acc.length 30 30 rfl).mono ?_;rintro r wa ⟨rfl,a,n_wa⟩;obtain ⟨u,hu⟩:=nW (comU I acc.length 30 s);rw [←hu];generalize hs2:comS I acc.length 30 s=s2 at n_wa;have HC:=zD hs2;have HU:=zD hu;clear hs2 hu cX n_wr;have K_wa:=a.keep K_wr (zC K_wr) (by simp;omega);have X_wa:=a.keep X_wr (zC X_wr) (by simp;omega);have N_wa:=N_wr.past a (fun i hi=>by have h9:=oN i hi;simp;omega);have A_wa:=A_wr.trans a A_wr.size;have y_wa:=A_wa.size;clear K_wr X_wr N_wr A_wr a y_wr
   cases u with
   | false=>
    go_wp2_with fail;go_meet
    case rel=>exact ⟨acc,aa,cc,s2,hk2,X_wa,N_wa,n_wa,A_wa,K_wa,by have h1:=zBy HR.out HU.out.symm;rw [HC.out] at h1;exact zCC HM.out h1⟩
   | true=>
    go_wp2_with fail;have bd:Below wa.heap.size wa wa.drew:=(Below.refl _ wa).drew;have n5:=n_wa.past bd;have hb5:=(bd.block _ (zC X_wa)).trans X_wa;have A5:=A_wa.trans (aside bd) A_wa.size;have z5:wa.drew.heap.size=wa.heap.size:=rfl;have om5:=(N_wa.under bd).wide (ok':=fun i=>okN i∧i<wa.heap.size) (fun i hi hl=>⟨hi,hl⟩);have bo5:∀ i,i<wa.heap.size→wa.drew.heap[i]?=wa.heap[i]?:=fun i hi=>bd.block i hi;have xlt:=zC X_wa;refine zL (fun w'=>w'.cell? ⟨w3.heap.size+1,1,none⟩=some (.slice aa acc.length cc)) (fun j=>decide (j=7)) (by kernel_rfl) ?_;generalize wa.drew=wd at n5 hb5 A5 z5 om5 bo5 ⊢;have Z5:=zD z5;have BO5:=zD bo5;clear bd z5 bo5 n_wa A_wa N_wa X_wa;have yz:=zC hb5;have c5:=co hb5 1;simp only [gT,gZ,gS] at c5;have hH:=c5;refine' zE (i:=0) (v:=_) rfl (by kernel_rfl) (by kernel_rfl) (by kernel_rfl) (by kernel_rfl) (fun _ _ _ h=>h) hH (by rfl) ?hyv ?o1
    case hyv=>
     intro wz k0;go_simp
     try rfl
    try simp only [Act.put,sT,sZ,sS]
    refine' zE (i:=1) (v:=_) rfl (by kernel_rfl) (by kernel_rfl) (by kernel_rfl) (by kernel_rfl) (fun _ _ _ h=>h) hH (by rfl) ?hyv ?o2
    case hyv=>
     intro wz k0;go_simp
     try rfl
    try simp only [Act.put,sT,sZ,sS]
    refine' zE (i:=2) (v:=_) rfl (by kernel_rfl) (by kernel_rfl) (by kernel_rfl) (by kernel_rfl) (fun _ _ _ h=>h) hH (by rfl) ?hyv ?o3
    case hyv=>
     intro wz k0;go_simp
     try rfl
    try simp only [Act.put,sT,sZ,sS]
    refine zG (i:=3) rfl (by kernel_rfl) (by rfl) (fun K hK=>?_);go_simp;refine Calls.mono (zCQ hS _ _ n5 (by have:=Z5.out;omega)) ?_;rintro r w6 ⟨v6,x,rfl,hx,a6,n6,got6⟩;have G6:=zD got6;have hx2:v6=.string x:=hx;subst hx2;have z6:=a6.size;have A6:=A5.trans a6 A5.size;have hb6:=a6.keep hb5 (zC hb5) (by simp;omega);have om6:=om5.past a6 (fun i hi=>by have:=oN i hi.1;simp;omega);have bo6:Hid (∀ i,i<wa.heap.size→i≠b→w6.heap[i]?=wa.heap[i]?):=zD (fun i hi hb=>(a6.block i (by have:=Z5.out;omega) (by simpa using hb)).trans (BO5.out i hi));clear n5 hb5 A5 om5 hH c5 a6 got6 BO5;have c5:=co hb6 1;simp only [gT,gZ,gS] at c5;refine hK.out _ _ (fun _=>c5) ?_;clear hK K
    try simp only [Act.put,sT,sZ,sS]
    have H7a:=co (kA hb6 (.cells #[.string x] 9 (0,0))) 1;simp only [gT,gZ,gS] at H7a;have H7h:=zD H7a;clear H7a;have q1:kName.E (fun i=>wd.heap.size≤i) w6 [.string x] x:=rfl;have q2:(acc.length+1)*kName.bytes≤140737488355328:=(by show (acc.length+1)*16≤_;omega);have q3:acc.length+1≤maxLen:=(by unfold maxLen;omega)
    refine zG (i:=4) rfl (by kernel_rfl) (by rfl) (fun K hK=>?_);go_simp;refine hK.out _ _ (fun _=>H7h.out) ?_;clear hK K
    try simp only [Act.put,sT,sZ,sS]
    refine zG (i:=5) rfl (by kernel_rfl) (by rfl) (fun K hK=>?_);refine xK kName _ _ 35 9 rfl Tryz.underlying35 wd.heap.size _ _ acc (by rfl) om6 [.string x] x q1 (by rfl) (fun i hi=>by have:=Z5.out;omega) z6 q2 q3 ?_;intro v8 w8 om8 g8;have hvb:=fun k hk=>(om6.lt k hk).1;obtain ⟨z8,hoth⟩:=xC (ok:=fun i=>okN i∧i<wa.heap.size) g8 hvb;have A8:Aside [b] w.heap.size w w8:=A6.trans (xF (S:=[b]) g8 hvb (fun i hi=>by have:=oN i hi.1;omega) A6.size) nR;have hb8:=(hoth _ (zC hb6) (fun hh=>by have:=oN _ hh.1;omega)).trans hb6;have bo8:Hid (∀ i,i<wa.heap.size→i≠b→¬okN i→w8.heap[i]?=wa.heap[i]?):=zD (fun i hi hb hk=>(hoth i (by have:=Z5.out;omega) (fun hh=>hk hh.1)).trans (bo6.out i hi hb));have n8:=n6.same (hoth b n6.lt (fun hh=>by have:=oN b hh.1;omega)) (hoth g (by have:=Z5.out;omega) (fun hh=>by have:=oN g hh.1;omega)) z8;clear A6 hb6 om6 n6 q1 c5 H7h g8 hoth hvb hx bo6;have c5:=co hb8 1;simp only [gT,gZ,gS] at c5;refine hK.out _ _ (fun _=>c5) ?_;clear hK K
    try simp only [Act.put,sT,sZ,sS]
    obtain ⟨a8v,c8v,hv8,_,_⟩:=om8.form;rw [List.length_append,List.length_singleton] at hv8;subst hv8;have f8:=fun o=>fo hb8 o;refine zG (i:=6) rfl (by kernel_rfl) (by rfl) (fun K hK=>?_);go_simp;refine hK.out _ _ (fun _=>c5) ?_;clear hK K
    try simp only [Act.put,sT,sZ,sS]
    refine zG (i:=7) rfl (by kernel_rfl) (by rfl) (fun K hK=>?_);go_simp;refine hK.out _ _ (fun h=>by cases h) ?_;clear hK K
    try simp only [Act.put,sT,sZ,sS]
    refine zR (by kernel_rfl) ?_ _;have hb9:=zJ hb8 1 (.slice a8v (acc.length+1) c8v);simp only [sT,sZ,sS] at hb9;have n9:=n8.set (p:=⟨w3.heap.size+1,1,none⟩) (by simp;omega) (by simp;omega) (.slice a8v (acc.length+1) c8v);have A9:=A8.set (p:=⟨w3.heap.size+1,1,none⟩) (by simp;omega) (.slice a8v (acc.length+1) c8v);have om9:=om8.set (p:=⟨w3.heap.size+1,1,none⟩) (by intro hh;have hh2:(okN (w3.heap.size+1)∧w3.heap.size+1<wa.heap.size)∨wd.heap.size≤w3.heap.size+1:=hh;rcases hh2 with q | q;exact absurd (oN _ q.1) (by omega);have:=Z5.out;omega) (.slice a8v (acc.length+1) c8v);have bo9:∀ i,i<wa.heap.size→i≠b→i≠w3.heap.size+1→¬okN i→(w8.setCell ⟨w3.heap.size+1,1,none⟩ (.slice a8v (acc.length+1) c8v)).heap[i]?=wa.heap[i]?:=fun i hi hb hk ho=>(Below.heap_setCell _ _ _ _ hk).trans (bo8.out i hi hb ho);have z9:wa.heap.size≤(w8.setCell ⟨w3.heap.size+1,1,none⟩ (.slice a8v (acc.length+1) c8v)).heap.size:=(by have:=Z5.out;simp [World.setCell];omega);generalize hwz:w8.setCell ⟨w3.heap.size+1,1,none⟩ (.slice a8v (acc.length+1) c8v)=wz at hb9 n9 A9 om9 bo9 z9 ⊢;have X_wz:=hb9;have n_wz:=n9;have A_wz:=A9;have K_wz:=(bo9 _ (zC K_wa) (by omega) (by omega) (fun hh=>by have:=oN _ hh;omega)).trans K_wa;have N_wz:OwnX kName (fun i=>(okN i∧i<wa.heap.size)∨wa.heap.size≤i) wz (.slice a8v (acc.length+1) c8v) (acc++[x]):=om9.wide (fun i hi _=>hi.elim .inl (fun hh=>.inr (by have:=Z5.out;omega)));have y_wz:=A_wz.size;clear hb9 n9 A9 om9 bo9 hb8 om8 n8 A8 bo8 c5 f8 hwz K_wa y_wa;have N_wz2:OwnX kName okN wz _ (acc++[x]):=N_wz.wide (fun i hi _=>hi.elim (fun q=>q.1) (fun q=>uN i (by omega)));have HN:=zBO HR.out HU.out.symm (x:=x) (by rw [HC.out];exact G6.out);rw [HC.out] at HN;have HN2:=zD HN;clear HN;go_wp2_with fail;go_roundg (30-acc.length)
    case measure=>omega
    case rel=>exact ⟨acc++[x],a8v,c8v,_,by simp;omega,by have:=HN2.out.1;simp;omega,by simpa using X_wz,by simpa using N_wz2,n_wz,A_wz,K_wz,HN2.out.2⟩
 case rest=>
  obtain ⟨acc,aa,cc,sA,hk2,X_wA,N_wA,n_wA,A_wA,K_wA,HMa⟩:=hcut;obtain ⟨wA,hwA⟩:=nW (wc);subst hwA;clear X_w5 N_w5 n_w5 A_w5 K_w5 HR y_w5 HM;have HM:Hid (M=sA.bind fun _ n=>(Ps.need I [61] n).bind fun _ n2=>eqR2 I p acc n2):=HMa;clear HMa;have y_wA:=A_wA.size;go_wp2_with fail;refine Calls.mono (vH hS [61] k61.out _ _ n_wA (by omega)) ?_;rintro r wB ⟨v,u,rfl,rfl,a,n_wB,got⟩;have HM2:=zD (xI HM.out got);clear HM;have HM:=HM2;clear HM2 got;generalize goS (Ps.need I [61]) sA=sB at n_wB HM;clear n_wA;have ya_wB:=a.size;have K_wB:=a.keep K_wA (zC K_wA) (by simp;omega);have X_wB:=a.keep X_wA (zC X_wA) (by simp;omega);have N_wB:=N_wA.past a (fun i hi=>by have h9:=oN i hi;simp;omega);have A_wB:=A_wA.trans a A_wA.size;have y_wB:=A_wB.size;clear K_wA X_wA N_wA A_wA a y_wA
  cases sB with
  | err c0 a0=>
   have hbad:=badEn n_wB;go_wp2_with fail;refine (hbad).mono ?_;rintro r wC ⟨rfl,bl⟩;have K_wC:=(bl.block _ (zC K_wB)).trans K_wB;have X_wC:=(bl.block _ (zC X_wB)).trans X_wB;have N_wC:=N_wB.under bl;have n_wC:=n_wB.past bl;have A_wC:=A_wB.trans (aside bl) A_wB.size;have y_wC:=A_wC.size;clear K_wB X_wB N_wB A_wB bl y_wB n_wB;clear hbad;have fk:=fun o=>fo K_wC o;obtain ⟨ck0,ck1,ck2,ck3,ck4⟩:=xY K_wC;obtain ⟨cx0,cx1,cx2,cx3,cx4⟩:=xY X_wC;go_wp2;have F:=fin_eq (q:=(⟨p,acc,⟨#[]⟩,[],[]⟩:Eqn)) (s:=(.err c0 a0)) (HM0.out.symm.trans (HM.out));exact bodyPost_ret (v:=.agg #[.int .i64 p,.slice aa acc.length cc,.string ⟨#[]⟩,.slice none 0 0,.slice none 0 0]) (by simp [results,Tryz.results49,go_sem,ck0,ck1,ck2,ck3,ck4]) rfl ⟨_,⟨p,acc,⟨#[]⟩,[],[]⟩,rfl,⟨⟨p,aa,acc.length,cc,⟨#[]⟩,none,0,0,none,0,0⟩,rfl,eq_out (okS:=fun _=>False) (okE:=fun _=>False) N_wC.row HRow.nil HRow.nil (fun i hi=>(oN i hi).1) (fun i hi=>hi.elim) (fun i hi=>hi.elim)⟩,A_wC.put5 (k:=w.heap.size) nR ⟨p,aa,acc.length,cc,⟨#[]⟩,none,0,0,none,0,0⟩,by rw [F.1];exact n_wC.put5 (k:=w.heap.size) (by omega) (by omega) ⟨p,aa,acc.length,cc,⟨#[]⟩,none,0,0,none,0,0⟩,F.2⟩
  | ok u0 n0=>
   cases u0
   have hbad:=badOn n_wB;go_wp2_with fail;refine (hbad).mono ?_;rintro r wC ⟨rfl,bl⟩;have K_wC:=(bl.block _ (zC K_wB)).trans K_wB;have X_wC:=(bl.block _ (zC X_wB)).trans X_wB;have N_wC:=N_wB.under bl;have n_wC:=n_wB.past bl;have A_wC:=A_wB.trans (aside bl) A_wB.size;have y_wC:=A_wC.size;clear K_wB X_wB N_wB A_wB bl y_wB n_wB;clear hbad;go_upto_region 7 with fail;go_cut [35] (fun v wc=>v=.bool (decide (acc.length=1∧Ps.sees I [99,97,108,108] n0=false))∧Below wC.heap.size wC wc)
   case first=>
    have cX:=co X_wC 1;simp only [gT,gZ,gS] at cX;have hsee:=zBJ n_wC [99,97,108,108] kcall.out;clear X_wC N_wC n_wC A_wC K_wC;go_wp2_with fail;refine hsee.mono ?_;rintro r w8 ⟨rfl,b8⟩;have cX8:=(zBm b8 cX);clear hsee
    cases hse:Ps.sees I [99,97,108,108] n0 with
    | true=>
     go_wp2_with fail;go_meet
     case rel=>exact ⟨by rw [decide_eq_false (fun q=>by rw [hse] at q;cases q.2)],b8⟩
    | false=>
     by_cases h1:acc.length=1
     ·have h1b:((acc.length:Int)==1)=true:=by simp [h1]
      have H1:=zD h1;clear h1;go_wp2_with fail;go_meet
      case rel=>exact ⟨by rw [decide_eq_true ⟨H1.out,hse⟩],b8⟩
     ·have h1b:((acc.length:Int)==1)=false:=beq_eq_false_iff_ne.2 (by omega)
      have H1:=zD h1;clear h1;go_wp2_with fail;go_meet
      case rel=>exact ⟨by rw [decide_eq_false (fun q=>H1.out q.1)],b8⟩
   case rest=>
    obtain ⟨rfl,bl⟩:=hcut;obtain ⟨wD,hwD⟩:=nW (wc);subst hwD;have K_wD:=(bl.block _ (zC K_wC)).trans K_wC;have X_wD:=(bl.block _ (zC X_wC)).trans X_wC;have N_wD:=N_wC.under bl;have n_wD:=n_wC.past bl;have A_wD:=A_wC.trans (aside bl) A_wC.size;have y_wD:=A_wD.size;clear K_wC X_wC N_wC A_wC bl y_wC n_wC;by_cases hq:acc.length=1∧Ps.sees I [99,97,108,108] n0=false
    case pos=>
     rw [decide_eq_true hq];have HM2:=zD (eq_one HM.out hq);clear HM hq;have HM:=HM2;clear HM2;have xl:=zC X_wD;go_wp2_with fail;refine Calls.mono (whole_t hS hL _ _ n_wD (by omega)) ?_;rintro r wE ⟨v,x5,rfl,⟨y5,rfl,hx5⟩,a,n_wE,got⟩;have HM2:=zD (xI HM.out got);clear HM;have HM:=HM2;clear HM2 got;generalize goS (Ps.whole I) (.ok () n0)=sE at n_wE HM;clear n_wD;have ya_wE:=a.size;have K_wE:=a.keep K_wD (zC K_wD) (by simp;omega);have X_wE:=a.keep X_wD (zC X_wD) (by simp;omega);have N_wE:=N_wD.past a (fun i hi=>by have h9:=oN i hi;simp;omega);have A_wE:=A_wD.trans a A_wD.size;have y_wE:=A_wE.size;clear K_wD X_wD N_wD A_wD a y_wD;have xlt:w3.heap.size+1<wE.heap.size:=zC X_wE;obtain ⟨wFa,hwFa⟩:=nW (wE.setCell ⟨w3.heap.size+1,4,none⟩ (.slice (some ⟨wE.heap.size,0,none⟩) 1 1));have zwFa:wFa.heap.size=wE.heap.size:=(by rw [hwFa];simp [World.setCell]);have owFa:∀ i,i≠w3.heap.size+1→wFa.heap[i]?=wE.heap[i]?:=fun i hi=>by rw [hwFa];exact Below.heap_setCell _ _ _ _ hi
     have K_wFa:=(owFa _ (by omega)).trans K_wE;have X_wFa:wFa.heap[w3.heap.size+1]?=some (.cells #[.int .i64 p,.slice aa acc.length cc,.string ⟨#[]⟩,.slice none 0 0,.slice (some ⟨wE.heap.size,0,none⟩) 1 1] 43 (0,0)):=by
      have hz:=zJ X_wE 4 (.slice (some ⟨wE.heap.size,0,none⟩) 1 1);simp only [sT,sZ,sS] at hz;rw [hwFa];exact hz
     have N_wFa:=N_wE.keep (by omega) (fun i hi hl=>owFa i (by have h9:=oN i hi;omega));have n_wFa:An wFa b g cap ao I sE:=(by rw [hwFa];exact n_wE.set (by simp;omega) (by simp;omega) _);have A_wFa:Aside [b] w.heap.size w wFa:=(by rw [hwFa];exact A_wE.set (by simp;omega) _);have y_wFa:=A_wFa.size;have fX:=fun o=>fo X_wE o;have cX:=co X_wE 4;simp only [gT,gZ,gS] at cX;obtain ⟨wF,hwF⟩:=nW (wFa.alloc (.cells (exC y5) 45 (0,0)));have bwF:=xA hwF;have zwF:=xU hwF;obtain ⟨okE,hokE⟩:∃ okE:Nat→Prop,okE=fun i=>wD.heap.size≤i:=⟨_,rfl⟩;have oE:∀ i,okE i→w.heap.size<i∧i≠w3.heap.size+1:=fun i hi=>by rw [hokE] at hi;have hi:wD.heap.size≤i:=hi;omega
     have uE:∀ i,wD.heap.size≤i→okE i:=fun i hi=>by rw [hokE];exact hi
     have lE:∀ i,okE i→wD.heap.size≤i:=fun i hi=>by rw [hokE] at hi;exact hi
     have q0:kExpr.E (fun i=>wD.heap.size≤i) wE [.int .i64 y5.op,.int .i64 y5.k,.int .i64 y5.n,.string y5.name,.slice y5.aS y5.nS y5.cS,.slice y5.aL y5.nL y5.cL] x5:=hx5;have E_wF:OwnX kExpr okE wF (.slice (some ⟨wE.heap.size,0,none⟩) 1 1) [x5]:=by
      rw [hwF,←zwFa];exact OwnX.lit (T:=kExpr) (cs:=[.int .i64 y5.op,.int .i64 y5.k,.int .i64 y5.n,.string y5.name,.slice y5.aS y5.nS y5.cS,.slice y5.aL y5.nL y5.cL]) (uE _ (by omega)) (kExpr.wide (kExpr.keep q0 (by omega) (fun i hi hl=>owFa i (by have h9:wD.heap.size≤i:=hi;omega))) (fun i hi hl=>⟨uE i hi,hl⟩))
     clear hokE q0;go_upto_region 9 with fail;rw [←hwFa,←hwF];clear hwFa owFa fX cX K_wE X_wE N_wE A_wE y_wE n_wE hwF;have K_wF:=(bwF.block _ (zC K_wFa)).trans K_wFa;have X_wF:=(bwF.block _ (zC X_wFa)).trans X_wFa;have N_wF:=N_wFa.under bwF;have n_wF:=n_wFa.past bwF;have A_wF:=A_wFa.trans (aside bwF) A_wFa.size;have y_wF:=A_wF.size;clear K_wFa X_wFa N_wFa A_wFa bwF y_wFa n_wFa;have fk:=fun o=>fo K_wF o;obtain ⟨ck0,ck1,ck2,ck3,ck4⟩:=xY K_wF;obtain ⟨cx0,cx1,cx2,cx3,cx4⟩:=xY X_wF;go_wp2;have F:=fin_eq (q:=(⟨p,acc,⟨#[]⟩,[],[x5]⟩:Eqn)) (s:=sE) (HM0.out.symm.trans (HM.out));exact bodyPost_ret (v:=.agg #[.int .i64 p,.slice aa acc.length cc,.string ⟨#[]⟩,.slice none 0 0,.slice (some ⟨wE.heap.size,0,none⟩) 1 1]) (by simp [results,Tryz.results49,go_sem,ck0,ck1,ck2,ck3,ck4]) rfl ⟨_,⟨p,acc,⟨#[]⟩,[],[x5]⟩,rfl,⟨⟨p,aa,acc.length,cc,⟨#[]⟩,none,0,0,(some ⟨wE.heap.size,0,none⟩),1,1⟩,rfl,eq_out (okS:=fun _=>False) N_wF.row HRow.nil E_wF.row (fun i hi=>(oN i hi).1) (fun i hi=>hi.elim) (fun i hi=>(oE i hi).1)⟩,A_wF.put5 (k:=w.heap.size) nR ⟨p,aa,acc.length,cc,⟨#[]⟩,none,0,0,(some ⟨wE.heap.size,0,none⟩),1,1⟩,by rw [F.1];exact n_wF.put5 (k:=w.heap.size) (by omega) (by omega) ⟨p,aa,acc.length,cc,⟨#[]⟩,none,0,0,(some ⟨wE.heap.size,0,none⟩),1,1⟩,F.2⟩
    case neg=>
     rw [decide_eq_false hq];have HM2:=zD (eq_call HM.out hq);clear HM hq;have HM:=HM2;clear HM2;go_wp2_with fail;refine Calls.mono (vH hS [99,97,108,108] kcall.out _ _ n_wD (by omega)) ?_;rintro r wE ⟨v,u5,rfl,rfl,a,n_wE,got⟩;have HM2:=zD (xI HM.out got);clear HM;have HM:=HM2;clear HM2 got;generalize goS (Ps.need I [99,97,108,108]) (.ok () n0)=sE at n_wE HM;clear n_wD;have ya_wE:=a.size;have K_wE:=a.keep K_wD (zC K_wD) (by simp;omega);have X_wE:=a.keep X_wD (zC X_wD) (by simp;omega);have N_wE:=N_wD.past a (fun i hi=>by have h9:=oN i hi;simp;omega);have A_wE:=A_wD.trans a A_wD.size;have y_wE:=A_wE.size;clear K_wD X_wD N_wD A_wD a y_wD;go_wp2_with fail;refine Calls.mono (zCQ hS _ _ n_wE (by omega)) ?_;rintro r wF ⟨v,nm,rfl,rfl,a,n_wF,got⟩;have HM2:=zD (xI HM.out got);clear HM;have HM:=HM2;clear HM2 got;generalize goS (Ps.name I) sE=sF at n_wF HM;clear n_wE;have ya_wF:=a.size;have K_wF:=a.keep K_wE (zC K_wE) (by simp;omega);have X_wF:=a.keep X_wE (zC X_wE) (by simp;omega);have N_wF:=N_wE.past a (fun i hi=>by have h9:=oN i hi;simp;omega);have A_wF:=A_wE.trans a A_wE.size;have y_wF:=A_wF.size;clear K_wE X_wE N_wE A_wE a y_wE;obtain ⟨wG,hwG⟩:=nW (wF.setCell ⟨w3.heap.size+1,2,none⟩ (.string nm));have zwG:wG.heap.size=wF.heap.size:=(by rw [hwG];simp [World.setCell]);have owG:∀ i,i≠w3.heap.size+1→wG.heap[i]?=wF.heap[i]?:=fun i hi=>by rw [hwG];exact Below.heap_setCell _ _ _ _ hi
     have K_wG:=(owG _ (by omega)).trans K_wF;have X_wG:wG.heap[w3.heap.size+1]?=some (.cells #[.int .i64 p,.slice aa acc.length cc,.string nm,.slice none 0 0,.slice none 0 0] 43 (0,0)):=by
      have hz:=zJ X_wF 2 (.string nm);simp only [sT,sZ,sS] at hz;rw [hwG];exact hz
     have N_wG:=N_wF.keep (by omega) (fun i hi hl=>owG i (by have h9:=oN i hi;omega));have n_wG:An wG b g cap ao I sF:=(by rw [hwG];exact n_wF.set (by simp;omega) (by simp;omega) _);have A_wG:Aside [b] w.heap.size w wG:=(by rw [hwG];exact A_wF.set (by simp;omega) _);have y_wG:=A_wG.size;have fX:=fun o=>fo X_wF o;have cX:=co X_wF 2;simp only [gT,gZ,gS] at cX;go_upto_region 12 with fail;rw [←hwG];clear hwG owG fX cX K_wF X_wF N_wF A_wF y_wF n_wF;have H_wG:HRow kName (fun i=>w.heap.size<i∧i≠w3.heap.size+1∧i<wG.heap.size) wG (.slice aa acc.length cc) acc:=N_wG.row.wide (fun i hi hl=>⟨(oN i hi).1,(oN i hi).2,hl⟩);clear N_wG;have xlG:=zC X_wG;go_cut [52] (fun v wc=>v=.bool (lookU I [60] sF)∧Below wG.heap.size wG wc)
     case first=>
      cases hsv:sF with
      | err c0 a0=>
       rw [hsv] at n_wG;have hbad:=badEn n_wG;clear n_wG;go_wp2_with fail;refine hbad.mono ?_;rintro r w7 ⟨rfl,b7⟩;clear hbad;go_wp2_with fail;go_meet
       case rel=>exact ⟨by rw [hsv];rfl,b7⟩
      | ok u0 n0=>
       rw [hsv] at n_wG;have hbad:=badOn n_wG;go_wp2_with fail;refine hbad.mono ?_;rintro r w7 ⟨rfl,b7⟩;have hsee:=zBJ (n_wG.past b7) [60] k60.out;clear hbad n_wG;go_wp2_with fail;refine hsee.mono ?_;rintro r w8 ⟨rfl,b8⟩;clear hsee;have b9:=b7.trans (b8.mono b7.size);clear b7 b8;go_wp2_with fail;go_meet
       case rel=>exact ⟨by rw [hsv];rfl,b9⟩
     case rest=>
      obtain ⟨rfl,bl⟩:=hcut;obtain ⟨wH,hwH⟩:=nW (wc);subst hwH;have yb_wH:=bl.size;have K_wH:=(bl.block _ (zC K_wG)).trans K_wG;have X_wH:=(bl.block _ (zC X_wG)).trans X_wG;have H_wH:=H_wG.keep bl.size (fun i hi hl=>bl.block i hl);have n_wH:=n_wG.past bl;have A_wH:=A_wG.trans (aside bl) A_wG.size;have y_wH:=A_wH.size;clear K_wG X_wG H_wG A_wG bl y_wG n_wG;go_upto_if 52 with fail;go_cut [] (fun wc=>∃ (z:List (List Tm)) (aS:Option Addr) (cS:Nat) (s:Res Unit),wH.heap.size≤wc.heap.size∧wc.heap[w3.heap.size+1]?=some (.cells #[.int .i64 p,.slice aa acc.length cc,.string nm,.slice aS z.length cS,.slice none 0 0] 43 (0,0))∧HRow kName (fun i=>w.heap.size<i∧i≠w3.heap.size+1∧i<wG.heap.size) wc (.slice aa acc.length cc) acc∧HRow kSize (fun i=>wH.heap.size≤i) wc (.slice aS z.length cS) z∧An wc b g cap ao I s∧Aside [b] w.heap.size w wc∧wc.heap[w.heap.size]?=some (.cells #[.int .i64 0,.slice none 0 0,.string ⟨#[]⟩,.slice none 0 0,.slice none 0 0] 43 (0,0))∧Hid (M=s.bind fun _ n=>callE I p acc nm z n))
      case first=>
       obtain ⟨u,hu⟩:=nW (lookU I [60] sF);rw [←hu]
       cases u with
       | false=>
        have HM2:=zD (calls_no HM.out hu.symm);clear HM hu;go_wp2_with fail;go_meet
        case rel=>exact ⟨[],none,0,sF,Nat.le_refl _,X_wH,H_wH,HRow.nil,n_wH,A_wH,K_wH,HM2⟩
       | true=>
        cases sF with
        | err c0 a0=>cases hu
        | ok u0 n0=>
         cases u0
         have hse:Ps.sees I [60] n0=true:=hu.symm;have HM2:=zD (calls_yes HM.out hse);clear HM hu;have HM:=HM2;clear HM2;obtain ⟨c1,f1,l1,n_wI⟩:=n_wH.step (xZ k60.out hse);obtain ⟨wI,hwI⟩:=nW (wH.setCell ⟨b,1,none⟩ (.int .i64 ((n0:Int)+1)));rw [←hwI] at n_wI;have awI:Aside [b] wH.heap.size wH wI:=(by rw [hwI];exact Aside.setCell (by simp) _);go_wp2_with fail;rw [←hwI];clear hwI c1 f1 l1 n_wH;have ya_wI:=awI.size;have K_wI:=awI.keep K_wH (zC K_wH) (by simp;omega);have X_wI:=awI.keep X_wH (zC X_wH) (by simp;omega);have H_wI:=H_wH.keep awI.size (fun i hi hl=>awI.block i hl (by have h9:=hi.1;simp;omega));have A_wI:=A_wH.trans awI A_wH.size;have y_wI:=A_wI.size;clear K_wH X_wH H_wH A_wH awI y_wH;have xl:=zC X_wI;refine Calls.mono (size_t hS _ _ n_wI (by omega)) ?_;rintro r wJ ⟨v,x6,rfl,hx6,a,n_wJ,got⟩;have HR:Hid (RowN ((Res.ok () (n0+1)).bind fun _ n=>Ps.row I (Ps.size I) 3 [] n) I (Ps.size I) 3 [x6] (goS (Ps.size I) (.ok () (n0+1)))):=zD (zAk (f:=2) rfl got);clear got;generalize goS (Ps.size I) (.ok () (n0+1))=s6 at n_wJ HR;obtain ⟨Mz,hMz⟩:=nW ((Res.ok () (n0+1)).bind fun _ n=>Ps.row I (Ps.size I) 3 [] n);rw [←hMz] at HM HR;clear hMz n_wI;obtain ⟨ad,cd,rfl,_,_⟩:=hx6.form;have ya_wJ:=a.size;have K_wJ:=a.keep K_wI (zC K_wI) (by simp;omega);have X_wJ:=a.keep X_wI (zC X_wI) (by simp;omega);have H_wJ:=H_wI.keep a.size (fun i hi hl=>a.block i hl (by have h9:=hi.1;simp;omega));have A_wJ:=A_wI.trans a A_wI.size;have y_wJ:=A_wJ.size;clear K_wI X_wI H_wI A_wI a y_wI;have xlt:w3.heap.size+1<wJ.heap.size:=zC X_wJ;obtain ⟨wLa,hwLa⟩:=nW (wJ.setCell ⟨w3.heap.size+1,3,none⟩ (.slice (some ⟨wJ.heap.size,0,none⟩) 1 1));have zwLa:wLa.heap.size=wJ.heap.size:=(by rw [hwLa];simp [World.setCell]);have owLa:∀ i,i≠w3.heap.size+1→wLa.heap[i]?=wJ.heap[i]?:=fun i hi=>by rw [hwLa];exact Below.heap_setCell _ _ _ _ hi
         have K_wLa:=(owLa _ (by omega)).trans K_wJ;have X_wLa:wLa.heap[w3.heap.size+1]?=some (.cells #[.int .i64 p,.slice aa acc.length cc,.string nm,.slice (some ⟨wJ.heap.size,0,none⟩) 1 1,.slice none 0 0] 43 (0,0)):=by
          have hz:=zJ X_wJ 3 (.slice (some ⟨wJ.heap.size,0,none⟩) 1 1);simp only [sT,sZ,sS] at hz;rw [hwLa];exact hz
         have H_wLa:=H_wJ.keep (by omega) (fun i hi hl=>owLa i (by have h9:=hi.1;have h8:=hi.2;omega));have n_wLa:An wLa b g cap ao I s6:=(by rw [hwLa];exact n_wJ.set (by simp;omega) (by simp;omega) _);have A_wLa:Aside [b] w.heap.size w wLa:=(by rw [hwLa];exact A_wJ.set (by simp;omega) _);have y_wLa:=A_wLa.size;have fX:=fun o=>fo X_wJ o;have cX:=co X_wJ 3;simp only [gT,gZ,gS] at cX;obtain ⟨wL,hwL⟩:=nW (wLa.alloc (.cells #[.slice ad x6.length cd] 90 (0,0)));have bwL:=xA hwL;have zwL:=xU hwL;obtain ⟨okS,hokS⟩:∃ okS:Nat→Prop,okS=fun i=>wI.heap.size≤i:=⟨_,rfl⟩;have oS:∀ i,okS i→w.heap.size<i∧i≠w3.heap.size+1:=fun i hi=>by rw [hokS] at hi;have hi:wI.heap.size≤i:=hi;omega
         have uS:∀ i,wI.heap.size≤i→okS i:=fun i hi=>by rw [hokS];exact hi
         have lS:∀ i,okS i→wI.heap.size≤i:=fun i hi=>by rw [hokS] at hi;exact hi
         have q0:kSize.E (fun i=>wI.heap.size≤i) wJ [.slice ad x6.length cd] x6:=⟨_,rfl,zBU hx6.row⟩;have S_wL:OwnX kSize okS wL (.slice (some ⟨wJ.heap.size,0,none⟩) 1 1) [x6]:=by
          rw [hwL,←zwLa];exact OwnX.lit (T:=kSize) (cs:=[.slice ad x6.length cd]) (uS _ (by omega)) (kSize.wide (kSize.keep q0 (by omega) (fun i hi hl=>owLa i (by have h9:wI.heap.size≤i:=hi;omega))) (fun i hi hl=>⟨uS i hi,hl⟩))
         clear hokS q0;go_upto_block 2 with fail;rw [←hwLa,←hwL];clear hwLa owLa fX cX K_wJ X_wJ H_wJ A_wJ y_wJ n_wJ hwL;have K_wL:=(bwL.block _ (zC K_wLa)).trans K_wLa;have X_wL:=(bwL.block _ (zC X_wLa)).trans X_wLa;have H_wL:=H_wLa.keep bwL.size (fun i hi hl=>bwL.block i hl);have n_wL:=n_wLa.past bwL;have A_wL:=A_wLa.trans (aside bwL) A_wLa.size;have y_wL:=A_wL.size;clear K_wLa X_wLa H_wLa A_wLa bwL y_wLa n_wLa
         skip
         go_wp2_with fail;go_loopg [] 3 (fun k wr=>∃ (z:List (List Tm)) (a3:Option Addr) (c3:Nat) (s:Res Unit),k+z.length=4∧z.length≤3∧wI.heap.size≤wr.heap.size∧wr.heap[w3.heap.size+1]?=some (.cells #[.int .i64 p,.slice aa acc.length cc,.string nm,.slice a3 z.length c3,.slice none 0 0] 43 (0,0))∧HRow kName (fun i=>w.heap.size<i∧i≠w3.heap.size+1∧i<wG.heap.size) wr (.slice aa acc.length cc) acc∧OwnX kSize okS wr (.slice a3 z.length c3) z∧An wr b g cap ao I s∧Aside [b] w.heap.size w wr∧wr.heap[w.heap.size]?=some (.cells #[.int .i64 0,.slice none 0 0,.string ⟨#[]⟩,.slice none 0 0,.slice none 0 0] 43 (0,0))∧Hid (RowN Mz I (Ps.size I) 3 z s))
         case atStart=>exact ⟨[x6],_,1,s6,rfl,by simp,by omega,X_wL,H_wL,S_wL,n_wL,A_wL,K_wL,HR⟩
         case round=>
          clear X_wL S_wL n_wL A_wL K_wL HR y_wL H_wL;obtain ⟨z,a3,c3,s,hk,hk2,Y_wr,X_wr,H_wr,S_wr,n_wr,A_wr,K_wr,HR⟩:=hrel;have y_wr:=A_wr.size;have cX:=co X_wr 3;simp only [gT,gZ,gS] at cX;go_wp2_with fail;refine (zCq n_wr hS z.length 3 3 rfl).mono ?_;rintro r wa ⟨rfl,a,n_wa⟩;obtain ⟨u,hu⟩:=nW (comU I z.length 3 s);rw [←hu];generalize hs2:comS I z.length 3 s=s2 at n_wa;have HC:=zD hs2;have HU:=zD hu;clear hs2 hu cX n_wr;have K_wa:=a.keep K_wr (zC K_wr) (by simp;omega);have X_wa:=a.keep X_wr (zC X_wr) (by simp;omega);have H_wa:=H_wr.keep a.size (fun i hi hl=>a.block i hl (by have h9:=hi.1;simp;omega));have S_wa:=S_wr.past a (fun i hi=>by have h9:=oS i hi;simp;omega);have A_wa:=A_wr.trans a A_wr.size;have y_wa:=A_wa.size;have Y_wa:=Nat.le_trans Y_wr a.size;clear K_wr X_wr H_wr S_wr A_wr a y_wr Y_wr
          cases u with
          | false=>
           have h1:=zBy HR.out HU.out.symm;rw [HC.out] at h1;have HM2:=zD (zCC HM.out h1);clear h1;clear HM HR HC HU;have HM:=HM2;clear HM2;go_wp2_with fail;refine Calls.mono (vH hS [62] k62.out _ _ n_wa (by omega)) ?_;rintro r wy ⟨v,u7,rfl,rfl,a,n_wy,got⟩;have HM2:=zD (xI HM.out got);clear HM;have HM:=HM2;clear HM2 got;generalize goS (Ps.need I [62]) s2=s7 at n_wy HM;clear n_wa;have ya_wy:=a.size;have K_wy:=a.keep K_wa (zC K_wa) (by simp;omega);have X_wy:=a.keep X_wa (zC X_wa) (by simp;omega);have H_wy:=H_wa.keep a.size (fun i hi hl=>a.block i hl (by have h9:=hi.1;simp;omega));have S_wy:=S_wa.past a (fun i hi=>by have h9:=oS i hi;simp;omega);have A_wy:=A_wa.trans a A_wa.size;have y_wy:=A_wy.size;have Y_wy:=Nat.le_trans Y_wa a.size;clear K_wa X_wa H_wa S_wa A_wa a y_wa Y_wa;go_wp2_with fail;go_meet
           case rel=>exact ⟨z,a3,c3,s7,by omega,X_wy,H_wy,S_wy.row.wide (fun i hi _=>by have:=lS i hi;omega),n_wy,A_wy,K_wy,HM⟩
          | true=>
           go_wp2_with fail;have bd:Below wa.heap.size wa wa.drew:=(Below.refl _ wa).drew;have n5:=n_wa.past bd;have hb5:=(bd.block _ (zC X_wa)).trans X_wa;have A5:=A_wa.trans (aside bd) A_wa.size;have z5:wa.drew.heap.size=wa.heap.size:=rfl;have om5:=(S_wa.under bd).wide (ok':=fun i=>okS i∧i<wa.heap.size) (fun i hi hl=>⟨hi,hl⟩);have bo5:∀ i,i<wa.heap.size→wa.drew.heap[i]?=wa.heap[i]?:=fun i hi=>bd.block i hi;have xlt:=zC X_wa;refine zL (fun w'=>w'.cell? ⟨w3.heap.size+1,3,none⟩=some (.slice a3 z.length c3)) (fun j=>decide (j=7)) (by kernel_rfl) ?_;generalize wa.drew=wd at n5 hb5 A5 z5 om5 bo5 ⊢;have Z5:=zD z5;have BO5:=zD bo5;clear bd z5 bo5 n_wa A_wa S_wa X_wa;have yz:=zC hb5;have c5:=co hb5 3;simp only [gT,gZ,gS] at c5;have hH:=c5;refine' zE (i:=0) (v:=_) rfl (by kernel_rfl) (by kernel_rfl) (by kernel_rfl) (by kernel_rfl) (fun _ _ _ h=>h) hH (by rfl) ?hyv ?o4
           case hyv=>
            intro wz k0;go_simp
            try rfl
           try simp only [Act.put,sT,sZ,sS]
           refine' zE (i:=1) (v:=_) rfl (by kernel_rfl) (by kernel_rfl) (by kernel_rfl) (by kernel_rfl) (fun _ _ _ h=>h) hH (by rfl) ?hyv ?o5
           case hyv=>
            intro wz k0;go_simp
            try rfl
           try simp only [Act.put,sT,sZ,sS]
           refine' zE (i:=2) (v:=_) rfl (by kernel_rfl) (by kernel_rfl) (by kernel_rfl) (by kernel_rfl) (fun _ _ _ h=>h) hH (by rfl) ?hyv ?o6
           case hyv=>
            intro wz k0;go_simp
            try rfl
           try simp only [Act.put,sT,sZ,sS]
           refine zG (i:=3) rfl (by kernel_rfl) (by rfl) (fun K hK=>?_);go_simp;refine Calls.mono (size_t hS _ _ n5 (by have:=Z5.out;omega)) ?_;rintro r w6 ⟨v6,x,rfl,hx,a6,n6,got6⟩;have G6:=zD got6;obtain ⟨ad,cd,rfl,_,_⟩:=hx.form;have z6:=a6.size;have A6:=A5.trans a6 A5.size;have hb6:=a6.keep hb5 (zC hb5) (by simp;omega);have om6:=om5.past a6 (fun i hi=>by have:=oS i hi.1;simp;omega);have bo6:Hid (∀ i,i<wa.heap.size→i≠b→w6.heap[i]?=wa.heap[i]?):=zD (fun i hi hb=>(a6.block i (by have:=Z5.out;omega) (by simpa using hb)).trans (BO5.out i hi));clear n5 hb5 A5 om5 hH c5 a6 got6 BO5;have c5:=co hb6 3;simp only [gT,gZ,gS] at c5;refine hK.out _ _ (fun _=>c5) ?_;clear hK K
           try simp only [Act.put,sT,sZ,sS]
           have H7a:=co (kA hb6 (.cells #[.slice ad x.length cd] 90 (0,0))) 3;simp only [gT,gZ,gS] at H7a;have H7h:=zD H7a;clear H7a;have q1:kSize.E (fun i=>wd.heap.size≤i) w6 [.slice ad x.length cd] x:=⟨_,rfl,zBU hx.row⟩;have q2:(z.length+1)*kSize.bytes≤140737488355328:=(by show (z.length+1)*24≤_;omega);have q3:z.length+1≤maxLen:=(by unfold maxLen;omega)
           refine zG (i:=4) rfl (by kernel_rfl) (by rfl) (fun K hK=>?_);go_simp;refine hK.out _ _ (fun _=>H7h.out) ?_;clear hK K
           try simp only [Act.put,sT,sZ,sS]
           refine zG (i:=5) rfl (by kernel_rfl) (by rfl) (fun K hK=>?_);refine xK kSize _ _ 40 90 rfl Tryz.underlying40 wd.heap.size _ _ z (by rfl) om6 [.slice ad x.length cd] x q1 (by rfl) (fun i hi=>by have:=Z5.out;omega) z6 q2 q3 ?_;intro v8 w8 om8 g8;have hvb:=fun k hk=>(om6.lt k hk).1;obtain ⟨z8,hoth⟩:=xC (ok:=fun i=>okS i∧i<wa.heap.size) g8 hvb;have A8:Aside [b] w.heap.size w w8:=A6.trans (xF (S:=[b]) g8 hvb (fun i hi=>by have:=oS i hi.1;omega) A6.size) nR;have hb8:=(hoth _ (zC hb6) (fun hh=>by have:=oS _ hh.1;omega)).trans hb6;have bo8:Hid (∀ i,i<wa.heap.size→i≠b→¬okS i→w8.heap[i]?=wa.heap[i]?):=zD (fun i hi hb hk=>(hoth i (by have:=Z5.out;omega) (fun hh=>hk hh.1)).trans (bo6.out i hi hb));have n8:=n6.same (hoth b n6.lt (fun hh=>by have:=oS b hh.1;omega)) (hoth g (by have:=Z5.out;omega) (fun hh=>by have:=oS g hh.1;omega)) z8;clear A6 hb6 om6 n6 q1 c5 H7h g8 hoth hvb hx bo6;have c5:=co hb8 3;simp only [gT,gZ,gS] at c5;refine hK.out _ _ (fun _=>c5) ?_;clear hK K
           try simp only [Act.put,sT,sZ,sS]
           obtain ⟨a8v,c8v,hv8,_,_⟩:=om8.form;rw [List.length_append,List.length_singleton] at hv8;subst hv8;have f8:=fun o=>fo hb8 o;refine zG (i:=6) rfl (by kernel_rfl) (by rfl) (fun K hK=>?_);go_simp;refine hK.out _ _ (fun _=>c5) ?_;clear hK K
           try simp only [Act.put,sT,sZ,sS]
           refine zG (i:=7) rfl (by kernel_rfl) (by rfl) (fun K hK=>?_);go_simp;refine hK.out _ _ (fun h=>by cases h) ?_;clear hK K
           try simp only [Act.put,sT,sZ,sS]
           refine zR (by kernel_rfl) ?_ _;have hb9:=zJ hb8 3 (.slice a8v (z.length+1) c8v);simp only [sT,sZ,sS] at hb9;have n9:=n8.set (p:=⟨w3.heap.size+1,3,none⟩) (by simp;omega) (by simp;omega) (.slice a8v (z.length+1) c8v);have A9:=A8.set (p:=⟨w3.heap.size+1,3,none⟩) (by simp;omega) (.slice a8v (z.length+1) c8v);have om9:=om8.set (p:=⟨w3.heap.size+1,3,none⟩) (by intro hh;have hh2:(okS (w3.heap.size+1)∧w3.heap.size+1<wa.heap.size)∨wd.heap.size≤w3.heap.size+1:=hh;rcases hh2 with q | q;exact absurd (oS _ q.1) (by omega);have:=Z5.out;omega) (.slice a8v (z.length+1) c8v);have bo9:∀ i,i<wa.heap.size→i≠b→i≠w3.heap.size+1→¬okS i→(w8.setCell ⟨w3.heap.size+1,3,none⟩ (.slice a8v (z.length+1) c8v)).heap[i]?=wa.heap[i]?:=fun i hi hb hk ho=>(Below.heap_setCell _ _ _ _ hk).trans (bo8.out i hi hb ho);have z9:wa.heap.size≤(w8.setCell ⟨w3.heap.size+1,3,none⟩ (.slice a8v (z.length+1) c8v)).heap.size:=(by have:=Z5.out;simp [World.setCell];omega);generalize hwz:w8.setCell ⟨w3.heap.size+1,3,none⟩ (.slice a8v (z.length+1) c8v)=wz at hb9 n9 A9 om9 bo9 z9 ⊢;have X_wz:=hb9;have n_wz:=n9;have A_wz:=A9;have K_wz:=(bo9 _ (zC K_wa) (by omega) (by omega) (fun hh=>by have:=oS _ hh;omega)).trans K_wa;have S_wz:OwnX kSize (fun i=>(okS i∧i<wa.heap.size)∨wa.heap.size≤i) wz (.slice a8v (z.length+1) c8v) (z++[x]):=om9.wide (fun i hi _=>hi.elim .inl (fun hh=>.inr (by have:=Z5.out;omega)));have y_wz:=A_wz.size;have H_wz:=H_wa.keep z9 (fun i hi hl=>bo9 i hl (by have h9:=hi.1;omega) (by have h9:=hi.1;have h8:=hi.2;omega) (fun hh=>by have h9:=hi.1;have h8:=hi.2;have:=lS i hh;omega));have Y_wz:=Nat.le_trans Y_wa z9;clear hb9 n9 A9 om9 bo9 hb8 om8 n8 A8 bo8 c5 f8 hwz K_wa y_wa H_wa;have S_wz2:OwnX kSize okS wz _ (z++[x]):=S_wz.wide (fun i hi _=>hi.elim (fun q=>q.1) (fun q=>uS i (by omega)));have HN:=zBO HR.out HU.out.symm (x:=x) (by rw [HC.out];exact G6.out);rw [HC.out] at HN;have HN2:=zD HN;clear HN;go_wp2_with fail;go_roundg (3-z.length)
           case measure=>omega
           case rel=>exact ⟨z++[x],a8v,c8v,_,by simp;omega,by have:=HN2.out.1;simp;omega,Y_wz,by simpa using X_wz,H_wz,by simpa using S_wz2,n_wz,A_wz,K_wz,HN2.out.2⟩
      case rest=>
       obtain ⟨z,aS,cS,sI,yHc,X_wP,H_wP,S_wP0,n_wP,A_wP,K_wP,HMa⟩:=hcut;obtain ⟨wP,hwP⟩:=nW (wc);subst hwP;have S_wP:HRow kSize (fun i=>wH.heap.size≤i∧i<wP.heap.size) wP (.slice aS z.length cS) z:=S_wP0.wide (fun i hi hl=>⟨hi,hl⟩);have xlH:=zC X_wH;have yHP:=zC X_wP;clear X_wH H_wH n_wH A_wH K_wH y_wH HM S_wP0;have HM:Hid (M=sI.bind fun _ n=>(Ps.need I [40] n).bind fun _ n6=>callF I p acc nm z n6):=HMa;clear HMa;have y_wP:=A_wP.size;go_wp2_with fail;refine Calls.mono (vH hS [40] k40.out _ _ n_wP (by omega)) ?_;rintro r wQ ⟨v,u8,rfl,rfl,a,n_wQ,got⟩;have HM2:=zD (xI HM.out got);clear HM;have HM:=HM2;clear HM2 got;generalize goS (Ps.need I [40]) sI=sQ at n_wQ HM;clear n_wP;have ya_wQ:=a.size;have K_wQ:=a.keep K_wP (zC K_wP) (by simp;omega);have X_wQ:=a.keep X_wP (zC X_wP) (by simp;omega);have H_wQ:=H_wP.keep a.size (fun i hi hl=>a.block i hl (by have h9:=hi.1;simp;omega));have S_wQ:=S_wP.keep a.size (fun i hi hl=>a.block i hl (by have h9:=hi.1;simp;omega));have A_wQ:=A_wP.trans a A_wP.size;have y_wQ:=A_wQ.size;clear K_wP X_wP H_wP S_wP A_wP a y_wP;go_upto_region 19 with fail;go_cut [87] (fun v wc=>v=.bool (noU I [41] sQ)∧Below wQ.heap.size wQ wc)
       case first=>
        cases hsv:sQ with
        | err c0 a0=>
         rw [hsv] at n_wQ;have hbad:=badEn n_wQ;clear n_wQ;go_wp2_with fail;refine hbad.mono ?_;rintro r w7 ⟨rfl,b7⟩;clear hbad;go_wp2_with fail;go_meet
         case rel=>exact ⟨by rw [hsv];rfl,b7⟩
        | ok u0 n0=>
         rw [hsv] at n_wQ;have hbad:=badOn n_wQ;go_wp2_with fail;refine hbad.mono ?_;rintro r w7 ⟨rfl,b7⟩;have hsee:=zBJ (n_wQ.past b7) [41] k41.out;clear hbad n_wQ;go_wp2_with fail;refine hsee.mono ?_;rintro r w8 ⟨rfl,b8⟩;clear hsee;have b9:=b7.trans (b8.mono b7.size);clear b7 b8;go_wp2_with fail;go_meet
         case rel=>exact ⟨by rw [hsv];rfl,b9⟩
       case rest=>
        obtain ⟨rfl,bl⟩:=hcut;obtain ⟨wR,hwR⟩:=nW (wc);subst hwR;have yb_wR:=bl.size;have K_wR:=(bl.block _ (zC K_wQ)).trans K_wQ;have X_wR:=(bl.block _ (zC X_wQ)).trans X_wQ;have H_wR:=H_wQ.keep bl.size (fun i hi hl=>bl.block i hl);have S_wR:=S_wQ.keep bl.size (fun i hi hl=>bl.block i hl);have n_wR:=n_wQ.past bl;have A_wR:=A_wQ.trans (aside bl) A_wQ.size;have y_wR:=A_wR.size;clear K_wQ X_wQ H_wQ S_wQ A_wQ bl y_wQ n_wQ;go_upto_if 87 with fail;go_cut [] (fun wc=>∃ (e:List Ex) (aE:Option Addr) (cE:Nat) (s:Res Unit),wc.heap[w3.heap.size+1]?=some (.cells #[.int .i64 p,.slice aa acc.length cc,.string nm,.slice aS z.length cS,.slice aE e.length cE] 43 (0,0))∧HRow kName (fun i=>w.heap.size<i∧i≠w3.heap.size+1∧i<wG.heap.size) wc (.slice aa acc.length cc) acc∧HRow kSize (fun i=>wH.heap.size≤i∧i<wP.heap.size) wc (.slice aS z.length cS) z∧HRow kExpr (fun i=>wR.heap.size≤i) wc (.slice aE e.length cE) e∧An wc b g cap ao I s∧Aside [b] w.heap.size w wc∧wc.heap[w.heap.size]?=some (.cells #[.int .i64 0,.slice none 0 0,.string ⟨#[]⟩,.slice none 0 0,.slice none 0 0] 43 (0,0))∧Hid (M=s.bind fun _ n=>(Ps.need I [41] n).bind fun _ m=>.ok ⟨p,acc,nm,z,e⟩ m))
        case first=>
         obtain ⟨u,hu⟩:=nW (noU I [41] sQ);rw [←hu]
         cases u with
         | false=>
          have HM2:=zD (callf_no HM.out hu.symm);clear HM hu;go_wp2_with fail;go_meet
          case rel=>exact ⟨[],none,0,sQ,X_wR,H_wR,S_wR,HRow.nil,n_wR,A_wR,K_wR,HM2⟩
         | true=>
          cases sQ with
          | err c0 a0=>cases hu
          | ok u0 n0=>
           cases u0
           have hse:Ps.sees I [41] n0=false:=(by have h9:true = !Ps.sees I [41] n0:=hu;simpa using h9.symm);have HM2:=zD (callf_yes HM.out hse);clear HM hu;have HM:=HM2;clear HM2;have xl:=zC X_wR;go_wp2_with fail;refine Calls.mono (whole_t hS hL _ _ n_wR (by omega)) ?_;rintro r wJ ⟨v,x6,rfl,⟨y6,rfl,hx6⟩,a,n_wJ,got⟩;have HR:Hid (RowN ((Res.ok () n0).bind fun _ n=>Ps.row I (Ps.whole I) 30 [] n) I (Ps.whole I) 30 [x6] (goS (Ps.whole I) (.ok () n0))):=zD (zAk (f:=29) rfl got);clear got;generalize goS (Ps.whole I) (.ok () n0)=s6 at n_wJ HR;obtain ⟨Mz,hMz⟩:=nW ((Res.ok () n0).bind fun _ n=>Ps.row I (Ps.whole I) 30 [] n);rw [←hMz] at HM HR;clear hMz n_wR;have ya_wJ:=a.size;have K_wJ:=a.keep K_wR (zC K_wR) (by simp;omega);have X_wJ:=a.keep X_wR (zC X_wR) (by simp;omega);have H_wJ:=H_wR.keep a.size (fun i hi hl=>a.block i hl (by have h9:=hi.1;simp;omega));have S_wJ:=S_wR.keep a.size (fun i hi hl=>a.block i hl (by have h9:=hi.1;simp;omega));have A_wJ:=A_wR.trans a A_wR.size;have y_wJ:=A_wJ.size;clear K_wR X_wR H_wR S_wR A_wR a y_wR;have xlt:w3.heap.size+1<wJ.heap.size:=zC X_wJ;obtain ⟨wLa,hwLa⟩:=nW (wJ.setCell ⟨w3.heap.size+1,4,none⟩ (.slice (some ⟨wJ.heap.size,0,none⟩) 1 1));have zwLa:wLa.heap.size=wJ.heap.size:=(by rw [hwLa];simp [World.setCell]);have owLa:∀ i,i≠w3.heap.size+1→wLa.heap[i]?=wJ.heap[i]?:=fun i hi=>by rw [hwLa];exact Below.heap_setCell _ _ _ _ hi
           have K_wLa:=(owLa _ (by omega)).trans K_wJ;have X_wLa:wLa.heap[w3.heap.size+1]?=some (.cells #[.int .i64 p,.slice aa acc.length cc,.string nm,.slice aS z.length cS,.slice (some ⟨wJ.heap.size,0,none⟩) 1 1] 43 (0,0)):=by
            have hz:=zJ X_wJ 4 (.slice (some ⟨wJ.heap.size,0,none⟩) 1 1);simp only [sT,sZ,sS] at hz;rw [hwLa];exact hz
           have H_wLa:=H_wJ.keep (by omega) (fun i hi hl=>owLa i (by have h9:=hi.1;have h8:=hi.2;omega));have S_wLa:=S_wJ.keep (by omega) (fun i hi hl=>owLa i (by have h9:=hi.1;have h8:=hi.2;omega));have n_wLa:An wLa b g cap ao I s6:=(by rw [hwLa];exact n_wJ.set (by simp;omega) (by simp;omega) _);have A_wLa:Aside [b] w.heap.size w wLa:=(by rw [hwLa];exact A_wJ.set (by simp;omega) _);have y_wLa:=A_wLa.size;have fX:=fun o=>fo X_wJ o;have cX:=co X_wJ 4;simp only [gT,gZ,gS] at cX;obtain ⟨wL,hwL⟩:=nW (wLa.alloc (.cells (exC y6) 45 (0,0)));have bwL:=xA hwL;have zwL:=xU hwL;obtain ⟨okE,hokE⟩:∃ okE:Nat→Prop,okE=fun i=>wR.heap.size≤i:=⟨_,rfl⟩;have oE:∀ i,okE i→w.heap.size<i∧i≠w3.heap.size+1:=fun i hi=>by rw [hokE] at hi;have hi:wR.heap.size≤i:=hi;omega
           have uE:∀ i,wR.heap.size≤i→okE i:=fun i hi=>by rw [hokE];exact hi
           have lE:∀ i,okE i→wR.heap.size≤i:=fun i hi=>by rw [hokE] at hi;exact hi
           have q0:kExpr.E (fun i=>wR.heap.size≤i) wJ [.int .i64 y6.op,.int .i64 y6.k,.int .i64 y6.n,.string y6.name,.slice y6.aS y6.nS y6.cS,.slice y6.aL y6.nL y6.cL] x6:=hx6;have E_wL:OwnX kExpr okE wL (.slice (some ⟨wJ.heap.size,0,none⟩) 1 1) [x6]:=by
            rw [hwL,←zwLa];exact OwnX.lit (T:=kExpr) (cs:=[.int .i64 y6.op,.int .i64 y6.k,.int .i64 y6.n,.string y6.name,.slice y6.aS y6.nS y6.cS,.slice y6.aL y6.nL y6.cL]) (uE _ (by omega)) (kExpr.wide (kExpr.keep q0 (by omega) (fun i hi hl=>owLa i (by have h9:wR.heap.size≤i:=hi;omega))) (fun i hi hl=>⟨uE i hi,hl⟩))
           clear hokE q0;go_upto_block 4 with fail;rw [←hwLa,←hwL];clear hwLa owLa fX cX K_wJ X_wJ H_wJ S_wJ A_wJ y_wJ n_wJ hwL;have K_wL:=(bwL.block _ (zC K_wLa)).trans K_wLa;have X_wL:=(bwL.block _ (zC X_wLa)).trans X_wLa;have H_wL:=H_wLa.keep bwL.size (fun i hi hl=>bwL.block i hl);have S_wL:=S_wLa.keep bwL.size (fun i hi hl=>bwL.block i hl);have n_wL:=n_wLa.past bwL;have A_wL:=A_wLa.trans (aside bwL) A_wLa.size;have y_wL:=A_wL.size;clear K_wLa X_wLa H_wLa S_wLa A_wLa bwL y_wLa n_wLa;go_wp2_with fail;go_loopg [] 30 (fun k wr=>∃ (e:List Ex) (a4:Option Addr) (c4:Nat) (s:Res Unit),k+e.length=31∧e.length≤30∧wR.heap.size≤wr.heap.size∧wr.heap[w3.heap.size+1]?=some (.cells #[.int .i64 p,.slice aa acc.length cc,.string nm,.slice aS z.length cS,.slice a4 e.length c4] 43 (0,0))∧HRow kName (fun i=>w.heap.size<i∧i≠w3.heap.size+1∧i<wG.heap.size) wr (.slice aa acc.length cc) acc∧HRow kSize (fun i=>wH.heap.size≤i∧i<wP.heap.size) wr (.slice aS z.length cS) z∧OwnX kExpr okE wr (.slice a4 e.length c4) e∧An wr b g cap ao I s∧Aside [b] w.heap.size w wr∧wr.heap[w.heap.size]?=some (.cells #[.int .i64 0,.slice none 0 0,.string ⟨#[]⟩,.slice none 0 0,.slice none 0 0] 43 (0,0))∧Hid (RowN Mz I (Ps.whole I) 30 e s))
           case atStart=>exact ⟨[x6],_,1,s6,rfl,by simp,by omega,X_wL,H_wL,S_wL,E_wL,n_wL,A_wL,K_wL,HR⟩
           case round=>
            clear X_wL E_wL n_wL A_wL K_wL HR y_wL H_wL S_wL;obtain ⟨e,a4,c4,s,hk,hk2,Y_wr,X_wr,H_wr,S_wr,E_wr,n_wr,A_wr,K_wr,HR⟩:=hrel;have y_wr:=A_wr.size;have cX:=co X_wr 4;simp only [gT,gZ,gS] at cX;go_wp2_with fail;refine (zCq n_wr hS e.length 30 30 rfl).mono ?_;rintro r wa ⟨rfl,a,n_wa⟩;obtain ⟨u,hu⟩:=nW (comU I e.length 30 s);rw [←hu];generalize hs2:comS I e.length 30 s=s2 at n_wa;have HC:=zD hs2;have HU:=zD hu;clear hs2 hu cX n_wr;have K_wa:=a.keep K_wr (zC K_wr) (by simp;omega);have X_wa:=a.keep X_wr (zC X_wr) (by simp;omega);have H_wa:=H_wr.keep a.size (fun i hi hl=>a.block i hl (by have h9:=hi.1;simp;omega));have S_wa:=S_wr.keep a.size (fun i hi hl=>a.block i hl (by have h9:=hi.1;simp;omega));have E_wa:=E_wr.past a (fun i hi=>by have h9:=oE i hi;simp;omega);have A_wa:=A_wr.trans a A_wr.size;have y_wa:=A_wa.size;have Y_wa:=Nat.le_trans Y_wr a.size;clear K_wr X_wr H_wr S_wr E_wr A_wr a y_wr Y_wr
            cases u with
            | false=>
             have h1:=zBy HR.out HU.out.symm;rw [HC.out] at h1;have HM2:=zD (zCC HM.out h1);clear h1;clear HM HR HC HU;have HM:=HM2;clear HM2;go_wp2_with fail;go_meet
             case rel=>exact ⟨e,a4,c4,s2,X_wa,H_wa,S_wa,E_wa.row.wide (fun i hi _=>lE i hi),n_wa,A_wa,K_wa,HM⟩
            | true=>
             go_wp2_with fail;have bd:Below wa.heap.size wa wa.drew:=(Below.refl _ wa).drew;have n5:=n_wa.past bd;have hb5:=(bd.block _ (zC X_wa)).trans X_wa;have A5:=A_wa.trans (aside bd) A_wa.size;have z5:wa.drew.heap.size=wa.heap.size:=rfl;have om5:=(E_wa.under bd).wide (ok':=fun i=>okE i∧i<wa.heap.size) (fun i hi hl=>⟨hi,hl⟩);have bo5:∀ i,i<wa.heap.size→wa.drew.heap[i]?=wa.heap[i]?:=fun i hi=>bd.block i hi;have xlt:=zC X_wa;refine zL (fun w'=>w'.cell? ⟨w3.heap.size+1,4,none⟩=some (.slice a4 e.length c4)) (fun j=>decide (j=7)) (by kernel_rfl) ?_;generalize wa.drew=wd at n5 hb5 A5 z5 om5 bo5 ⊢;have Z5:=zD z5;have BO5:=zD bo5;clear bd z5 bo5 n_wa A_wa E_wa X_wa;have yz:=zC hb5;have c5:=co hb5 4;simp only [gT,gZ,gS] at c5;have hH:=c5;refine' zE (i:=0) (v:=_) rfl (by kernel_rfl) (by kernel_rfl) (by kernel_rfl) (by kernel_rfl) (fun _ _ _ h=>h) hH (by rfl) ?hyv ?o7
             case hyv=>
              intro wz k0;go_simp
              try rfl
             try simp only [Act.put,sT,sZ,sS]
             refine' zE (i:=1) (v:=_) rfl (by kernel_rfl) (by kernel_rfl) (by kernel_rfl) (by kernel_rfl) (fun _ _ _ h=>h) hH (by rfl) ?hyv ?o8
             case hyv=>
              intro wz k0;go_simp
              try rfl
             try simp only [Act.put,sT,sZ,sS]
             refine' zE (i:=2) (v:=_) rfl (by kernel_rfl) (by kernel_rfl) (by kernel_rfl) (by kernel_rfl) (fun _ _ _ h=>h) hH (by rfl) ?hyv ?o9
             case hyv=>
              intro wz k0;go_simp
              try rfl
             try simp only [Act.put,sT,sZ,sS]
             refine zG (i:=3) rfl (by kernel_rfl) (by rfl) (fun K hK=>?_);go_simp;refine Calls.mono (whole_t hS hL _ _ n5 (by have:=Z5.out;omega)) ?_;rintro r w6 ⟨v6,x,rfl,hx,a6,n6,got6⟩;have G6:=zD got6;obtain ⟨y,rfl,hx⟩:=hx;have z6:=a6.size;have A6:=A5.trans a6 A5.size;have hb6:=a6.keep hb5 (zC hb5) (by simp;omega);have om6:=om5.past a6 (fun i hi=>by have:=oE i hi.1;simp;omega);have bo6:Hid (∀ i,i<wa.heap.size→i≠b→w6.heap[i]?=wa.heap[i]?):=zD (fun i hi hb=>(a6.block i (by have:=Z5.out;omega) (by simpa using hb)).trans (BO5.out i hi));clear n5 hb5 A5 om5 hH c5 a6 got6 BO5;have c5:=co hb6 4;simp only [gT,gZ,gS] at c5;refine hK.out _ _ (fun _=>c5) ?_;clear hK K
             try simp only [Act.put,sT,sZ,sS]
             have H7a:=co (kA hb6 (.cells (exC y) 45 (0,0))) 4;simp only [gT,gZ,gS] at H7a;have H7h:=zD H7a;clear H7a;have q1:kExpr.E (fun i=>wd.heap.size≤i) w6 [.int .i64 y.op,.int .i64 y.k,.int .i64 y.n,.string y.name,.slice y.aS y.nS y.cS,.slice y.aL y.nL y.cL] x:=hx;have q2:(e.length+1)*kExpr.bytes≤140737488355328:=(by show (e.length+1)*88≤_;omega);have q3:e.length+1≤maxLen:=(by unfold maxLen;omega)
             refine zG (i:=4) rfl (by kernel_rfl) (by rfl) (fun K hK=>?_);go_simp;refine hK.out _ _ (fun _=>H7h.out) ?_;clear hK K
             try simp only [Act.put,sT,sZ,sS]
             refine zG (i:=5) rfl (by kernel_rfl) (by rfl) (fun K hK=>?_);refine xK kExpr _ _ 41 45 rfl Tryz.underlying41 wd.heap.size _ _ e (by rfl) om6 [.int .i64 y.op,.int .i64 y.k,.int .i64 y.n,.string y.name,.slice y.aS y.nS y.cS,.slice y.aL y.nL y.cL] x q1 (by rfl) (fun i hi=>by have:=Z5.out;omega) z6 q2 q3 ?_;intro v8 w8 om8 g8;have hvb:=fun k hk=>(om6.lt k hk).1;obtain ⟨z8,hoth⟩:=xC (ok:=fun i=>okE i∧i<wa.heap.size) g8 hvb;have A8:Aside [b] w.heap.size w w8:=A6.trans (xF (S:=[b]) g8 hvb (fun i hi=>by have:=oE i hi.1;omega) A6.size) nR;have hb8:=(hoth _ (zC hb6) (fun hh=>by have:=oE _ hh.1;omega)).trans hb6;have bo8:Hid (∀ i,i<wa.heap.size→i≠b→¬okE i→w8.heap[i]?=wa.heap[i]?):=zD (fun i hi hb hk=>(hoth i (by have:=Z5.out;omega) (fun hh=>hk hh.1)).trans (bo6.out i hi hb));have n8:=n6.same (hoth b n6.lt (fun hh=>by have:=oE b hh.1;omega)) (hoth g (by have:=Z5.out;omega) (fun hh=>by have:=oE g hh.1;omega)) z8;clear A6 hb6 om6 n6 q1 c5 H7h g8 hoth hvb hx bo6;have c5:=co hb8 4;simp only [gT,gZ,gS] at c5;refine hK.out _ _ (fun _=>c5) ?_;clear hK K
             try simp only [Act.put,sT,sZ,sS]
             obtain ⟨a8v,c8v,hv8,_,_⟩:=om8.form;rw [List.length_append,List.length_singleton] at hv8;subst hv8;have f8:=fun o=>fo hb8 o;refine zG (i:=6) rfl (by kernel_rfl) (by rfl) (fun K hK=>?_);go_simp;refine hK.out _ _ (fun _=>c5) ?_;clear hK K
             try simp only [Act.put,sT,sZ,sS]
             refine zG (i:=7) rfl (by kernel_rfl) (by rfl) (fun K hK=>?_);go_simp;refine hK.out _ _ (fun h=>by cases h) ?_;clear hK K
             try simp only [Act.put,sT,sZ,sS]
             refine zR (by kernel_rfl) ?_ _;have hb9:=zJ hb8 4 (.slice a8v (e.length+1) c8v);simp only [sT,sZ,sS] at hb9;have n9:=n8.set (p:=⟨w3.heap.size+1,4,none⟩) (by simp;omega) (by simp;omega) (.slice a8v (e.length+1) c8v);have A9:=A8.set (p:=⟨w3.heap.size+1,4,none⟩) (by simp;omega) (.slice a8v (e.length+1) c8v);have om9:=om8.set (p:=⟨w3.heap.size+1,4,none⟩) (by intro hh;have hh2:(okE (w3.heap.size+1)∧w3.heap.size+1<wa.heap.size)∨wd.heap.size≤w3.heap.size+1:=hh;rcases hh2 with q | q;exact absurd (oE _ q.1) (by omega);have:=Z5.out;omega) (.slice a8v (e.length+1) c8v);have bo9:∀ i,i<wa.heap.size→i≠b→i≠w3.heap.size+1→¬okE i→(w8.setCell ⟨w3.heap.size+1,4,none⟩ (.slice a8v (e.length+1) c8v)).heap[i]?=wa.heap[i]?:=fun i hi hb hk ho=>(Below.heap_setCell _ _ _ _ hk).trans (bo8.out i hi hb ho);have z9:wa.heap.size≤(w8.setCell ⟨w3.heap.size+1,4,none⟩ (.slice a8v (e.length+1) c8v)).heap.size:=(by have:=Z5.out;simp [World.setCell];omega);generalize hwz:w8.setCell ⟨w3.heap.size+1,4,none⟩ (.slice a8v (e.length+1) c8v)=wz at hb9 n9 A9 om9 bo9 z9 ⊢;have X_wz:=hb9;have n_wz:=n9;have A_wz:=A9;have K_wz:=(bo9 _ (zC K_wa) (by omega) (by omega) (fun hh=>by have:=oE _ hh;omega)).trans K_wa;have E_wz:OwnX kExpr (fun i=>(okE i∧i<wa.heap.size)∨wa.heap.size≤i) wz (.slice a8v (e.length+1) c8v) (e++[x]):=om9.wide (fun i hi _=>hi.elim .inl (fun hh=>.inr (by have:=Z5.out;omega)));have y_wz:=A_wz.size;have H_wz:=H_wa.keep z9 (fun i hi hl=>bo9 i hl (by have h9:=hi.1;omega) (by have h9:=hi.1;have h8:=hi.2;omega) (fun hh=>by have h9:=hi.1;have h8:=hi.2;have:=lE i hh;omega));have S_wz:=S_wa.keep z9 (fun i hi hl=>bo9 i hl (by have h9:=hi.1;omega) (by have h9:=hi.1;have h8:=hi.2;omega) (fun hh=>by have h9:=hi.1;have h8:=hi.2;have:=lE i hh;omega));have Y_wz:=Nat.le_trans Y_wa z9;clear hb9 n9 A9 om9 bo9 hb8 om8 n8 A8 bo8 c5 f8 hwz K_wa y_wa H_wa S_wa;have E_wz2:OwnX kExpr okE wz _ (e++[x]):=E_wz.wide (fun i hi _=>hi.elim (fun q=>q.1) (fun q=>uE i (by omega)));have HN:=zBO HR.out HU.out.symm (x:=x) (by rw [HC.out];exact G6.out);rw [HC.out] at HN;have HN2:=zD HN;clear HN;go_wp2_with fail;go_roundg (30-e.length)
             case measure=>omega
             case rel=>exact ⟨e++[x],a8v,c8v,_,by simp;omega,by have:=HN2.out.1;simp;omega,Y_wz,by simpa using X_wz,H_wz,S_wz,by simpa using E_wz2,n_wz,A_wz,K_wz,HN2.out.2⟩
        case rest=>
         obtain ⟨e,aE,cE,sT,X_wT,H_wT,S_wT,E_wT0,n_wT,A_wT,K_wT,HMa⟩:=hcut;obtain ⟨wT,hwT⟩:=nW (wc);subst hwT;have E_wT:HRow kExpr (fun i=>wR.heap.size≤i∧i<wT.heap.size) wT (.slice aE e.length cE) e:=E_wT0.wide (fun i hi hl=>⟨hi,hl⟩);have xlR:=zC X_wR;have yRR:=zC K_wR;clear X_wR H_wR S_wR n_wR A_wR K_wR y_wR HM E_wT0;have HM:=HMa;clear HMa;have y_wT:=A_wT.size;go_wp2_with fail;refine Calls.mono (vH hS [41] k41.out _ _ n_wT (by omega)) ?_;rintro r wU ⟨v,u9,rfl,rfl,a,n_wU,got⟩;have HM2:=zD (xI HM.out got);clear HM;have HM:=HM2;clear HM2 got;generalize goS (Ps.need I [41]) sT=sU at n_wU HM;clear n_wT;have ya_wU:=a.size;have K_wU:=a.keep K_wT (zC K_wT) (by simp;omega);have X_wU:=a.keep X_wT (zC X_wT) (by simp;omega);have H_wU:=H_wT.keep a.size (fun i hi hl=>a.block i hl (by have h9:=hi.1;simp;omega));have S_wU:=S_wT.keep a.size (fun i hi hl=>a.block i hl (by have h9:=hi.1;simp;omega));have E_wU:=E_wT.keep a.size (fun i hi hl=>a.block i hl (by have h9:=hi.1;simp;omega));have A_wU:=A_wT.trans a A_wT.size;have y_wU:=A_wU.size;clear K_wT X_wT H_wT S_wT E_wT A_wT a y_wT;have fk:=fun o=>fo K_wU o;obtain ⟨ck0,ck1,ck2,ck3,ck4⟩:=xY K_wU;obtain ⟨cx0,cx1,cx2,cx3,cx4⟩:=xY X_wU;go_wp2;have F:=fin_eq (q:=(⟨p,acc,nm,z,e⟩:Eqn)) (s:=sU) (HM0.out.symm.trans (HM.out));exact bodyPost_ret (v:=.agg #[.int .i64 p,.slice aa acc.length cc,.string nm,.slice aS z.length cS,.slice aE e.length cE]) (by simp [results,Tryz.results49,go_sem,ck0,ck1,ck2,ck3,ck4]) rfl ⟨_,⟨p,acc,nm,z,e⟩,rfl,⟨⟨p,aa,acc.length,cc,nm,aS,z.length,cS,aE,e.length,cE⟩,rfl,eq_out H_wU S_wU E_wU (fun i hi=>hi.1) (fun i hi=>by have h9:=hi.1;omega) (fun i hi=>by have h9:=hi.1;omega)⟩,A_wU.put5 (k:=w.heap.size) nR ⟨p,aa,acc.length,cc,nm,aS,z.length,cS,aE,e.length,cE⟩,by rw [F.1];exact n_wU.put5 (k:=w.heap.size) (by omega) (by omega) ⟨p,aa,acc.length,cc,nm,aS,z.length,cS,aE,e.length,cE⟩,F.2⟩
end Go.Proofs.YthkpanbgkimhoaaGreatDoor
