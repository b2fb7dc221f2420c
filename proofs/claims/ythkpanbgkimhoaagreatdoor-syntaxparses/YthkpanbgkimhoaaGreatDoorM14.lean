import Derived.Test.YthkpanbgkimhoaaGreatDoorQ17
import Derived.Test.YthkpanbgkimhoaaGreatDoorM12
import Derived.Test.YthkpanbgkimhoaaGreatDoorM04
import Derived.Test.YthkpanbgkimhoaaGreatDoorM07
set_option linter.unusedVariables false
set_option linter.unusedSimpArgs false
set_option maxHeartbeats 64000000
set_option maxRecDepth 100000
namespace Go.Proofs.YthkpanbgkimhoaaGreatDoor
open Go.RowKit Go.IntWalk
theorem expr_bad {b g cap:Nat} {ao:Option Addr} {I:Inp} (op:Nat):XBad 87 [.int .i64 0,.int .i64 (op:Int)] b g cap ao I :=
 level0_bad (zDH (zDI (zDJ (zDK (zDA (zCP _))))))
theorem expr_does {b g cap:Nat} {ao:Option Addr} {I:Inp} {op:Nat} {A:Nat→Res Ex} (hA:XDoes 96 [.int .i64 (op:Int)] b g cap ao I A) (hN:Nice A) (hS:Sure I):XDoes 87 [.int .i64 0,.int .i64 (op:Int)] b g cap ao I (Ps.exprOf I A):=by
 have B5:XBad 87 [.int .i64 5,.int .i64 (op:Int)] b g cap ao I:=zDA (zCP _);have B4:=zDK B5;have B3:=zDJ B4;have B2:=zDI B3;have B1:=zDH B2;have n4:Nice (Ps.fromLeft I A 3 5):=qL hN;have n3:Nice (Ps.fromLeft I (Ps.fromLeft I A 3 5) 1 2):=qL n4;have n2:Nice (Ps.cmp I (Ps.fromLeft I (Ps.fromLeft I A 3 5) 1 2)):=cmp_nice n3;have n1:=qL (I:=I) (a:=10) (c:=10) n2;have X4:=level4_any (level5_any hA) B5 hN hS;have X3:=level3_any X4 B4 n4 hS;have X2:=level2_any X3 B3 n3 hS;have X1:=level1_any X2 B2 n2 hS;exact level0_any X1 B1 n1 hS
theorem zDB {b g cap:Nat} {ao:Option Addr} {I:Inp} (hS:Sure I):∀ (d op:Nat),op+d=60→XDoes 96 [.int .i64 (op:Int)] b g cap ao I (Ps.ahead I d)
 | 0,op,h=>aheadN_any (by omega) (by omega) (unitN_any (by omega) (by omega) hS) hS
 | d+1,op,h=>by
  have hA:=zDB (b:=b) (g:=g) (cap:=cap) (ao:=ao) hS d (op+1) (by omega);have hE:=expr_does hA (vR I d) hS;have hEB:=expr_bad (b:=b) (g:=g) (cap:=cap) (ao:=ao) (I:=I) (op+1);rw [show ((op+1:Nat):Int)=(op:Int)+1 by omega] at hA hE hEB;exact aheadQ_any (by omega) (vR I d) hA hE hEB (unitS_any (by omega) (vR I d) hE hEB (fun j h2 h12=>form_walk j h2 h12 (xT (vR I d)) hE hEB hS) hS) hS
theorem expr0_does {b g cap:Nat} {ao:Option Addr} {I:Inp} (hS:Sure I):XDoes 87 [.int .i64 0,.int .i64 0] b g cap ao I (Ps.expr I 60) :=
 expr_does (op:=0) (zDB hS 60 0 rfl) (vR I 60) hS
end Go.Proofs.YthkpanbgkimhoaaGreatDoor
namespace Go.Proofs.YthkpanbgkimhoaaGreatDoor
open Go.RowKit Go.IntWalk
variable {b g cap:Nat} {ao:Option Addr} {I:Inp}
def An (w:World) (b g cap:Nat) (ao:Option Addr) (I:Inp) (s:Res Unit):Prop :=
 match s with
 | .ok _ n=>∃ pt,Rr w b g cap ao I n 0 0 pt
 | .err c a=>4≤c∧∃ n pt,Rr w b g cap ao I n ((c:Nat):Int) ((a:Nat):Int) pt
theorem An.map {w w':World} {s:Res Unit} (h:An w b g cap ao I s) (f:∀ {n fc fa pt},Rr w b g cap ao I n fc fa pt→Rr w' b g cap ao I n fc fa pt):An w' b g cap ao I s:=by
 cases s with
 | ok u n=>
  obtain ⟨pt,h2⟩:=h;exact ⟨pt,f h2⟩
 | err c a=>
  obtain ⟨h1,n,pt,h2⟩:=h;exact ⟨h1,n,pt,f h2⟩
theorem An.past {w w':World} {s:Res Unit} (h:An w b g cap ao I s) (hb:Below w.heap.size w w'):An w' b g cap ao I s:=h.map fun h=>h.past hb
theorem An.same {w w':World} {s:Res Unit} (h:An w b g cap ao I s) (hb:w'.heap[b]?=w.heap[b]?) (hg:w'.heap[g]?=w.heap[g]?) (hs:w.heap.size≤w'.heap.size):An w' b g cap ao I s:=h.map fun h=>h.same hb hg hs
theorem An.set {w:World} {s:Res Unit} (h:An w b g cap ao I s) {p:Addr} (hb:p.block≠b) (hg:p.block≠g) (u:Value):An (w.setCell p u) b g cap ao I s :=
 h.same (Below.heap_setCell _ _ _ _ (fun e=>hb e.symm)) (Below.heap_setCell _ _ _ _ (fun e=>hg e.symm)) (by simp [World.setCell])
theorem An.lt {w:World} {s:Res Unit} (h:An w b g cap ao I s):b<w.heap.size:=by
 cases s with
 | ok u n=>
  obtain ⟨pt,h2⟩:=h;exact h2.cells.2.2.2.2.2.2
 | err c a=>
  obtain ⟨h1,n,pt,h2⟩:=h;exact h2.cells.2.2.2.2.2.2
def goS {α:Type} (R:Nat→Res α) (s:Res Unit):Res Unit:=s.bind fun _ n=>(R n).bind fun _ m=>.ok () m
def GotR {α:Type} (R:Nat→Res α) (s:Res Unit) (x:α):Prop:=∀ n v m,s=.ok () n→R n=.ok v m→x=v
theorem xI {α β:Type} {M:Res β} {s:Res Unit} {R:Nat→Res α} {K:α→Nat→Res β} {x:α} (h:M=s.bind fun _ n=>(R n).bind K) (hx:GotR R s x):M=(goS R s).bind fun _ m=>K x m:=by
 rw [h]
 cases s with
 | ok u n=>
  show (R n).bind K=((R n).bind fun _ m=>Res.ok () m).bind fun _ m=>K x m
  cases hr:R n with
  | ok v m=>rw [hx n v m rfl hr];rfl
  | err c a=>rfl
 | err c a=>rfl
def Takes {α:Type} (F:Nat) (args:List Value) (b g cap:Nat) (ao:Option Addr) (I:Inp) (V:Nat→World→Value→α→Prop) (R:Nat→Res α):Prop :=
 ∀ (s:Res Unit) (w:World),An w b g cap ao I s→g<w.heap.size→Calls Tryz.prog F (.pointer (some ⟨b,0,none⟩) :: args).toArray w fun e w'=>∃ v x,e=.returned v∧V w.heap.size w' v x∧Aside [b] w.heap.size w w'∧An w' b g cap ao I (goS R s)∧GotR R s x
theorem zBC {α:Type} {F:Nat} {args:List Value} {V:Nat→World→Value→α→Prop} {R:Nat→Res α}
  (hany:∀ n pt w,Rr w b g cap ao I n 0 0 pt→g<w.heap.size→Calls Tryz.prog F (.pointer (some ⟨b,0,none⟩) :: args).toArray w fun e w'=>∃ v x,e=.returned v∧V w.heap.size w' v x∧Aside [b] w.heap.size w w'∧Went w' b g cap ao I pt (R n)∧∀ z m,R n=.ok z m→x=z)
  (hbad:∀ n fc fa pt w,Rr w b g cap ao I n fc fa pt→fc≠0→g<w.heap.size→Calls Tryz.prog F (.pointer (some ⟨b,0,none⟩) :: args).toArray w fun e w'=>∃ v x,e=.returned v∧V w.heap.size w' v x∧Below w.heap.size w w')
  (herr:∀ n c a,R n=.err c a→4≤c):Takes F args b g cap ao I V R:=by
 intro s w h hg
 cases s with
 | ok u n=>
  obtain ⟨pt,h⟩:=h;refine (hany n pt w h hg).mono ?_;rintro e w' ⟨v,x,rfl,hv,ha,hw,hx⟩;refine ⟨v,x,rfl,hv,ha,?_,?_⟩
  ·show An w' b g cap ao I ((R n).bind _)
   cases hr:R n with
   | ok v m=>rw [hr] at hw;exact ⟨pt,hw⟩
   | err c a=>rw [hr] at hw;exact ⟨herr n c a hr,hw⟩
  ·intro n' v' m e1 e2
   cases e1
   exact hx v' m e2
 | err c a=>
  obtain ⟨h1,n,pt,h2⟩:=h;refine (hbad n _ _ pt w h2 (by omega) hg).mono ?_;rintro e w' ⟨v,x,rfl,hv,hb⟩;exact ⟨v,x,rfl,hv,aside hb,⟨h1,n,pt,h2.past hb⟩,fun _ _ _ e=>by cases e⟩
theorem zCQ (hS:Sure I):Takes 45 [] b g cap ao I (fun _ _ v x=>v=.string x) (Ps.name I):=by
 refine zBC (fun n pt w h hg=>?_) (fun n fc fa pt w h hf hg=>?_) (fun n c a e=>((zAI hS.rel n).err c a e).1)
 ·refine Calls.mono (jZ h hS.kind hg) ?_
  rintro e w' ⟨x,rfl,h1,h2,h3⟩;exact ⟨_,x,rfl,rfl,h2,h1,h3⟩
 ·refine Calls.mono (zCc h hf) ?_
  rintro e w' ⟨rfl,h2⟩;exact ⟨_,_,rfl,rfl,h2⟩
theorem must_t (hS:Sure I) (x:ByteArray) (hs:Known I x.data.toList):Takes 44 [.string x] b g cap ao I (fun _ _ v (_:Unit)=>v=.tuple #[]) (Ps.need I x.data.toList):=by
 refine zBC (fun n pt w h hg=>?_) (fun n fc fa pt w h hf hg=>?_) (fun n c a e=>need_err e)
 ·refine Calls.mono (zDQ h hS.kind x hs) ?_
  rintro e w' ⟨rfl,h1,h2⟩;exact ⟨_,(),rfl,rfl,h2,h1,fun _ _ _=>rfl⟩
 ·refine Calls.mono (zCA h hf x) ?_
  rintro e w' ⟨rfl,h2⟩;exact ⟨_,(),rfl,rfl,h2⟩
theorem size_t (hS:Sure I):Takes 68 [] b g cap ao I (OwnL kTerm) (Ps.size I):=by
 refine zBC (fun n pt w h hg=>?_) (fun n fc fa pt w h hf hg=>?_) (fun n c a e=>((zBL hS.rel n).err c a e).1)
 ·refine Calls.mono (zBR h hS hg) ?_
  rintro e w' ⟨v,l,rfl,h1,h2,h3,h4⟩;exact ⟨v,l,rfl,h1,h2,h3,h4⟩
 ·refine Calls.mono (sizeR_bad h hf hg) ?_
  rintro e w' ⟨v,l,rfl,h1,h2⟩;exact ⟨v,l,rfl,h1,h2⟩
theorem decl_t (hS:Sure I):Takes 48 [] b g cap ao I dclV (Ps.decl I):=by
 refine zBC (fun n pt w h hg=>?_) (fun n fc fa pt w h hf hg=>?_) (fun n c a e=>((zBM hS.rel n).err c a e).1)
 ·refine Calls.mono (zCW h hS hg) ?_
  rintro e w' ⟨v,l,rfl,h1,h2,h3,h4⟩;exact ⟨v,l,rfl,h1,h2,h3,h4⟩
 ·refine Calls.mono (declR_bad h hf) ?_
  rintro e w' ⟨v,l,rfl,h1,h2⟩;exact ⟨v,l,rfl,h1,h2⟩
theorem decls_t (hS:Sure I):Takes 47 [] b g cap ao I (OwnL kDecl) (Ps.row I (Ps.decl I) 30 []):=by
 refine zBC (fun n pt w h hg=>?_) (fun n fc fa pt w h hf hg=>?_) (fun n c a e=>((agr_row hS.rel (φ:=id) _ _ (fun n=>zBM hS.rel n) 30 [] n).err c a e).1)
 ·refine Calls.mono (declsR_any h hS hg) ?_
  rintro e w' ⟨v,l,rfl,h1,h2,h3,h4⟩;exact ⟨v,l,rfl,h1,h2,h3,h4⟩
 ·refine Calls.mono (declsR_bad h hf) ?_
  rintro e w' ⟨v,l,rfl,h1,h2⟩;exact ⟨v,l,rfl,h1,h2⟩
def isBadU:Res Unit→Bool
 | .ok _ _=>false
 | .err _ _=>true
theorem bad_n {w:World} {s:Res Unit} (h:An w b g cap ao I s) :
  Calls Tryz.prog 15 #[.pointer (some ⟨b,0,none⟩)] w fun e w'=>e=.returned (.bool (isBadU s))∧Below w.heap.size w w':=by
 cases s with
 | ok u n=>
  obtain ⟨pt,h⟩:=h;exact zU h
 | err c a=>
  obtain ⟨h1,n,pt,h2⟩:=h;have e:(((c:Nat):Int) != 0)=true:=bne_iff_ne.2 (by omega);have:=zU h2;rw [e] at this;exact this
theorem badEn {w:World} {c a:Nat} (h:An w b g cap ao I (.err c a)):Calls Tryz.prog 15 #[.pointer (some ⟨b,0,none⟩)] w fun e w'=>e=.returned (.bool true)∧Below w.heap.size w w':=bad_n h
theorem badOn {w:World} {pt:Unit} {n:Nat} (h:An w b g cap ao I (.ok pt n)):Calls Tryz.prog 15 #[.pointer (some ⟨b,0,none⟩)] w fun e w'=>e=.returned (.bool false)∧Below w.heap.size w w':=bad_n h
theorem sees_n {w:World} {u:Unit} {n:Nat} (h:An w b g cap ao I (.ok u n)) (x:ByteArray) (hs:Known I x.data.toList) :
  Calls Tryz.prog 16 #[.pointer (some ⟨b,0,none⟩),.string x] w fun e w'=>e=.returned (.bool (Ps.sees I x.data.toList n))∧Below w.heap.size w w':=by
 obtain ⟨pt,h⟩:=h;have:=xO h x;rw [hs n] at this;exact this
theorem place_n {w:World} {s:Res Unit} (h:An w b g cap ao I s) :
  Calls Tryz.prog 43 #[.pointer (some ⟨b,0,none⟩)] w fun e w'=>∃ p:Int,e=.returned (.int .i64 p)∧Below w.heap.size w w'∧∀ n,s=.ok () n→p=((I.pk n).place:Int):=by
 cases s with
 | ok u n=>
  obtain ⟨pt,h⟩:=h;refine (zAb h).mono ?_;rintro e w' ⟨rfl,h2⟩;exact ⟨_,rfl,h2,fun n' e=>by cases e;rfl⟩
 | err c a=>
  obtain ⟨h1,n,pt,h2⟩:=h;refine (zAb h2).mono ?_;rintro e w' ⟨rfl,h2⟩;exact ⟨_,rfl,h2,fun n' e=>by cases e⟩
theorem wrong_n {w:World} {s:Res Unit} (h:An w b g cap ao I s) :
  Calls Tryz.prog 17 #[.pointer (some ⟨b,0,none⟩),.int .i64 7] w fun e w'=>e=.returned (.tuple #[])∧An w' b g cap ao I (s.bind fun _ n=>.err 7 (I.pk n).place)∧Aside [b] w.heap.size w w':=by
 cases s with
 | ok u n=>
  obtain ⟨pt,h⟩:=h;refine (xG h 7).mono ?_;rintro e w' ⟨rfl,h2,h3⟩;exact ⟨rfl,⟨by omega,n,pt,h2⟩,h3⟩
 | err c a=>
  obtain ⟨h1,n,pt,h2⟩:=h;refine (zBP h2 (by omega) 7).mono ?_;rintro e w' ⟨rfl,h3⟩;exact ⟨rfl,⟨h1,n,pt,h2.past h3⟩,aside h3⟩
theorem An.step {w:World} {u:Unit} {n:Nat} (h:An w b g cap ao I (.ok u n)) (hn:n<I.L.length):w.cell? ⟨b,1,none⟩=some (.int .i64 (n:Int))∧(∀ o,w.frozen? ⟨b,o,none⟩=false)∧n<9223372036854775807∧An (w.setCell ⟨b,1,none⟩ (.int .i64 ((n:Int)+1))) b g cap ao I (.ok () (n+1)):=by
 obtain ⟨pt,h⟩:=h;have hcm:=h.cm;have hlc:=h.lc;unfold maxLen at hcm;exact ⟨h.cells.2.1,fun o=>h.free o,by omega,pt,h.step hn⟩
def comU (I:Inp) (n most:Nat):Res Unit→Bool
 | .ok _ m=>Ps.sees I [44] m&&decide (n<most)
 | .err _ _=>false
def comS (I:Inp) (n most:Nat) (s:Res Unit):Res Unit:=s.bind fun _ m=>if Ps.sees I [44] m=true then if most≤n then .err 7 (I.pk (m+1)).place else .ok () (m+1) else .ok () m
theorem zCq {w:World} {s:Res Unit} (h:An w b g cap ao I s) (hS:Sure I) (n most:Nat) (mo:Int) (hm:mo=(most:Int)) :
  Calls Tryz.prog 46 #[.pointer (some ⟨b,0,none⟩),.int .i64 (n:Int),.int .i64 mo] w fun e w'=>e=.returned (.bool (comU I n most s))∧Aside [b] w.heap.size w w'∧An w' b g cap ao I (comS I n most s):=by
 subst hm
 cases s with
 | ok u m=>
  obtain ⟨pt,h⟩:=h;have hc:=comma_any h hS.kind (hS.known [44] (Or.inr ⟨by decide,by decide⟩) (by decide)) (n:Int) (most:Int);by_cases hx:Ps.sees I [44] m=true
  ·by_cases hm:(most:Int)≤(n:Int)
   ·have e1:commaR I (n:Int) (most:Int) m=.err 7 (I.pk (m+1)).place:=by unfold commaR;rw [if_pos hx,if_pos hm]
    have e2:comS I n most (.ok u m)=.err 7 (I.pk (m+1)).place:=(by unfold comS;simp only [Res.ok_bind];rw [if_pos hx,if_pos (by omega)]);have e3:comU I n most (.ok u m)=false:=(by show (Ps.sees I [44] m&&decide (n<most))=false;rw [hx];simp;omega);rw [e1] at hc;rw [e2,e3];refine hc.mono ?_;rintro e w' ⟨v,rfl,⟨n1,p1,h1⟩,h2,h3⟩;exact ⟨by rw [show v=false from h3],h2,by omega,n1,p1,h1⟩
   ·have e1:commaR I (n:Int) (most:Int) m=.ok true (m+1):=by unfold commaR;rw [if_pos hx,if_neg hm]
    have e2:comS I n most (.ok u m)=.ok () (m+1):=(by unfold comS;simp only [Res.ok_bind];rw [if_pos hx,if_neg (by omega)]);have e3:comU I n most (.ok u m)=true:=(by show (Ps.sees I [44] m&&decide (n<most))=true;rw [hx];simp;omega);rw [e1] at hc;rw [e2,e3];refine hc.mono ?_;rintro e w' ⟨v,rfl,h1,h2,h3⟩;exact ⟨by rw [show v=true from h3],h2,pt,h1⟩
  ·have e1:commaR I (n:Int) (most:Int) m=.ok false m:=by unfold commaR;rw [if_neg hx]
   have e2:comS I n most (.ok u m)=.ok () m:=(by unfold comS;simp only [Res.ok_bind];rw [if_neg hx]);have e3:comU I n most (.ok u m)=false:=(by unfold comU;simp [hx]);rw [e1] at hc;rw [e2,e3];refine hc.mono ?_;rintro e w' ⟨v,rfl,h1,h2,h3⟩;exact ⟨by rw [show v=false from h3],h2,pt,h1⟩
 | err c a=>
  obtain ⟨h1,k,pt,h2⟩:=h;refine (zCd h2 (by omega) (n:Int) (most:Int)).mono ?_;rintro e w' ⟨rfl,h3⟩;exact ⟨rfl,aside h3,h1,k,pt,h2.past h3⟩
def RowN {α:Type} (M:Res (List α)) (I:Inp) (R:Nat→Res α) (most:Nat) (acc:List α) (s:Res Unit):Prop :=
 1≤acc.length∧acc.length≤most∧M=s.bind fun _ n=>if Ps.sees I [44] n=true then Ps.row I R (most-acc.length) acc (n+1) else .ok acc n
theorem zAk {α:Type} {M:Res (List α)} {I:Inp} {R:Nat→Res α} {f:Nat} {s0:Res Unit} {x:α} (hM:M=s0.bind fun _ n=>Ps.row I R (f+1) [] n) (hx:GotR R s0 x):RowN M I R (f+1) [x] (goS R s0):=by
 refine ⟨by simp,by simp,?_⟩;rw [hM]
 cases s0 with
 | ok u n=>
  show Ps.row I R (f+1) [] n=((R n).bind fun _ m=>Res.ok () m).bind _
  cases hr:R n with
  | ok v m=>rw [hx n v m rfl hr,row_start hr];rfl
  | err c a=>rw [zBf hr];rfl
 | err c a=>rfl
theorem zBy {α:Type} {M:Res (List α)} {I:Inp} {R:Nat→Res α} {most:Nat} {acc:List α} {s:Res Unit} (h:RowN M I R most acc s) (hu:comU I acc.length most s=false):M=(comS I acc.length most s).bind fun _ n=>.ok acc n:=by
 obtain ⟨h1,h2,h3⟩:=h;rw [h3]
 cases s with
 | ok u m=>
  simp only [comS,Res.ok_bind];have hu:(Ps.sees I [44] m&&decide (acc.length<most))=false:=hu;by_cases hx:Ps.sees I [44] m=true
  ·rw [hx] at hu
   have hm:most≤acc.length:=(by simpa using hu);rw [if_pos hx,if_pos hx,if_pos hm,show most-acc.length=0 by omega,row_full];rfl
  ·rw [if_neg hx,if_neg hx]
   rfl
 | err c a=>rfl
theorem zBO {α:Type} {M:Res (List α)} {I:Inp} {R:Nat→Res α} {most:Nat} {acc:List α} {s:Res Unit} {x:α} (h:RowN M I R most acc s) (hu:comU I acc.length most s=true) (hx:GotR R (comS I acc.length most s) x):acc.length<most∧RowN M I R most (acc++[x]) (goS R (comS I acc.length most s)):=by
 obtain ⟨h1,h2,h3⟩:=h
 cases s with
 | ok u m=>
  have hu:(Ps.sees I [44] m&&decide (acc.length<most))=true:=hu;have hu2:Ps.sees I [44] m=true∧acc.length<most:=(by simpa using hu);obtain ⟨f,hf⟩:∃ f,most-acc.length=f+1:=⟨most-acc.length-1,by omega⟩;have e:comS I acc.length most (.ok u m)=.ok () (m+1):=(by simp only [comS,Res.ok_bind];rw [if_pos hu2.1,if_neg (by omega)]);rw [e] at hx ⊢;refine ⟨hu2.2,by simp,by simp;omega,?_⟩;rw [h3,Res.ok_bind,if_pos hu2.1,hf]
  show _=((R (m+1)).bind fun _ m=>Res.ok () m).bind _
  cases hr:R (m+1) with
  | ok v q=>
   rw [hx (m+1) v q rfl hr,row_more hr,show most-(acc++[v]).length=f by simp;omega];rfl
  | err c a=>rw [zCE hr];rfl
 | err c a=>cases hu
theorem An.reset {w:World} {s:Res Unit} (h:An w b g cap ao I s):(∃ pt,w.cell? ⟨b,5,none⟩=some (.int .i64 pt))∧(∀ o,w.frozen? ⟨b,o,none⟩=false)∧At (w.setCell ⟨b,5,none⟩ (.int .i64 0)) b g cap ao I (s.bind fun _ n=>.ok 0 n):=by
 cases s with
 | ok u n=>
  obtain ⟨pt,h⟩:=h;exact ⟨⟨pt,h.cells.2.2.2.2.2.1⟩,fun o=>h.free o,h.part 0⟩
 | err c a=>
  obtain ⟨h1,n,pt,h⟩:=h;exact ⟨⟨pt,h.cells.2.2.2.2.2.1⟩,fun o=>h.free o,h1,n,0,h.part 0⟩
theorem OwnX.lit {α:Type} {T:Kind α} {ok:Nat→Prop} {w:World} {cs:List Value} {x:α} (hok:ok w.heap.size) (h:T.E (fun i=>ok i∧i<w.heap.size) w cs x):OwnX T ok (w.alloc (.cells cs.toArray T.ty (0,0))) (.slice (some ⟨w.heap.size,0,none⟩) 1 1) [x]:=by
 have hl:=T.len h;refine ⟨fun _=>cs,?_,fun k hk=>?_,fun j hj=>?_⟩
 ·have:=World.ownsRow_lit (base:=0) (e:=T.ty) (size:=T.k) w cs.toArray 1 (Nat.zero_le _) (by decide) (by simp [hl])
  simpa [flat] using this
 ·simp [Value.ownBlock] at hk
  subst hk;exact hok
 ·have hj0:j=0:=by simp at hj;exact hj
  subst hj0;have h1:=T.wide (ok':=fun i=>ok i∧some i≠(Value.slice (some ⟨w.heap.size,0,none⟩) 1 1).ownBlock) h fun i hi hl=>⟨hi.1,fun e=>by simp [Value.ownBlock] at e;omega⟩;exact T.keep h1 (by simp) fun i _ hl=>Below.heap_alloc _ _ _ hl
theorem whole_badS {I:Inp} {s:Res Unit} {x:Ex} {c a:Nat} (h:exprS (Ps.expr I 60) (s.bind fun _ n=>.ok 0 n)=.err c a):goS (Ps.whole I) s=.err c a∧GotR (Ps.whole I) s x:=by
 cases s with
 | ok u n=>
  simp only [exprS,Res.ok_bind] at h
  cases hr:Ps.expr I 60 n with
  | ok v m=>rw [hr] at h;cases h
  | err c2 a2=>
   rw [hr] at h
   cases h
   have e:Ps.whole I n=.err c a:=(by unfold Ps.whole;rw [hr];rfl);exact ⟨by show (Ps.whole I n).bind _=_;rw [e];rfl,fun n' v m e1 e2=>by cases e1;rw [e] at e2;cases e2⟩
 | err c2 a2=>
  cases h
  exact ⟨rfl,fun _ _ _ e=>by cases e⟩
theorem whole_okS {I:Inp} {s:Res Unit} {x:Ex} {pt:Int} {m:Nat} (h:exprS (Ps.expr I 60) (s.bind fun _ n=>.ok 0 n)=.ok pt m) (hx:Got (Ps.expr I 60) (s.bind fun _ n=>.ok 0 n) x):∃ n,s=.ok () n∧pt=(Ps.count x:Int)∧Ps.whole I n=if 30<Ps.count x then .err 7 (I.pk n).place else .ok x m:=by
 cases s with
 | ok u n=>
  simp only [exprS,Res.ok_bind] at h
  cases hr:Ps.expr I 60 n with
  | ok v m2=>
   rw [hr] at h;obtain rfl:=hx 0 n v m2 rfl hr
   cases h
   exact ⟨n,rfl,by omega,by unfold Ps.whole;rw [hr];rfl⟩
  | err c2 a2=>rw [hr] at h;cases h
 | err c2 a2=>cases h
theorem An.put6 {w:World} {s:Res Unit} (h:An w b g cap ao I s) {k:Nat} (hb:k≠b) (hg:k≠g) (y:ExV):An (put6 w k y) b g cap ao I s:=h.map fun h=>h.put6 hb hg y
theorem whole_t (hS:Sure I) (hL:I.L.length≤1099511627776):Takes 69 [] b g cap ao I exV (Ps.whole I):=by
 intro s w h hgb
 show Calls Tryz.prog 69 #[.pointer (some ⟨b,0,none⟩)] w _
 have hbb:=h.lt;have A_w:Aside [b] w.heap.size w w:=Aside.refl _;obtain ⟨w1,hw1⟩:=nm (w.alloc Zb);have bw1:=xA hw1;have K_w1:=xE hw1;have n_w1:=h.past bw1;have y_w1:=bw1.size;go_enter Tryz.func69,Tryz.ntmps69;go_wp2_with fail;rw [←hw1];refine (place_n n_w1).mono ?_;rintro r w2 ⟨p,rfl,b2,hp⟩;have HP:=zD hp;have n_w2:=n_w1.past b2;have K_w2:=(b2.block _ (zC K_w1)).trans K_w1;have A_w2:=(A_w.trans (aside bw1) A_w.size).trans (aside b2) bw1.size;have y_w2:=A_w2.size;clear hw1 bw1 K_w1 n_w1 b2 hp;obtain ⟨⟨pt,c5⟩,f2,at_w3⟩:=n_w2.reset;obtain ⟨w3,hw3⟩:=nm (w2.setCell ⟨b,5,none⟩ (.int .i64 0));rw [←hw3] at at_w3;have K_w3:w3.heap[w.heap.size]?=some Zb:=(by rw [hw3];exact (Below.heap_setCell _ _ _ _ (by simp;omega)).trans K_w2);have A_w3:Aside [b] w.heap.size w w3:=(by rw [hw3];exact A_w2.trans (Aside.setCell (by simp) _) A_w2.size);have y_w3:=A_w3.size;go_wp2_with fail;rw [←hw3];clear hw3 c5 f2 n_w2 K_w2 A_w2;have hX:=expr0_does (b:=b) (g:=g) (cap:=cap) (ao:=ao) hS;have hB:XBad 87 [.int .i64 0,.int .i64 0] b g cap ao I:=expr_bad 0;have hf:FewS I (s.bind fun _ n=>.ok 0 n):=by
  intro p0 n0 e0
  cases s with
  | ok u n=>cases e0;exact ⟨by omega,by omega⟩
  | err c a=>cases e0
 refine (qN hX hB at_w3 (by omega) hf).mono ?_;rintro r w4 ⟨y,x,rfl,hx,a4,at_w4,got⟩;clear hX hB hf at_w3;have GX:=zD got;have k3:=zC K_w3;have K_w4:=a4.keep K_w3 (zC K_w3) (by simp;omega);have A_w4:=A_w3.trans a4 A_w3.size;have y_w4:=A_w4.size;have yy_w4:=a4.size;clear got a4 K_w3 A_w3;obtain ⟨w5,hw5⟩:=nm (w4.alloc (.cells (exC y) 45 (0,0)));have bw5:=xA hw5;have X_w5:=xE hw5;have K_w5:=(bw5.block _ (zC K_w4)).trans K_w4;have A_w5:=A_w4.trans (aside bw5) A_w4.size;have at_w5:=at_w4.past bw5;have hx5:=hx.under bw5;have y_w5:=A_w5.size;have z5:=bw5.size;unfold exA;go_wp2_with fail;rw [←hw5];obtain ⟨s4,hs4⟩:=nm (exprS (Ps.expr I 60) (s.bind fun _ n=>.ok 0 n));rw [←hs4] at at_w5;have HS4:=zD hs4;clear hs4 hw5 at_w4 hx K_w4 A_w4 bw5
 cases s4 with
 | err c0 a0=>
  have hbad:=jP at_w5;refine hbad.mono ?_;rintro r w6 ⟨rfl,b6⟩;have K_w6:=(b6.block _ (zC K_w5)).trans K_w5;have X_w6:=(b6.block _ (zC X_w5)).trans X_w5;have A_w6:=A_w5.trans (aside b6) A_w5.size;have n_w6:An w6 b g cap ao I (.err c0 a0):=at_w5.past b6;have hx_w6:=hx5.under b6;have y_w6:=A_w6.size;clear hbad K_w5 X_w5 A_w5 at_w5 hx5 b6;have fk:=fun o=>fo K_w6 o;obtain ⟨ck0,ck1,ck2,ck3,ck4,ck5⟩:=zH K_w6;obtain ⟨cx0,cx1,cx2,cx3,cx4,cx5⟩:=zH X_w6;go_wp2;have F:=whole_badS (x:=x) HS4.out.symm;exact bodyPost_ret (v:=exA y) (by simp [exA,results,Tryz.results69,go_sem,ck0,ck1,ck2,ck3,ck4,ck5]) rfl ⟨_,x,rfl,⟨y,rfl,(hx_w6.put6 (k:=w.heap.size) (by omega) y).wide (fun i hi _=>by have h9:w3.heap.size≤i:=hi;omega)⟩,A_w6.put6 (k:=w.heap.size) nR y,by rw [F.1];exact An.put6 n_w6 (k:=w.heap.size) (by omega) (by omega) y,F.2⟩
 | ok pt4 m=>
  have hbad:=qP at_w5;refine hbad.mono ?_;rintro r w6 ⟨rfl,b6⟩;have K_w6:=(b6.block _ (zC K_w5)).trans K_w5;have X_w6:=(b6.block _ (zC X_w5)).trans X_w5;have A_w6:=A_w5.trans (aside b6) A_w5.size;have at_w6:Rr w6 b g cap ao I m 0 0 pt4:=at_w5.past b6;have hx_w6:=hx5.under b6;have y_w6:=A_w6.size;have z6:=b6.size;clear hbad K_w5 X_w5 A_w5 at_w5 hx5 b6;obtain ⟨n,hsn,hpt,hW⟩:=whole_okS HS4.out.symm GX.out;have hp:=HP.out n hsn;have c5:=at_w6.cells.2.2.2.2.2.1;by_cases hgt:pt4>30
  ·have e:Ps.whole I n=.err 7 (I.pk n).place:=by rw [hW,if_pos (by omega)]
   have F:goS (Ps.whole I) s=.err 7 (I.pk n).place∧GotR (Ps.whole I) s x:=by
    rw [hsn];exact ⟨by show (Ps.whole I n).bind _=_;rw [e];rfl,fun n' v m e1 e2=>by cases e1;rw [e] at e2;cases e2⟩
   have HF:=zD F;have HPp:=zD hp;clear F e hW hpt hsn hp;go_wp2_with fail;refine (vV _ _ _).mono ?_;rintro r w7 ⟨rfl,b7⟩;have K_w7:=(b7.block _ (zC K_w6)).trans K_w6;have X_w7:=(b7.block _ (zC X_w6)).trans X_w6;have A_w7:=A_w6.trans (aside b7) A_w6.size;have at_w7:=at_w6.past b7;have hx_w7:=hx_w6.under b7;have y_w7:=A_w7.size;have z7:=b7.size;clear K_w6 X_w6 A_w6 at_w6 hx_w6 b7 c5;have f7:=fun o=>at_w7.free o;obtain ⟨d0,d1,d2,d3,d4,d5,hd⟩:=at_w7.cells;have at_w8:=at_w7.fault 7 p;obtain ⟨w8,hw8⟩:=nm ((w7.setCell ⟨b,3,none⟩ (.int .i64 7)).setCell ⟨b,4,none⟩ (.int .i64 p));rw [←hw8] at at_w8;have a8:Aside [b] w7.heap.size w7 w8:=(by rw [hw8];exact (Aside.setCell (by simp) _).trans (Aside.setCell (by simp) _) nR);go_upto_region 6 with fail;rw [←hw8];have K_w8:=a8.keep K_w7 (zC K_w7) (by simp;omega);have X_w8:=a8.keep X_w7 (zC X_w7) (by simp;omega);have A_w8:=A_w7.trans a8 A_w7.size;have hx_w8:=hx_w7.past a8 (fun i hi=>by have h9:w3.heap.size≤i:=hi;simp;omega);have n_w8:An w8 b g cap ao I (.err 7 (I.pk n).place):=⟨by omega,m,pt4,by rw [←HPp.out];exact at_w8⟩;have y_w8:=A_w8.size;clear hw8 a8 K_w7 X_w7 A_w7 hx_w7 at_w7 at_w8 f7 d0 d1 d2 d3 d4 d5 hd;have fk:=fun o=>fo K_w8 o;obtain ⟨ck0,ck1,ck2,ck3,ck4,ck5⟩:=zH K_w8;obtain ⟨cx0,cx1,cx2,cx3,cx4,cx5⟩:=zH X_w8;go_wp2;have F:=HF.out;exact bodyPost_ret (v:=exA y) (by simp [exA,results,Tryz.results69,go_sem,ck0,ck1,ck2,ck3,ck4,ck5]) rfl ⟨_,x,rfl,⟨y,rfl,(hx_w8.put6 (k:=w.heap.size) (by omega) y).wide (fun i hi _=>by have h9:w3.heap.size≤i:=hi;omega)⟩,A_w8.put6 (k:=w.heap.size) nR y,by rw [F.1];exact An.put6 n_w8 (k:=w.heap.size) (by omega) (by omega) y,F.2⟩
  ·have e:Ps.whole I n=.ok x m:=by rw [hW,if_neg (by omega)]
   have F:goS (Ps.whole I) s=.ok () m∧GotR (Ps.whole I) s x:=by
    rw [hsn];exact ⟨by show (Ps.whole I n).bind _=_;rw [e];rfl,fun n' v m e1 e2=>by cases e1;rw [e] at e2;cases e2;rfl⟩
   have HF:=zD F;clear F e hW hpt hsn hp;have n_w6:An w6 b g cap ao I (.ok () m):=⟨pt4,at_w6⟩;have fk:=fun o=>fo K_w6 o;obtain ⟨ck0,ck1,ck2,ck3,ck4,ck5⟩:=zH K_w6;obtain ⟨cx0,cx1,cx2,cx3,cx4,cx5⟩:=zH X_w6;go_wp2;have F:=HF.out;exact bodyPost_ret (v:=exA y) (by simp [exA,results,Tryz.results69,go_sem,ck0,ck1,ck2,ck3,ck4,ck5]) rfl ⟨_,x,rfl,⟨y,rfl,(hx_w6.put6 (k:=w.heap.size) (by omega) y).wide (fun i hi _=>by have h9:w3.heap.size≤i:=hi;omega)⟩,A_w6.put6 (k:=w.heap.size) nR y,by rw [F.1];exact An.put6 n_w6 (k:=w.heap.size) (by omega) (by omega) y,F.2⟩
end Go.Proofs.YthkpanbgkimhoaaGreatDoor
namespace Go.Proofs.YthkpanbgkimhoaaGreatDoor
open Go.RowKit Go.IntWalk
theorem Gives.post {F b g cap:Nat} {I:Inp} {op nx n1:Nat} {e:Ex} {res:Res Ex} (hG:Gives F b g cap I.L I.len op nx n1 e) (hr:res=.ok e n1) {w:World} (h:Rd w b g cap I.L I.len nx op):Calls Tryz.prog F #[.pointer (some ⟨b,0,none⟩)] w (Post b g cap I op exV nx w res):=by
 refine (hG.2 w h).mono ?_;rintro r w' ⟨x,rfl,he,hR,hA⟩;exact Post.good hr hA hG.1 hR ⟨x,rfl,he⟩
def FormC:Prop:=∀ (b g cap:Nat) (I:Inp) (op:Nat) (J:Option (Nat→Res Ex)),Inner b g cap I op J→∀ (nx:Nat) (w:World),Rd w b g cap I.L I.len nx op→GlobB b w →
 Calls Tryz.prog 127 #[.pointer (some ⟨b,0,none⟩),.string (str (I.pk nx).text)] w (Post b g cap I op exV nx w (Ps.form I J nx))
theorem unit_any (hform:FormC) {b g cap:Nat} {I:Inp} {op:Nat} {J:Option (Nat→Res Ex)} (HJ:Inner b g cap I op J):Does 121 b g cap I op exV (Ps.unit I J):=by
 intro nx w h hG;by_cases hk3:(I.pk nx).kind=3
 ·exact (zDC (op:=op) hk3 (zCs (by rw [hk3];decide))).post (by unfold Ps.unit;rw [if_pos hk3];rfl) h
 by_cases hk2:(I.pk nx).kind=2
 ·exact (unit_name (op:=op) hk2 (zCs (by rw [hk2];decide))).post (by unfold Ps.unit;rw [if_neg hk3,if_pos hk2];rfl) h
 have hb:=h.bb;have hg:=h.gb;have m0:Hid (Ps.unit I J nx=if Ps.sees I [116,114,117,101] nx=true then .ok (.mk 2 0 1 ⟨#[]⟩ [] []) (nx+1) else if Ps.sees I [102,97,108,115,101] nx=true then .ok (.mk 2 0 0 ⟨#[]⟩ [] []) (nx+1)
   else if Ps.sees I [40] nx=true then Ps.opn I J nx fun A n1=>Ps.bracketed I (Ps.exprOf I A) n1
   else if Ps.sees I [105,102] nx=true then Ps.opn I J nx fun A n1=>Ps.choice I (Ps.exprOf I A) n1
   else Ps.form I J nx):=by
  show Ps.unit I J nx=_
  unfold Ps.unit;rw [if_neg hk3,if_neg hk2]
 have h0:=h.alloc Zb;have hN0:=zF w Zb;have z0:(w.alloc Zb).heap.size=w.heap.size+1:=(by simp);have A0:=(Aside.refl (S:=[b]) (B:=w.heap.size) w).alloc nR Zb;have hp:=@xH _ _ _ _ _ _ _ _ h0;obtain ⟨t,ht⟩:=nm (I.pk nx);have hpk:peekT I.L I.len nx=t:=ht.symm;rw [hpk] at hp;rw [←ht] at hk3 hk2;unfold tokV at hp;have HT:=zD ht;clear hpk ht;have hb3:(t.kind==3)=false:=beq_eq_false_iff_ne.2 hk3;have hb2:(t.kind==2)=false:=beq_eq_false_iff_ne.2 hk2;have hmf:=vM;go_enter Tryz.func121,Tryz.ntmps121;go_wp2_with fail;generalize w.alloc Zb=W at h0 hN0 z0 A0 hp ⊢;refine hp.mono ?_;rintro e w1 ⟨rfl,b1⟩;have z1:=b1.size;have h1:=(h0.below b1).alloc (.cells #[.int .i64 t.kind,.int .i64 (t.place:Int),.string (str t.text),.int .i64 t.n] 71 (0,0));have A1:=(A0.trans (aside b1) A0.size).alloc (by omega) (.cells #[.int .i64 t.kind,.int .i64 (t.place:Int),.string (str t.text),.int .i64 t.n] 71 (0,0));have hN1:=kA ((aside b1 (S:=[])).keep hN0 (zC hN0) (by simp)) (.cells #[.int .i64 t.kind,.int .i64 (t.place:Int),.string (str t.text),.int .i64 t.n] 71 (0,0));have hT1:=zF w1 (.cells #[.int .i64 t.kind,.int .i64 (t.place:Int),.string (str t.text),.int .i64 t.n] 71 (0,0));have y1:(w1.alloc (.cells #[.int .i64 t.kind,.int .i64 (t.place:Int),.string (str t.text),.int .i64 t.n] 71 (0,0))).heap.size=w1.heap.size+1:=(by simp);clear hp h0 A0 hN0 b1;go_wp2_with fail;generalize w1.alloc (.cells #[.int .i64 t.kind,.int .i64 (t.place:Int),.string (str t.text),.int .i64 t.n] 71 (0,0))=W1 at h1 A1 hN1 hT1 y1 ⊢;refine (zS h1 ⟨#[116,114,117,101]⟩ (by decide)).mono ?_;rintro e w3 ⟨rfl,h3,a3⟩;have es:(⟨#[116,114,117,101]⟩:ByteArray).data.toList=[116,114,117,101]:=rfl;rw [es] at h3;simp only [es];clear es;have z3:=a3.size;have A3:=A1.trans a3 A1.size;have hN3:=a3.keep hN1 (by omega) (by simp;omega);have hT3:=a3.keep hT1 (by omega) (by simp;omega);clear h1 A1 hN1 hT1 a3
 cases hq3:Ps.sees I [116,114,117,101] nx with
 | true=>
  have hlt:=xW hq3 (by simp);rw [hq3] at h3;simp only [if_true] at h3;have hN:=hN3;have hA:=A3;have hR:=h3;clear hN3 A3 h3;have fa:=fun o=>fo hN o;obtain ⟨ca0,ca1,ca2,ca3,ca4,ca5⟩:=zH hN;go_wp2;refine bodyPost_ret (v:=.agg #[.int .i64 2,.int .i64 0,.int .i64 1,.string ⟨#[]⟩,.slice none 0 0,.slice none 0 0]) (by simp [results,Tryz.results121,go_sem,ca0,ca1,ca2,ca3,ca4,ca5]) rfl ?_;exact Post.good (by rw [m0.out,hq3];rfl) (hA.put6 (k:=w.heap.size) nR ⟨2,0,1,⟨#[]⟩,none,0,0,none,0,0⟩) (by omega) (hR.put6 (k:=w.heap.size) (by omega) (by omega) ⟨2,0,1,⟨#[]⟩,none,0,0,none,0,0⟩) ⟨⟨2,0,1,⟨#[]⟩,none,0,0,none,0,0⟩,rfl,HEx.leaf 2 0 1 ⟨#[]⟩⟩
 | false=>
  rw [hq3] at h3;simp only [Bool.false_eq_true,if_false] at h3;go_wp2_with fail;refine (zS h3 ⟨#[102,97,108,115,101]⟩ (by decide)).mono ?_;rintro e w4 ⟨rfl,h4,a4⟩;have es:(⟨#[102,97,108,115,101]⟩:ByteArray).data.toList=[102,97,108,115,101]:=rfl;rw [es] at h4;simp only [es];clear es;have z4:=a4.size;have A4:=A3.trans a4 A3.size;have hN4:=a4.keep hN3 (by omega) (by simp;omega);have hT4:=a4.keep hT3 (by omega) (by simp;omega);clear h3 A3 hN3 hT3 a4
  cases hq4:Ps.sees I [102,97,108,115,101] nx with
  | true=>
   rw [hq4] at h4;simp only [if_true] at h4;have hN:=hN4;have hA:=A4;have hR:=h4;clear hN4 A4 h4;have fa:=fun o=>fo hN o;obtain ⟨ca0,ca1,ca2,ca3,ca4,ca5⟩:=zH hN;go_wp2;refine bodyPost_ret (v:=.agg #[.int .i64 2,.int .i64 0,.int .i64 0,.string ⟨#[]⟩,.slice none 0 0,.slice none 0 0]) (by simp [results,Tryz.results121,go_sem,ca0,ca1,ca2,ca3,ca4,ca5]) rfl ?_;exact Post.good (by rw [m0.out,hq3,hq4];rfl) (hA.put6 (k:=w.heap.size) nR ⟨2,0,0,⟨#[]⟩,none,0,0,none,0,0⟩) (by omega) (hR.put6 (k:=w.heap.size) (by omega) (by omega) ⟨2,0,0,⟨#[]⟩,none,0,0,none,0,0⟩) ⟨⟨2,0,0,⟨#[]⟩,none,0,0,none,0,0⟩,rfl,HEx.leaf 2 0 0 ⟨#[]⟩⟩
  | false=>
   rw [hq4] at h4;simp only [Bool.false_eq_true,if_false] at h4;go_wp2_with fail;refine (zBH h4 ⟨#[40]⟩).mono ?_;rintro e w5 ⟨rfl,b5⟩;have es:(⟨#[40]⟩:ByteArray).data.toList=[40]:=rfl;simp only [es];clear es;have z5:=b5.size;have h5:=h4.below b5;have A5:=A4.trans (aside b5) A4.size;have hN5:=(aside b5 (S:=[])).keep hN4 (zC hN4) (by simp);have hT5:=(aside b5 (S:=[])).keep hT4 (zC hT4) (by simp);clear h4 A4 hN4 hT4 b5
   cases hq5:Ps.sees I [40] nx with
   | true=>
    have hlt:=xW hq5 (by simp);go_wp2_with fail
    cases J with
    | none=>
     refine (jK h5 HJ _).mono ?_;rintro e w9 ⟨rfl,a9⟩;exact ⟨rfl,Post.fail (by rw [m0.out,hq3,hq4,hq5];rfl) (A5.trans a9 A5.size)⟩
    | some A=>
     have HF:∀ w',Rd w' b g cap I.L I.len (nx+1) (op+1)→Aside [b] w5.heap.size w5 w'→Calls Tryz.prog 125 (#[.pointer (some ⟨b,0,none⟩)]++#[]) w' (Post b g cap I (op+1) (exO fun _=>False) (nx+1) w' (Ps.bracketed I (Ps.exprOf I A) (nx+1))):=fun w' hr' ha'=>
      (zDn (zAG HJ.2) _ _ hr' (hG.far (A5.trans ha' A5.size))).mono fun e w2 hp=>hp.mono fun B w x v hv=>exO_of _ hv
     refine (zAl h5 (fun i hi=>hi.elim) HJ.1 hlt enter125 HF).mono ?_;rintro e w9 ⟨a9,hres⟩;have z9:=a9.size;have A9:=A5.trans a9 A5.size;have hN9:=a9.keep hN5 (by omega) (by simp;omega)
     cases ht9:Ps.bracketed I (Ps.exprOf I A) (nx+1) with
     | err c0 a0=>
      rw [ht9] at hres;obtain rfl:e=_:=hres;exact ⟨rfl,Post.fail (by rw [m0.out,hq3,hq4,hq5];show Ps.bracketed I (Ps.exprOf I A) (nx+1)=_;exact ht9) A9⟩
     | ok e0 n1=>
      rw [ht9] at hres;obtain ⟨le9,h9,_,rfl,hx⟩:=hres;obtain ⟨y,rfl,he9⟩:=exV_of hx;have HT9:=zD ht9;clear ht9;have fa:=fun o=>fo hN9 o;obtain ⟨ca0,ca1,ca2,ca3,ca4,ca5⟩:=zH hN9;have he10:=he9.wide (ok':=fun i=>w.heap.size<i) (fun i hi hl=>by omega);go_wp2;refine bodyPost_ret (v:=.agg #[.int .i64 y.op,.int .i64 y.k,.int .i64 y.n,.string y.name,.slice y.aS y.nS y.cS,.slice y.aL y.nL y.cL]) (by simp [results,Tryz.results121,go_sem,ca0,ca1,ca2,ca3,ca4,ca5]) rfl ?_;exact Post.good (by rw [m0.out,hq3,hq4,hq5];show Ps.bracketed I (Ps.exprOf I A) (nx+1)=_;exact HT9.out) (A9.put6 (k:=w.heap.size) nR y) (by omega) (h9.put6 (k:=w.heap.size) (by omega) (by omega) y) ⟨y,rfl,(he10.put6 (k:=w.heap.size) (by simp) y).wide (fun i hi _=>Nat.le_of_lt hi)⟩
   | false=>
    go_wp2_with fail;refine (zBH h5 ⟨#[105,102]⟩).mono ?_;rintro e w6 ⟨rfl,b6⟩;have es:(⟨#[105,102]⟩:ByteArray).data.toList=[105,102]:=rfl;simp only [es];clear es;have z6:=b6.size;have h6:=h5.below b6;have A6:=A5.trans (aside b6) A5.size;have hN6:=(aside b6 (S:=[])).keep hN5 (zC hN5) (by simp);have hT6:=(aside b6 (S:=[])).keep hT5 (zC hT5) (by simp);clear h5 A5 hN5 hT5 b6
    cases hq6:Ps.sees I [105,102] nx with
    | true=>
     have hlt:=xW hq6 (by simp);go_wp2_with fail
     cases J with
     | none=>
      refine (jK h6 HJ _).mono ?_;rintro e w9 ⟨rfl,a9⟩;exact ⟨rfl,Post.fail (by rw [m0.out,hq3,hq4,hq5,hq6];rfl) (A6.trans a9 A6.size)⟩
     | some A=>
      have HF:∀ w',Rd w' b g cap I.L I.len (nx+1) (op+1)→Aside [b] w6.heap.size w6 w'→Calls Tryz.prog 126 (#[.pointer (some ⟨b,0,none⟩)]++#[]) w' (Post b g cap I (op+1) (exO fun _=>False) (nx+1) w' (Ps.choice I (Ps.exprOf I A) (nx+1))):=fun w' hr' ha'=>
       (choice_any (zAG HJ.2) _ _ hr' (hG.far (A6.trans ha' A6.size))).mono fun e w2 hp=>hp.mono fun B w x v hv=>exO_of _ hv
      refine (zAl h6 (fun i hi=>hi.elim) HJ.1 hlt enter126 HF).mono ?_;rintro e w9 ⟨a9,hres⟩;have z9:=a9.size;have A9:=A6.trans a9 A6.size;have hN9:=a9.keep hN6 (by omega) (by simp;omega)
      cases ht9:Ps.choice I (Ps.exprOf I A) (nx+1) with
      | err c0 a0=>
       rw [ht9] at hres;obtain rfl:e=_:=hres;exact ⟨rfl,Post.fail (by rw [m0.out,hq3,hq4,hq5,hq6];show Ps.choice I (Ps.exprOf I A) (nx+1)=_;exact ht9) A9⟩
      | ok e0 n1=>
       rw [ht9] at hres;obtain ⟨le9,h9,_,rfl,hx⟩:=hres;obtain ⟨y,rfl,he9⟩:=exV_of hx;have HT9:=zD ht9;clear ht9;have fa:=fun o=>fo hN9 o;obtain ⟨ca0,ca1,ca2,ca3,ca4,ca5⟩:=zH hN9;have he10:=he9.wide (ok':=fun i=>w.heap.size<i) (fun i hi hl=>by omega);go_wp2;refine bodyPost_ret (v:=.agg #[.int .i64 y.op,.int .i64 y.k,.int .i64 y.n,.string y.name,.slice y.aS y.nS y.cS,.slice y.aL y.nL y.cL]) (by simp [results,Tryz.results121,go_sem,ca0,ca1,ca2,ca3,ca4,ca5]) rfl ?_;exact Post.good (by rw [m0.out,hq3,hq4,hq5,hq6];show Ps.choice I (Ps.exprOf I A) (nx+1)=_;exact HT9.out) (A9.put6 (k:=w.heap.size) nR y) (by omega) (h9.put6 (k:=w.heap.size) (by omega) (by omega) y) ⟨y,rfl,(he10.put6 (k:=w.heap.size) (by simp) y).wide (fun i hi _=>Nat.le_of_lt hi)⟩
    | false=>
     have ct:=co hT6 2;simp only [gT,gZ,gS] at ct;have hcall:=hform b g cap I op J HJ nx w6 h6 (hG.far A6);rw [←HT.out] at hcall;go_wp2_with fail;refine hcall.mono ?_;rintro e w9 ⟨a9,hres⟩;have z9:=a9.size;have A9:=A6.trans a9 A6.size;have hN9:=a9.keep hN6 (by omega) (by simp;omega)
     cases ht9:Ps.form I J nx with
     | err c0 a0=>
      rw [ht9] at hres;obtain rfl:e=_:=hres;exact ⟨rfl,Post.fail (by rw [m0.out,hq3,hq4,hq5,hq6];show Ps.form I J nx=_;exact ht9) A9⟩
     | ok e0 n1=>
      rw [ht9] at hres;obtain ⟨le9,h9,_,rfl,hx⟩:=hres;obtain ⟨y,rfl,he9⟩:=hx;have HT9:=zD ht9;clear ht9;have fa:=fun o=>fo hN9 o;obtain ⟨ca0,ca1,ca2,ca3,ca4,ca5⟩:=zH hN9;have he10:=he9.wide (ok':=fun i=>w.heap.size<i) (fun i hi hl=>by omega);go_wp2;refine bodyPost_ret (v:=.agg #[.int .i64 y.op,.int .i64 y.k,.int .i64 y.n,.string y.name,.slice y.aS y.nS y.cS,.slice y.aL y.nL y.cL]) (by simp [results,Tryz.results121,go_sem,ca0,ca1,ca2,ca3,ca4,ca5]) rfl ?_;exact Post.good (by rw [m0.out,hq3,hq4,hq5,hq6];show Ps.form I J nx=_;exact HT9.out) (A9.put6 (k:=w.heap.size) nR y) (by omega) (h9.put6 (k:=w.heap.size) (by omega) (by omega) y) ⟨y,rfl,(he10.put6 (k:=w.heap.size) (by simp) y).wide (fun i hi _=>Nat.le_of_lt hi)⟩
theorem indices_stop {I:Inp} {J:Option (Nat→Res Ex)} {n:Nat} {e:Ex} (h:Ps.sees I [91] n=false):∀ k,Ps.indices I J k e n=.ok e n
 | 0=>rfl
 | _+1=>by simp [Ps.indices,h]
theorem indices_step {I:Inp} {J:Option (Nat→Res Ex)} {n:Nat} {e:Ex} (h:Ps.sees I [91] n=true) (k:Nat):Ps.indices I J (k+1) e n=(Ps.opn I J n fun A n1=>Ps.index I (Ps.exprOf I A) e n1).bind fun e1 n1=>Ps.indices I J k e1 n1:=by simp [Ps.indices,h]
theorem zDV {b g cap:Nat} {I:Inp} {op:Nat} {J:Option (Nat→Res Ex)} (HJ:Inner b g cap I op J) (HU:Does 121 b g cap I op exV (Ps.unit I J)):Does 119 b g cap I op exV (Ps.aheadS I J):=by
 intro nx w h hG;have hb:=h.bb;have hg:=h.gb;have h0:=h.alloc Zb;have hN0:=zF w Zb;have z0:(w.alloc Zb).heap.size=w.heap.size+1:=(by simp);have A0:=(Aside.refl (S:=[b]) (B:=w.heap.size) w).alloc nR Zb;go_enter Tryz.func119,Tryz.ntmps119;go_wp2_with fail;generalize w.alloc Zb=W at h0 hN0 z0 A0 ⊢;refine (zBH h0 ⟨#[45]⟩).mono ?_;rintro e w1 ⟨rfl,b1⟩;have es:(⟨#[45]⟩:ByteArray).data.toList=[45]:=rfl;simp only [es];clear es;have z1:=b1.size;have h1:=h0.below b1;have A1:=A0.trans (aside b1) A0.size;have hN1:=(aside b1 (S:=[])).keep hN0 (zC hN0) (by simp);clear h0 A0 hN0 b1
 cases hq1:Ps.sees I [45] nx with
 | true=>
  have hlt:=xW hq1 (by simp);go_wp2_with fail;refine (zDf 13 HJ hlt h1 (hG.far A1)).mono ?_;rintro e w9 ⟨a9,hres⟩;have z9:=a9.size;have A9:=A1.trans a9 A1.size;have hN9:=a9.keep hN1 (by omega) (by simp;omega)
  cases ht9:(Ps.opn I J nx fun A n1=>Ps.signed A 13 n1) with
  | err c0 a0=>
   rw [ht9] at hres;obtain rfl:e=_:=hres;exact ⟨rfl,Post.fail (by unfold Ps.aheadS;rw [hq1,if_pos rfl];exact ht9) A9⟩
  | ok e0 n1=>
   rw [ht9] at hres;obtain ⟨le9,h9,_,rfl,y,rfl,he9⟩:=hres;have HT9:=zD ht9;clear ht9;have fa:=fun o=>fo hN9 o;obtain ⟨ca0,ca1,ca2,ca3,ca4,ca5⟩:=zH hN9;have he10:=he9.wide (ok':=fun i=>w.heap.size<i) (fun i hi hl=>by omega);go_wp2;refine bodyPost_ret (v:=.agg #[.int .i64 y.op,.int .i64 y.k,.int .i64 y.n,.string y.name,.slice y.aS y.nS y.cS,.slice y.aL y.nL y.cL]) (by simp [results,Tryz.results119,go_sem,ca0,ca1,ca2,ca3,ca4,ca5]) rfl ?_;exact Post.good (by unfold Ps.aheadS;rw [hq1,if_pos rfl];exact HT9.out) (A9.put6 (k:=w.heap.size) nR y) (by omega) (h9.put6 (k:=w.heap.size) (by omega) (by omega) y) ⟨y,rfl,(he10.put6 (k:=w.heap.size) (by simp) y).wide (fun i hi _=>Nat.le_of_lt hi)⟩
 | false=>
  go_wp2_with fail;refine (zBH h1 ⟨#[110,111,116]⟩).mono ?_;rintro e w2 ⟨rfl,b2⟩;have es:(⟨#[110,111,116]⟩:ByteArray).data.toList=[110,111,116]:=rfl;simp only [es];clear es;have z2:=b2.size;have h2:=h1.below b2;have A2:=A1.trans (aside b2) A1.size;have hN2:=(aside b2 (S:=[])).keep hN1 (zC hN1) (by simp);clear h1 A1 hN1 b2
  cases hq2:Ps.sees I [110,111,116] nx with
  | true=>
   have hlt:=xW hq2 (by simp);go_wp2_with fail;refine (zDf 14 HJ hlt h2 (hG.far A2)).mono ?_;rintro e w9 ⟨a9,hres⟩;have z9:=a9.size;have A9:=A2.trans a9 A2.size;have hN9:=a9.keep hN2 (by omega) (by simp;omega)
   cases ht9:(Ps.opn I J nx fun A n1=>Ps.signed A 14 n1) with
   | err c0 a0=>
    rw [ht9] at hres;obtain rfl:e=_:=hres;exact ⟨rfl,Post.fail (by unfold Ps.aheadS;rw [hq1,if_neg (by simp),hq2,if_pos rfl];exact ht9) A9⟩
   | ok e0 n1=>
    rw [ht9] at hres;obtain ⟨le9,h9,_,rfl,y,rfl,he9⟩:=hres;have HT9:=zD ht9;clear ht9;have fa:=fun o=>fo hN9 o;obtain ⟨ca0,ca1,ca2,ca3,ca4,ca5⟩:=zH hN9;have he10:=he9.wide (ok':=fun i=>w.heap.size<i) (fun i hi hl=>by omega);go_wp2;refine bodyPost_ret (v:=.agg #[.int .i64 y.op,.int .i64 y.k,.int .i64 y.n,.string y.name,.slice y.aS y.nS y.cS,.slice y.aL y.nL y.cL]) (by simp [results,Tryz.results119,go_sem,ca0,ca1,ca2,ca3,ca4,ca5]) rfl ?_;exact Post.good (by unfold Ps.aheadS;rw [hq1,if_neg (by simp),hq2,if_pos rfl];exact HT9.out) (A9.put6 (k:=w.heap.size) nR y) (by omega) (h9.put6 (k:=w.heap.size) (by omega) (by omega) y) ⟨y,rfl,(he10.put6 (k:=w.heap.size) (by simp) y).wide (fun i hi _=>Nat.le_of_lt hi)⟩
  | false=>
   have m0:Hid (Ps.aheadS I J nx=(Ps.unit I J nx).bind fun e n1=>Ps.indices I J (I.L.length-n1) e n1):=by
    show Ps.aheadS I J nx=_
    unfold Ps.aheadS;rw [hq1,if_neg (by simp),hq2,if_neg (by simp)]
   go_wp2_with fail;refine (HU _ _ h2 (hG.far A2)).mono ?_;rintro e w3 ⟨a3,hres⟩;have z3:=a3.size;have A3:=A2.trans a3 A2.size;have hN3:=a3.keep hN2 (by omega) (by simp;omega);clear h2 A2 hN2 a3
   cases ht:Ps.unit I J nx with
   | err c0 a0=>
    rw [ht] at hres;obtain rfl:e=_:=hres;exact ⟨rfl,Post.fail (by rw [m0.out,ht];rfl) A3⟩
   | ok e0 n1=>
    rw [ht] at hres;obtain ⟨le3,h3,_,rfl,x0,rfl,he3⟩:=hres;have hmod:Hid (Ps.aheadS I J nx=Ps.indices I J (I.L.length-n1) e0 n1):=by
     show Ps.aheadS I J nx=_
     rw [m0.out,ht];rfl
    clear ht m0;go_wp2;go_loopg [] (I.L.length-n1) (fun k wr=>∃ (n:Nat) (y:ExV) (e:Ex),I.L.length≤n+k∧nx≤n∧HEx (fun i=>w.heap.size<i∧i≠w3.heap.size) wr y.cells e∧Rd wr b g cap I.L I.len n op∧Aside [b] w.heap.size w wr ∧
      wr.heap[w.heap.size]?=some Zb ∧
      wr.heap[w3.heap.size]?=some (.cells (exC y) 45 (0,0))∧Hid (Ps.aheadS I J nx=Ps.indices I J k e n))
    case atStart=>exact ⟨n1,x0,e0,by omega,le3,(he3.wide (ok':=fun i=>w.heap.size<i∧i≠w3.heap.size) (fun i hi hl=>⟨by omega,by omega⟩)).under ((Below.refl _ w3).alloc nR _),h3.alloc _,A3.alloc (by omega) _,kA hN3 _,zF _ _,hmod⟩
    case round=>
     clear hmod A3 hN3 h3 he3;obtain ⟨n,y,e,hn,hle,he,hrd,has,hA,hB,hmod⟩:=hrel;have zA:=zC hA;have zB:=zC hB;go_wp2_with fail;refine (zBH hrd ⟨#[91]⟩).mono ?_;rintro r w4 ⟨rfl,b4⟩;have es:(⟨#[91]⟩:ByteArray).data.toList=[91]:=rfl;simp only [es];clear es;have z4:=b4.size;have hA4:=(aside b4 (S:=[])).keep hA (zC hA) (by simp);have hB4:=(aside b4 (S:=[])).keep hB (zC hB) (by simp);have he4:=he.under b4;have h4:=hrd.below b4;have A4:=has.trans (aside b4) has.size;clear hA hB he hrd has b4
     cases hq4:Ps.sees I [91] n with
     | false=>
      have fa:=fun o=>fo hA4 o;obtain ⟨cb0,cb1,cb2,cb3,cb4,cb5⟩:=zH hB4;obtain ⟨ca0,ca1,ca2,ca3,ca4,ca5⟩:=zH hA4;go_wp2;refine bodyPost_ret (v:=.agg #[.int .i64 y.op,.int .i64 y.k,.int .i64 y.n,.string y.name,.slice y.aS y.nS y.cS,.slice y.aL y.nL y.cL]) (by simp [results,Tryz.results119,go_sem,ca0,ca1,ca2,ca3,ca4,ca5]) rfl ?_;exact Post.good (by rw [hmod.out];exact indices_stop hq4 gk) (A4.put6 (k:=w.heap.size) nR y) hle (h4.put6 (k:=w.heap.size) (by omega) (by omega) y) ⟨y,rfl,(he4.put6 (k:=w.heap.size) (by simp) y).wide (fun i hi _=>Nat.le_of_lt hi.1)⟩
     | true=>
      have hlt:=xW hq4 (by simp);obtain ⟨f,rfl⟩:∃ f,gk=f+1:=⟨gk-1,by omega⟩;have hst:=zD (hmod.out.trans (indices_step (J:=J) (e:=e) hq4 f));clear hmod;obtain ⟨cb0,cb1,cb2,cb3,cb4,cb5⟩:=zH hB4;go_wp2_with fail;refine (indexed_any (ok0:=fun i=>w.heap.size<i∧i≠w3.heap.size∧i<w4.heap.size) HJ hlt h4 (hG.far A4) (he4.wide (fun i hi hl=>⟨hi.1,hi.2,hl⟩)) (fun i hi=>⟨hi.2.2,by omega⟩)).mono ?_;rintro r w5 ⟨a5,hres⟩;have z5:=a5.size;have A5:=A4.trans a5 A4.size;have hA5:=a5.keep hA4 (by omega) (by simp;omega);have hB5:=a5.keep hB4 (by omega) (by simp;omega);clear hA4 hB4 he4 h4 A4 a5 cb0 cb1 cb2 cb3 cb4 cb5
      cases ht:(Ps.opn I J n fun A n1=>Ps.index I (Ps.exprOf I A) e n1) with
      | err c0 a0=>
       rw [ht] at hres;obtain rfl:r=_:=hres;exact ⟨rfl,Post.fail (by rw [hst.out,ht];rfl) A5⟩
      | ok e6 n6=>
       rw [ht] at hres;obtain ⟨le5,h5,_,rfl,z,rfl,he6⟩:=hres;have hmod:Hid (Ps.aheadS I J nx=Ps.indices I J f e6 n6):=by
        show Ps.aheadS I J nx=_
        rw [hst.out,ht];rfl
       clear hst ht;have he7:=he6.wide (ok':=fun i=>w.heap.size<i∧i≠w3.heap.size) (fun i hi _=>hi.elim (fun q=>⟨q.1,q.2.1⟩) (fun q=>⟨by omega,by omega⟩));have fB:=fun o=>fo hB5 o;obtain ⟨cb0,cb1,cb2,cb3,cb4,cb5⟩:=zH hB5;go_wp2;go_roundg f
       case measure=>omega
       case rel=>exact ⟨n6,z,_,by omega,by omega,he7.put6 (k:=w3.heap.size) (by simp) z,h5.put6 (k:=w3.heap.size) (by omega) (by omega) z,A5.put6 (k:=w3.heap.size) (by omega) z,keep6 hA5 (by omega) z,zAO hB5 z,hmod⟩
theorem zCT (hform:FormC) {b g cap:Nat} {I:Inp}:∀ (d op:Nat),op+d=60→Does 119 b g cap I op exV (Ps.ahead I d)
 | 0,op,h=>zDV (J:=none) (show 60≤op by omega) (unit_any hform (J:=none) (show 60≤op by omega))
 | d+1,op,h=>zDV (J:=some (Ps.ahead I d)) ⟨by omega,zCT hform d (op+1) (by omega)⟩ (unit_any hform (J:=some (Ps.ahead I d)) ⟨by omega,zCT hform d (op+1) (by omega)⟩)
theorem exprs_any (hform:FormC) {b g cap:Nat} {I:Inp}:Does 108 b g cap I 0 exV (Ps.expr I 60):=zAG (zCT hform 60 0 rfl)
theorem whole_any (hform:FormC) {b g cap:Nat} {I:Inp} (hL:I.L.length≤1099511627776):Does 102 b g cap I 0 exV (Ps.whole I):=by
 intro nx w h hG;have HE:=exprs_any hform (b:=b) (g:=g) (cap:=cap) (I:=I);have hb:=h.bb;have hg:=h.gb;have h0:=h.alloc Zb;have hN0:=zF w Zb;have z0:(w.alloc Zb).heap.size=w.heap.size+1:=(by simp);have A0:=(Aside.refl (S:=[b]) (B:=w.heap.size) w).alloc nR Zb;have hp:=@xH _ _ _ _ _ _ _ _ h0;obtain ⟨t,ht⟩:=nm (I.pk nx);have hpk:peekT I.L I.len nx=t:=ht.symm;rw [hpk] at hp;unfold tokV at hp;have HT:=zD ht;clear hpk ht;have hf:=fun x w=>tokF1 t x w;go_enter Tryz.func102,Tryz.ntmps102;go_wp2_with fail;generalize w.alloc Zb=W at h0 hN0 z0 A0 hp ⊢;refine hp.mono ?_;rintro e w1 ⟨rfl,b1⟩;have z1:=b1.size;have h1:=h0.below b1;have A1:=A0.trans (aside b1) A0.size;have hN1:=(aside b1 (S:=[])).keep hN0 (zC hN0) (by simp);clear hp h0 A0 hN0 b1;go_wp2_with fail;refine (HE _ _ h1 (hG.far A1)).mono ?_;rintro e w3 ⟨a3,hres⟩;have z3:=a3.size;have A3:=A1.trans a3 A1.size;have hN3:=a3.keep hN1 (by omega) (by simp;omega);clear h1 A1 hN1 a3 HE
 cases ht:Ps.expr I 60 nx with
 | err c0 a0=>
  rw [ht] at hres;obtain rfl:e=_:=hres;exact ⟨rfl,Post.fail (by unfold Ps.whole;rw [ht];rfl) A3⟩
 | ok e0 n1=>
  rw [ht] at hres;obtain ⟨le3,h3,_,rfl,y,rfl,he3⟩:=hres;have hcount:parts e0≤1099511627776:=by
   have h9:=expr_nice I 60 _ _ _ ht;have h8:=h3.le;omega
  have hmod:Hid (Ps.whole I nx=if 30<parts e0 then .err 7 (I.pk nx).place else .ok e0 n1):=by
   show Ps.whole I nx=_
   unfold Ps.whole;rw [ht];simp only [Res.bind,vA]
  clear ht;have he4:=(he3.wide (ok':=fun i=>w.heap.size<i) (fun i hi hl=>by omega)).under ((Below.refl _ w3).alloc nR (.cells (exC y) 45 (0,0)));have h4:=h3.alloc (.cells (exC y) 45 (0,0));have A4:=A3.alloc A3.size (.cells (exC y) 45 (0,0));have hN4:=kA hN3 (.cells (exC y) 45 (0,0));have hT4:=zF w3 (.cells (exC y) 45 (0,0));have z4:(w3.alloc (.cells (exC y) 45 (0,0))).heap.size=w3.heap.size+1:=(by simp);clear he3 h3 A3 hN3;go_wp2_with fail;generalize w3.alloc (.cells (exC y) 45 (0,0))=w4 at he4 h4 A4 hN4 hT4 z4 ⊢;refine (zAE _ e0 hcount nR _ y _ he4).mono ?_;rintro e w5 ⟨rfl,b5⟩;have z5:=b5.size;have h5:=h4.below b5;have A5:=A4.trans (aside b5) A4.size;have hN5:=(aside b5 (S:=[])).keep hN4 (zC hN4) (by simp);have hT5:=(aside b5 (S:=[])).keep hT4 (zC hT4) (by simp);have he5:=he4.under b5;clear he4 h4 A4 hN4 hT4 b5;by_cases hc:30<parts e0
  ·have hd:decide ((30:Int)<(parts e0:Int))=true:=by simp;omega
   go_wp2_with fail;refine (jF _ _ _).mono ?_;rintro e w6 ⟨rfl,rfl⟩;exact ⟨rfl,Post.fail (by rw [hmod.out,if_pos hc,←HT.out]) A5⟩
  ·have hd:decide ((30:Int)<(parts e0:Int))=false:=by simp;omega
   have fa:=fun o=>fo hN5 o;obtain ⟨ca0,ca1,ca2,ca3,ca4,ca5⟩:=zH hN5;obtain ⟨cb0,cb1,cb2,cb3,cb4,cb5⟩:=zH hT5;go_wp2;refine bodyPost_ret (v:=.agg #[.int .i64 y.op,.int .i64 y.k,.int .i64 y.n,.string y.name,.slice y.aS y.nS y.cS,.slice y.aL y.nL y.cL]) (by simp [results,Tryz.results102,go_sem,ca0,ca1,ca2,ca3,ca4,ca5]) rfl ?_;exact Post.good (by rw [hmod.out,if_neg hc]) (A5.put6 (k:=w.heap.size) nR y) le3 (h5.put6 (k:=w.heap.size) (by omega) (by omega) y) ⟨y,rfl,(he5.put6 (k:=w.heap.size) (by simp) y).wide (fun i hi _=>Nat.le_of_lt hi)⟩
theorem HRow.past {α:Type} {T:Kind α} {ok:Nat→Prop} {S:List Nat} {w w':World} {v:Value} {l:List α} (h:HRow T ok w v l) (a:Aside S w.heap.size w w') (hS:∀ i,ok i→i ∉ S):HRow T ok w' v l:=h.keep a.size fun i hi hl=>a.block i hl (hS i hi)
theorem HRow.under {α:Type} {T:Kind α} {ok:Nat→Prop} {w w':World} {v:Value} {l:List α} (h:HRow T ok w v l) (a:Below w.heap.size w w'):HRow T ok w' v l:=h.keep a.size fun i _ hl=>a.block i hl
theorem HRow.set {α:Type} {T:Kind α} {ok:Nat→Prop} {w:World} {v:Value} {l:List α} (h:HRow T ok w v l) {p:Addr} (hp:¬ok p.block) (u:Value):HRow T ok (w.setCell p u) v l :=
 h.keep (by simp [World.setCell]) fun i hi hl=>Below.heap_setCell _ _ _ _ (fun e=>hp (e ▸ hi))
theorem HRow.nil {α:Type} {T:Kind α} {ok:Nat→Prop} {w:World}:HRow T ok w (.slice none 0 0) []:=⟨fun _=>[],Sl.nil,fun i h=>absurd h (Nat.not_lt_zero _)⟩
end Go.Proofs.YthkpanbgkimhoaaGreatDoor
