import Derived.Test.YtegakbobaecdlaaGreatDoorL05
import Derived.WalkKit
import Derived.WalkSpells
import Derived.IntWalk
import Derived.Lib.Hide
set_option linter.unusedVariables false
set_option linter.unusedSimpArgs false
set_option maxHeartbeats 64000000
set_option maxRecDepth 100000
namespace Go.Proofs.YtegakbobaecdlaaGreatDoor
open Go.RowKit Go.IntWalk
namespace Sk
structure Vr where
 elem:Int
 n:Int
deriving DecidableEq
def arr (v:Vr):Bool:=decide (0<v.n)
def sc (e:Int):Vr:=⟨e,0⟩
def same (a b:Vr):Bool:=(a.elem==b.elem)&&(a.n==b.n)
def arrOf (v c:Vr):Bool:=arr v&&same (sc v.elem) c
def truth (n:Int):Bool:=(n==0) || (n==1)
def when (b:Bool) (e:Int):Int:=if b=true then e else 0
end Sk
abbrev vv (v:Sk.Vr):Value:=.agg #[.int .u8 v.elem,.int .i64 v.n]
theorem xN (v:Sk.Vr) (w:World):Calls Tryz.prog 150 #[vv v] w fun e w'=>e=.returned (.bool (Sk.arr v))/\Below w.heap.size w w':=by
 have bA:Below w.heap.size w (w.alloc (.cells #[.int .u8 v.elem,.int .i64 v.n] 55 (0,0))):=(Below.refl _ _).alloc zM _;unfold Sk.arr;go_enter Tryz.func150,Tryz.ntmps150;go_wp2;go_ret;exact ⟨rfl,bA⟩
theorem xM (e:Int) (w:World):Calls Tryz.prog 144 #[.int .u8 e] w fun r w'=>r=.returned (vv (Sk.sc e))/\Below w.heap.size w w':=by
 go_enter Tryz.func144,Tryz.ntmps144;go_wp2;exact bodyPost_ret (v:=.agg #[.int .u8 e,.int .i64 0]) (by simp [results,Tryz.results144,go_sem]) rfl ⟨rfl,by
  repeat (first | exact Below.refl _ _ | refine Below.setCell ?_ (by simp) _ | refine Below.alloc ?_ (by simp) _)⟩
theorem zD {P:Program} {ops:Array Oper} {Q:Exit->Act->World->Prop} {md:Region.Mode} {S:World->Prop} {late:Nat->Bool} {i:Nat} {oi:Oper} {fuel:Nat} {listed:Array Bool} {a:Act} {w:World} (hi:ops[i]?=some oi)
  (hs:Region.noSelect ops=true) (hf:Region.free md ops listed i=true) (hr:(Region.ready md ops listed).contains i=true) (hl:waitFor md ops late listed i=true)
  (hQ:∀ c a w,Q (.panic c) (a.put oi.dst undef) w->Q (.panic c) a w) (hS:S w) (hw:Region.wanted oi (yielded ops a.tmps)=false)
  (h:wpAnyL P md ops Q S late fuel (listed.setIfInBounds i true) (a.put oi.dst undef) w):wpAnyL P md ops Q S late (fuel+1) listed a w:=
 jE hi (Region.noSelect_spec hs) hQ fuel listed a w (Region.free_spec hi hf) (jD hl) (by simpa using hr) (.inr ⟨hw,rfl⟩) hS h
theorem qW (v:Sk.Vr) (w:World):Calls Tryz.prog 151 #[vv v] w fun r w'=>r=.returned (vv (Sk.sc v.elem))/\Below w.heap.size w w':=by
 have bA:Below w.heap.size w ((w.alloc (.cells #[.int .u8 v.elem,.int .i64 v.n] 55 (0,0))).alloc (.cells #[.int .u8 0,.int .i64 0] 55 (0,0))):=((Below.refl _ _).alloc zM _).alloc (by simp) _;have kZ:((w.alloc (.cells #[.int .u8 v.elem,.int .i64 v.n] 55 (0,0))).alloc (.cells #[.int .u8 0,.int .i64 0] 55 (0,0))).heap[w.heap.size+1]?=some (.cells #[.int .u8 0,.int .i64 0] 55 (0,0)):=by
  have:=zI (w.alloc (.cells #[.int .u8 v.elem,.int .i64 v.n] 55 (0,0))) (.cells #[.int .u8 0,.int .i64 0] 55 (0,0))
  simpa using this
 go_enter Tryz.func151,Tryz.ntmps151;go_wp2_with fail;refine (xM v.elem _).mono ?_;rintro r w1 ⟨rfl,b1⟩;generalize (w.alloc (.cells #[.int .u8 v.elem,.int .i64 v.n] 55 (0,0))).alloc (.cells #[.int .u8 0,.int .i64 0] 55 (0,0))=W at bA kZ b1;have B1:=bA.trans (b1.mono bA.size);have k1:=(b1.block _ (zG kZ)).trans kZ;have st0:=coQ k1 0;have st1:=coQ k1 1;have fr0:=foQ k1 0;have fr1:=foQ k1 1;simp at st0 st1;have KR:=zJ (zJ k1 0 (.int .u8 v.elem)) 1 (.int .i64 0);have r0:=coQ KR 0;have r1:=coQ KR 1;simp at r0 r1;have BR:=(B1.setCell (p:=⟨w.heap.size+1,0,none⟩) (by simp) (.int .u8 v.elem)).setCell (p:=⟨w.heap.size+1,1,none⟩) (by simp) (.int .i64 0);clear KR;unfold vv Sk.sc;go_wp2;exact bodyPost_ret (v:=.agg #[.int .u8 v.elem,.int .i64 0]) (by simp [results,Tryz.results151,go_sem,r0,r1]) rfl ⟨rfl,BR⟩
theorem isTruthS_any (n:Int) (w:World):Calls Tryz.prog 145 #[.int .i64 n] w fun e w'=>e=.returned (.bool (Sk.truth n))/\w'=w:=by
 unfold Sk.truth;by_cases h:n=0
 ·subst h
  go_enter Tryz.func145,Tryz.ntmps145;go_wp2;go_ret;exact ⟨rfl,rfl⟩
 ·have h2:(n==0)=false:=by simpa using h
  go_enter Tryz.func145,Tryz.ntmps145;go_wp2;go_ret;exact ⟨by rw [h2];rfl,rfl⟩
theorem whenS_any (b:Bool) (e:Int) (w:World):Calls Tryz.prog 162 #[.bool b,.int .u8 e] w fun r w'=>r=.returned (.int .u8 (Sk.when b e))/\w'=w:=by
 unfold Sk.when
 cases b
 ·go_enter Tryz.func162,Tryz.ntmps162
  go_wp2;go_ret;exact ⟨rfl,rfl⟩
 ·go_enter Tryz.func162,Tryz.ntmps162
  go_wp2;go_ret;exact ⟨rfl,rfl⟩
theorem xG (v c:Sk.Vr) (w:World):Calls Tryz.prog 148 #[vv v,vv c] w fun e w'=>e=.returned (.bool (Sk.arrOf v c))/\Below w.heap.size w w':=by
 have b1:Below w.heap.size w ((w.alloc (.cells #[.int .u8 v.elem,.int .i64 v.n] 55 (0,0))).alloc (.cells #[.int .u8 c.elem,.int .i64 c.n] 55 (0,0))):=((Below.refl _ _).alloc zM _).alloc (by simp) _;have kA:((w.alloc (.cells #[.int .u8 v.elem,.int .i64 v.n] 55 (0,0))).alloc (.cells #[.int .u8 c.elem,.int .i64 c.n] 55 (0,0))).heap[w.heap.size]?=some (.cells #[.int .u8 v.elem,.int .i64 v.n] 55 (0,0)):=(Below.heap_alloc _ _ _ (by simp)).trans (zI w _);have kB:((w.alloc (.cells #[.int .u8 v.elem,.int .i64 v.n] 55 (0,0))).alloc (.cells #[.int .u8 c.elem,.int .i64 c.n] 55 (0,0))).heap[w.heap.size+1]?=some (.cells #[.int .u8 c.elem,.int .i64 c.n] 55 (0,0)):=by
  have:=zI (w.alloc (.cells #[.int .u8 v.elem,.int .i64 v.n] 55 (0,0))) (.cells #[.int .u8 c.elem,.int .i64 c.n] 55 (0,0))
  simpa using this
 obtain ⟨R,hR⟩:=nmQ (Sk.arrOf v c);rw [<-hR];unfold Sk.arrOf at hR;have hc:=xN v;generalize Sk.arr v=q at hc hR;obtain ⟨q2,hq2⟩:=nmQ (Sk.same (Sk.sc v.elem) c);rw [<-hq2] at hR;have HQ2:=zE hq2;have HR:=zE hR;clear hR hq2;go_enter Tryz.func148,Tryz.ntmps148;go_upto_region 1 with fail;generalize (w.alloc (.cells #[.int .u8 v.elem,.int .i64 v.n] 55 (0,0))).alloc (.cells #[.int .u8 c.elem,.int .i64 c.n] 55 (0,0))=w1 at b1 kA kB ⊢;have a0:=coQ kA 0;have a1:=coQ kA 1;simp at a0 a1;have yA:=zG kA;have c0:=coQ kB 0;have c1:=coQ kB 1;simp at c0 c1;have yB:=zG kB;refine zK (fun w'=>Below w1.heap.size w1 w') (fun _=>false) (by kernel_rfl) ?_;have hH0:Below w1.heap.size w1 w1.drew:=(Below.refl _ _).drew;generalize w1.drew=wd0 at hH0 ⊢;refine' tkQ 0 5 hH0 ?hyv ?o1
 case hyv=>
  intro wz hSw;have zc0:=(hSw.cell (p:=⟨w.heap.size,0,none⟩) yA).trans a0;have zc1:=(hSw.cell (p:=⟨w.heap.size,1,none⟩) yA).trans a1;have zc2:=(hSw.cell (p:=⟨w.heap.size+1,0,none⟩) yB).trans c0;have zc3:=(hSw.cell (p:=⟨w.heap.size+1,1,none⟩) yB).trans c1;go_simp
  try rfl
 try simp only [Act.put,sT,sZ,sS]
 refine tnQ 1 (fun K hK=>?_);go_simp;refine (hc wd0).mono ?_;rintro eq wd1 ⟨rfl,bq1⟩;have hH1:Below w1.heap.size w1 wd1:=hH0.trans (bq1.mono hH0.size);refine hK.out _ _ (fun _=>hH1) ?_;clear hK K
 try simp only [Act.put,sT,sZ,sS]
 refine' tkR 2 7 hH1 ?o2
 cases q
 case false=>
  refine zD (i:=3) (oi:=⟨some 8,_,_,_,_,_⟩) rfl (by kernel_rfl) (by kernel_rfl) (by kernel_rfl) (by kernel_rfl) (fun _ _ _ h=>h) hH1 (by rfl) ?_
  try simp only [Act.put,sT,sZ,sS]
  refine zD (i:=4) (oi:=⟨some 9,_,_,_,_,_⟩) rfl (by kernel_rfl) (by kernel_rfl) (by kernel_rfl) (by kernel_rfl) (fun _ _ _ h=>h) hH1 (by rfl) ?_
  try simp only [Act.put,sT,sZ,sS]
  refine zD (i:=5) (oi:=⟨some 10,_,_,_,_,_⟩) rfl (by kernel_rfl) (by kernel_rfl) (by kernel_rfl) (by kernel_rfl) (fun _ _ _ h=>h) hH1 (by rfl) ?_
  try simp only [Act.put,sT,sZ,sS]
  refine zD (i:=6) (oi:=⟨some 11,_,_,_,_,_⟩) rfl (by kernel_rfl) (by kernel_rfl) (by kernel_rfl) (by kernel_rfl) (fun _ _ _ h=>h) hH1 (by rfl) ?_
  try simp only [Act.put,sT,sZ,sS]
  refine' tkR 7 12 hH1 ?o3
  refine' tkR 8 4 hH1 ?o4
  refine zH (by kernel_rfl) ?_ _;go_wp2;go_ret;refine ⟨?_,b1.trans (hH1.mono b1.size)⟩;rw [HR.out];rfl
 case true=>
  refine' tkQ 3 8 hH1 ?hyv ?o5
  case hyv=>
   intro wz hSw;have zc0:=(hSw.cell (p:=⟨w.heap.size,0,none⟩) yA).trans a0;have zc1:=(hSw.cell (p:=⟨w.heap.size,1,none⟩) yA).trans a1;have zc2:=(hSw.cell (p:=⟨w.heap.size+1,0,none⟩) yB).trans c0;have zc3:=(hSw.cell (p:=⟨w.heap.size+1,1,none⟩) yB).trans c1;go_simp
   try rfl
  try simp only [Act.put,sT,sZ,sS]
  refine' tkQ 5 10 hH1 ?hyv ?o6
  case hyv=>
   intro wz hSw;have zc0:=(hSw.cell (p:=⟨w.heap.size,0,none⟩) yA).trans a0;have zc1:=(hSw.cell (p:=⟨w.heap.size,1,none⟩) yA).trans a1;have zc2:=(hSw.cell (p:=⟨w.heap.size+1,0,none⟩) yB).trans c0;have zc3:=(hSw.cell (p:=⟨w.heap.size+1,1,none⟩) yB).trans c1;go_simp
   try rfl
  try simp only [Act.put,sT,sZ,sS]
  refine tnQ 4 (fun K hK=>?_);go_simp;refine (qW v wd1).mono ?_;rintro eq wd2 ⟨rfl,bq2⟩;have hH2:Below w1.heap.size w1 wd2:=hH1.trans (bq2.mono hH1.size);refine hK.out _ _ (fun _=>hH2) ?_;clear hK K
  try simp only [Act.put,sT,sZ,sS]
  refine' zO (i:=6) (oi:=⟨some 11,_,_,_,_,_⟩) (v:=.bool q2) rfl (by kernel_rfl) (by kernel_rfl) (by kernel_rfl) (by kernel_rfl) (fun _ _ _ h=>h) hH2 (by rfl) ?hyv ?o7
  case hyv=>
   intro wz hSw;go_simp;rw [HQ2.out];unfold Sk.same;by_cases h1:(Sk.sc v.elem).elem=c.elem<;>by_cases h2:(Sk.sc v.elem).n=c.n<;>simp [h1,h2]
  try simp only [Act.put,sT,sZ,sS]
  refine' tkR 7 12 hH2 ?o8
  refine' tkR 8 4 hH2 ?o9
  refine zH (by kernel_rfl) ?_ _;go_wp2;go_ret;refine ⟨?_,b1.trans (hH2.mono b1.size)⟩;rw [HR.out];rw [Bool.true_and];rfl
end Go.Proofs.YtegakbobaecdlaaGreatDoor
namespace Go.Proofs.YtegakbobaecdlaaGreatDoor
open Go.Shelf Go.RowKit Go.Lib Go.IntWalk
def ins (n:Int):List Int->List Int
 | []=>[n]
 | x :: t=>if n<=x then (if n<x then n :: x :: t else x :: t) else x :: ins n t
def insD (n:Int) (p:List Int):Bool:=p.any (fun x=>decide (n<=x))
def insP (n:Int) (p:List Int):List Int:=if insD n p=true then ins n p else p
theorem ins_none (n:Int):∀ (p:List Int),insD n p=false->ins n p=p++[n]
 | [],_=>rfl
 | x :: t,h=>by
  simp [insD] at h;have:=ins_none n t (by simpa [insD] using h.2);rw [ins,if_neg (by omega),this];rfl
theorem ins_some (n x:Int):∀ (p:List Int),insD n p=true->ins n (p++[x])=ins n p++[x]
 | [],h=>by simp [insD] at h
 | y :: t,h=>by
  by_cases hy:n<=y
  ·by_cases hz:n<y
   ·simp [ins,hy,hz]
   ·simp [ins,hy,hz]
  ·have h2:insD n t=true:=by
    simp only [insD,List.any_cons,Bool.or_eq_true,decide_eq_true_eq] at h;rcases h with h | h
    ·omega
    ·simpa [insD] using h
   simp [ins,hy,ins_some n x t h2]
theorem ins_at (n x:Int) (hx:n<=x):∀ (p:List Int),insD n p=false->ins n (p++[x])=p++(if n<x then [n,x] else [x])
 | [],_=>by simp [ins,hx]
 | y :: t,h=>by
  simp [insD] at h;have:=ins_at n x hx t (by simpa [insD] using h.2);rw [List.cons_append,ins,if_neg (by omega),this];rfl
theorem xY (n x:Int) (p:List Int):insD n (p++[x])=(insD n p || decide (n<=x)):=by simp [insD]
theorem insP_true {n x:Int} {p:List Int} (h:insD n p=true):insP n (p++[x])=insP n p++[x]:=by
 have e:insD n (p++[x])=true:=(by rw [xY,h];rfl);rw [insP,insP,if_pos e,if_pos h,ins_some n x p h]
theorem insP_less {n x:Int} {p:List Int} (h:insD n p=false) (hx:¬n<=x):insP n (p++[x])=insP n p++[x]:=by
 have e:insD n (p++[x])=false:=(by rw [xY,h];simpa using hx);rw [insP,insP,if_neg (by simp [e]),if_neg (by simp [h])]
theorem insP_here {n x:Int} {p:List Int} (h:insD n p=false) (hx:n<=x):insP n (p++[x])=insP n p++(if n<x then [n,x] else [x]):=by
 have e:insD n (p++[x])=true:=(by rw [xY,h];simpa using hx);rw [insP,insP,if_pos e,if_neg (by simp [h]),ins_at n x hx p h]
theorem insP_end (n:Int) (p:List Int):ins n p=insP n p++(if insD n p=true then [] else [n]):=by
 unfold insP;by_cases h:insD n p=true
 ·simp [h]
 ·rw [if_neg h,if_neg h,ins_none n p (by simpa using h)]
theorem ins_len (n:Int):∀ (p:List Int),(ins n p).length<=p.length+1
 | []=>by simp [ins]
 | x :: t=>by
  have:=ins_len n t;rw [ins]
  split
  ·split<;>simp
  ·simp;omega
theorem insP_len (n:Int) (p:List Int):(insP n p).length<=p.length+1:=by
 unfold insP
 split
 ·exact ins_len n p
 ·omega
theorem zAh {ok:Nat->Prop} {w:World} {v:Value} {l:List Int} (n:Int) (hl:HInts ok w v l) (hll:l.length<=2000000) :
  Calls Tryz.prog 77 #[v,.int .i64 n] w fun e w'=>∃ v',e=.returned v'/\OwnL kInt w.heap.size w' v' (ins n l)/\Below w.heap.size w w':=by
 obtain ⟨ao,cap,rfl,hc1,hc2,_⟩:=hl.at;have HL:=zE hl;clear hl;have mE:∀ (N:Nat) (V:World) (x:Int),kInt.E (fun i=>N<=i) V [.int .i64 x] x:=fun _ _ _=>rfl;have mM:∀ k:Nat,k<=3000000->(k+1)*kInt.bytes<=140737488355328:=fun k hk=>by show (k+1)*8<=_;omega
 have mL:∀ k:Nat,k<=3000000->k+1<=maxLen:=fun k hk=>by unfold maxLen;omega
 go_enter Tryz.func77,Tryz.ntmps77;go_wp2_with fail;go_loopg [5,6,7] l.length (fun gh s5 s6 s7 wr=>∃ (i:Nat) (d:Bool),s7=.int .i64 (i:Int)/\s6=.bool d/\i<=l.length/\l.length<=gh+i/\Hid (d=insD n (l.take i))/\Hid (OwnL kInt w.heap.size wr s5 (insP n (l.take i)))/\Below w.heap.size w wr)
 case atStart=>exact ⟨0,false,rfl,rfl,by omega,by omega,zE rfl,zE OwnL.nil,Below.refl _ _⟩
 case round=>
  obtain ⟨i,d,rfl,rfl,his,hgi,HD,HO,bR⟩:=hrel;have yR:=bR.size;have hpl:=insP_len n (l.take i);rw [List.length_take,Nat.min_eq_left his] at hpl;have own:=HO.out;have hNb:=fun k hk=>(own.lt k hk).2;by_cases hlt:i<l.length
  case neg=>
   have hge:¬(i:Int)<(l.length:Int):=(by omega);have hie:i=l.length:=(by omega);have HE:=zE (insP_end n l);have HD2:=zE (show d=insD n l by rw [HD.out,hie,List.take_length]);have eT:l.take i=l:=(by rw [hie,List.take_length]);rw [eT] at own hpl;clear HD HO eT
   cases d with
   | true=>
    go_wp2_with fail;go_ret;refine ⟨_,rfl,?_,bR⟩;rw [HE.out,<-HD2.out,if_pos rfl,List.append_nil];exact own
   | false=>
    generalize hP:insP n l=P at own hpl
    go_wp2_with (at_builtin;refine zQ kInt rfl _ _ 23 3 rfl Tryz.underlying23 w.heap.size wr.heap.size _ P (by rfl) own [.int .i64 n] n (mE _ _ _) (by rfl) hNb yR yR (mM _ (by omega)) (mL _ (by omega)) ?_;intro v8 w8 own8 b8 _ _)
    go_ret;refine ⟨_,rfl,?_,bR.trans b8⟩;rw [HE.out,<-HD2.out,hP];exact own8
  case pos=>
   have hltI:(i:Int)<(l.length:Int):=(by omega);obtain ⟨ao',cap',ev,_,_,hatR⟩:=(HL.out.under bR).at;injection ev with ev1 ev2 ev3;subst ev1;obtain ⟨b,o,rfl,hb,c0⟩:=hatR i hlt;clear hatR ev2 ev3;have HX:Hid (∀ V:World,Below w.heap.size w V->V.cell? ⟨b,o+i,none⟩=some (.int .i64 l[i])):=zE (fun V bV=>by
    obtain ⟨ao',cap',ev,_,_,hatV⟩:=(HL.out.under bV).at;injection ev with ev1 ev2 ev3;subst ev1;obtain ⟨b',o',e,hb',c1⟩:=hatV i hlt;injection e with e;injection e with e1 e2 e3;subst e1 e2;exact c1)
   have HT:=zE (List.take_succ_eq_append_getElem hlt);generalize l[i]=x at c0 HT HX;generalize hp:l.take i=p at HD HO own hpl HT;generalize hP:insP n p=P at own hpl HO;have HP:=zE hP;clear hP hp
   cases d with
   | true=>
    have HS:=zE (show insP n (l.take (i+1))=P++[x] by rw [HT.out,insP_true HD.out.symm,HP.out]);have HS2:=zE (show true=insD n (l.take (i+1)) by rw [HT.out,xY,<-HD.out];rfl);clear HT HD HP
    go_wp2_with (at_builtin;refine zQ kInt rfl _ _ 23 3 rfl Tryz.underlying23 w.heap.size wr.heap.size _ P (by rfl) own [.int .i64 x] x (mE _ _ _) (by rfl) hNb yR yR (mM _ (by omega)) (mL _ (by omega)) ?_;intro v8 w8 own8 b8 _ _)
    go_roundg (gk-1)
    case measure=>omega
    case rel=>exact ⟨i+1,true,by go_num,rfl,by omega,by omega,HS2,zE (by rw [HS.out];exact own8),bR.trans b8⟩
   | false=>
    by_cases hx:n<=x
    ·have HS2:=zE (show true=insD n (l.take (i+1)) by rw [HT.out,xY,<-HD.out];simpa using hx)
     by_cases hy:n<x
     ·have HS:=zE (show insP n (l.take (i+1))=(P++[n])++[x] by rw [HT.out,insP_here HD.out.symm hx,HP.out,if_pos hy];simp)
      clear HT HD HP;go_upto_region 9 with (at_builtin;refine zQ kInt rfl _ _ 23 3 rfl Tryz.underlying23 w.heap.size wr.heap.size _ P (by rfl) own [.int .i64 n] n (mE _ _ _) (by rfl) hNb yR yR (mM _ (by omega)) (mL _ (by omega)) ?_;intro v8 w8 own8 b8 _ _);have y8:=(bR.trans b8).size;have hN8:=fun k hk=>(own8.lt k hk).2;have c8:=HX.out w8 (bR.trans b8);clear c0;have hl8:(P++[n]).length<=3000000:=(by simp;omega);generalize P++[n]=P2 at own8 HS hl8
      go_wp2_with (at_builtin;refine zQ kInt rfl _ _ 23 3 rfl Tryz.underlying23 w.heap.size w8.heap.size _ P2 (by rfl) own8 [.int .i64 x] x (mE _ _ _) (by rfl) hN8 y8 y8 (mM _ hl8) (mL _ hl8) ?_;intro v9 w9 own9 b9 _ _)
      go_roundg (gk-1)
      case measure=>omega
      case rel=>exact ⟨i+1,true,by go_num,rfl,by omega,by omega,HS2,zE (by rw [HS.out];exact own9),(bR.trans b8).trans b9⟩
     ·have HS:=zE (show insP n (l.take (i+1))=P++[x] by rw [HT.out,insP_here HD.out.symm hx,HP.out,if_neg hy])
      clear HT HD HP
      go_wp2_with (at_builtin;refine zQ kInt rfl _ _ 23 3 rfl Tryz.underlying23 w.heap.size wr.heap.size _ P (by rfl) own [.int .i64 x] x (mE _ _ _) (by rfl) hNb yR yR (mM _ (by omega)) (mL _ (by omega)) ?_;intro v8 w8 own8 b8 _ _)
      go_roundg (gk-1)
      case measure=>omega
      case rel=>exact ⟨i+1,true,by go_num,rfl,by omega,by omega,HS2,zE (by rw [HS.out];exact own8),bR.trans b8⟩
    ·have HS:=zE (show insP n (l.take (i+1))=P++[x] by rw [HT.out,insP_less HD.out.symm hx,HP.out])
     have HS2:=zE (show false=insD n (l.take (i+1)) by rw [HT.out,xY,<-HD.out];simpa using hx);clear HT HD HP
     go_wp2_with (at_builtin;refine zQ kInt rfl _ _ 23 3 rfl Tryz.underlying23 w.heap.size wr.heap.size _ P (by rfl) own [.int .i64 x] x (mE _ _ _) (by rfl) hNb yR yR (mM _ (by omega)) (mL _ (by omega)) ?_;intro v8 w8 own8 b8 _ _)
     go_roundg (gk-1)
     case measure=>omega
     case rel=>exact ⟨i+1,false,by go_num,rfl,by omega,by omega,HS2,zE (by rw [HS.out];exact own8),bR.trans b8⟩
end Go.Proofs.YtegakbobaecdlaaGreatDoor
