import Derived.Test.YthkpanbgkimhoaaGreatDoorM01
import Derived.Deep.RegionWith
import Derived.Deep.LoopGhost
set_option linter.unusedVariables false
set_option linter.unusedSimpArgs false
set_option maxHeartbeats 64000000
set_option maxRecDepth 100000
namespace Go.Proofs.YthkpanbgkimhoaaGreatDoor
open Go.RowKit Go.IntWalk
def signOp (t:List UInt8):Int :=
 if t==[43] then 1 else if t==[45] then 2 else if t==[42] then 3 else if t==[47] then 4 else if t==[37] then 5 else
 if t==[60] then 8 else if t==[61,61] then 9 else if t==[97,110,100] then 10 else if t==[111,114] then 11 else if t==[120,111,114] then 12 else 0
theorem signOp_any (t:List UInt8) (w:World):Calls Tryz.prog 116 #[.string (str t)] w fun e w'=>e=.returned (.int .i64 (signOp t))∧w'=w:=by
 obtain ⟨r,hr⟩:=nm (signOp t);rw [←hr];have HR:=zD hr;clear hr;have ht:(str t).toList=t:=(by rw [Lib.toList_data];rfl);go_enter Tryz.func116,Tryz.ntmps116;go_wp2
 all_goals go_ret
 all_goals refine ⟨qX ?_,rfl⟩
 all_goals (have hr:=HR.out;simp [signOp, *] at hr ⊢)
 all_goals (try simp_all)
def btw (a c:Int) (t:List UInt8):Int:=if signOp t<a∨c<signOp t then 0 else signOp t
theorem zAR {w:World} {b g cap:Nat} {L:List Tk.Tok} {len nx op:Nat} (h:Rd w b g cap L len nx op) (a c:Int) :
  Calls Tryz.prog 113 #[.pointer (some ⟨b,0,none⟩),.int .i64 a,.int .i64 c] w fun e w'=>e=.returned (.int .i64 (btw a c (peekT L len nx).text))∧Below w.heap.size w w':=by
 have hp:=@xH _ _ _ _ _ _ _ _ h;obtain ⟨t,ht⟩:=nm (peekT L len nx);rw [←ht] at hp ⊢;unfold tokV at hp;clear h ht;have hf:=fun x w=>zBg t x w;obtain ⟨r,hr⟩:=nm (btw a c t.text);rw [←hr];obtain ⟨s,hs⟩:=nm (signOp t.text);unfold btw at hr;rw [←hs] at hr;have HR:=zD hr;clear hr;go_enter Tryz.func113,Tryz.ntmps113;go_wp2_with fail;refine hp.mono ?_;rintro e w' ⟨rfl,hb⟩;go_wp2_with fail;refine (signOp_any _ _).mono ?_;rintro e w'' ⟨rfl,rfl⟩;rw [←hs];clear hs;go_wp2
 all_goals go_ret
 all_goals refine ⟨qX ?_,hb⟩
 all_goals (have hr:=HR.out;simp_all)
 all_goals omega
def Gives (F b g cap:Nat) (L:List Tk.Tok) (len op nx n1:Nat) (e:Ex):Prop :=
 nx≤n1∧∀ w,Rd w b g cap L len nx op→Calls Tryz.prog F #[.pointer (some ⟨b,0,none⟩)] w fun r w'=>∃ x:ExV,
  r=.returned (.agg #[.int .i64 x.op,.int .i64 x.k,.int .i64 x.n,.string x.name,.slice x.aS x.nS x.cS,.slice x.aL x.nL x.cL])∧HEx (fun i=>w.heap.size≤i) w' x.cells e∧Rd w' b g cap L len n1 op∧Aside [b] w.heap.size w w'
inductive Rem (F b g cap:Nat) (L:List Tk.Tok) (len op:Nat) (a c:Int):Nat→Ex→Nat→Ex→Prop
 | stop {n:Nat} {e:Ex}:btw a c (peekT L len n).text=0→Rem F b g cap L len op a c n e n e
 | step {n n' m:Nat} {e r x:Ex} {k:Int}:btw a c (peekT L len n).text=k→k≠0→n<L.length→Gives F b g cap L len op (n+1) n' r→Rem F b g cap L len op a c n' (.mk 5 k 0 ⟨#[]⟩ [] [e,r]) m x→Rem F b g cap L len op a c n e m x
theorem zDg {w:World} {ok:Nat→Prop} {x y:ExV} {e f:Ex} (k:Int) (hx:HEx ok w x.cells e) (hy:HEx ok w y.cells f) (hok:∀ i,w.heap.size≤i→ok i) :
  Calls Tryz.prog 114 #[.int .i64 k,.agg #[.int .i64 x.op,.int .i64 x.k,.int .i64 x.n,.string x.name,.slice x.aS x.nS x.cS,.slice x.aL x.nL x.cL],.agg #[.int .i64 y.op,.int .i64 y.k,.int .i64 y.n,.string y.name,.slice y.aS y.nS y.cS,.slice y.aL y.nL y.cL]] w fun r w'=>∃ z:ExV,
   r=.returned (.agg #[.int .i64 z.op,.int .i64 z.k,.int .i64 z.n,.string z.name,.slice z.aS z.nS z.cS,.slice z.aL z.nL z.cL])∧HEx ok w' z.cells (.mk 5 k 0 ⟨#[]⟩ [] [e,f])∧Below w.heap.size w w':=by
 go_enter Tryz.func114,Tryz.ntmps114;go_wp2;obtain ⟨W,hW⟩:∃ W,W=(((w.alloc (Obj.cells (exC x) 45 (0,0))).alloc (Obj.cells (exC y) 45 (0,0))).alloc
   (Obj.cells #[.int .i64 5,.int .i64 k,.int .i64 0,.string ⟨#[]⟩,.slice none 0 0,.slice (some ⟨w.heap.size+1+1+1,0,none⟩) 2 2] 45 (0,0))):=⟨_,rfl⟩
 have hz:W.heap.size=w.heap.size+1+1+1:=(by rw [hW];simp);have hbW:Below w.heap.size w W:=(by rw [hW];exact (((Below.refl _ w).alloc nR _).alloc (by simp) _).alloc (by simp;omega) _);have hc:W.heap[w.heap.size+1+1]?=some (.cells #[.int .i64 5,.int .i64 k,.int .i64 0,.string ⟨#[]⟩,.slice none 0 0,.slice (some ⟨w.heap.size+1+1+1,0,none⟩) 2 2] 45 (0,0)):=by
  rw [hW];have:=zF ((w.alloc (Obj.cells (exC x) 45 (0,0))).alloc (Obj.cells (exC y) 45 (0,0))) (Obj.cells #[.int .i64 5,.int .i64 k,.int .i64 0,.string ⟨#[]⟩,.slice none 0 0,.slice (some ⟨w.heap.size+1+1+1,0,none⟩) 2 2] 45 (0,0))
  simpa using this
 rw [←hW];have hp:=HEx.pair k (hx.under hbW) (hy.under hbW) 45 (hok _ (by omega));rw [hz] at hp;obtain ⟨W',hW'⟩:∃ W',W'=W.alloc (Obj.cells #[.int .i64 x.op,.int .i64 x.k,.int .i64 x.n,.string x.name,.slice x.aS x.nS x.cS,.slice x.aL x.nL x.cL,.int .i64 y.op,.int .i64 y.k,.int .i64 y.n,.string y.name,.slice y.aS y.nS y.cS,.slice y.aL y.nL y.cL] 45 (0,0)):=⟨_,rfl⟩;have hb':Below w.heap.size w W':=(by rw [hW'];exact hbW.alloc (by omega) _);have hc':W'.heap[w.heap.size+1+1]?=some (.cells #[.int .i64 5,.int .i64 k,.int .i64 0,.string ⟨#[]⟩,.slice none 0 0,.slice (some ⟨w.heap.size+1+1+1,0,none⟩) 2 2] 45 (0,0)):=(by rw [hW'];exact kA hc _);rw [←hW'] at hp ⊢;obtain ⟨c0,c1,c2,c3,c4,c5⟩:=zH hc';exact bodyPost_ret (v:=.agg #[.int .i64 5,.int .i64 k,.int .i64 0,.string ⟨#[]⟩,.slice none 0 0,.slice (some ⟨w.heap.size+1+1+1,0,none⟩) 2 2]) (by simp [results,Tryz.results114,go_sem,c0,c1,c2,c3,c4,c5]) rfl ⟨⟨5,k,0,⟨#[]⟩,none,0,0,some ⟨w.heap.size+1+1+1,0,none⟩,2,2⟩,rfl,hp,hb'⟩
theorem zAS {F b g cap:Nat} {L:List Tk.Tok} {len op nx n1 m:Nat} {e0 x:Ex} {a c:Int} (hG:Gives F b g cap L len op nx n1 e0) (hR:Rem F b g cap L len op a c n1 e0 m x) (hent:∀ args w,(callFunc F args).run Tryz.prog w=.ok (.enter F args) w) {w:World} (h:Rd w b g cap L len nx op) :
    Calls Tryz.prog 111 #[.pointer (some ⟨b,0,none⟩),.int .i64 a,.int .i64 c,.func (.func F) #[.pointer (some ⟨b,0,none⟩)] #[]] w fun r w'=>∃ x':ExV,
      r=.returned (.agg #[.int .i64 x'.op,.int .i64 x'.k,.int .i64 x'.n,.string x'.name,.slice x'.aS x'.nS x'.cS,.slice x'.aL x'.nL x'.cL])∧HEx (fun i=>w.heap.size≤i) w' x'.cells x∧Rd w' b g cap L len m op∧Aside [b] w.heap.size w w':=by
  have hb:=h.bb
  have hg:=h.gb
  go_enter Tryz.func111,Tryz.ntmps111
  go_wp2_with fail
  refine (hG.2 _ (h.alloc _)).mono ?_
  rintro r w1 ⟨x0,rfl,he1,h1,a1⟩
  have z1:w.heap.size+1≤w1.heap.size:=by simpa using a1.size
  have hA1:=a1.keep (zF w _) (by simp) (by simp;omega)
  have A1:=((Aside.refl (S:=[b]) (B:=w.heap.size) w).alloc nR _).trans a1 (by simp)
  clear a1
  go_wp2
  go_loopg [10] L.length (fun k v wr=>∃ (n:Nat) (y:ExV) (e:Ex),L.length≤n+k∧Rem F b g cap L len op a c n e m x∧HEx (fun i=>w.heap.size<i∧i≠w1.heap.size) wr y.cells e∧Rd wr b g cap L len n op∧Aside [b] w.heap.size w wr ∧
      wr.heap[w.heap.size]?=some Zb ∧
      wr.heap[w1.heap.size]?=some (.cells (exC y) 45 (0,0)))
  case atStart=>exact ⟨n1,x0,e0,by omega,hR,(he1.wide (ok':=fun i=>w.heap.size<i∧i≠w1.heap.size) (fun i hi hl=>⟨by simp at hi;omega,by omega⟩)).under ((Below.refl _ w1).alloc nR _),h1.alloc _,A1.alloc (by omega) _,kA hA1 _,zF _ _⟩
  case round=>
    obtain ⟨n,y,e,hn,hrem,he,hrd,has,hA,hB⟩:=hrel
    cases hrem with
    | stop hz=>
      go_wp2_with fail
      refine (zAR hrd a c).mono ?_
      rintro r w2 ⟨rfl,b2⟩
      rw [hz]
      have cb0:=co ((aside b2 (S:=[])).keep hB (zC hB) (by simp)) 0
      have cb1:=co ((aside b2 (S:=[])).keep hB (zC hB) (by simp)) 1
      have cb2:=co ((aside b2 (S:=[])).keep hB (zC hB) (by simp)) 2
      have cb3:=co ((aside b2 (S:=[])).keep hB (zC hB) (by simp)) 3
      have cb4:=co ((aside b2 (S:=[])).keep hB (zC hB) (by simp)) 4
      have cb5:=co ((aside b2 (S:=[])).keep hB (zC hB) (by simp)) 5
      simp at cb0 cb1 cb2 cb3 cb4 cb5
      have hA2:=(aside b2 (S:=[])).keep hA (zC hA) (by simp)
      have fa:=fun o=>fo hA2 o
      obtain ⟨ca0,ca1,ca2,ca3,ca4,ca5⟩:=zH hA2
      go_wp2
      have he2:=he.under b2
      refine bodyPost_ret (v:=.agg #[.int .i64 y.op,.int .i64 y.k,.int .i64 y.n,.string y.name,.slice y.aS y.nS y.cS,.slice y.aL y.nL y.cL]) (by simp [results,Tryz.results111,go_sem,ca0,ca1,ca2,ca3,ca4,ca5]) rfl ⟨y,rfl,?_,?_,?_⟩
      · exact ((((((he2.set (by simp) _).set (by simp) _).set (by simp) _).set (by simp) _).set (by simp) _).set (by simp) _).wide (fun i hi _=>Nat.le_of_lt hi.1)
      · exact ((((((hrd.below b2).set (by simp;omega) (by simp;omega) _).set (by simp;omega) (by simp;omega) _).set (by simp;omega) (by simp;omega) _).set (by simp;omega) (by simp;omega) _).set (by simp;omega) (by simp;omega) _).set (by simp;omega) (by simp;omega) _
      · exact ((((((has.trans (aside b2) has.size).set (by simp) _).set (by simp) _).set (by simp) _).set (by simp) _).set (by simp) _).set (by simp) _
    | @step _ n' _ _ rr _ kk hk hk0 hlt hG' hrem'=>
      have hkf:((_:Int)==0)=false:=beq_eq_false_iff_ne.2 hk0
      go_wp2_with fail
      refine (zAR hrd a c).mono ?_
      rintro r w2 ⟨rfl,b2⟩
      rw [hk]
      go_wp2_with fail
      refine (qS (hrd.below b2) hlt).mono ?_
      rintro r w3 ⟨rfl,h3,a3⟩
      have hbB:=zC hB
      have hA3:=a3.keep ((aside b2 (S:=[])).keep hA (zC hA) (by simp)) (Nat.lt_of_lt_of_le (zC hA) b2.size) (by simp;omega)
      have hB3:=a3.keep ((aside b2 (S:=[])).keep hB (zC hB) (by simp)) (Nat.lt_of_lt_of_le (zC hB) b2.size) (by simp;omega)
      have he3:=(he.under b2).past a3 (fun i hi=>by simp;omega)
      have A3:=(has.trans (aside b2) has.size).trans a3 (Nat.le_trans has.size b2.size)
      have hB3z:=zC hB3
      clear hA hB he hrd has b2 a3
      obtain ⟨cb0,cb1,cb2,cb3,cb4,cb5⟩:=zH hB3
      go_wp2
      have hGr:=hG'.2
      go_region_with (first
        | (with_reducible refine (hGr _ ?_).mono ?_
           first | exact h3 | exact h3.drew
           rintro r w4 ⟨x4,rfl,he4,h4,a4⟩
           have a4':Aside [b] w3.heap.size w3 w4:=⟨a4.os,a4.tape,a4.output,a4.size,a4.block⟩
           have hA4:=a4'.keep hA3 (zC hA3) (by simp;omega)
           have hB4:=a4'.keep hB3 (zC hB3) (by simp;omega)
           have z4:=a4'.size
           have hy4:=he3.past a4' (fun i hi=>by simp;omega)
           have hx4:=he4.wide (ok':=fun i=>w.heap.size<i∧i≠w1.heap.size) (fun i hi _=>by have:w3.heap.size≤i:=hi;omega)
           have A4:=A3.trans a4' (by omega)
           have db0:=co hB4 0
           have db1:=co hB4 1
           have db2:=co hB4 2
           have db3:=co hB4 3
           have db4:=co hB4 4
           have db5:=co hB4 5
           simp at db0 db1 db2 db3 db4 db5)
        | (go_at_call 114
           refine (zDg _ hy4 hx4 (fun i hi=>by omega)).mono ?_
           rintro r w5 ⟨z,rfl,hez,b5⟩
           have hA5:=(aside b5 (S:=[])).keep hA4 (zC hA4) (by simp)
           have hB5:=(aside b5 (S:=[])).keep hB4 (zC hB4) (by simp)
           have fb5:=fun o=>fo hB5 o
           have gb0:=co hB5 0
           have gb1:=co hB5 1
           have gb2:=co hB5 2
           have gb3:=co hB5 3
           have gb4:=co hB5 4
           have gb5:=co hB5 5
           simp at gb0 gb1 gb2 gb3 gb4 gb5))
      all_goals
        go_wp2
        go_roundg (gk-1)
        case measure=>omega
        case rel=>
          have hn':=hG'.1
          refine ⟨n',z,_,by omega,hrem',?_,?_,?_,?_,?_⟩
          · exact (((((hez.set (by simp) _).set (by simp) _).set (by simp) _).set (by simp) _).set (by simp) _).set (by simp) _
          · exact ((((((h4.below b5).set (by simp;omega) (by simp;omega) _).set (by simp;omega) (by simp;omega) _).set (by simp;omega) (by simp;omega) _).set (by simp;omega) (by simp;omega) _).set (by simp;omega) (by simp;omega) _).set (by simp;omega) (by simp;omega) _
          · exact ((((((A4.trans (aside b5) A4.size).set (by simp;omega) _).set (by simp;omega) _).set (by simp;omega) _).set (by simp;omega) _).set (by simp;omega) _).set (by simp;omega) _
          · exact zK (zK (zK (zK (zK (zK hA5 (by simp;omega) _) (by simp;omega) _) (by simp;omega) _) (by simp;omega) _) (by simp;omega) _) (by simp;omega) _
          · have:=zJ (zJ (zJ (zJ (zJ (zJ hB5 0 (.int .i64 z.op)) 1 (.int .i64 z.k)) 2 (.int .i64 z.n)) 3 (.string z.name)) 4 (.slice z.aS z.nS z.cS)) 5 (.slice z.aL z.nL z.cL)
            simpa using this
theorem Rem.le {F b g cap:Nat} {L:List Tk.Tok} {len op:Nat} {a c:Int} {n m:Nat} {e x:Ex} (h:Rem F b g cap L len op a c n e m x):n≤m:=by
 induction h with
 | stop _=>exact Nat.le_refl _
 | step _ _ _ hG _ ih=>have:=hG.1;omega
end Go.Proofs.YthkpanbgkimhoaaGreatDoor
namespace Go.Proofs.YthkpanbgkimhoaaGreatDoor
inductive Res (α:Type) where
 | ok (v:α) (n:Nat)
 | err (c a:Nat)
def Res.bind {α β:Type}:Res α→(α→Nat→Res β)→Res β
 | .ok v n,k=>k v n
 | .err c a,_=>.err c a
structure Inp where
 L:List Tk.Tok
 len:Nat
def Inp.pk (I:Inp) (n:Nat):Tk.Tok:=peekT I.L I.len n
namespace Ps
def sees (I:Inp) (s:List UInt8) (n:Nat):Bool:=(I.pk n).text==s
def refC (I:Inp) (n:Nat):Nat:=if (I.pk n).kind=0 then 5 else 4
def refuse {α:Type} (I:Inp) (n:Nat):Res α:=.err (refC I n) (I.pk n).place
def need (I:Inp) (s:List UInt8) (n:Nat):Res Unit:=if sees I s n=true then .ok () (n+1) else refuse I n
def name (I:Inp) (n:Nat):Res ByteArray:=if (I.pk n).kind=2 then .ok (str (I.pk n).text) (n+1) else refuse I n
def row {α:Type} (I:Inp) (read:Nat→Res α):Nat→List α→Nat→Res (List α)
 | 0,_,n=>.err 7 (I.pk n).place
 | f+1,acc,n=>(read n).bind fun v n1=>if sees I [44] n1=true then row I read f (acc++[v]) (n1+1) else .ok (acc++[v]) n1
def sg (minus:Bool) (x:Int):Int:=if minus=true then RowKit.wrap64 (-x) else x
def term (I:Inp) (minus:Bool) (n:Nat):Res Tm :=
 if (I.pk n).kind=3 then
  if sees I [42] (n+1)=true then (name I (n+2)).bind fun s n1=>.ok (sg minus (I.pk n).n,s) n1 else .ok (sg minus (I.pk n).n,⟨#[]⟩) (n+1)
 else (name I n).bind fun s n1=>.ok (sg minus 1,s) n1
def terms (I:Inp):Nat→List Tm→Nat→Res (List Tm)
 | 0,acc,n=>if sees I [43] n=true∨sees I [45] n=true then .err 7 (I.pk n).place else .ok acc n
 | f+1,acc,n=>if sees I [43] n=true∨sees I [45] n=true then (term I (sees I [45] n) (n+1)).bind fun t n1=>terms I f (acc++[t]) n1 else .ok acc n
def size (I:Inp) (n:Nat):Res (List Tm) :=
 (term I (sees I [45] n) (if sees I [45] n=true then n+1 else n)).bind fun t n1=>terms I 29 [t] n1
def declN (I:Inp) (s:ByteArray) (e:Int) (n:Nat):Res De:=if sees I [94] n=true then (size I (n+1)).bind fun z n1=>.ok ⟨s,e,z⟩ n1 else .ok ⟨s,e,[]⟩ n
def decl (I:Inp) (n:Nat):Res De :=
 (name I n).bind fun s n1=>(need I [58] n1).bind fun _ n2=>
  if sees I [105,110,116] n2=true then declN I s 105 (n2+1) else if sees I [98,111,111,108] n2=true then declN I s 98 (n2+1) else refuse I n2
def more (I:Inp) (R:Nat→Res Ex) (a c:Int):Nat→Ex→Nat→Res Ex
 | 0,e,n=>.ok e n
 | f+1,e,n=>if btw a c (I.pk n).text=0 then .ok e n else (R (n+1)).bind fun r n1=>more I R a c f (.mk 5 (btw a c (I.pk n).text) 0 ⟨#[]⟩ [] [e,r]) n1
def fromLeft (I:Inp) (R:Nat→Res Ex) (a c:Int) (n:Nat):Res Ex:=(R n).bind fun e n1=>more I R a c (I.L.length-n1) e n1
def cmp (I:Inp) (R:Nat→Res Ex) (n:Nat):Res Ex :=
 (R n).bind fun e n1=>if btw 8 9 (I.pk n1).text=0 then .ok e n1 else (R (n1+1)).bind fun r n2=>.ok (.mk 5 (btw 8 9 (I.pk n1).text) 0 ⟨#[]⟩ [] [e,r]) n2
def sum (I:Inp) (A:Nat→Res Ex):Nat→Res Ex:=fromLeft I (fromLeft I A 3 5) 1 2
def exprOf (I:Inp) (A:Nat→Res Ex):Nat→Res Ex:=fromLeft I (fromLeft I (cmp I (sum I A)) 10 10) 11 12
def opn (I:Inp) (J:Option (Nat→Res Ex)) (n:Nat) (k:(Nat→Res Ex)→Nat→Res Ex):Res Ex :=
 match J with
 | none=>.err 6 (I.pk n).place
 | some A=>k A (n+1)
def words:List (List UInt8):=[[97,100,100],[115,117,98],[109,117,108],[100,105,118],[109,111,100],[109,105,110],[109,97,120],[108,101,115,115],[101,113],[97,110,100],[111,114],[120,111,114],[110,101,103],[110,111,116]]
def wordAt (I:Inp) (n:Nat):List (List UInt8)→Int→Option Int
 | [],_=>none
 | x :: xs,k=>if sees I x n=true then some k else wordAt I n xs (k+1)
def oper (I:Inp) (n:Nat):Res Int:=match wordAt I n words 1 with | some k=>.ok k (n+1) | none=>refuse I n
inductive Pt where
 | part | size | oper | oneOrTwo
def Ex.addL (e:Ex) (x:Ex):Ex:=.mk e.op e.k e.n e.name e.S (e.L++[x])
def Ex.addS (e:Ex) (s:List Tm):Ex:=.mk e.op e.k e.n e.name (e.S++[s]) e.L
def Ex.setK (e:Ex) (k:Int):Ex:=.mk e.op k e.n e.name e.S e.L
def part (I:Inp) (E:Nat→Res Ex) (p:Pt) (e:Ex) (n:Nat):Res Ex :=
 match p with
 | .part=>(E n).bind fun x n1=>.ok (Ex.addL e x) n1
 | .size=>(size I n).bind fun s n1=>.ok (Ex.addS e s) n1
 | .oper=>(oper I n).bind fun k n1=>.ok (Ex.setK e k) n1
 | .oneOrTwo=>(E n).bind fun x n1=>if sees I [44] n1=true then (E (n1+1)).bind fun y n2=>.ok (Ex.addL (Ex.addL e x) y) n2 else .ok (Ex.addL e x) n1
def parts (I:Inp) (E:Nat→Res Ex):List Pt→Ex→Nat→Res Ex
 | [],e,n=>.ok e n
 | p :: ps,e,n=>(need I [44] n).bind fun _ n1=>(part I E p e n1).bind fun e1 n2=>parts I E ps e1 n2
def brackets (I:Inp) (E:Nat→Res Ex) (p:Pt) (ps:List Pt) (e:Ex) (n:Nat):Res Ex :=
 (need I [40] n).bind fun _ n1=>(part I E p e n1).bind fun e1 n2=>(parts I E ps e1 n2).bind fun e2 n3=>(need I [41] n3).bind fun _ n4=>.ok e2 n4
def bare (op k:Int):Ex:=.mk op k 0 ⟨#[]⟩ [] []
def form (I:Inp) (J:Option (Nat→Res Ex)) (n:Nat):Res Ex :=
 let go (op k:Int) (p:Pt) (ps:List Pt):Res Ex:=opn I J n fun A n1=>brackets I (exprOf I A) p ps (bare op k) n1
 if sees I [109,105,110] n=true then go 5 6 .part [.part]
 else if sees I [109,97,120] n=true then go 5 7 .part [.part]
 else if sees I [109,97,112] n=true then go 7 0 .oper [.oneOrTwo]
 else if sees I [102,111,108,100] n=true then go 8 0 .oper [.part,.part]
 else if sees I [115,99,97,110] n=true then go 9 0 .oper [.part,.part]
 else if sees I [102,105,108,108] n=true then go 10 0 .part [.size]
 else if sees I [119,105,116,104] n=true then go 12 0 .part [.part,.part]
 else if sees I [115,108,105,99,101] n=true then go 13 0 .part [.size,.size]
 else if sees I [99,97,116] n=true then go 14 0 .part [.part]
 else if sees I [112,114,101] n=true then go 15 0 .part [.part]
 else refuse I n
def bracketed (I:Inp) (E:Nat→Res Ex) (n:Nat):Res Ex:=(E n).bind fun e n1=>(need I [41] n1).bind fun _ n2=>.ok e n2
def choice (I:Inp) (E:Nat→Res Ex) (n:Nat):Res Ex :=
 (E n).bind fun t n1=>(need I [116,104,101,110] n1).bind fun _ n2=>(E n2).bind fun y n3=>(need I [101,108,115,101] n3).bind fun _ n4=>(E n4).bind fun z n5=>
  .ok (.mk 6 0 0 ⟨#[]⟩ [] [t,y,z]) n5
def unit (I:Inp) (J:Option (Nat→Res Ex)) (n:Nat):Res Ex :=
 if (I.pk n).kind=3 then .ok (.mk 1 0 (I.pk n).n ⟨#[]⟩ [] []) (n+1)
 else if (I.pk n).kind=2 then .ok (.mk 3 0 0 (str (I.pk n).text) [] []) (n+1)
 else if sees I [116,114,117,101] n=true then .ok (.mk 2 0 1 ⟨#[]⟩ [] []) (n+1)
 else if sees I [102,97,108,115,101] n=true then .ok (.mk 2 0 0 ⟨#[]⟩ [] []) (n+1)
 else if sees I [40] n=true then opn I J n fun A n1=>bracketed I (exprOf I A) n1
 else if sees I [105,102] n=true then opn I J n fun A n1=>choice I (exprOf I A) n1
 else form I J n
def index (I:Inp) (E:Nat→Res Ex) (e:Ex) (n:Nat):Res Ex :=
 (E n).bind fun x n1=>(need I [58] n1).bind fun _ n2=>(E n2).bind fun y n3=>(need I [93] n3).bind fun _ n4=>.ok (.mk 11 0 0 ⟨#[]⟩ [] [e,x,y]) n4
def indices (I:Inp) (J:Option (Nat→Res Ex)):Nat→Ex→Nat→Res Ex
 | 0,e,n=>.ok e n
 | f+1,e,n=>if sees I [91] n=true then (opn I J n fun A n1=>index I (exprOf I A) e n1).bind fun e1 n1=>indices I J f e1 n1 else .ok e n
def signed (A:Nat→Res Ex) (k:Int) (n:Nat):Res Ex:=(A n).bind fun e n1=>.ok (.mk 4 k 0 ⟨#[]⟩ [] [e]) n1
def aheadS (I:Inp) (J:Option (Nat→Res Ex)) (n:Nat):Res Ex :=
 if sees I [45] n=true then opn I J n fun A n1=>signed A 13 n1
 else if sees I [110,111,116] n=true then opn I J n fun A n1=>signed A 14 n1
 else (unit I J n).bind fun e n1=>indices I J (I.L.length-n1) e n1
def ahead (I:Inp):Nat→Nat→Res Ex
 | 0=>aheadS I none
 | d+1=>aheadS I (some (ahead I d))
def expr (I:Inp) (d:Nat):Nat→Res Ex:=exprOf I (ahead I d)
mutual
def count:Ex→Nat
 | .mk _ _ _ _ _ L=>1+countL L
def countL:List Ex→Nat
 | []=>0
 | x :: xs=>count x+countL xs
end
def whole (I:Inp) (n:Nat):Res Ex:=(expr I 60 n).bind fun e n1=>if 30<count e then .err 7 (I.pk n).place else .ok e n1
def call (I:Inp) (at0:Int) (l:List ByteArray) (n:Nat):Res Eqn :=
 (need I [99,97,108,108] n).bind fun _ n1=>(name I n1).bind fun s n2=>
  (if sees I [60] n2=true then (row I (size I) 3 [] (n2+1)).bind fun z n3=>(need I [62] n3).bind fun _ n4=>.ok z n4 else .ok [] n2).bind fun z n5=>
  (need I [40] n5).bind fun _ n6=>
  (if sees I [41] n6=true then .ok [] (n6+1) else (row I (whole I) 30 [] n6).bind fun e n7=>(need I [41] n7).bind fun _ n8=>.ok e n8).bind fun e n9=>
  .ok ⟨at0,l,s,z,e⟩ n9
def equation (I:Inp) (n:Nat):Res Eqn :=
 (row I (name I) 30 [] n).bind fun l n1=>(need I [61] n1).bind fun _ n2=>
  if l.length=1∧sees I [99,97,108,108] n2=false then (whole I n2).bind fun e n3=>.ok ⟨(I.pk n).place,l,⟨#[]⟩,[],[e]⟩ n3 else call I (I.pk n).place l n2
def line (I:Inp) (loc:List De) (eqs:List Eqn) (n:Nat):Res (List De × List Eqn):=
  (if sees I [118,97,114] n=true then if 30≤loc.length then .err 7 (I.pk (n+1)).place else (decl I (n+1)).bind fun d n1=>.ok (loc++[d],eqs) n1
   else if (I.pk n).kind=2∧60≤eqs.length then .err 7 (I.pk n).place else (equation I n).bind fun q n1=>.ok (loc,eqs++[q]) n1).bind fun p n2=>
  (need I [59] n2).bind fun _ n3=>.ok p n3
def lines (I:Inp):Nat→List De→List Eqn→Nat→Res (List De × List Eqn)
 | 0,loc,eqs,n=>.ok (loc,eqs) (n+1)
 | f+1,loc,eqs,n=>if sees I [125] n=true then .ok (loc,eqs) (n+1) else (line I loc eqs n).bind fun p n1=>lines I f p.1 p.2 n1
def node (I:Inp) (n:Nat):Res Nd :=
 (need I [110,111,100,101] n).bind fun _ n1=>(name I n1).bind fun s n2=>
  (if sees I [60] n2=true then (row I (name I) 3 [] (n2+1)).bind fun z n3=>(need I [62] n3).bind fun _ n4=>.ok z n4 else .ok [] n2).bind fun z n5=>
  (need I [40] n5).bind fun _ n6=>
  (if sees I [41] n6=true then .ok [] (n6+1) else (row I (decl I) 30 [] n6).bind fun l n7=>(need I [41] n7).bind fun _ n8=>.ok l n8).bind fun inn n9=>
  (need I [45,62] n9).bind fun _ n10=>(need I [40] n10).bind fun _ n11=>(row I (decl I) 30 [] n11).bind fun out n12=>(need I [41] n12).bind fun _ n13=>(need I [123] n13).bind fun _ n14=>
  (lines I (I.L.length-n14+1) [] [] n14).bind fun p n15=>.ok ⟨s,(I.pk n).place,z,inn,out,p.1,p.2⟩ n15
def nodes (I:Inp):Nat→List Nd→Nat→Res (List Nd)
 | 0,acc,n=>if (I.pk n).kind=0 then .ok acc n else if sees I [110,111,100,101] n=true then .err 7 (I.pk n).place else refuse I n
 | f+1,acc,n=>if (I.pk n).kind=0 then .ok acc n else (node I n).bind fun x n1=>nodes I f (acc++[x]) n1
def program (I:Inp):Res (List Nd):=(node I 0).bind fun x n=>nodes I 9 [x] n
end Ps
def parseT (t:List UInt8):List Nd × Int × Int :=
 match Tk.scan t with
 | (L,c,a)=>if c=0 then match Ps.program ⟨L,t.length⟩ with | .ok l _=>(l,0,0) | .err c a=>([],c,a) else ([],c,a)
end Go.Proofs.YthkpanbgkimhoaaGreatDoor
namespace Go.Proofs.YthkpanbgkimhoaaGreatDoor
open Go.RowKit Go.IntWalk
theorem qD (c:Int) (w:World) :
  Calls Tryz.prog 38 #[.int .u8 c] w fun e w'=>e=.returned (.bool (Tk.isL c))∧w'=w:=by
 unfold Tk.isL;go_enter Tryz.func38,Tryz.ntmps38;go_wp2
 all_goals go_ret
 all_goals refine ⟨zV ?_,rfl⟩
 all_goals (rw [Bool.eq_iff_iff];simp;try omega)
theorem qA (c:Int) (w:World) :
  Calls Tryz.prog 41 #[.int .u8 c] w fun e w'=>e=.returned (.bool (Tk.isD c))∧w'=w:=by
 unfold Tk.isD;go_enter Tryz.func41,Tryz.ntmps41;go_wp2
 all_goals go_ret
 all_goals refine ⟨zV ?_,rfl⟩
 all_goals (rw [Bool.eq_iff_iff];simp;try omega)
theorem vV (c a:Int) (w:World) :
  Calls Tryz.prog 37 #[.int .i64 c,.int .i64 a] w fun e w'=>e=.returned (.agg #[.int .i64 c,.int .i64 a])∧Below w.heap.size w w':=by
 go_enter Tryz.func37,Tryz.ntmps37;go_wp2;exact bodyPost_ret (v:=.agg #[.int .i64 c,.int .i64 a]) (by simp [results,Tryz.results37,go_sem]) rfl ⟨rfl,(Below.refl _ _).alloc nR _⟩
theorem zAw (c:UInt8) (l:List UInt8):Tk.runLen (c :: l)=if Tk.isR (c.toNat:Int)=true then Tk.runLen l+1 else 0:=by
 unfold Tk.runLen;rw [List.takeWhile_cons]
 split<;>simp
theorem zAx (s:ByteArray) (p:Nat) (w:World) (hs:s.size≤maxLen) (hp:p≤s.size) :
  Calls Tryz.prog 39 #[.string s,.int .i64 (p:Int)] w fun e w'=>e=.returned (.int .i64 ((p+Tk.runLen (s.data.toList.drop p):Nat):Int))∧w'=w:=by
 unfold maxLen at hs;obtain ⟨r,hr⟩:=nm (p+Tk.runLen (s.data.toList.drop p));rw [←hr];have HR:=zD hr;clear hr;go_enter Tryz.func39,Tryz.ntmps39;go_wp2
 go_loop [1] (fun i=>∃ k:Nat,k≤s.size∧i=.int .i64 k∧Hid (r=k+Tk.runLen (s.data.toList.drop k))) (fun i=>s.size-(intOf i).toNat)
 case atStart=>exact ⟨p,hp,rfl,HR⟩
 case round=>
  obtain ⟨k,hk,rfl,H⟩:=hrel;by_cases hlt:k<s.size
  ·have HD:Hid (s.data.toList.drop k=s[k] :: s.data.toList.drop (k+1)):=List.drop_eq_getElem_cons (by simpa using hlt)
   cases hL:Tk.isL ((s[k]).toNat:Int)
   ·cases hD:Tk.isD ((s[k]).toNat:Int)
    ·go_wp2_with (first
      | (go_at_call 38;refine (qD _ _).mono ?_;rintro e w' ⟨rfl,rfl⟩)
      | (go_at_call 41;refine (qA _ _).mono ?_;rintro e w' ⟨rfl,rfl⟩))
     go_ret;refine ⟨qX ?_,rfl⟩;rw [H.out,HD.out,zAw,if_neg (by simp [Tk.isR,hL,hD])];simp
    ·go_wp2_with (first
      | (go_at_call 38;refine (qD _ _).mono ?_;rintro e w' ⟨rfl,rfl⟩)
      | (go_at_call 41;refine (qA _ _).mono ?_;rintro e w' ⟨rfl,rfl⟩))
     go_round
     case rel=>exact ⟨k+1,by omega,by go_num,by
      show _=_
      rw [H.out,HD.out,zAw,if_pos (by simp [Tk.isR,hD])];omega⟩
     case measure=>simp [intOf];omega
   ·go_wp2_with (first
      | (go_at_call 38;refine (qD _ _).mono ?_;rintro e w' ⟨rfl,rfl⟩)
      | (go_at_call 41;refine (qA _ _).mono ?_;rintro e w' ⟨rfl,rfl⟩))
    go_round
    case rel=>exact ⟨k+1,by omega,by go_num,by
      show _=_
      rw [H.out,HD.out,zAw,if_pos (by simp [Tk.isR,hL])];omega⟩
    case measure=>simp [intOf];omega
  ·have hke:k=s.size:=by omega
   subst hke
   go_wp2_with (first
      | (go_at_call 38;refine (qD _ _).mono ?_;rintro e w' ⟨rfl,rfl⟩)
      | (go_at_call 41;refine (qA _ _).mono ?_;rintro e w' ⟨rfl,rfl⟩))
   go_ret;refine ⟨qX ?_,rfl⟩;rw [H.out,List.drop_of_length_le (by simp)];simp [Tk.runLen]
def numR (l:List UInt8):Int:=if Tk.badNum l then -1 else if l.all (fun c=>Tk.isD (c.toNat:Int)) then Tk.numVal l else -1
theorem num_any (s:ByteArray) (w:World) (hs:s.size≤maxLen) :
  Calls Tryz.prog 42 #[.string s] w fun e w'=>e=.returned (.int .i64 (numR s.data.toList))∧w'=w:=by
 unfold maxLen at hs;have hsz:s.data.toList.length=s.size:=(by rw [Lib.size_eq]);obtain ⟨r,hr⟩:=nm (numR s.data.toList);rw [←hr];unfold numR at hr
 cases hbn:Tk.badNum s.data.toList
 ·have hle:s.size≤18:=by unfold Tk.badNum at hbn;rw [hsz] at hbn;simp at hbn;omega
  have h48:1<s.size→∀ h:0<s.size,(((s[0]).toNat:Int)==48)=false:=by
   intro h1 h;have hh:s.data.toList.head?=some s[0]:=by
    rw [List.head?_eq_getElem?,List.getElem?_eq_getElem (by simpa using h)];rfl
   unfold Tk.badNum at hbn;rw [hsz,hh] at hbn;simp [h1] at hbn;have h9:=hbn.2;rw [beq_eq_false_iff_ne];intro e
   apply h9
   apply UInt8.toNat_inj.1
   simp;omega
  rw [hbn] at hr;simp only [Bool.false_eq_true,if_false] at hr;have HR:=zD hr;clear hr hsz hbn;have hd18:decide ((18:Int)<(s.size:Int))=false:=(by simp;omega);have key:Calls Tryz.prog 42 #[.string s] w fun e w'=>e=.returned (.int .i64 r)∧w'=w:=by
   by_cases h1:1<s.size
   ·have h0:0<s.size:=by omega
    have h9:=h48 h1 h0;clear h48;go_enter Tryz.func42,Tryz.ntmps42;go_wp2
    go_loop [3,4] (fun n i=>∃ k:Nat,k≤s.size∧i=.int .i64 k∧n=.int .i64 (Tk.numVal (s.data.toList.take k))∧Hid (∀ j (hj:j<s.data.toList.length),j<k→Tk.isD ((s.data.toList[j]).toNat:Int)=true)) (fun _ i=>s.size-(intOf i).toNat)
    case atStart=>exact ⟨0,Nat.zero_le _,rfl,by simp [Tk.numVal],fun j _ h=>absurd h (Nat.not_lt_zero _)⟩
    case round=>
     obtain ⟨k,hk,rfl,rfl,H⟩:=hrel;have hbd:=zAg s k hk H.out;have hp2:=zCr k;obtain ⟨n,hn⟩:=nm (Tk.numVal (s.data.toList.take k));rw [←hn] at hbd ⊢;have hn0:0≤n:=hbd.1;have hn2:k<s.size→n<100000000000000000:=fun h=>by have:=hp2 (by omega);omega
     have HN:=zD hn;clear hn hbd hp2;by_cases hlt:k<s.size
     ·have hn3:=hn2 hlt
      clear hn2
      cases hD:Tk.isD ((s[k]).toNat:Int)
      ·have hr1:r = -1:=by
        rw [HR.out,if_neg (by
         intro hall;rw [List.all_eq_true] at hall;have:=hall s[k] (List.getElem_mem (by simpa using hlt));rw [hD] at this
         cases this)]
       subst hr1
       go_wp2_with (go_at_call 41;refine (qA _ _).mono ?_;rintro e w' ⟨rfl,rfl⟩)
       go_ret;exact ⟨rfl,rfl⟩
      ·have hd1:48≤((s[k]).toNat:Int):=by simp [Tk.isD] at hD;omega
       have hd2:((s[k]).toNat:Int)≤57:=(by simp [Tk.isD] at hD;omega);have HD:=zD hD
       go_wp2_with (go_at_call 41;refine (qA _ _).mono ?_;rintro e w' ⟨rfl,rfl⟩)
       go_round
       case rel=>
        refine ⟨k+1,by omega,by go_num,?_,?_⟩
        ·have e:Tk.numVal (List.take (k+1) s.data.toList)=10*n+(((s[k]).toNat:Int)-48):=by rw [zAf s k hlt,jL,←HN.out];omega
         rw [e]
        ·intro j hj hjk
         by_cases ej:j=k
         ·subst ej;rw [zAs s j hlt];exact HD.out
         ·exact H.out j hj (by omega)
       case measure=>simp [intOf];omega
     ·have hke:k=s.size:=by omega
      subst hke;have hall:s.data.toList.all (fun c=>Tk.isD (c.toNat:Int))=true:=by
       rw [List.all_eq_true];intro c hcm;obtain ⟨j,hj,rfl⟩:=List.getElem_of_mem hcm;exact H.out j hj (by rw [←Lib.size_eq] at hj;exact hj)
      have hnv:r=n:=(by rw [HR.out,if_pos hall,HN.out,List.take_of_length_le (by rw [←Lib.size_eq];exact Nat.le_refl _)]);subst hnv;go_wp2;go_ret;exact ⟨rfl,rfl⟩
   ·have hd1':decide ((1:Int)<(s.size:Int))=false:=by simp;omega
    clear h48;go_enter Tryz.func42,Tryz.ntmps42;go_wp2
    go_loop [3,4] (fun n i=>∃ k:Nat,k≤s.size∧i=.int .i64 k∧n=.int .i64 (Tk.numVal (s.data.toList.take k))∧Hid (∀ j (hj:j<s.data.toList.length),j<k→Tk.isD ((s.data.toList[j]).toNat:Int)=true)) (fun _ i=>s.size-(intOf i).toNat)
    case atStart=>exact ⟨0,Nat.zero_le _,rfl,by simp [Tk.numVal],fun j _ h=>absurd h (Nat.not_lt_zero _)⟩
    case round=>
     obtain ⟨k,hk,rfl,rfl,H⟩:=hrel;have hbd:=zAg s k hk H.out;have hp2:=zCr k;obtain ⟨n,hn⟩:=nm (Tk.numVal (s.data.toList.take k));rw [←hn] at hbd ⊢;have hn0:0≤n:=hbd.1;have hn2:k<s.size→n<100000000000000000:=fun h=>by have:=hp2 (by omega);omega
     have HN:=zD hn;clear hn hbd hp2;by_cases hlt:k<s.size
     ·have hn3:=hn2 hlt
      clear hn2
      cases hD:Tk.isD ((s[k]).toNat:Int)
      ·have hr1:r = -1:=by
        rw [HR.out,if_neg (by
         intro hall;rw [List.all_eq_true] at hall;have:=hall s[k] (List.getElem_mem (by simpa using hlt));rw [hD] at this
         cases this)]
       subst hr1
       go_wp2_with (go_at_call 41;refine (qA _ _).mono ?_;rintro e w' ⟨rfl,rfl⟩)
       go_ret;exact ⟨rfl,rfl⟩
      ·have hd1:48≤((s[k]).toNat:Int):=by simp [Tk.isD] at hD;omega
       have hd2:((s[k]).toNat:Int)≤57:=(by simp [Tk.isD] at hD;omega);have HD:=zD hD
       go_wp2_with (go_at_call 41;refine (qA _ _).mono ?_;rintro e w' ⟨rfl,rfl⟩)
       go_round
       case rel=>
        refine ⟨k+1,by omega,by go_num,?_,?_⟩
        ·have e:Tk.numVal (List.take (k+1) s.data.toList)=10*n+(((s[k]).toNat:Int)-48):=by rw [zAf s k hlt,jL,←HN.out];omega
         rw [e]
        ·intro j hj hjk
         by_cases ej:j=k
         ·subst ej;rw [zAs s j hlt];exact HD.out
         ·exact H.out j hj (by omega)
       case measure=>simp [intOf];omega
     ·have hke:k=s.size:=by omega
      subst hke;have hall:s.data.toList.all (fun c=>Tk.isD (c.toNat:Int))=true:=by
       rw [List.all_eq_true];intro c hcm;obtain ⟨j,hj,rfl⟩:=List.getElem_of_mem hcm;exact H.out j hj (by rw [←Lib.size_eq] at hj;exact hj)
      have hnv:r=n:=(by rw [HR.out,if_pos hall,HN.out,List.take_of_length_le (by rw [←Lib.size_eq];exact Nat.le_refl _)]);subst hnv;go_wp2;go_ret;exact ⟨rfl,rfl⟩
  exact key
 ·rw [hbn] at hr
  simp only [if_true] at hr;subst hr;unfold Tk.badNum at hbn;rw [hsz] at hbn;clear hsz;by_cases h18:18<s.size
  ·clear hbn
   go_enter Tryz.func42,Tryz.ntmps42;go_wp2;go_ret;exact ⟨rfl,rfl⟩
  ·have h1:1<s.size:=by simp [h18] at hbn;omega
   have h48:(((s[0]).toNat:Int)==48)=true:=by
    have hh:s.data.toList.head?=some s[0]:=by
     rw [List.head?_eq_getElem?,List.getElem?_eq_getElem (by simpa using (by omega:0<s.size))];rfl
    rw [hh] at hbn;simp [h18,h1] at hbn;simp [hbn]
   clear hbn;go_enter Tryz.func42,Tryz.ntmps42;go_wp2;go_ret;exact ⟨rfl,rfl⟩
def wordsV:Array Value:=(Tk.words.map fun l=>Value.string (str l)).toArray
theorem wordsV_at (k:Nat) (h:k<32):wordsV[k]?=some (.string (str (Tk.words[k]'h))):=by
 unfold wordsV;rw [gT,List.getElem?_map,List.getElem?_eq_getElem (show k<Tk.words.length from h)];rfl
theorem cell_new (w:World) (c:Array Value) (t:TypeId) (i:Nat):(w.alloc (.cells c t)).cell? ⟨w.heap.size,i,none⟩=c[i]?:=by
 simp
theorem zBh (s:ByteArray) (w:World) :
  Calls Tryz.prog 40 #[.string s] w fun e w'=>e=.returned (.bool (Tk.isWord s.data.toList))∧Below w.heap.size w w':=by
 obtain ⟨r,hr⟩:=nm (Tk.isWord s.data.toList);rw [←hr];have HR:=zD hr;clear hr;go_enter Tryz.func40,Tryz.ntmps40;go_wp2
 go_loopw [4] (fun i wr=>∃ k:Nat,k≤32∧i=.int .i64 k∧Hid (∀ j (h:j<32),wr.cell? ⟨w.heap.size,j,none⟩=some (.string (str (Tk.words[j]'h))))∧Hid (∀ j (h:j<32),j<k→(s.data.toList==Tk.words[j]'h)=false)∧Below w.heap.size w wr)
  (fun i _=>32-(intOf i).toNat)
 case atStart=>exact ⟨0,Nat.zero_le _,rfl,fun j h=>(cell_new w wordsV 9 j).trans (wordsV_at j h),fun j _ h=>absurd h (Nat.not_lt_zero _),(Below.refl _ _).alloc nR _⟩
 case round=>
  obtain ⟨k,hk,rfl,HC,HN,hbr⟩:=hrel;by_cases hlt:k<32
  ·have hc:=HC.out k hlt
   obtain ⟨tx,htx⟩:=nm (str (Tk.words[k]'hlt));rw [←htx] at hc;have hti:tx.toList=Tk.words[k]'hlt:=(by rw [Lib.toList_data,htx];simp [str]);have hsi:s.toList=s.data.toList:=Lib.toList_data s
   cases hq:(tx.toList==s.toList)
   ·have HQ:Hid ((s.data.toList==Tk.words[k]'hlt)=false):=by
     show _=_
     rw [hti,hsi] at hq;rw [beq_eq_false_iff_ne] at hq ⊢;exact fun e=>hq e.symm
    clear htx hti hsi;go_wp2
    go_roundw
    case rel=>exact ⟨k+1,by omega,by go_num,HC,fun j h hjk=>by
     by_cases e:j=k
     ·subst e;exact HQ.out
     ·exact HN.out j h (by omega),hbr⟩
    case measure=>simp [intOf];omega
   ·have hr1:r=true:=by
     rw [HR.out,Tk.isWord,List.any_eq_true];refine ⟨Tk.words[k]'hlt,List.getElem_mem _,?_⟩;rw [hti,hsi] at hq;rw [beq_iff_eq] at hq ⊢;exact hq.symm
    subst hr1;clear htx hti hsi;go_wp2;go_ret;exact ⟨rfl,hbr⟩
  ·have hr1:r=false:=by
    rw [HR.out,Tk.isWord,List.any_eq_false];intro x hx;obtain ⟨j,hj,rfl⟩:=List.getElem_of_mem hx;rw [HN.out j hj (by have:j<32:=hj;omega)];simp
   subst hr1;go_wp2;go_ret;exact ⟨rfl,hbr⟩
end Go.Proofs.YthkpanbgkimhoaaGreatDoor
