import Derived.Test.YtophfbefnaelfaaGreatDoorF04
set_option linter.unusedVariables false
set_option linter.unusedSimpArgs false
set_option maxHeartbeats 64000000
set_option maxRecDepth 100000
namespace Go.Proofs.YtophfbefnaelfaaGreatDoor
inductive Res (α:Type) where
 | ok (v:α) (n:Nat)
 | err (c a:Nat)
def Res.bind {α β:Type}:Res α→(α→Nat→Res β)→Res β
 | .ok v n,k=>k v n
 | .err c a,_=>.err c a
structure Inp where
 L:List Tk.Tok
 len:Nat
def Inp.pk (I:Inp) (n:Nat):Tk.Tok:=peekT I.L I.len n
namespace Ps
def sees (I:Inp) (s:List UInt8) (n:Nat):Bool:=(I.pk n).text==s
def refC (I:Inp) (n:Nat):Nat:=if (I.pk n).kind=0 then 5 else 4
def refuse {α:Type} (I:Inp) (n:Nat):Res α:=.err (refC I n) (I.pk n).place
def need (I:Inp) (s:List UInt8) (n:Nat):Res Unit:=if sees I s n=true then .ok () (n+1) else refuse I n
def name (I:Inp) (n:Nat):Res ByteArray:=if (I.pk n).kind=2 then .ok (str (I.pk n).text) (n+1) else refuse I n
def row {α:Type} (I:Inp) (read:Nat→Res α):Nat→List α→Nat→Res (List α)
 | 0,_,n=>.err 7 (I.pk n).place
 | f+1,acc,n=>(read n).bind fun v n1=>if sees I [44] n1=true then row I read f (acc++[v]) (n1+1) else .ok (acc++[v]) n1
def sg (minus:Bool) (x:Int):Int:=if minus=true then RowKit.wrap64 (-x) else x
def term (I:Inp) (minus:Bool) (n:Nat):Res Tm :=
 if (I.pk n).kind=3 then
  if sees I [42] (n+1)=true then (name I (n+2)).bind fun s n1=>.ok (sg minus (I.pk n).n,s) n1 else .ok (sg minus (I.pk n).n,⟨#[]⟩) (n+1)
 else (name I n).bind fun s n1=>.ok (sg minus 1,s) n1
def terms (I:Inp):Nat→List Tm→Nat→Res (List Tm)
 | 0,acc,n=>if sees I [43] n=true∨sees I [45] n=true then .err 7 (I.pk n).place else .ok acc n
 | f+1,acc,n=>if sees I [43] n=true∨sees I [45] n=true then (term I (sees I [45] n) (n+1)).bind fun t n1=>terms I f (acc++[t]) n1 else .ok acc n
def size (I:Inp) (n:Nat):Res (List Tm) :=
 (term I (sees I [45] n) (if sees I [45] n=true then n+1 else n)).bind fun t n1=>terms I 29 [t] n1
def declN (I:Inp) (s:ByteArray) (e:Int) (n:Nat):Res De:=if sees I [94] n=true then (size I (n+1)).bind fun z n1=>.ok ⟨s,e,z⟩ n1 else .ok ⟨s,e,[]⟩ n
def decl (I:Inp) (n:Nat):Res De :=
 (name I n).bind fun s n1=>(need I [58] n1).bind fun _ n2=>
  if sees I [105,110,116] n2=true then declN I s 105 (n2+1) else if sees I [98,111,111,108] n2=true then declN I s 98 (n2+1) else refuse I n2
def more (I:Inp) (R:Nat→Res Ex) (a c:Int):Nat→Ex→Nat→Res Ex
 | 0,e,n=>.ok e n
 | f+1,e,n=>if btw a c (I.pk n).text=0 then .ok e n else (R (n+1)).bind fun r n1=>more I R a c f (.mk 5 (btw a c (I.pk n).text) 0 ⟨#[]⟩ [] [e,r]) n1
def fromLeft (I:Inp) (R:Nat→Res Ex) (a c:Int) (n:Nat):Res Ex:=(R n).bind fun e n1=>more I R a c (I.L.length-n1) e n1
def cmp (I:Inp) (R:Nat→Res Ex) (n:Nat):Res Ex :=
 (R n).bind fun e n1=>if btw 8 9 (I.pk n1).text=0 then .ok e n1 else (R (n1+1)).bind fun r n2=>.ok (.mk 5 (btw 8 9 (I.pk n1).text) 0 ⟨#[]⟩ [] [e,r]) n2
def sum (I:Inp) (A:Nat→Res Ex):Nat→Res Ex:=fromLeft I (fromLeft I A 3 5) 1 2
def exprOf (I:Inp) (A:Nat→Res Ex):Nat→Res Ex:=fromLeft I (fromLeft I (cmp I (sum I A)) 10 10) 11 12
def opn (I:Inp) (J:Option (Nat→Res Ex)) (n:Nat) (k:(Nat→Res Ex)→Nat→Res Ex):Res Ex :=
 match J with
 | none=>.err 6 (I.pk n).place
 | some A=>k A (n+1)
def words:List (List UInt8):=[[97,100,100],[115,117,98],[109,117,108],[100,105,118],[109,111,100],[109,105,110],[109,97,120],[108,101,115,115],[101,113],[97,110,100],[111,114],[120,111,114],[110,101,103],[110,111,116]]
def wordAt (I:Inp) (n:Nat):List (List UInt8)→Int→Option Int
 | [],_=>none
 | x :: xs,k=>if sees I x n=true then some k else wordAt I n xs (k+1)
def oper (I:Inp) (n:Nat):Res Int:=match wordAt I n words 1 with | some k=>.ok k (n+1) | none=>refuse I n
inductive Pt where
 | part | size | oper | oneOrTwo
def Ex.addL (e:Ex) (x:Ex):Ex:=.mk e.op e.k e.n e.name e.S (e.L++[x])
def Ex.addS (e:Ex) (s:List Tm):Ex:=.mk e.op e.k e.n e.name (e.S++[s]) e.L
def Ex.setK (e:Ex) (k:Int):Ex:=.mk e.op k e.n e.name e.S e.L
def part (I:Inp) (E:Nat→Res Ex) (p:Pt) (e:Ex) (n:Nat):Res Ex :=
 match p with
 | .part=>(E n).bind fun x n1=>.ok (Ex.addL e x) n1
 | .size=>(size I n).bind fun s n1=>.ok (Ex.addS e s) n1
 | .oper=>(oper I n).bind fun k n1=>.ok (Ex.setK e k) n1
 | .oneOrTwo=>(E n).bind fun x n1=>if sees I [44] n1=true then (E (n1+1)).bind fun y n2=>.ok (Ex.addL (Ex.addL e x) y) n2 else .ok (Ex.addL e x) n1
def parts (I:Inp) (E:Nat→Res Ex):List Pt→Ex→Nat→Res Ex
 | [],e,n=>.ok e n
 | p :: ps,e,n=>(need I [44] n).bind fun _ n1=>(part I E p e n1).bind fun e1 n2=>parts I E ps e1 n2
def brackets (I:Inp) (E:Nat→Res Ex) (p:Pt) (ps:List Pt) (e:Ex) (n:Nat):Res Ex :=
 (need I [40] n).bind fun _ n1=>(part I E p e n1).bind fun e1 n2=>(parts I E ps e1 n2).bind fun e2 n3=>(need I [41] n3).bind fun _ n4=>.ok e2 n4
def bare (op k:Int):Ex:=.mk op k 0 ⟨#[]⟩ [] []
def form (I:Inp) (J:Option (Nat→Res Ex)) (n:Nat):Res Ex :=
 let go (op k:Int) (p:Pt) (ps:List Pt):Res Ex:=opn I J n fun A n1=>brackets I (exprOf I A) p ps (bare op k) n1
 if sees I [109,105,110] n=true then go 5 6 .part [.part]
 else if sees I [109,97,120] n=true then go 5 7 .part [.part]
 else if sees I [109,97,112] n=true then go 7 0 .oper [.oneOrTwo]
 else if sees I [102,111,108,100] n=true then go 8 0 .oper [.part,.part]
 else if sees I [115,99,97,110] n=true then go 9 0 .oper [.part,.part]
 else if sees I [102,105,108,108] n=true then go 10 0 .part [.size]
 else if sees I [119,105,116,104] n=true then go 12 0 .part [.part,.part]
 else if sees I [115,108,105,99,101] n=true then go 13 0 .part [.size,.size]
 else if sees I [99,97,116] n=true then go 14 0 .part [.part]
 else if sees I [112,114,101] n=true then go 15 0 .part [.part]
 else refuse I n
def bracketed (I:Inp) (E:Nat→Res Ex) (n:Nat):Res Ex:=(E n).bind fun e n1=>(need I [41] n1).bind fun _ n2=>.ok e n2
def choice (I:Inp) (E:Nat→Res Ex) (n:Nat):Res Ex :=
 (E n).bind fun t n1=>(need I [116,104,101,110] n1).bind fun _ n2=>(E n2).bind fun y n3=>(need I [101,108,115,101] n3).bind fun _ n4=>(E n4).bind fun z n5=>
  .ok (.mk 6 0 0 ⟨#[]⟩ [] [t,y,z]) n5
def unit (I:Inp) (J:Option (Nat→Res Ex)) (n:Nat):Res Ex :=
 if (I.pk n).kind=3 then .ok (.mk 1 0 (I.pk n).n ⟨#[]⟩ [] []) (n+1)
 else if (I.pk n).kind=2 then .ok (.mk 3 0 0 (str (I.pk n).text) [] []) (n+1)
 else if sees I [116,114,117,101] n=true then .ok (.mk 2 0 1 ⟨#[]⟩ [] []) (n+1)
 else if sees I [102,97,108,115,101] n=true then .ok (.mk 2 0 0 ⟨#[]⟩ [] []) (n+1)
 else if sees I [40] n=true then opn I J n fun A n1=>bracketed I (exprOf I A) n1
 else if sees I [105,102] n=true then opn I J n fun A n1=>choice I (exprOf I A) n1
 else form I J n
def index (I:Inp) (E:Nat→Res Ex) (e:Ex) (n:Nat):Res Ex :=
 (E n).bind fun x n1=>(need I [58] n1).bind fun _ n2=>(E n2).bind fun y n3=>(need I [93] n3).bind fun _ n4=>.ok (.mk 11 0 0 ⟨#[]⟩ [] [e,x,y]) n4
def indices (I:Inp) (J:Option (Nat→Res Ex)):Nat→Ex→Nat→Res Ex
 | 0,e,n=>.ok e n
 | f+1,e,n=>if sees I [91] n=true then (opn I J n fun A n1=>index I (exprOf I A) e n1).bind fun e1 n1=>indices I J f e1 n1 else .ok e n
def signed (A:Nat→Res Ex) (k:Int) (n:Nat):Res Ex:=(A n).bind fun e n1=>.ok (.mk 4 k 0 ⟨#[]⟩ [] [e]) n1
def aheadS (I:Inp) (J:Option (Nat→Res Ex)) (n:Nat):Res Ex :=
 if sees I [45] n=true then opn I J n fun A n1=>signed A 13 n1
 else if sees I [110,111,116] n=true then opn I J n fun A n1=>signed A 14 n1
 else (unit I J n).bind fun e n1=>indices I J (I.L.length-n1) e n1
def ahead (I:Inp):Nat→Nat→Res Ex
 | 0=>aheadS I none
 | d+1=>aheadS I (some (ahead I d))
def expr (I:Inp) (d:Nat):Nat→Res Ex:=exprOf I (ahead I d)
mutual
def count:Ex→Nat
 | .mk _ _ _ _ _ L=>1+countL L
def countL:List Ex→Nat
 | []=>0
 | x :: xs=>count x+countL xs
end
def whole (I:Inp) (n:Nat):Res Ex:=(expr I 60 n).bind fun e n1=>if 30<count e then .err 7 (I.pk n).place else .ok e n1
def call (I:Inp) (at0:Int) (l:List ByteArray) (n:Nat):Res Eqn :=
 (need I [99,97,108,108] n).bind fun _ n1=>(name I n1).bind fun s n2=>
  (if sees I [60] n2=true then (row I (size I) 3 [] (n2+1)).bind fun z n3=>(need I [62] n3).bind fun _ n4=>.ok z n4 else .ok [] n2).bind fun z n5=>
  (need I [40] n5).bind fun _ n6=>
  (if sees I [41] n6=true then .ok [] (n6+1) else (row I (whole I) 30 [] n6).bind fun e n7=>(need I [41] n7).bind fun _ n8=>.ok e n8).bind fun e n9=>
  .ok ⟨at0,l,s,z,e⟩ n9
def equation (I:Inp) (n:Nat):Res Eqn :=
 (row I (name I) 30 [] n).bind fun l n1=>(need I [61] n1).bind fun _ n2=>
  if l.length=1∧sees I [99,97,108,108] n2=false then (whole I n2).bind fun e n3=>.ok ⟨(I.pk n).place,l,⟨#[]⟩,[],[e]⟩ n3 else call I (I.pk n).place l n2
def line (I:Inp) (loc:List De) (eqs:List Eqn) (n:Nat):Res (List De × List Eqn):=
  (if sees I [118,97,114] n=true then if 30≤loc.length then .err 7 (I.pk (n+1)).place else (decl I (n+1)).bind fun d n1=>.ok (loc++[d],eqs) n1
   else if (I.pk n).kind=2∧60≤eqs.length then .err 7 (I.pk n).place else (equation I n).bind fun q n1=>.ok (loc,eqs++[q]) n1).bind fun p n2=>
  (need I [59] n2).bind fun _ n3=>.ok p n3
def lines (I:Inp):Nat→List De→List Eqn→Nat→Res (List De × List Eqn)
 | 0,loc,eqs,n=>.ok (loc,eqs) (n+1)
 | f+1,loc,eqs,n=>if sees I [125] n=true then .ok (loc,eqs) (n+1) else (line I loc eqs n).bind fun p n1=>lines I f p.1 p.2 n1
def node (I:Inp) (n:Nat):Res Nd :=
 (need I [110,111,100,101] n).bind fun _ n1=>(name I n1).bind fun s n2=>
  (if sees I [60] n2=true then (row I (name I) 3 [] (n2+1)).bind fun z n3=>(need I [62] n3).bind fun _ n4=>.ok z n4 else .ok [] n2).bind fun z n5=>
  (need I [40] n5).bind fun _ n6=>
  (if sees I [41] n6=true then .ok [] (n6+1) else (row I (decl I) 30 [] n6).bind fun l n7=>(need I [41] n7).bind fun _ n8=>.ok l n8).bind fun inn n9=>
  (need I [45,62] n9).bind fun _ n10=>(need I [40] n10).bind fun _ n11=>(row I (decl I) 30 [] n11).bind fun out n12=>(need I [41] n12).bind fun _ n13=>(need I [123] n13).bind fun _ n14=>
  (lines I (I.L.length-n14+1) [] [] n14).bind fun p n15=>.ok ⟨s,(I.pk n).place,z,inn,out,p.1,p.2⟩ n15
def nodes (I:Inp):Nat→List Nd→Nat→Res (List Nd)
 | 0,acc,n=>if (I.pk n).kind=0 then .ok acc n else if sees I [110,111,100,101] n=true then .err 7 (I.pk n).place else refuse I n
 | f+1,acc,n=>if (I.pk n).kind=0 then .ok acc n else (node I n).bind fun x n1=>nodes I f (acc++[x]) n1
def program (I:Inp):Res (List Nd):=(node I 0).bind fun x n=>nodes I 9 [x] n
end Ps
def parseT (t:List UInt8):List Nd × Int × Int :=
 match Tk.scan t with
 | (L,c,a)=>if c=0 then match Ps.program ⟨L,t.length⟩ with | .ok l _=>(l,0,0) | .err c a=>([],c,a) else ([],c,a)
end Go.Proofs.YtophfbefnaelfaaGreatDoor
namespace Go.Proofs.YtophfbefnaelfaaGreatDoor
open Go.RowKit Go.IntWalk
theorem enter112 (args:Array Value) (w:World):(callFunc 168 args).run Tryz.prog w=.ok (.enter 168 args) w:=by kernel_rfl
theorem enter115 (args:Array Value) (w:World):(callFunc 171 args).run Tryz.prog w=.ok (.enter 171 args) w:=by kernel_rfl
theorem enter118 (args:Array Value) (w:World):(callFunc 174 args).run Tryz.prog w=.ok (.enter 174 args) w:=by kernel_rfl
theorem enter119 (args:Array Value) (w:World):(callFunc 175 args).run Tryz.prog w=.ok (.enter 175 args) w:=by kernel_rfl
theorem unit_name {b g cap:Nat} {L:List Tk.Tok} {len op nx:Nat} (hk:(peekT L len nx).kind=2) (hn:nx<L.length):Gives 177 b g cap L len op nx (nx+1) (.mk 3 0 0 (str (peekT L len nx).text) [] []):=by
 refine ⟨Nat.le_succ _,fun w h=>?_⟩;have hb:=h.bb;have hg:=h.gb;have hp:=fun o=>@peek_any _ _ _ _ _ _ _ _ (h.alloc o);obtain ⟨t,ht⟩:=nmQ (peekT L len nx);rw [←ht] at hk ⊢;have hp':∀ o,Calls Tryz.prog 91 #[.pointer (some ⟨b,0,none⟩)] (w.alloc o) fun e w'=>e=.returned (.agg #[.int .i64 2,.int .i64 (t.place:Int),.string (str t.text),.int .i64 t.n])∧Below (w.alloc o).heap.size (w.alloc o) w':=by
  intro o;have:=hp o;rw [←ht] at this;unfold tokV at this;rw [hk] at this;exact this
 clear ht hp;go_enter Tryz.func177,Tryz.ntmps177;go_wp2_with fail;refine (hp' _).mono ?_;rintro r w1 ⟨rfl,b1⟩;have z1:w.heap.size+1≤w1.heap.size:=(by simpa using b1.size);have hA1:=(aside b1 (S:=[])).keep (heap_new w _) (by simp) (by simp);have h1:=(h.alloc _).below b1;have A1:=((Aside.refl (S:=[b]) (B:=w.heap.size) w).alloc nR _).trans (aside b1) (by simp);clear b1;go_wp2_with fail;refine (step_any (h1.alloc _) hn).mono ?_;rintro r w2 ⟨rfl,h2,a2⟩;have hA2:=a2.keep (kA hA1 _) (by simp;omega) (by simp;omega);have hT2:=a2.keep (heap_new w1 _) (by simp) (by simp;omega);have A2:=(A1.alloc (by omega) _).trans a2 (by simp;omega);have ct2:=co hT2 2;have ct3:=co hT2 3;have fa:=fun o=>fo hA2 o;have ca0:=co hA2 0;have ca1:=co hA2 1;have ca2:=co hA2 2;have ca3:=co hA2 3;have ca4:=co hA2 4;have ca5:=co hA2 5;simp at ca0 ca1 ca2 ca3 ca4 ca5 ct2 ct3;go_wp2;refine bodyPost_ret (v:=.agg #[.int .i64 3,.int .i64 0,.int .i64 0,.string (str t.text),.slice none 0 0,.slice none 0 0]) (by simp [results,Tryz.results177,go_sem,ca0,ca1,ca2,ca3,ca4,ca5]) rfl ⟨⟨3,0,0,str t.text,none,0,0,none,0,0⟩,rfl,HEx.leaf _ _ _ _,?_,?_⟩
 ·exact (((((h2.set (by simp;omega) (by simp;omega) _).set (by simp;omega) (by simp;omega) _).set (by simp;omega) (by simp;omega) _).set (by simp;omega) (by simp;omega) _).set (by simp;omega) (by simp;omega) _).set (by simp;omega) (by simp;omega) _
 ·exact (((((A2.set (by simp) _).set (by simp) _).set (by simp) _).set (by simp) _).set (by simp) _).set (by simp) _
theorem unit_num {b g cap:Nat} {L:List Tk.Tok} {len op nx:Nat} (hk:(peekT L len nx).kind=3) (hn:nx<L.length):Gives 177 b g cap L len op nx (nx+1) (.mk 1 0 (peekT L len nx).n ⟨#[]⟩ [] []):=by
 refine ⟨Nat.le_succ _,fun w h=>?_⟩;have hb:=h.bb;have hg:=h.gb;have hp:=fun o=>@peek_any _ _ _ _ _ _ _ _ (h.alloc o);obtain ⟨t,ht⟩:=nmQ (peekT L len nx);rw [←ht] at hk ⊢;have hp':∀ o,Calls Tryz.prog 91 #[.pointer (some ⟨b,0,none⟩)] (w.alloc o) fun e w'=>e=.returned (.agg #[.int .i64 3,.int .i64 (t.place:Int),.string (str t.text),.int .i64 t.n])∧Below (w.alloc o).heap.size (w.alloc o) w':=by
  intro o;have:=hp o;rw [←ht] at this;unfold tokV at this;rw [hk] at this;exact this
 clear ht hp;go_enter Tryz.func177,Tryz.ntmps177;go_wp2_with fail;refine (hp' _).mono ?_;rintro r w1 ⟨rfl,b1⟩;have z1:w.heap.size+1≤w1.heap.size:=(by simpa using b1.size);have hA1:=(aside b1 (S:=[])).keep (heap_new w _) (by simp) (by simp);have h1:=(h.alloc _).below b1;have A1:=((Aside.refl (S:=[b]) (B:=w.heap.size) w).alloc nR _).trans (aside b1) (by simp);clear b1;go_wp2_with fail;refine (step_any (h1.alloc _) hn).mono ?_;rintro r w2 ⟨rfl,h2,a2⟩;have hA2:=a2.keep (kA hA1 _) (by simp;omega) (by simp;omega);have hT2:=a2.keep (heap_new w1 _) (by simp) (by simp;omega);have A2:=(A1.alloc (by omega) _).trans a2 (by simp;omega);have ct2:=co hT2 2;have ct3:=co hT2 3;have fa:=fun o=>fo hA2 o;have ca0:=co hA2 0;have ca1:=co hA2 1;have ca2:=co hA2 2;have ca3:=co hA2 3;have ca4:=co hA2 4;have ca5:=co hA2 5;simp at ca0 ca1 ca2 ca3 ca4 ca5 ct2 ct3;go_wp2;refine bodyPost_ret (v:=.agg #[.int .i64 1,.int .i64 0,.int .i64 t.n,.string ⟨#[]⟩,.slice none 0 0,.slice none 0 0]) (by simp [results,Tryz.results177,go_sem,ca0,ca1,ca2,ca3,ca4,ca5]) rfl ⟨⟨1,0,t.n,⟨#[]⟩,none,0,0,none,0,0⟩,rfl,HEx.leaf _ _ _ _,?_,?_⟩
 ·exact (((((h2.set (by simp;omega) (by simp;omega) _).set (by simp;omega) (by simp;omega) _).set (by simp;omega) (by simp;omega) _).set (by simp;omega) (by simp;omega) _).set (by simp;omega) (by simp;omega) _).set (by simp;omega) (by simp;omega) _
 ·exact (((((A2.set (by simp) _).set (by simp) _).set (by simp) _).set (by simp) _).set (by simp) _).set (by simp) _
end Go.Proofs.YtophfbefnaelfaaGreatDoor
namespace Go.Proofs.YtophfbefnaelfaaGreatDoor
open Go.RowKit Go.IntWalk
def ExAt (w:World) (b o:Nat) (y:ExV):Prop :=
 w.cell? ⟨b,o,none⟩=some (.int .i64 y.op)∧w.cell? ⟨b,o+1,none⟩=some (.int .i64 y.k)∧w.cell? ⟨b,o+2,none⟩=some (.int .i64 y.n) ∧
 w.cell? ⟨b,o+3,none⟩=some (.string y.name)∧w.cell? ⟨b,o+4,none⟩=some (.slice y.aS y.nS y.cS)∧w.cell? ⟨b,o+5,none⟩=some (.slice y.aL y.nL y.cL)
theorem ExAt.keep {w w':World} {b o:Nat} {y:ExV} (h:ExAt w b o y) (hb:w'.heap[b]?=w.heap[b]?):ExAt w' b o y:=by
 have hc:∀ q,w'.cell? ⟨b,q,none⟩=w.cell? ⟨b,q,none⟩:=fun q=>World.cell?_of_block (w:=w) hb;obtain ⟨h0,h1,h2,h3,h4,h5⟩:=h;exact ⟨(hc _).trans h0,(hc _).trans h1,(hc _).trans h2,(hc _).trans h3,(hc _).trans h4,(hc _).trans h5⟩
theorem Sl.exAt {ok:Nat→Prop} {w:World} {v:Value} {L:List Ex} {C:Nat→List Value} (hL:Sl ok 6 w v L.length C) (hE:∀ i (h:i<L.length),HEx ok w (C i) L[i]) :
  ∃ ao cap,v=.slice ao L.length cap∧L.length≤cap∧cap≤maxLen∧∀ i (h:i<L.length),∃ b o y,ao=some ⟨b,o,none⟩∧ok b∧b<w.heap.size∧ExAt w b (o+i*6) y∧HEx ok w y.cells L[i]:=by
 obtain ⟨ao,cap,hv,h1,h2,h3⟩:=hL;refine ⟨ao,cap,hv,h1,h2,fun i hi=>?_⟩;obtain ⟨b,o,ha,hob,hb,hc⟩:=h3 (by omega);obtain ⟨y,hy,hex⟩:=(hE i hi).toV;have hcc:=(hc i hi).2;rw [hy] at hcc;exact ⟨b,o,y,ha,hob,hb,⟨hcc 0 (by decide),hcc 1 (by decide),hcc 2 (by decide),hcc 3 (by decide),hcc 4 (by decide),hcc 5 (by decide)⟩,hex⟩
mutual
def parts:Ex→Nat
 | .mk _ _ _ _ _ L=>1+partsL L
def partsL:List Ex→Nat
 | []=>0
 | e :: l=>parts e+partsL l
end
theorem partsL_take:∀ (L:List Ex) (i:Nat) (h:i<L.length),partsL (L.take (i+1))=partsL (L.take i)+parts L[i]
 | [],i,h=>by simp at h
 | e :: L,0,h=>by simp [partsL]
 | e :: L,i+1,h=>by
  have:=partsL_take L i (by simpa using h);simp [partsL] at this ⊢;omega
theorem partsL_le:∀ (L:List Ex) (i:Nat),partsL (L.take i)≤partsL L
 | [],i=>by simp [partsL]
 | e :: L,0=>by simp [partsL]
 | e :: L,i+1=>by have:=partsL_le L i;simp [partsL];omega
theorem parts_mem:∀ (L:List Ex) (i:Nat) (h:i<L.length),parts L[i]≤partsL L:=fun L i h=>by
 have h1:=partsL_take L i h;have h2:=partsL_le L (i+1);omega
theorem countParts_any:∀ (n:Nat) (e:Ex),parts e≤n→n≤1099511627776→∀ (ok:Nat→Prop) (x:ExV) (w:World),HEx ok w x.cells e →
  Calls Tryz.prog 165 #[.agg #[.int .i64 x.op,.int .i64 x.k,.int .i64 x.n,.string x.name,.slice x.aS x.nS x.cS,.slice x.aL x.nL x.cL]] w fun r w'=>r=.returned (.int .i64 (parts e:Int))∧Below w.heap.size w w'
 | 0,.mk _ _ _ _ _ L,hn,_,_,_,_,_=>by simp [parts] at hn
 | n+1,.mk op k nn name S L,hn,hbig,ok,x,w,hx=>by
  obtain ⟨oo,kk,nv,nm,aS,nS,cS,aL,nL,cL⟩:=x;have hp:1+partsL L≤n+1:=(by simpa [parts] using hn);rw [parts];have HI:∀ e,parts e≤n→∀ (ok:Nat→Prop) (x:ExV) (w:World),HEx ok w x.cells e →
   Calls Tryz.prog 165 #[.agg #[.int .i64 x.op,.int .i64 x.k,.int .i64 x.n,.string x.name,.slice x.aS x.nS x.cS,.slice x.aL x.nL x.cL]] w fun r w'=>r=.returned (.int .i64 (parts e:Int))∧Below w.heap.size w w':=
   fun e he=>countParts_any n e he (by omega)
  cases hx with
  | @mk _ _ _ _ _ _ _ _ C hS hL hE=>
   obtain ⟨ao,cap,hv,hc1,hc2,hat⟩:=hL.exAt hE;injection hv with q1 q2 q3;subst q1 q2 q3;have hcm:=hc2;unfold maxLen at hcm;go_enter Tryz.func165,Tryz.ntmps165;go_wp2;go_loopg [3,9] L.length (fun q v3 v9 wr=>∃ i,i≤L.length∧q=L.length-i∧v9=.int .i64 (i:Nat)∧v3=.int .i64 ((1+partsL (L.take i):Nat):Int)∧Below w.heap.size w wr)
   case atStart=>exact ⟨0,Nat.zero_le _,rfl,rfl,by simp [partsL],(Below.refl _ w).alloc nR _⟩
   case round=>
    obtain ⟨i,hi,rfl,rfl,rfl,hbr⟩:=hrel;by_cases hlt:i<L.length
    ·obtain ⟨b,o,y,rfl,_,hb,hxa,hy⟩:=hat i hlt
     obtain ⟨c0,c1,c2,c3,c4,c5⟩:=hxa.keep (hbr.block b hb);have ht:=partsL_take L i hlt;have hl:=partsL_le L (i+1);have hy':=(hy.under hbr).under ((Below.refl _ wr).alloc nR (.cells #[.int .i64 y.op,.int .i64 y.k,.int .i64 y.n,.string y.name,.slice y.aS y.nS y.cS,.slice y.aL y.nL y.cL] 88 (0,0)));go_wp2_with fail;refine (HI L[i] (by have:=parts_mem L i hlt;omega) ok y _ hy').mono ?_;rintro r w2 ⟨rfl,b2⟩;have hb2:Below w.heap.size w w2:=(hbr.alloc hbr.size _).trans (b2.mono (by have:=hbr.size;simp;omega));have HT:=hide ht;have HL:=hide hl;clear ht hl hy' hat HI;go_wp2;go_roundg (L.length-(i+1))
     case measure=>omega
     case rel=>
      have ht:=HT.out;have hl:=HL.out;rw [ht] at hl;exact ⟨i+1,by omega,rfl,by go_num,by rw [ht,wrap64_in _ (by omega)];go_num,hb2⟩
    ·have hie:i=L.length:=by omega
     subst hie;clear hat HI;go_wp2;go_ret;exact ⟨ret_int (by rw [List.take_length]),hbr⟩
theorem whole_ok {b g cap:Nat} {L:List Tk.Tok} {len op nx n1:Nat} {e:Ex} (hG:Gives 164 b g cap L len op nx n1 e) (hp:parts e≤30):Gives 153 b g cap L len op nx n1 e:=by
 refine ⟨hG.1,fun w h=>?_⟩;have hb:=h.bb;have hg:=h.gb;have hf:=fun t x w=>tokF1 t x w;have hd:decide ((30:Int)<(parts e:Int))=false:=(by simp;omega);go_enter Tryz.func153,Tryz.ntmps153;go_wp2_with fail;refine (peek_any (h.alloc _)).mono ?_;unfold tokV;rintro r w1 ⟨rfl,b1⟩;have h1:=(h.alloc _).below b1;have z1:w.heap.size+1≤w1.heap.size:=(by simpa using b1.size);have hA1:=(aside b1 (S:=[])).keep (heap_new w _) (by simp) (by simp);have A1:=((Aside.refl (S:=[b]) (B:=w.heap.size) w).alloc nR _).trans (aside b1) (by simp);clear b1;go_wp2_with fail;refine (hG.2 _ h1).mono ?_;rintro r w3 ⟨y,rfl,he3,h3,a3⟩;have z3:=a3.size;have hA3:=a3.keep hA1 (lt_of hA1) (by simp;omega);have A3:=A1.trans a3 (by omega);have he3':=(he3.wide (ok':=fun i=>w.heap.size<i) (fun i hi hl=>by omega)).under ((Below.refl _ w3).alloc nR (.cells #[.int .i64 y.op,.int .i64 y.k,.int .i64 y.n,.string y.name,.slice y.aS y.nS y.cS,.slice y.aL y.nL y.cL] 88 (0,0)));clear a3 hA1 A1 he3;go_wp2_with fail;refine (countParts_any 30 e hp (by decide) _ y _ he3').mono ?_;rintro r w4 ⟨rfl,b4⟩;have z4:w3.heap.size+1≤w4.heap.size:=(by simpa using b4.size);have h4:=(h3.alloc _).below b4;have hA4:=(aside b4 (S:=[])).keep (kA hA3 _) (by simp;omega) (by simp);have hB4:=(aside b4 (S:=[])).keep (heap_new w3 _) (by simp) (by simp);have A4:=(A3.alloc (by omega) _).trans (aside b4) (by simp;omega);have he4:=he3'.under b4;clear b4;have fa:=fun o=>fo hA4 o;have ca0:=co hA4 0;have ca1:=co hA4 1;have ca2:=co hA4 2;have ca3:=co hA4 3;have ca4:=co hA4 4;have ca5:=co hA4 5;have cb0:=co hB4 0;have cb1:=co hB4 1;have cb2:=co hB4 2;have cb3:=co hB4 3;have cb4:=co hB4 4;have cb5:=co hB4 5;simp at ca0 ca1 ca2 ca3 ca4 ca5 cb0 cb1 cb2 cb3 cb4 cb5;go_wp2;refine bodyPost_ret (v:=.agg #[.int .i64 y.op,.int .i64 y.k,.int .i64 y.n,.string y.name,.slice y.aS y.nS y.cS,.slice y.aL y.nL y.cL]) (by simp [results,Tryz.results153,go_sem,ca0,ca1,ca2,ca3,ca4,ca5]) rfl ⟨y,rfl,?_,?_,?_⟩
 ·exact ((((((he4.set (by simp) _).set (by simp) _).set (by simp) _).set (by simp) _).set (by simp) _).set (by simp) _).wide (fun i hi _=>Nat.le_of_lt hi)
 ·exact (((((h4.set (by simp;omega) (by simp;omega) _).set (by simp;omega) (by simp;omega) _).set (by simp;omega) (by simp;omega) _).set (by simp;omega) (by simp;omega) _).set (by simp;omega) (by simp;omega) _).set (by simp;omega) (by simp;omega) _
 ·exact (((((A4.set (by simp) _).set (by simp) _).set (by simp) _).set (by simp) _).set (by simp) _).set (by simp) _
end Go.Proofs.YtophfbefnaelfaaGreatDoor
