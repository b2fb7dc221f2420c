import Derived.Test.YtkfgbhlpjkkgfaaGreatDoorT19
import Derived.Lib.BufferRead
import Derived.Test.YtkfgbhlpjkkgfaaGreatDoorT02
import Derived.Test.YtkfgbhlpjkkgfaaGreatDoorT13
import Derived.Test.YtkfgbhlpjkkgfaaGreatDoorT12
set_option linter.unusedVariables false
set_option linter.unusedSimpArgs false
set_option maxHeartbeats 64000000
set_option maxRecDepth 100000
namespace Go.Proofs.YtkfgbhlpjkkgfaaGreatDoor
open Go.RowKit Go.IntWalk
theorem under5:Tryz.prog.underlying 5=some (.int .u8):=by kernel_rfl
theorem own_text {w:World} {base:Nat} {t:ByteArray} {a:Option Addr} {c:Nat} (h:w.ownsRow base 5 1 (.slice a t.size c) t.size (Lib.strCells t)) :
  (convert 129 9 (.slice a t.size c)).run Tryz.prog w=.ok (.string t) w:=by
 rcases h.2 with ⟨hv,h0⟩ | ⟨g,cap,aR,hv,hb,hg,eR,eV,gq,g7⟩
 ·injection hv with e1 e2 e3
  subst e1;have ht:t=⟨#[]⟩:=ByteArray.ext (Array.eq_empty_of_size_eq_zero h0);subst ht;exact Lib.run_convert_nil_bytes w 129 9 5 c under61 under5 under9
 ·injection hv with e1 e2 e3
  subst e1 e3;have hl:t.data.toList.length=t.size:=(by rw [Array.length_toList];rfl);have hc:∀ j (hj:j<t.data.toList.length),w.cell? ((⟨g,0,none⟩:Addr).add j)=some (.int .u8 (t.data.toList[j].toNat:Int)):=fun j hj=>by
   have dn:(⟨g,0,none⟩:Addr).add j=⟨g,j,none⟩:=by unfold Addr.add;split<;>simp_all
   rw [dn,co hg];have eJ:j<t.size:=(by omega);have e:(aR.toList.take (t.size*1))[j]?=(Lib.strCells t)[j]?:=(by rw [g7]);rw [List.getElem?_take_of_lt (by omega)] at e;rw [<-Array.getElem?_toList,e];simp [Lib.strCells,List.getElem?_eq_getElem hj]
  have:=run_convert_bytes_back (P:=Tryz.prog) w 129 9 5 ⟨g,0,none⟩ c t.data.toList under61 under5 under9 hc;rw [hl] at this
  simpa using this
theorem print_any {ok:Nat->Prop} {w:World} {v:Value} {l:List Nd} (hl:HNds ok w v l) (hg:Gl (fun i=>i<w.heap.size) w) (hF:Rn.nsF l) :
  Calls Tryz.prog 51 #[.agg #[v]] w fun e w'=>e=.returned (.tuple #[.string (Tx.printT l),.agg #[.int .i64 (Tx.printC l).1,.int .i64 (Tx.printC l).2]])/\Below w.heap.size w w':=by
 obtain ⟨ao,cap,rfl,aC,av,_⟩:=hl.at;unfold maxLen at av;have bW:Below w.heap.size w ((w.alloc (.cells #[.slice ao l.length cap] 24 (0,0))).alloc (.cells #[.int .i64 0,.int .i64 0] 29 (0,0))):=((Below.refl _ _).alloc nR _).alloc (by simp) _;have rc:=zFL (hl.under bW) (hg.s.under bW) hF;obtain ⟨T,hT⟩:=nmQ (Tx.printT l);obtain ⟨C,hC⟩:=nmQ (Tx.printC l);rw [<-hT,<-hC];unfold Tx.printT at hT;rw [<-hC] at hT;unfold Tx.printC at hC;have HT:=zAA hT;have HC:=zAA hC;clear hT hC;have sJ:=zAA (@nodesC_ok l);generalize Rn.nodesC l=cc at rc HC sJ;obtain ⟨cd,ca⟩:=cc
 dsimp only at rc
 have dB:((w.alloc (.cells #[.slice ao l.length cap] 24 (0,0))).alloc (.cells #[.int .i64 0,.int .i64 0] 29 (0,0))).heap.size=w.heap.size+2:=(by simp);have Lg:((w.alloc (.cells #[.slice ao l.length cap] 24 (0,0))).alloc (.cells #[.int .i64 0,.int .i64 0] 29 (0,0))).heap[w.heap.size]?=some (.cells #[.slice ao l.length cap] 24 (0,0)):=(Below.heap_alloc _ _ _ (by simp)).trans (zAC w _);have xM:((w.alloc (.cells #[.slice ao l.length cap] 24 (0,0))).alloc (.cells #[.int .i64 0,.int .i64 0] 29 (0,0))).heap[w.heap.size+1]?=some (.cells #[.int .i64 0,.int .i64 0] 29 (0,0)):=by
  have:=zAC (w.alloc (.cells #[.slice ao l.length cap] 24 (0,0))) (.cells #[.int .i64 0,.int .i64 0] 29 (0,0))
  simpa using this
 go_enter Tryz.func51,Tryz.ntmps51;go_wp2_with fail;refine rc.mono ?_;rintro e w1 ⟨rfl,b1⟩;have B1:=bW.trans (b1.mono (by rw [dB];omega));have KA:=(b1.block _ (by rw [dB];omega)).trans Lg;have KB:=(b1.block _ (by rw [dB];omega)).trans xM;have z1:=b1.size;rw [dB] at z1;clear rc Lg xM dB;have pa:=co KA 0;have rT:=co KB 0;have r8:=co KB 1;have CQ:=fo KB 0;have Cs:=fo KB 1;simp at pa rT r8;have bF:Below w1.heap.size w1 (w1.alloc (.cells #[.int .i64 cd,.int .i64 ca] 29 (0,0))):=(Below.refl _ _).alloc nR _;have Du:=(bF.block _ (zAB KA)).trans KA;have ln:=(bF.block _ (zAB KB)).trans KB;have zF:(w1.alloc (.cells #[.int .i64 cd,.int .i64 ca] 29 (0,0))).heap.size=w1.heap.size+1:=(by simp);have BF:=B1.trans (bF.mono B1.size);have KF:=zAC w1 (.cells #[.int .i64 cd,.int .i64 ca] 29 (0,0));have cG:w1.heap.size≠w.heap.size+1:=(by omega);clear pa rT r8 CQ Cs;by_cases hc:cd=0
 case neg=>
  have uZ:(cd != 0)=true:=(by simp [hc]);go_upto_region 3 with fail;generalize (w1.alloc (.cells #[.int .i64 cd,.int .i64 ca] 29 (0,0)))=W at Du ln zF BF KF ⊢;have rT:=co ln 0;have r8:=co ln 1;have CQ:=fo ln 0;have Cs:=fo ln 1;have Mu:=co KF 0;have Mi:=co KF 1;simp at rT r8 Mu Mi;have rQ:C=(cd,ca):=(by rw [HC.out,if_pos hc]);have pm:T=⟨#[]⟩:=(by rw [HT.out,if_pos (by rw [rQ];exact hc)];rfl);clear HC HT;subst rQ pm
  go_region
  have KR:((W.setCell ⟨w.heap.size+1,0,none⟩ (.int .i64 cd)).setCell ⟨w.heap.size+1,1,none⟩ (.int .i64 ca)).drew.heap[w.heap.size+1]?=some (.cells #[.int .i64 cd,.int .i64 ca] 29 (0,0)):=zAD (zAD ln 0 (.int .i64 cd)) 1 (.int .i64 ca);have BR:Below w.heap.size w ((W.setCell ⟨w.heap.size+1,0,none⟩ (.int .i64 cd)).setCell ⟨w.heap.size+1,1,none⟩ (.int .i64 ca)).drew:=((BF.setCell (by simp) _).setCell (by simp) _).drew;generalize ((W.setCell ⟨w.heap.size+1,0,none⟩ (.int .i64 cd)).setCell ⟨w.heap.size+1,1,none⟩ (.int .i64 ca)).drew=WR at KR BR ⊢;have r0:=co KR 0;have r1:=co KR 1;simp at r0 r1;go_wp2;exact bodyPost_ret (v:=.tuple #[.string ⟨#[]⟩,.agg #[.int .i64 cd,.int .i64 ca]]) (by simp [results,Tryz.results51,go_sem,r0,r1]) rfl ⟨rfl,BR⟩
 case pos=>
  subst hc;go_upto_region 4 with fail;generalize (w1.alloc (.cells #[.int .i64 0,.int .i64 ca] 29 (0,0)))=W at Du ln zF BF KF ⊢;have hw:=Wr.init W;have bN:Below W.heap.size W (W.alloc (.cells #[.slice none 0 0] 131 (0,0))):=(Below.refl _ _).alloc nR _;have BN:=BF.trans (bN.mono BF.size);have qu:=(bN.block _ (zAB Du)).trans Du;have JZ:=(bN.block _ (zAB ln)).trans ln;have tV:Gl (fun i=>i<W.heap.size) (W.alloc (.cells #[.slice none 0 0] 131 (0,0))):=by
   have g:=hg.keep (Keep.ofBelow BN);have:=BF.size;exact ⟨g.s,g.o,g.t,Nat.lt_of_lt_of_le hg.k0 this,Nat.lt_of_lt_of_le hg.k1 this,Nat.lt_of_lt_of_le hg.k2 this⟩
  have LP:HNds (fun i=>i<W.heap.size) (W.alloc (.cells #[.slice none 0 0] 131 (0,0))) (.slice ao l.length cap) l:=(hl.wide (ok':=fun i=>i<W.heap.size) (fun i _ hi=>Nat.lt_of_lt_of_le hi BF.size)).under BN;clear zF;have yT:=programW_any hw tV LP (sJ.out (by simp));have pa:=co qu 0;simp at pa;go_wp2_with fail;refine yT.mono ?_;rintro e w2 ⟨rfl,h2,k2⟩;have xe:=(k2.block _ (show w.heap.size+1<W.heap.size from zAB ln) (zAB JZ)).trans JZ;have BZ:Below w.heap.size w w2:=BN.trans ⟨k2.os,k2.tape,k2.output,k2.size,fun i hi=>k2.block i (Nat.lt_of_lt_of_le hi BF.size) (Nat.lt_of_lt_of_le hi BN.size)⟩;have rT:=co xe 0;have r8:=co xe 1;have CQ:=fo xe 0;have Cs:=fo xe 1;simp at rT r8;have dt:=zFN h2;have hX:(Tx.cat (Tx.progP l)).size=ByteArray.empty.size+(Tx.cat (Tx.progP l)).size:=(by simp);by_cases hf:12000<(Tx.cat (Tx.progP l)).size
  ·have Bq:=Tx.puts_over (Tx.progP l) ByteArray.empty (by rw [<-hX];exact hf)
   rw [show decide (12000<(Tx.puts ByteArray.empty (Tx.progP l)).size)=true by simp [Bq]] at dt;have rQ:C=(7,-1):=(by rw [HC.out,if_neg (by simp),if_pos hf]);have pm:T=⟨#[]⟩:=(by rw [HT.out,if_pos (by rw [rQ];decide)];rfl);clear HC HT hX;subst rQ pm;have KR:((w2.setCell ⟨w.heap.size+1,0,none⟩ (.int .i64 7)).setCell ⟨w.heap.size+1,1,none⟩ (.int .i64 (-1))).heap[w.heap.size+1]?=some (.cells #[.int .i64 7,.int .i64 (-1)] 29 (0,0)):=zAD (zAD xe 0 (.int .i64 7)) 1 (.int .i64 (-1));have BR:Below w.heap.size w ((w2.setCell ⟨w.heap.size+1,0,none⟩ (.int .i64 7)).setCell ⟨w.heap.size+1,1,none⟩ (.int .i64 (-1))):=((BZ.setCell (by simp) _).setCell (by simp) _);have r0:=co KR 0;have r1:=co KR 1;simp at r0 r1;go_wp2_with fail;refine dt.mono ?_;rintro e w3 ⟨rfl,rfl⟩;go_wp2;exact bodyPost_ret (v:=.tuple #[.string ⟨#[]⟩,.agg #[.int .i64 7,.int .i64 (-1)]]) (by simp [results,Tryz.results51,go_sem,r0,r1]) rfl ⟨rfl,BR⟩
  ·have Bq:=Tx.puts_fit (Tx.progP l) ByteArray.empty (by rw [<-hX];omega)
   rw [ByteArray.empty_append] at Bq;rw [Bq] at dt h2;rw [show decide (12000<(Tx.cat (Tx.progP l)).size)=false by simp [hf]] at dt;have rQ:C=(0,0):=(by rw [HC.out,if_neg (by simp),if_neg hf]);have pm:T=Tx.cat (Tx.progP l):=(by rw [HT.out,if_neg (by rw [rQ];decide)]);clear HC HT hX;subst rQ;rw [<-pm] at h2;clear pm Bq hf;obtain ⟨a,c,hc,Ci,CO,ah,lL,mb⟩:=h2.form;have Kh:=own_text ah;have KR:((w2.setCell ⟨w.heap.size+1,0,none⟩ (.int .i64 0)).setCell ⟨w.heap.size+1,1,none⟩ (.int .i64 0)).heap[w.heap.size+1]?=some (.cells #[.int .i64 0,.int .i64 0] 29 (0,0)):=zAD (zAD xe 0 (.int .i64 0)) 1 (.int .i64 0);have BR:Below w.heap.size w ((w2.setCell ⟨w.heap.size+1,0,none⟩ (.int .i64 0)).setCell ⟨w.heap.size+1,1,none⟩ (.int .i64 0)):=((BZ.setCell (by simp) _).setCell (by simp) _);have r0:=co KR 0;have r1:=co KR 1;simp at r0 r1;go_wp2_with fail;refine dt.mono ?_;rintro e w3 ⟨rfl,rfl⟩;go_wp2;exact bodyPost_ret (v:=.tuple #[.string T,.agg #[.int .i64 0,.int .i64 0]]) (by simp [results,Tryz.results51,go_sem,r0,r1]) rfl ⟨rfl,BR⟩
end Go.Proofs.YtkfgbhlpjkkgfaaGreatDoor
namespace Go.Proofs.YtkfgbhlpjkkgfaaGreatDoor
inductive Res (α:Type) where
 | ok (v:α) (n:Nat)
 | err (c a:Nat)
def Res.bind {α β:Type}:Res α->(α->Nat->Res β)->Res β
 | .ok v n,k=>k v n
 | .err c a,_=>.err c a
structure Inp where
 L:List Tk.Tok
 len:Nat
def Inp.pk (I:Inp) (n:Nat):Tk.Tok:=peekT I.L I.len n
namespace Ps
def sees (I:Inp) (s:List UInt8) (n:Nat):Bool:=(I.pk n).text==s
def refC (I:Inp) (n:Nat):Nat:=if (I.pk n).kind=0 then 5 else 4
def refuse {α:Type} (I:Inp) (n:Nat):Res α:=.err (refC I n) (I.pk n).place
def need (I:Inp) (s:List UInt8) (n:Nat):Res Unit:=if sees I s n=true then .ok () (n+1) else refuse I n
def name (I:Inp) (n:Nat):Res ByteArray:=if (I.pk n).kind=2 then .ok (str (I.pk n).text) (n+1) else refuse I n
def row {α:Type} (I:Inp) (read:Nat->Res α):Nat->List α->Nat->Res (List α)
 | 0,_,n=>.err 7 (I.pk n).place
 | f+1,acc,n=>(read n).bind fun v n1=>if sees I [44] n1=true then row I read f (acc++[v]) (n1+1) else .ok (acc++[v]) n1
def sg (minus:Bool) (x:Int):Int:=if minus=true then RowKit.wrap64 (-x) else x
def term (I:Inp) (minus:Bool) (n:Nat):Res Tm :=
 if (I.pk n).kind=3 then
  if sees I [42] (n+1)=true then (name I (n+2)).bind fun s n1=>.ok (sg minus (I.pk n).n,s) n1 else .ok (sg minus (I.pk n).n,⟨#[]⟩) (n+1)
 else (name I n).bind fun s n1=>.ok (sg minus 1,s) n1
def terms (I:Inp):Nat->List Tm->Nat->Res (List Tm)
 | 0,acc,n=>if sees I [43] n=true\/sees I [45] n=true then .err 7 (I.pk n).place else .ok acc n
 | f+1,acc,n=>if sees I [43] n=true\/sees I [45] n=true then (term I (sees I [45] n) (n+1)).bind fun t n1=>terms I f (acc++[t]) n1 else .ok acc n
def size (I:Inp) (n:Nat):Res (List Tm) :=
 (term I (sees I [45] n) (if sees I [45] n=true then n+1 else n)).bind fun t n1=>terms I 29 [t] n1
def declN (I:Inp) (s:ByteArray) (e:Int) (n:Nat):Res De:=if sees I [94] n=true then (size I (n+1)).bind fun z n1=>.ok ⟨s,e,z⟩ n1 else .ok ⟨s,e,[]⟩ n
def decl (I:Inp) (n:Nat):Res De :=
 (name I n).bind fun s n1=>(need I [58] n1).bind fun _ n2=>
  if sees I [105,110,116] n2=true then declN I s 105 (n2+1) else if sees I [98,111,111,108] n2=true then declN I s 98 (n2+1) else refuse I n2
def more (I:Inp) (R:Nat->Res Ex) (a c:Int):Nat->Ex->Nat->Res Ex
 | 0,e,n=>.ok e n
 | f+1,e,n=>if btw a c (I.pk n).text=0 then .ok e n else (R (n+1)).bind fun r n1=>more I R a c f (.mk 5 (btw a c (I.pk n).text) 0 ⟨#[]⟩ [] [e,r]) n1
def fromLeft (I:Inp) (R:Nat->Res Ex) (a c:Int) (n:Nat):Res Ex:=(R n).bind fun e n1=>more I R a c (I.L.length-n1) e n1
def cmp (I:Inp) (R:Nat->Res Ex) (n:Nat):Res Ex :=
 (R n).bind fun e n1=>if btw 8 9 (I.pk n1).text=0 then .ok e n1 else (R (n1+1)).bind fun r n2=>.ok (.mk 5 (btw 8 9 (I.pk n1).text) 0 ⟨#[]⟩ [] [e,r]) n2
def sum (I:Inp) (A:Nat->Res Ex):Nat->Res Ex:=fromLeft I (fromLeft I A 3 5) 1 2
def exprOf (I:Inp) (A:Nat->Res Ex):Nat->Res Ex:=fromLeft I (fromLeft I (cmp I (sum I A)) 10 10) 11 12
def opn (I:Inp) (J:Option (Nat->Res Ex)) (n:Nat) (k:(Nat->Res Ex)->Nat->Res Ex):Res Ex :=
 match J with
 | none=>.err 6 (I.pk n).place
 | some A=>k A (n+1)
def words:List (List UInt8):=[[97,100,100],[115,117,98],[109,117,108],[100,105,118],[109,111,100],[109,105,110],[109,97,120],[108,101,115,115],[101,113],[97,110,100],[111,114],[120,111,114],[110,101,103],[110,111,116]]
def wordAt (I:Inp) (n:Nat):List (List UInt8)->Int->Option Int
 | [],_=>none
 | x :: xs,k=>if sees I x n=true then some k else wordAt I n xs (k+1)
def oper (I:Inp) (n:Nat):Res Int:=match wordAt I n words 1 with | some k=>.ok k (n+1) | none=>refuse I n
inductive Pt where
 | part | size | oper | oneOrTwo
def Ex.addL (e:Ex) (x:Ex):Ex:=.mk e.op e.k e.n e.name e.S (e.L++[x])
def Ex.addS (e:Ex) (s:List Tm):Ex:=.mk e.op e.k e.n e.name (e.S++[s]) e.L
def Ex.setK (e:Ex) (k:Int):Ex:=.mk e.op k e.n e.name e.S e.L
def part (I:Inp) (E:Nat->Res Ex) (p:Pt) (e:Ex) (n:Nat):Res Ex :=
 match p with
 | .part=>(E n).bind fun x n1=>.ok (Ex.addL e x) n1
 | .size=>(size I n).bind fun s n1=>.ok (Ex.addS e s) n1
 | .oper=>(oper I n).bind fun k n1=>.ok (Ex.setK e k) n1
 | .oneOrTwo=>(E n).bind fun x n1=>if sees I [44] n1=true then (E (n1+1)).bind fun y n2=>.ok (Ex.addL (Ex.addL e x) y) n2 else .ok (Ex.addL e x) n1
def parts (I:Inp) (E:Nat->Res Ex):List Pt->Ex->Nat->Res Ex
 | [],e,n=>.ok e n
 | p :: ps,e,n=>(need I [44] n).bind fun _ n1=>(part I E p e n1).bind fun e1 n2=>parts I E ps e1 n2
def brackets (I:Inp) (E:Nat->Res Ex) (p:Pt) (ps:List Pt) (e:Ex) (n:Nat):Res Ex :=
 (need I [40] n).bind fun _ n1=>(part I E p e n1).bind fun e1 n2=>(parts I E ps e1 n2).bind fun e2 n3=>(need I [41] n3).bind fun _ n4=>.ok e2 n4
def bare (op k:Int):Ex:=.mk op k 0 ⟨#[]⟩ [] []
def form (I:Inp) (J:Option (Nat->Res Ex)) (n:Nat):Res Ex :=
 let go (op k:Int) (p:Pt) (ps:List Pt):Res Ex:=opn I J n fun A n1=>brackets I (exprOf I A) p ps (bare op k) n1
 if sees I [109,105,110] n=true then go 5 6 .part [.part]
 else if sees I [109,97,120] n=true then go 5 7 .part [.part]
 else if sees I [109,97,112] n=true then go 7 0 .oper [.oneOrTwo]
 else if sees I [102,111,108,100] n=true then go 8 0 .oper [.part,.part]
 else if sees I [115,99,97,110] n=true then go 9 0 .oper [.part,.part]
 else if sees I [102,105,108,108] n=true then go 10 0 .part [.size]
 else if sees I [119,105,116,104] n=true then go 12 0 .part [.part,.part]
 else if sees I [115,108,105,99,101] n=true then go 13 0 .part [.size,.size]
 else if sees I [99,97,116] n=true then go 14 0 .part [.part]
 else if sees I [112,114,101] n=true then go 15 0 .part [.part]
 else refuse I n
def bracketed (I:Inp) (E:Nat->Res Ex) (n:Nat):Res Ex:=(E n).bind fun e n1=>(need I [41] n1).bind fun _ n2=>.ok e n2
def choice (I:Inp) (E:Nat->Res Ex) (n:Nat):Res Ex :=
 (E n).bind fun t n1=>(need I [116,104,101,110] n1).bind fun _ n2=>(E n2).bind fun y n3=>(need I [101,108,115,101] n3).bind fun _ n4=>(E n4).bind fun z n5=>
  .ok (.mk 6 0 0 ⟨#[]⟩ [] [t,y,z]) n5
def unit (I:Inp) (J:Option (Nat->Res Ex)) (n:Nat):Res Ex :=
 if (I.pk n).kind=3 then .ok (.mk 1 0 (I.pk n).n ⟨#[]⟩ [] []) (n+1)
 else if (I.pk n).kind=2 then .ok (.mk 3 0 0 (str (I.pk n).text) [] []) (n+1)
 else if sees I [116,114,117,101] n=true then .ok (.mk 2 0 1 ⟨#[]⟩ [] []) (n+1)
 else if sees I [102,97,108,115,101] n=true then .ok (.mk 2 0 0 ⟨#[]⟩ [] []) (n+1)
 else if sees I [40] n=true then opn I J n fun A n1=>bracketed I (exprOf I A) n1
 else if sees I [105,102] n=true then opn I J n fun A n1=>choice I (exprOf I A) n1
 else form I J n
def index (I:Inp) (E:Nat->Res Ex) (e:Ex) (n:Nat):Res Ex :=
 (E n).bind fun x n1=>(need I [58] n1).bind fun _ n2=>(E n2).bind fun y n3=>(need I [93] n3).bind fun _ n4=>.ok (.mk 11 0 0 ⟨#[]⟩ [] [e,x,y]) n4
def indices (I:Inp) (J:Option (Nat->Res Ex)):Nat->Ex->Nat->Res Ex
 | 0,e,n=>.ok e n
 | f+1,e,n=>if sees I [91] n=true then (opn I J n fun A n1=>index I (exprOf I A) e n1).bind fun e1 n1=>indices I J f e1 n1 else .ok e n
def signed (A:Nat->Res Ex) (k:Int) (n:Nat):Res Ex:=(A n).bind fun e n1=>.ok (.mk 4 k 0 ⟨#[]⟩ [] [e]) n1
def aheadS (I:Inp) (J:Option (Nat->Res Ex)) (n:Nat):Res Ex :=
 if sees I [45] n=true then opn I J n fun A n1=>signed A 13 n1
 else if sees I [110,111,116] n=true then opn I J n fun A n1=>signed A 14 n1
 else (unit I J n).bind fun e n1=>indices I J (I.L.length-n1) e n1
def ahead (I:Inp):Nat->Nat->Res Ex
 | 0=>aheadS I none
 | d+1=>aheadS I (some (ahead I d))
def expr (I:Inp) (d:Nat):Nat->Res Ex:=exprOf I (ahead I d)
mutual
def count:Ex->Nat
 | .mk _ _ _ _ _ L=>1+countL L
def countL:List Ex->Nat
 | []=>0
 | x :: xs=>count x+countL xs
end
def whole (I:Inp) (n:Nat):Res Ex:=(expr I 60 n).bind fun e n1=>if 30<count e then .err 7 (I.pk n).place else .ok e n1
def call (I:Inp) (at0:Int) (l:List ByteArray) (n:Nat):Res Eqn :=
 (need I [99,97,108,108] n).bind fun _ n1=>(name I n1).bind fun s n2=>
  (if sees I [60] n2=true then (row I (size I) 3 [] (n2+1)).bind fun z n3=>(need I [62] n3).bind fun _ n4=>.ok z n4 else .ok [] n2).bind fun z n5=>
  (need I [40] n5).bind fun _ n6=>
  (if sees I [41] n6=true then .ok [] (n6+1) else (row I (whole I) 30 [] n6).bind fun e n7=>(need I [41] n7).bind fun _ n8=>.ok e n8).bind fun e n9=>
  .ok ⟨at0,l,s,z,e⟩ n9
def equation (I:Inp) (n:Nat):Res Eqn :=
 (row I (name I) 30 [] n).bind fun l n1=>(need I [61] n1).bind fun _ n2=>
  if l.length=1/\sees I [99,97,108,108] n2=false then (whole I n2).bind fun e n3=>.ok ⟨(I.pk n).place,l,⟨#[]⟩,[],[e]⟩ n3 else call I (I.pk n).place l n2
def line (I:Inp) (loc:List De) (eqs:List Eqn) (n:Nat):Res (List De × List Eqn):=
  (if sees I [118,97,114] n=true then if 30<=loc.length then .err 7 (I.pk (n+1)).place else (decl I (n+1)).bind fun d n1=>.ok (loc++[d],eqs) n1
   else if (I.pk n).kind=2/\60<=eqs.length then .err 7 (I.pk n).place else (equation I n).bind fun q n1=>.ok (loc,eqs++[q]) n1).bind fun p n2=>
  (need I [59] n2).bind fun _ n3=>.ok p n3
def lines (I:Inp):Nat->List De->List Eqn->Nat->Res (List De × List Eqn)
 | 0,loc,eqs,n=>.ok (loc,eqs) (n+1)
 | f+1,loc,eqs,n=>if sees I [125] n=true then .ok (loc,eqs) (n+1) else (line I loc eqs n).bind fun p n1=>lines I f p.1 p.2 n1
def node (I:Inp) (n:Nat):Res Nd :=
 (need I [110,111,100,101] n).bind fun _ n1=>(name I n1).bind fun s n2=>
  (if sees I [60] n2=true then (row I (name I) 3 [] (n2+1)).bind fun z n3=>(need I [62] n3).bind fun _ n4=>.ok z n4 else .ok [] n2).bind fun z n5=>
  (need I [40] n5).bind fun _ n6=>
  (if sees I [41] n6=true then .ok [] (n6+1) else (row I (decl I) 30 [] n6).bind fun l n7=>(need I [41] n7).bind fun _ n8=>.ok l n8).bind fun inn n9=>
  (need I [45,62] n9).bind fun _ n10=>(need I [40] n10).bind fun _ n11=>(row I (decl I) 30 [] n11).bind fun out n12=>(need I [41] n12).bind fun _ n13=>(need I [123] n13).bind fun _ n14=>
  (lines I (I.L.length-n14+1) [] [] n14).bind fun p n15=>.ok ⟨s,(I.pk n).place,z,inn,out,p.1,p.2⟩ n15
def nodes (I:Inp):Nat->List Nd->Nat->Res (List Nd)
 | 0,acc,n=>if (I.pk n).kind=0 then .ok acc n else if sees I [110,111,100,101] n=true then .err 7 (I.pk n).place else refuse I n
 | f+1,acc,n=>if (I.pk n).kind=0 then .ok acc n else (node I n).bind fun x n1=>nodes I f (acc++[x]) n1
def program (I:Inp):Res (List Nd):=(node I 0).bind fun x n=>nodes I 9 [x] n
end Ps
def parseT (t:List UInt8):List Nd × Int × Int :=
 match Tk.scan t with
 | (L,c,a)=>if c=0 then match Ps.program ⟨L,t.length⟩ with | .ok l _=>(l,0,0) | .err c a=>([],c,a) else ([],c,a)
end Go.Proofs.YtkfgbhlpjkkgfaaGreatDoor
namespace Go.Proofs.YtkfgbhlpjkkgfaaGreatDoor
open Go.RowKit
namespace Bk
open Tk
def sg (c:UInt8):Bt:=⟨4,[c],0⟩
def wd (t:List UInt8):Bt:=⟨1,t,0⟩
def nm (s:ByteArray):Bt:=⟨2,s.data.toList,0⟩
end Bk
end Go.Proofs.YtkfgbhlpjkkgfaaGreatDoor
namespace Go.Proofs.YtkfgbhlpjkkgfaaGreatDoor
open Go.RowKit
namespace Bk
open Tk Tx
theorem firstC_all {α:Type} {f:α->Int}:∀ {l:List α},Rn.firstC f l=0->∀ x ∈ l,f x=0
 | [],_,x,hx=>by simp at hx
 | y :: l,h,x,hx=>by
  unfold Rn.firstC at h
  split at h
  ·rename_i hy
   rcases List.mem_cons.1 hx with rfl | hx
   ·exact hy
   ·exact firstC_all h x hx
  ·rename_i hy
   exact absurd h hy
theorem name_of {s:ByteArray} (h:Rn.nameC s=0):isName s.data.toList=true:=by
 unfold Rn.nameC at h
 split at h
 ·assumption
 ·simp at h
end Bk
end Go.Proofs.YtkfgbhlpjkkgfaaGreatDoor
namespace Go.Proofs.YtkfgbhlpjkkgfaaGreatDoor
open Go.RowKit
namespace Bk
open Tk Tx
structure PartOk (op k n:Int) (name:ByteArray) (S:List (List Tm)) (L:List Ex):Prop where
 form:Rn.formOk (.mk op k n name S L)=true
 name:op=3->isName name.data.toList=true
 num:0<=n/\n<1000000000000000000
 sizes:∀ s ∈ S,Rn.sizeC s=0
 parts:∀ x ∈ L,Rn.partC x=0
theorem partsC_all:∀ {L:List Ex},Rn.partsC L=0->∀ x ∈ L,Rn.partC x=0
 | [],_,x,hx=>by simp at hx
 | y :: l,h,x,hx=>by
  unfold Rn.partsC at h
  split at h
  ·rename_i hy
   rcases List.mem_cons.1 hx with rfl | hx
   ·exact hy
   ·exact partsC_all h x hx
  ·rename_i hy
   exact absurd h hy
theorem part_of {op k n:Int} {name:ByteArray} {S:List (List Tm)} {L:List Ex} (h:Rn.partC (.mk op k n name S L)=0):PartOk op k n name S L:=by
 unfold Rn.partC at h
 split at h
 ·simp at h
 ·rename_i h1
  split at h
  ·simp at h
  ·rename_i h2
   split at h
   ·simp at h
   ·rename_i h3
    split at h
    ·rename_i h4
     exact absurd h h4
    ·rename_i h4
     exact ⟨by simpa using h1,fun e=>by simpa [e] using h2,by omega,firstC_all (by simpa using h4),partsC_all h⟩
theorem form_of {op k n:Int} {name:ByteArray} {S:List (List Tm)} {L:List Ex} (h:Rn.formOk (.mk op k n name S L)=true) :
  (1<=op/\op<=15)/\(Rn.shp op.toNat).2.1<=(L.length:Int)/\(L.length:Int)<=(Rn.shp op.toNat).2.2.1/\(S.length:Int)=(Rn.shp op.toNat).2.2.2.1/\(Rn.shp op.toNat).2.2.2.2.1<=k/\k<=(Rn.shp op.toNat).2.2.2.2.2/\Rn.numOk op n=true/\(op=3\/name.size=0):=by
 unfold Rn.formOk at h;simp only [Bool.and_eq_true,Bool.or_eq_true,Ex.op,Ex.k,Ex.n,Ex.name,Ex.S,Ex.L] at h;obtain ⟨h1,⟨⟨⟨⟨⟨h2,h3⟩,h4⟩,h5⟩,h6⟩,h7⟩,h8⟩:=h;exact ⟨of_decide_eq_true h1,of_decide_eq_true h2,of_decide_eq_true h3,of_decide_eq_true h4,of_decide_eq_true h5,of_decide_eq_true h6,h7,h8.imp of_decide_eq_true of_decide_eq_true⟩
theorem eq_of {q:Eqn} (h:Rn.eqC q=0):0<q.names.length/\q.names.length<=30/\(∀ s ∈ q.names,isName s.data.toList=true)/\(q.node.size≠0->isName q.node.data.toList=true)/\(q.node.size=0->q.names.length=1/\q.E.length=1/\q.S.length=0)/\q.S.length<=3/\q.E.length<=30/\(∀ s ∈ q.S,Rn.sizeC s=0)/\(∀ e ∈ q.E,Rn.exprC e=0):=by
 unfold Rn.eqC at h
 split at h
 ·simp at h
 ·rename_i h1
  split at h
  ·simp at h
  ·rename_i h2
   split at h
   ·simp at h
   ·rename_i h3
    split at h
    ·rename_i h4;exact absurd h h4
    ·rename_i h4
     have h5:Rn.firstC Rn.nameC q.names=0:=by
      rcases Decidable.em (Rn.firstC Rn.nameC q.names=0) with e | e
      ·exact e
      ·exact absurd (Or.inl e) h3
     have h6:Rn.firstC Rn.sizeC q.S=0:=(by simpa using h4);refine ⟨by omega,by omega,fun s hs=>name_of (firstC_all h5 s hs),fun hn=>?_,fun hn=>?_,by omega,by omega,firstC_all h6,firstC_all h⟩
     ·cases hb:isName q.node.data.toList with
      | true=>rfl
      | false=>exact absurd (Or.inr ⟨hn,hb⟩) h3
     ·rcases Decidable.em (q.names.length=1/\q.E.length=1/\q.S.length=0) with e | e
      ·exact e
      ·exact absurd (Or.inr ⟨hn,e⟩) h1
theorem head_of {n:Nd} (h:Rn.headC n=0):isName n.name.data.toList=true/\n.sizes.length<=3/\n.eqs.length<=60/\(∀ s ∈ n.sizes,isName s.data.toList=true)/\0<n.out.length/\Rn.declsC n.inn=0/\Rn.declsC n.out=0/\Rn.declsC n.loc=0:=by
 unfold Rn.headC at h
 split at h
 ·simp at h
 ·rename_i h1
  split at h
  ·simp at h
  ·rename_i h2
   split at h
   ·rename_i h3;exact absurd h h3
   ·rename_i h3
    split at h
    ·simp at h
    ·rename_i h4
     split at h
     ·rename_i h5;exact absurd h h5
     ·rename_i h5
      split at h
      ·rename_i h6;exact absurd h h6
      ·rename_i h6
       exact ⟨by simpa using h1,by omega,by omega,fun s hs=>name_of (firstC_all (by simpa using h3) s hs),by omega,by simpa using h5,by simpa using h6,h⟩
theorem goE_all:∀ {l:List Eqn} {k:Nat},Rn.goE l k=none->∀ q ∈ l,Rn.eqC q=0
 | [],_,_,q,hq=>by simp at hq
 | x :: l,k,h,q,hq=>by
  unfold Rn.goE at h
  split at h
  ·rename_i h0
   rcases List.mem_cons.1 hq with rfl | hq
   ·exact h0
   ·exact goE_all h q hq
  ·cases h
end Bk
end Go.Proofs.YtkfgbhlpjkkgfaaGreatDoor
namespace Go.Proofs.YtkfgbhlpjkkgfaaGreatDoor
open Go.RowKit Go.IntWalk
def Short (t:Kd.Ty):Prop:=t.n.length<=1000
theorem zCh {e:Int} {n:List Tm} (h:n.length<=1000):Short (Kd.mkA e n):=by
 unfold Short Kd.mkA
 dsimp only
 split
 ·simp
 ·exact h
theorem zCO (e:Int):Short (Kd.sc e):=by unfold Short Kd.sc;simp
theorem zAW {b:Bool} {t u:Kd.Ty} (ht:Short t) (h:Kd.typed b t=.ok u):Short u:=by
 unfold Kd.typed at h
 split at h
 ·injection h with h;exact h ▸ ht
 ·cases h
theorem okB_len {n:List Tm} (h:Kd.okB n=true):n.length<=1000:=((Kd.okB_iff n).1 h).1
theorem codeSz_len {sizes:List ByteArray} {n:List Tm} (h:Kd.codeSz sizes n=0):n.length<=1000:=by
 unfold Kd.codeSz at h
 split at h
 ·rename_i h1;exact absurd h h1
 ·unfold Kd.rng at h
  split at h
  ·rename_i h1;exact okB_len h1
  ·cases h
theorem zEK {α:Type} {f:α->Int}:∀ {l:List α},Rn.firstC f l=0->∀ x ∈ l,f x=0
 | [],_,x,hx=>by simp at hx
 | y :: l,h,x,hx=>by
  unfold Rn.firstC at h
  split at h
  ·rename_i hy
   rcases List.mem_cons.1 hx with rfl | hx
   ·exact hy
   ·exact zEK h x hx
  ·rename_i hy;exact absurd h hy
theorem zDE {l:List Kd.Ty} (h:∀ t ∈ l,Short t) (i:Nat):Short (l.getD i (Kd.sc 0)):=by
 rw [List.getD_eq_getElem?_getD]
 cases hi:l[i]? with
 | none=>exact zCO 0
 | some t=>exact h t (List.mem_of_getElem? hi)
theorem zEL {S:List (List Tm)} (h:∀ s ∈ S,s.length<=1000) (i:Nat):(S.getD i []).length<=1000:=by
 rw [List.getD_eq_getElem?_getD]
 cases hi:S[i]? with
 | none=>simp
 | some t=>exact h t (List.mem_of_getElem? hi)
theorem whole_short {op k:Int} {S:List (List Tm)} {l:List Kd.Ty} {t:Kd.Ty} (hl:∀ t ∈ l,Short t) (hS:∀ s ∈ S,s.length<=1000) (h:Kd.whole op k S l=.ok t):Short t:=by
 unfold Kd.whole at h;have g0:=zDE hl 0;have g1:=zDE hl 1;have g2:=zDE hl 2
 split at h
 ·unfold Kd.mapT at h
  split at h
  ·cases h
  ·split at h
   ·cases h
   ·exact zAW (zCh (hl _ (by simp))) h
 split at h
 ·exact zAW g0 h
 split at h
 ·exact zAW g1 h
 split at h
 ·exact zAW g1 h
 split at h
 ·exact zAW (zCh (zEL hS 0)) h
 split at h
 ·exact zAW (zCO _) h
 split at h
 ·exact zAW g0 h
 split at h
 ·exact zAW (zCh (zEL hS 1)) h
 split at h
 ·unfold Kd.cat at h
  split at h
  ·split at h
   ·rename_i bm
    injection h with h;subst h;exact zCh (okB_len bm)
   ·cases h
  ·cases h
 split at h
 ·exact zAW g0 h
 ·exact zAW (zCO _) h
theorem tyN_short {E:Kd.Env} (hE:∀ d ∈ E.types,d.n.length<=1000) {s:ByteArray} {t:Kd.Ty} (h:Kd.tyN E s=.ok t):Short t:=by
 unfold Kd.tyN at h
 split at h
 ·cases h
 ·rename_i d hd
  injection h with h;subst h;exact hE d (List.mem_of_find?_eq_some hd)
mutual
theorem tyX_short {E:Kd.Env} (hE:∀ d ∈ E.types,d.n.length<=1000):∀ (e:Ex) (t:Kd.Ty),Kd.tyX E e=.ok t->Short t
 | .mk op k n name S L,t,h=>by
  simp only [Kd.tyX] at h
  split at h
  ·cases h
  ·rename_i hc
   have hS:∀ s ∈ S,s.length<=1000:=fun s hs=>codeSz_len (zEK (Decidable.not_not.1 hc) s hs)
   split at h
   ·cases h
   ·rename_i l hl
    have N6:=zDo hE L l hl
    split at h
    ·injection h with h;exact h ▸ zCO _
    split at h
    ·injection h with h;exact h ▸ zCO _
    split at h
    ·exact tyN_short hE h
    ·exact whole_short N6 hS h
theorem zDo {E:Kd.Env} (hE:∀ d ∈ E.types,d.n.length<=1000):∀ (L:List Ex) (l:List Kd.Ty),Kd.tyL E L=.ok l->∀ t ∈ l,Short t
 | [],l,h=>by simp [Kd.tyL] at h;subst h;simp
 | x :: r,l,h=>by
  simp only [Kd.tyL] at h
  split at h
  ·cases h
  ·rename_i t ht
   split at h
   ·cases h
   ·rename_i m hm
    injection h with h;subst h;intro u hu;rcases List.mem_cons.1 hu with rfl | hu
    ·exact tyX_short hE x _ ht
    ·exact zDo hE r m hm u hu
end
end Go.Proofs.YtkfgbhlpjkkgfaaGreatDoor
namespace Go.Proofs.YtkfgbhlpjkkgfaaGreatDoor
open Go.RowKit Go.IntWalk
theorem TRes.form {ok:Nat->Prop} {w:World} {u:Value} {c:Int} {r:Except Int Kd.Ty} (h:TRes ok w u c r):∃ e a n k,u=.agg #[.int .u8 e,.slice a n k]:=by
 cases r with
 | error k=>exact ⟨_,_,_,_,h.2.2⟩
 | ok t=>
  obtain ⟨_,uu,rfl,hu⟩:=h;obtain ⟨a,n,k,rfl⟩:=hu.slice;exact ⟨_,_,_,_,rfl⟩
theorem TRes.set {ok:Nat->Prop} {w:World} {u:Value} {c:Int} {r:Except Int Kd.Ty} (h:TRes ok w u c r) {p:Addr} (hp:¬ok p.block) (v:Value):TRes ok (w.setCell p v) u c r:=by
 cases r with
 | error k=>exact h
 | ok t=>
  obtain ⟨h1,uu,h2,hu⟩:=h;exact ⟨h1,uu,h2,hu.set hp v⟩
theorem TRes.wide {ok ok':Nat->Prop} {w:World} {u:Value} {c:Int} {r:Except Int Kd.Ty} (h:TRes ok w u c r) (hk:∀ i,ok i->ok' i):TRes ok' w u c r:=by
 cases r with
 | error k=>exact h
 | ok t=>
  obtain ⟨h1,h2⟩:=h;exact ⟨h1,h2.wide (fun i hi _=>hk i hi)⟩
theorem TRes.under {ok:Nat->Prop} {w w':World} {u:Value} {c:Int} {r:Except Int Kd.Ty} (h:TRes ok w u c r) (b:Below w.heap.size w w'):TRes ok w' u c r:=by
 cases r with
 | error k=>exact h
 | ok t=>
  obtain ⟨h1,h2⟩:=h;exact ⟨h1,h2.under b⟩
structure Shape (op:Int) (S L:Nat):Prop where
 lo:(Rn.shp op.toNat).2.1<=(L:Int)
 hi:(L:Int)<=(Rn.shp op.toNat).2.2.1
 sz:(S:Int)=(Rn.shp op.toNat).2.2.2.1
def WholeDoes (op k:Int):Prop:=∀ (ok cC:Nat->Prop) (w:World) (y:ExV) (S:List (List Tm)) (vl:Value) (l:List Kd.Ty),y.op=op->y.k=k->GlobK w->HSizes ok w (.slice y.aS y.nS y.cS) S->HTys cC w vl l->Shape op S.length l.length->(∀ t ∈ l,Short t) ->
 Calls Tryz.prog 123 #[.agg #[.int .i64 y.op,.int .i64 y.k,.int .i64 y.n,.string y.name,.slice y.aS y.nS y.cS,.slice y.aL y.nL y.cL],vl] w fun r w'=>∃ u c,r=.returned (.tuple #[u,.int .i64 c])/\TRes (fun i=>ok i\/cC i\/w.heap.size<=i) w' u c (Kd.whole op k S l)/\Below w.heap.size w w'
theorem tyL_len {E:Kd.Env}:∀ {L:List Ex} {l:List Kd.Ty},Kd.tyL E L=.ok l->l.length=L.length
 | [],l,h=>by simp [Kd.tyL] at h;subst h;rfl
 | x :: r,l,h=>by
  simp only [Kd.tyL] at h
  cases hx:Kd.tyX E x with
  | error c=>rw [hx] at h;cases h
  | ok t=>
   rw [hx] at h
   cases hr:Kd.tyL E r with
   | error c=>rw [hr] at h;cases h
   | ok m=>
    rw [hr] at h;injection h with h;subst h;simp [tyL_len hr]
theorem typeOf_step {x:SB} {E:Kd.Env} {op k n:Int} {name:ByteArray} {S:List (List Tm)} {L:List Ex} (hE:∀ d ∈ E.types,d.n.length<=1000) (hX:∀ e ∈ L,TyDoes x E e) (hW:4<=op->WholeDoes op k) (Ah:1<=op) (ch:Shape op S.length L.length) (je:name.size<=maxLen) (NG:∀ s ∈ S,Rn.szF s) (hL:L.length<=1000000):TyDoes x E (.mk op k n name S L):=by
 intro ok w mk done y hS hG I3 bm;obtain ⟨y1,y2,y3,y4,yS,yL⟩:=I3.parts;have EA:=zAA hE;clear hE;simp only [Ex.op,Ex.k,Ex.n,Ex.name,Ex.S,Ex.L] at y1 y2 y3 y4 yS yL;have lh:=zAA y1;have CZ:=zAA y2;have we:=zAA y4;clear y1 y2 y3 y4;obtain ⟨R,hR⟩:=nmQ (Kd.tyX E (.mk op k n name S L));rw [<-hR];simp only [Kd.tyX] at hR;obtain ⟨bA,kD,kZ⟩:=nw2 w (.cells #[.int .i64 y.op,.int .i64 y.k,.int .i64 y.n,.string y.name,.slice y.aS y.nS y.cS,.slice y.aL y.nL y.cL] 54 (0,0)) (.cells #[.int .u8 0,.slice none 0 0] 35 (0,0))
 have fp:=hS.keep bA;have mY:=hG.under bA;have DC:=yS.under bA;have EU:=yL.under bA;have ou:∀ i,ok i->i<((w.alloc (.cells #[.int .i64 y.op,.int .i64 y.k,.int .i64 y.n,.string y.name,.slice y.aS y.nS y.cS,.slice y.aL y.nL y.cL] 54 (0,0))).alloc (.cells #[.int .u8 0,.slice none 0 0] 35 (0,0))).heap.size:=fun i hi=>Nat.lt_of_lt_of_le (bm i hi) bA.size;have cF:¬ok (w.heap.size+1):=fun h=>absurd (bm _ h) (by omega);clear hS hG I3 yS yL;go_enter Tryz.func87,Tryz.ntmps87;go_upto_region 1 with fail;generalize ((w.alloc (.cells #[.int .i64 y.op,.int .i64 y.k,.int .i64 y.n,.string y.name,.slice y.aS y.nS y.cS,.slice y.aL y.nL y.cL] 54 (0,0))).alloc (.cells #[.int .u8 0,.slice none 0 0] 35 (0,0)))=w1 at bA kD kZ fp mY DC EU ou ⊢;have d4:=co kD 4;simp at d4;have hc:=zCZ fp DC NG;go_wp2_with fail;refine hc.mono ?_;rintro e w2 ⟨rfl,b2⟩;clear hc d4;have B2:=bA.trans (b2.mono bA.size);have gV:=(b2.block _ (zAB kD)).trans kD;have fZ:=(b2.block _ (zAB kZ)).trans kZ;have fc:=fp.keep b2;have rF:=mY.under b2;have Hf:=DC.under b2;have EE:=EU.under b2;have tG:∀ i,ok i->i<w2.heap.size:=fun i hi=>Nat.lt_of_lt_of_le (ou i hi) b2.size;clear kD kZ fp mY DC EU ou;generalize Rn.firstC (Kd.codeSz E.sizes) S=c at hR ⊢;by_cases hz:c=0
 case neg=>
  rw [if_pos hz] at hR;have bY:(c != 0)=true:=(by simpa using hz);have aX:=co fZ 0;have st1:=co fZ 1;have dr:=fo fZ 0;have dp:=fo fZ 1;simp at aX st1;have KR:=zAD (zAD fZ 0 (.int .u8 0)) 1 (.slice none 0 0);have r0:=co KR 0;have r1:=co KR 1;simp at r0 r1;have BR:=(B2.setCell (p:=⟨w.heap.size+1,0,none⟩) (by simp) (.int .u8 0)).setCell (p:=⟨w.heap.size+1,1,none⟩) (by simp) (.slice none 0 0);clear gV fc rF Hf EE tG KR;go_wp2;exact bodyPost_ret (v:=.tuple #[.agg #[.int .u8 0,.slice none 0 0],.int .i64 c]) (by simp [results,Tryz.results87,go_sem,r0,r1]) rfl ⟨_,_,rfl,by rw [hR];exact ⟨rfl,hz,rfl⟩,BR⟩
 case pos=>
  subst hz;rw [if_neg (by simp)] at hR;have d5:=co gV 5;simp at d5;have hc:=zEQ fc rF EE tG hX hL;have nt:=zAA fc;have mo:=zAA rF;have wP:=zAA Hf;clear fc rF Hf EE;go_wp2_with fail;refine hc.mono ?_;rintro e w3 ⟨vl,c,rfl,hT,b3⟩;clear hc d5;have B3:=B2.trans (b3.mono B2.size);have nP:=(b3.block _ (zAB gV)).trans gV;have dv:=(b3.block _ (zAB fZ)).trans fZ;have z2:=zAB fZ;clear gV fZ
  cases dD:Kd.tyL E L with
  | error q=>
   rw [dD] at hT hR;obtain ⟨rfl,gm,rfl⟩:=hT;simp only at hR;have bY:(c != 0)=true:=(by simpa using gm);have aX:=co dv 0;have st1:=co dv 1;have dr:=fo dv 0;have dp:=fo dv 1;simp at aX st1;have KR:=zAD (zAD dv 0 (.int .u8 0)) 1 (.slice none 0 0);have r0:=co KR 0;have r1:=co KR 1;simp at r0 r1;have BR:=(B3.setCell (p:=⟨w.heap.size+1,0,none⟩) (by simp) (.int .u8 0)).setCell (p:=⟨w.heap.size+1,1,none⟩) (by simp) (.slice none 0 0);clear nP KR nt mo wP;go_wp2;exact bodyPost_ret (v:=.tuple #[.agg #[.int .u8 0,.slice none 0 0],.int .i64 c]) (by simp [results,Tryz.results87,go_sem,r0,r1]) rfl ⟨_,_,rfl,by rw [hR];exact ⟨rfl,gm,rfl⟩,BR⟩
  | ok l=>
   rw [dD] at hT hR;obtain ⟨rfl,ug⟩:=hT;simp only at hR;have sj:=zAA (tyL_len dD);have PE:=zAA (zDo EA.out L l dD);obtain ⟨la,lc,rfl,_,_,_⟩:=ug.at;have oQ:=zAA ug;clear ug dD;have g0:=co nP 0;have g1:=co nP 1;have g2:=co nP 2;have g3:=co nP 3;have g4:=co nP 4;have g5:=co nP 5;simp at g0 g1 g2 g3 g4 g5;clear nP;by_cases h1:op=1
   case pos=>
    rw [if_pos h1] at hR;have y1:=lh.out;rw [h1] at y1;rw [y1] at g0;clear y1;have hc:=zCD 105 w3;clear nt mo wP oQ;go_wp2_with fail;refine hc.mono ?_;rintro e w4 ⟨rfl,b4⟩;have B4:=B3.trans (b4.mono B3.size);have dF:=(b4.block _ (zAB dv)).trans dv;have aX:=co dF 0;have st1:=co dF 1;have dr:=fo dF 0;have dp:=fo dF 1;simp at aX st1;have KR:=zAD (zAD dF 0 (.int .u8 105)) 1 (.slice none 0 0);have r0:=co KR 0;have r1:=co KR 1;simp at r0 r1;have BR:=(B4.setCell (p:=⟨w.heap.size+1,0,none⟩) (by simp) (.int .u8 105)).setCell (p:=⟨w.heap.size+1,1,none⟩) (by simp) (.slice none 0 0);clear KR hc;go_wp2;exact bodyPost_ret (v:=.tuple #[.agg #[.int .u8 105,.slice none 0 0],.int .i64 0]) (by simp [results,Tryz.results87,go_sem,r0,r1]) rfl ⟨_,_,rfl,by rw [hR];exact ⟨rfl,HTy.zero 105⟩,BR⟩
   by_cases h2:op=2
   case pos=>
    rw [if_neg h1,if_pos h2] at hR;have y1:=lh.out;rw [h2] at y1;rw [y1] at g0;clear y1;have hc:=zCD 98 w3;clear nt mo wP oQ;go_wp2_with fail;refine hc.mono ?_;rintro e w4 ⟨rfl,b4⟩;have B4:=B3.trans (b4.mono B3.size);have dF:=(b4.block _ (zAB dv)).trans dv;have aX:=co dF 0;have st1:=co dF 1;have dr:=fo dF 0;have dp:=fo dF 1;simp at aX st1;have KR:=zAD (zAD dF 0 (.int .u8 98)) 1 (.slice none 0 0);have r0:=co KR 0;have r1:=co KR 1;simp at r0 r1;have BR:=(B4.setCell (p:=⟨w.heap.size+1,0,none⟩) (by simp) (.int .u8 98)).setCell (p:=⟨w.heap.size+1,1,none⟩) (by simp) (.slice none 0 0);clear KR hc;go_wp2;exact bodyPost_ret (v:=.tuple #[.agg #[.int .u8 98,.slice none 0 0],.int .i64 0]) (by simp [results,Tryz.results87,go_sem,r0,r1]) rfl ⟨_,_,rfl,by rw [hR];exact ⟨rfl,HTy.zero 98⟩,BR⟩
   by_cases h3:op=3
   case pos=>
    rw [if_neg h1,if_neg h2,if_pos h3] at hR;have y1:=lh.out;rw [h3] at y1;rw [y1] at g0;clear y1;rw [we.out] at g3;have hc:=zFS (nt.out.keep b3) name je;clear nt mo wP oQ;go_wp2_with fail;refine hc.mono ?_;rintro e w4 ⟨u,c,rfl,cA,b4⟩;obtain ⟨te,ta,tn,tc,rfl⟩:=cA.form;have B4:=B3.trans (b4.mono B3.size);have dF:=(b4.block _ (zAB dv)).trans dv;have aX:=co dF 0;have st1:=co dF 1;have dr:=fo dF 0;have dp:=fo dF 1;simp at aX st1;have KR:=zAD (zAD dF 0 (.int .u8 te)) 1 (.slice ta tn tc);have r0:=co KR 0;have r1:=co KR 1;simp at r0 r1;have BR:=(B4.setCell (p:=⟨w.heap.size+1,0,none⟩) (by simp) (.int .u8 te)).setCell (p:=⟨w.heap.size+1,1,none⟩) (by simp) (.slice ta tn tc);have kx:=zAA ((cA.set (p:=⟨w.heap.size+1,0,none⟩) cF (.int .u8 te)).set (p:=⟨w.heap.size+1,1,none⟩) cF (.slice ta tn tc));clear KR hc cA;go_wp2;exact bodyPost_ret (v:=.tuple #[.agg #[.int .u8 te,.slice ta tn tc],.int .i64 c]) (by simp [results,Tryz.results87,go_sem,r0,r1]) rfl ⟨_,_,rfl,by rw [hR];exact kx.out.wide (fun i hi=>.inl hi),BR⟩
   rw [if_neg h1,if_neg h2,if_neg h3] at hR;have n1:(y.op==1)=false:=(by rw [lh.out];simpa using h1);have n2:(y.op==2)=false:=(by rw [lh.out];simpa using h2);have n3:(y.op==3)=false:=(by rw [lh.out];simpa using h3);have hc:=hW (by omega) ok (okU ok w2.heap.size) w3 y S _ l lh.out CZ.out (mo.out.under b3) (wP.out.under b3) oQ.out ⟨by rw [sj.out];exact ch.lo,by rw [sj.out];exact ch.hi,ch.sz⟩ PE.out;clear nt mo wP oQ;have Ir:¬(ok (w.heap.size+1)\/okU ok w2.heap.size (w.heap.size+1)\/w3.heap.size<=w.heap.size+1):=by
    have:=zAB dv;rintro (h | (h | h) | h)
    ·exact cF h
    ·exact cF h
    ·omega
    ·omega
   have QE:w.heap.size<=w2.heap.size:=B2.size;have QR:w.heap.size<=w3.heap.size:=B3.size;go_wp2_with fail;refine hc.mono ?_;rintro e w4 ⟨u,c,rfl,cA,b4⟩;obtain ⟨te,ta,tn,tc,rfl⟩:=cA.form;have B4:=B3.trans (b4.mono B3.size);have dF:=(b4.block _ (zAB dv)).trans dv;have aX:=co dF 0;have st1:=co dF 1;have dr:=fo dF 0;have dp:=fo dF 1;simp at aX st1;have KR:=zAD (zAD dF 0 (.int .u8 te)) 1 (.slice ta tn tc);have r0:=co KR 0;have r1:=co KR 1;simp at r0 r1;have BR:=(B4.setCell (p:=⟨w.heap.size+1,0,none⟩) (by simp) (.int .u8 te)).setCell (p:=⟨w.heap.size+1,1,none⟩) (by simp) (.slice ta tn tc);have kx:=zAA ((cA.set (p:=⟨w.heap.size+1,0,none⟩) Ir (.int .u8 te)).set (p:=⟨w.heap.size+1,1,none⟩) Ir (.slice ta tn tc));clear KR hc cA;go_wp2;exact bodyPost_ret (v:=.tuple #[.agg #[.int .u8 te,.slice ta tn tc],.int .i64 c]) (by simp [results,Tryz.results87,go_sem,r0,r1]) rfl ⟨_,_,rfl,by rw [hR];exact kx.out.wide (fun i hi=>by rcases hi with h | (h | h) | h;exact .inl h;exact .inl h;exact .inr (by omega);exact .inr (by omega)),BR⟩
end Go.Proofs.YtkfgbhlpjkkgfaaGreatDoor
