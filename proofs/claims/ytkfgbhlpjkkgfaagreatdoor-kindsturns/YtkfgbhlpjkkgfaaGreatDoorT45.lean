import Derived.Test.YtkfgbhlpjkkgfaaGreatDoorT44
import Derived.Test.YtkfgbhlpjkkgfaaGreatDoorT38
set_option linter.unusedVariables false
set_option linter.unusedSimpArgs false
set_option maxHeartbeats 64000000
set_option maxRecDepth 100000
namespace Go.Proofs.YtkfgbhlpjkkgfaaGreatDoor
open Go.RowKit Go.IntWalk
theorem zCT (e x:Ex):(Ps.Ex.addL e x).L.length=e.L.length+1:=by
 show (e.L++[x]).length=_
 simp
theorem enter129 (args:Array Value) (w:World):(callFunc 279 args).run Tryz.prog w=.ok (.enter 279 args) w:=by kernel_rfl
theorem enter130 (args:Array Value) (w:World):(callFunc 280 args).run Tryz.prog w=.ok (.enter 280 args) w:=by kernel_rfl
theorem enter131 (args:Array Value) (w:World):(callFunc 281 args).run Tryz.prog w=.ok (.enter 281 args) w:=by kernel_rfl
theorem enter133 (args:Array Value) (w:World):(callFunc 283 args).run Tryz.prog w=.ok (.enter 283 args) w:=by kernel_rfl
theorem enter134 (args:Array Value) (w:World):(callFunc 284 args).run Tryz.prog w=.ok (.enter 284 args) w:=by kernel_rfl
theorem twoC_any {b g cap rb eb pb N0:Nat} {I:Inp} {op nx:Nat} {E:Nat->Res Ex} {e:Ex} {w:World} (HE:Does 245 b g cap I op exV E) (hv:Env b g rb eb N0) (my:pb<N0) (npb:pb≠b) (npe:pb≠eb) (h:Rd w b g cap I.L I.len nx op) (hG:GlobB b w) (cP:7<eb) (dO:N0<=w.heap.size) (hrb:w.heap[rb]?=some (.cells #[.pointer (some ⟨b,0,none⟩)] 124 (0,0))) (hpb:w.heap[pb]?=some (.cells #[Value.func (.func 279) #[] #[.pointer (some ⟨eb,0,none⟩),.pointer (some ⟨rb,0,none⟩)]] 1 (0,0))) (hS:ExSt N0 eb w e) (aP:e.L.length<=900) :
  Calls Tryz.prog 283 #[.pointer (some ⟨pb,0,none⟩),.pointer (some ⟨rb,0,none⟩)] w (PostE b g cap eb N0 I op nx w (Ps.part I E .oneOrTwo e nx)):=by
 have nO:=hv;obtain ⟨v0,v1,v2,v3,v4,v5,v6,v7⟩:=nO;have cp:=co hpb 0;simp only [gT,gZ] at cp;have lS:=enter129;go_enter Tryz.func283,Tryz.ntmps283;go_wp2_with fail;refine (zDu HE hv h hG cP dO hrb hS (by omega)).mono ?_;rintro r w1 ⟨a1,hres⟩;have z1:=a1.size;have lk:=a1.keep hrb (by omega) (by simp;omega);have qF:=a1.keep hpb (by omega) (by simp;omega);clear cp
 cases ht:E nx with
 | err c0 a0=>
  have e1:Ps.part I E .part e nx=.err c0 a0:=(by unfold Ps.part;simp only [];rw [ht];rfl);rw [e1] at hres;obtain rfl:r=_:=hres;exact ⟨rfl,PostE.fail (by unfold Ps.part;simp only [];rw [ht];rfl) a1⟩
 | ok x n1=>
  have e1:Ps.part I E .part e nx=.ok (Ps.Ex.addL e x) n1:=(by unfold Ps.part;simp only [];rw [ht];rfl);rw [e1] at hres;obtain ⟨dx,h1,rfl,fp⟩:=hres;have m1:Hid (Ps.part I E .oneOrTwo e nx=if Ps.sees I [44] n1=true then (E (n1+1)).bind fun y n2=>.ok (Ps.Ex.addL (Ps.Ex.addL e x) y) n2 else .ok (Ps.Ex.addL e x) n1):=by
   show Ps.part I E .oneOrTwo e nx=_
   conv=>lhs;unfold Ps.part
   simp only [];rw [ht];rfl
  clear ht e1;have cr:=co lk 0;simp only [gT,gZ] at cr;go_wp2_with fail;refine (zAH h1 ⟨#[44]⟩ (by decide)).mono ?_;rintro r w2 ⟨rfl,h2,a2⟩;have es:(⟨#[44]⟩:ByteArray).data.toList=[44]:=rfl;rw [es] at h2;simp only [es];clear es cr;have z2:=a2.size;have A2:Aside [b,eb] N0 w w2:=a1.trans (zBg a2) (by omega);have fc:=fp.keepA a2 (by simp;exact v0) (by simp;exact v5);have im:=a2.keep lk (zAB lk) (by simp;omega);have pd:=a2.keep qF (zAB qF) (by simp;omega)
  cases hq:Ps.sees I [44] n1 with
  | false=>
   rw [hq] at h2;simp only [Bool.false_eq_true,if_false] at h2;go_wp2;go_end0;exact PostE.good (by rw [m1.out,hq];rfl) A2 dx h2 fc
  | true=>
   rw [hq] at h2;simp only [if_true] at h2;have cp:=co pd 0;simp only [gT,gZ] at cp;go_wp2_with fail;refine (zDu HE hv h2 (hG.far2 A2 cP v3) cP (by omega) im fc (by rw [zCT];omega)).mono ?_;rintro r w3 ⟨a3,hres⟩;have A3:=A2.trans a3 nR
   cases ht:E (n1+1) with
   | err c0 a0=>
    have e1:Ps.part I E .part (Ps.Ex.addL e x) (n1+1)=.err c0 a0:=(by unfold Ps.part;simp only [];rw [ht];rfl);rw [e1] at hres;obtain rfl:r=_:=hres;exact ⟨rfl,PostE.fail (by rw [m1.out,hq,if_pos rfl,ht];rfl) A3⟩
   | ok y n3=>
    have e1:Ps.part I E .part (Ps.Ex.addL e x) (n1+1)=.ok (Ps.Ex.addL (Ps.Ex.addL e x) y) n3:=(by unfold Ps.part;simp only [];rw [ht];rfl);rw [e1] at hres;obtain ⟨oh,h3,rfl,jE⟩:=hres;have m3:Hid (Ps.part I E .oneOrTwo e nx=.ok (Ps.Ex.addL (Ps.Ex.addL e x) y) n3):=by
     show Ps.part I E .oneOrTwo e nx=_
     rw [m1.out,hq,if_pos rfl,ht];rfl
    go_wp2;go_end0;exact PostE.good m3.out A3 (by omega) h3 jE
end Go.Proofs.YtkfgbhlpjkkgfaaGreatDoor
namespace Go.Proofs.YtkfgbhlpjkkgfaaGreatDoor
open Go.RowKit Go.IntWalk
theorem addS_len (e:Ex) (s:List Tm):(Ps.Ex.addS e s).S.length=e.S.length+1:=by
 show (e.S++[s]).length=_
 simp
theorem part_lens {I:Inp} {E:Nat->Res Ex} {p:Ps.Pt} {e x:Ex} {n m:Nat} (h:Ps.part I E p e n=.ok x m):x.L.length<=e.L.length+2/\x.S.length<=e.S.length+2:=by
 cases p with
 | part=>
  obtain ⟨r,k,h1,h2⟩:=Res.bind_ok h;obtain ⟨rfl,rfl⟩:=zAN h2;rw [zCT];exact ⟨by omega,by show e.S.length<=_;omega⟩
 | size=>
  obtain ⟨r,k,h1,h2⟩:=Res.bind_ok h;obtain ⟨rfl,rfl⟩:=zAN h2;rw [addS_len];exact ⟨by show e.L.length<=_;omega,by omega⟩
 | oper=>
  obtain ⟨r,k,h1,h2⟩:=Res.bind_ok h;obtain ⟨rfl,rfl⟩:=zAN h2;exact ⟨by show e.L.length<=_;omega,by show e.S.length<=_;omega⟩
 | oneOrTwo=>
  obtain ⟨r,k,h1,h2⟩:=Res.bind_ok h
  split at h2
  ·obtain ⟨s,j,h4,h5⟩:=Res.bind_ok h2
   obtain ⟨rfl,rfl⟩:=zAN h5;rw [zCT,zCT];exact ⟨by omega,by show e.S.length<=_;omega⟩
  ·obtain ⟨rfl,rfl⟩:=zAN h2
   rw [zCT];exact ⟨by omega,by show e.S.length<=_;omega⟩
def fnOf:Ps.Pt->Nat
 | .part=>279
 | .size=>280
 | .oper=>281
 | .oneOrTwo=>283
def argsOf (eb rb pb:Nat):Ps.Pt->Array Value
 | .part=>#[.pointer (some ⟨eb,0,none⟩),.pointer (some ⟨rb,0,none⟩)]
 | .size=>#[.pointer (some ⟨eb,0,none⟩),.pointer (some ⟨rb,0,none⟩)]
 | .oper=>#[.pointer (some ⟨rb,0,none⟩),.pointer (some ⟨eb,0,none⟩)]
 | .oneOrTwo=>#[.pointer (some ⟨pb,0,none⟩),.pointer (some ⟨rb,0,none⟩)]
def fvOf (eb rb pb:Nat) (p:Ps.Pt):Value:=.func (.func (fnOf p)) #[] (argsOf eb rb pb p)
theorem enterOf (p:Ps.Pt) (args:Array Value) (w:World):(callFunc (fnOf p) args).run Tryz.prog w=.ok (.enter (fnOf p) args) w:=by
 cases p
 ·exact enter129 args w
 ·exact enter130 args w
 ·exact enter131 args w
 ·exact enter133 args w
structure FEnv (b g rb eb pb N0:Nat) (w:World):Prop where
 env:Env b g rb eb N0
 p0:pb<N0
 npb:pb≠b
 npe:pb≠eb
 one:7<eb
 size:N0<=w.heap.size
 glob:GlobB b w
 hrb:w.heap[rb]?=some (.cells #[.pointer (some ⟨b,0,none⟩)] 124 (0,0))
 hpb:w.heap[pb]?=some (.cells #[fvOf eb rb pb .part] 1 (0,0))
theorem FEnv.far {b g rb eb pb N0:Nat} {w w':World} (h:FEnv b g rb eb pb N0 w) (a:Aside [b,eb] N0 w w'):FEnv b g rb eb pb N0 w' :=
 ⟨h.env,h.p0,h.npb,h.npe,h.one,Nat.le_trans h.size a.size,h.glob.far2 a h.one h.env.e0,a.keep h.hrb h.env.r0 (by have:=h.env.nr;have:=h.env.nx;simp;omega),a.keep h.hpb h.p0 (by have:=h.npb;have:=h.npe;simp;omega)⟩
theorem pt_any {b g cap rb eb pb N0:Nat} {I:Inp} {op nx:Nat} {E:Nat->Res Ex} {e:Ex} {w:World} (HE:Does 245 b g cap I op exV E) (F:FEnv b g rb eb pb N0 w) (h:Rd w b g cap I.L I.len nx op) (hS:ExSt N0 eb w e) (hl:e.L.length<=900) (hs:e.S.length<=900) (p:Ps.Pt) :
  Calls Tryz.prog (fnOf p) (argsOf eb rb pb p) w (PostE b g cap eb N0 I op nx w (Ps.part I E p e nx)):=by
 cases p with
 | part=>exact zDu HE F.env h F.glob F.one F.size F.hrb hS (by omega)
 | size=>exact sizeC_any F.env h F.size F.hrb hS (by omega)
 | oper=>exact operC_any F.env h F.glob F.size F.hrb hS
 | oneOrTwo=>exact twoC_any HE F.env F.p0 F.npb F.npe h F.glob F.one F.size F.hrb F.hpb hS hl
namespace Ps
def left (I:Inp) (E:Nat->Res Ex) (p:Pt) (ps:List Pt) (e:Ex) (n:Nat):Nat->Res Ex
 | 0=>(part I E p e n).bind fun e1 n2=>parts I E ps e1 n2
 | i+1=>parts I E (ps.drop i) e n
end Ps
theorem zEO (I:Inp) (E:Nat->Res Ex) (p:Ps.Pt) (ps:List Ps.Pt) (e:Ex) (n:Nat):Ps.brackets I E p ps e n=(Ps.need I [40] n).bind fun _ n1=>(Ps.left I E p ps e n1 0).bind fun e2 n3=>(Ps.need I [41] n3).bind fun _ n4=>.ok e2 n4:=by
 unfold Ps.brackets Ps.left
 congr 1
 funext _ n1
 cases Ps.part I E p e n1<;>rfl
theorem left_end (I:Inp) (E:Nat->Res Ex) (p:Ps.Pt) (ps:List Ps.Pt) (x:Ex) (m:Nat):Ps.left I E p ps x m (ps.length+1)=.ok x m:=by
 unfold Ps.left;simp [Ps.parts]
theorem left_succ (I:Inp) (E:Nat->Res Ex) (p:Ps.Pt) (ps:List Ps.Pt) (x:Ex) (m i:Nat) (hi:i<ps.length):Ps.left I E p ps x m (i+1)=(Ps.need I [44] m).bind fun _ n1=>(Ps.part I E ps[i] x n1).bind fun e1 n2=>Ps.left I E p ps e1 n2 (i+2):=by
 conv=>lhs;unfold Ps.left
 simp only [];rw [List.drop_eq_getElem_cons hi];rfl
theorem brackets_any {b g cap rb eb pb qb N0 tq:Nat} {I:Inp} {op nx:Nat} {E:Nat->Res Ex} {e:Ex} {w:World} (HE:Does 245 b g cap I op exV E) (F:FEnv b g rb eb pb N0 w) (h:Rd w b g cap I.L I.len nx op) (hS:ExSt N0 eb w e) (p:Ps.Pt) (ps:List Ps.Pt) (hl:e.L.length+2*(ps.length+1)<=900) (hs:e.S.length+2*(ps.length+1)<=900)
  (xy:qb<N0) (C9:qb≠b) (yf:qb≠eb) (nF:w.heap[qb]?=some (.cells ((p :: ps).map (fvOf eb rb pb)).toArray tq (0,0))) :
  Calls Tryz.prog 286 #[.pointer (some ⟨b,0,none⟩),.slice (some ⟨qb,0,none⟩) (ps.length+1) (ps.length+1)] w (PostE b g cap eb N0 I op nx w (Ps.brackets I E p ps e nx)):=by
 have hb:=h.bb;go_enter Tryz.func286,Tryz.ntmps286;go_wp2_with fail;refine (zAJ h ⟨#[40]⟩ (by decide)).mono ?_;rintro r w1 ⟨a1,hres⟩;have es:(⟨#[40]⟩:ByteArray).data.toList=[40]:=rfl;rw [es] at hres;clear es;have A1:Aside [b,eb] N0 w w1:=zBg (a1.mono F.size);have fp:=hS.keepA a1 (by simp;exact F.env.b0) (by simp;exact F.env.ne)
 cases ht:Ps.need I [40] nx with
 | err c0 a0=>
  rw [ht] at hres;obtain rfl:r=_:=hres;exact ⟨rfl,PostE.fail (by rw [zEO,ht];rfl) A1⟩
 | ok u n1=>
  rw [ht] at hres;obtain ⟨dx,h1,_,rfl,rfl⟩:=hres;have m1:Hid (Ps.brackets I E p ps e nx=(Ps.left I E p ps e n1 0).bind fun e2 n3=>(Ps.need I [41] n3).bind fun _ n4=>.ok e2 n4):=by
   show Ps.brackets I E p ps e nx=_
   rw [zEO,ht];rfl
  clear ht;have Ij:ps.length<=1000:=(by omega);go_wp2;go_loopg [4,5,10] (ps.length+1) (fun k v4 v5 LK wr=>∃ (i:Nat) (x:Ex) (m:Nat),i<=ps.length+1/\k=ps.length+1-i/\LK=.int .i64 (i:Nat)/\nx<=m/\Rd wr b g cap I.L I.len m op/\Aside [b,eb] N0 w wr/\ExSt N0 eb wr x/\x.L.length+2*(ps.length+1-i)<=900/\x.S.length+2*(ps.length+1-i)<=900/\Hid (Ps.brackets I E p ps e nx=(Ps.left I E p ps x m i).bind fun e2 n3=>(Ps.need I [41] n3).bind fun _ n4=>.ok e2 n4))
  case atStart=>exact ⟨0,e,n1,Nat.zero_le _,rfl,rfl,dx,h1,A1,fp,by omega,by omega,m1⟩
  case round=>
   clear m1 fp h1 A1;obtain ⟨i,x,m,hi,rfl,rfl,ii,hr,hA,pO,Dz,Cx,aw⟩:=hrel;have Fr:=F.far hA;have NN:=hA.keep nF xy (by simp;omega);have zr:=Fr.size;by_cases jx:i=ps.length+1
   ·subst jx
    have m2:Hid (Ps.brackets I E p ps e nx=(Ps.need I [41] m).bind fun _ n4=>.ok x n4):=by
     show Ps.brackets I E p ps e nx=_
     rw [aw.out,left_end];rfl
    go_wp2_with fail;refine (zAJ hr ⟨#[41]⟩ (by decide)).mono ?_;rintro r w2 ⟨a2,hres⟩;have es:(⟨#[41]⟩:ByteArray).data.toList=[41]:=rfl;rw [es] at hres;clear es;have A2:Aside [b,eb] N0 w w2:=hA.trans (zBg a2) zr;have fc:=pO.keepA a2 (by simp;exact F.env.b0) (by simp;exact F.env.ne)
    cases ht:Ps.need I [41] m with
    | err c0 a0=>
     rw [ht] at hres;obtain rfl:r=_:=hres;exact ⟨rfl,PostE.fail (by rw [m2.out,ht];rfl) A2⟩
    | ok u n2=>
     rw [ht] at hres;obtain ⟨sM,h2,_,rfl,rfl⟩:=hres;have m3:Hid (Ps.brackets I E p ps e nx=.ok x n2):=by
      show Ps.brackets I E p ps e nx=_
      rw [m2.out,ht];rfl
     go_wp2;go_end0;exact PostE.good m3.out A2 (by omega) h2 fc
   ·have ap:i<(p :: ps).length:=by simp;omega
    have cq:wr.cell? ⟨qb,i,none⟩=some (fvOf eb rb pb (p :: ps)[i]):=by
     rw [co NN,gT,List.getElem?_map,List.getElem?_eq_getElem ap];rfl
    unfold fvOf at cq;have lS:=enterOf (p :: ps)[i];by_cases gv:i=0
    ·subst gv
     simp only [List.getElem_cons_zero] at cq lS;go_wp2_with fail;refine (pt_any HE Fr hr pO (by omega) (by omega) p).mono ?_;rintro r w3 ⟨a3,hres⟩;have A3:=hA.trans a3 nR
     cases ht:Ps.part I E p x m with
     | err c0 a0=>
      rw [ht] at hres;obtain rfl:r=_:=hres;exact ⟨rfl,PostE.fail (by rw [aw.out];unfold Ps.left;simp only [];rw [ht];rfl) A3⟩
     | ok x1 n3=>
      rw [ht] at hres;obtain ⟨oh,h3,rfl,jE⟩:=hres;have sn:=part_lens ht;have m3:Hid (Ps.brackets I E p ps e nx=(Ps.left I E p ps x1 n3 (1)).bind fun e2 n3=>(Ps.need I [41] n3).bind fun _ n4=>.ok e2 n4):=by
       show Ps.brackets I E p ps e nx=_
       rw [aw.out]
       conv=>lhs;unfold Ps.left
       simp only [];rw [ht];rfl
      clear ht;go_wp2;go_roundg (ps.length+1-(1))
      case measure=>omega
      case rel=>exact ⟨1,x1,n3,by omega,rfl,by go_num,by omega,h3,A3,jE,by omega,by omega,m3⟩
    ·skip
     obtain ⟨j,rfl⟩:∃ j,i=j+1:=⟨i-1,by omega⟩;have hj:j<ps.length:=(by simp at ap;omega);simp only [List.getElem_cons_succ] at cq lS;have eG:=zAA (aw.out.trans (congrArg (fun r=>Res.bind r fun e2 n3=>(Ps.need I [41] n3).bind fun _ n4=>Res.ok e2 n4) (left_succ I E p ps x m j hj)));go_wp2_with fail;refine (zAJ hr ⟨#[44]⟩ (by decide)).mono ?_;rintro r w2 ⟨a2,hres⟩;have es:(⟨#[44]⟩:ByteArray).data.toList=[44]:=rfl;rw [es] at hres;clear es cq;have A2:Aside [b,eb] N0 w w2:=hA.trans (zBg a2) zr;have F2:=F.far A2;have fc:=pO.keepA a2 (by simp;exact F.env.b0) (by simp;exact F.env.ne)
     cases htn:Ps.need I [44] m with
     | err c0 a0=>
      rw [htn] at hres;obtain rfl:r=_:=hres;exact ⟨rfl,PostE.fail (by rw [eG.out,htn];rfl) A2⟩
     | ok u n2=>
      rw [htn] at hres;obtain ⟨sM,h2,_,rfl,rfl⟩:=hres;have zj:Hid (Ps.brackets I E p ps e nx=((Ps.part I E ps[j] x n2).bind fun e1 n2=>Ps.left I E p ps e1 n2 (j+2)).bind fun e2 n3=>(Ps.need I [41] n3).bind fun _ n4=>.ok e2 n4):=by
       show Ps.brackets I E p ps e nx=_
       rw [eG.out,htn];rfl
      clear htn eG;go_wp2_with fail;refine (pt_any HE F2 h2 fc (by omega) (by omega) ps[j]).mono ?_;rintro r w3 ⟨a3,hres⟩;have A3:=A2.trans a3 nR
      cases ht:Ps.part I E ps[j] x n2 with
      | err c0 a0=>
       rw [ht] at hres;obtain rfl:r=_:=hres;exact ⟨rfl,PostE.fail (by rw [zj.out,ht];rfl) A3⟩
      | ok x1 n3=>
       rw [ht] at hres;obtain ⟨oh,h3,rfl,jE⟩:=hres;have sn:=part_lens ht;have m3:Hid (Ps.brackets I E p ps e nx=(Ps.left I E p ps x1 n3 (j+2)).bind fun e2 n3=>(Ps.need I [41] n3).bind fun _ n4=>.ok e2 n4):=by
        show Ps.brackets I E p ps e nx=_
        rw [zj.out,ht];rfl
       clear ht;go_wp2;go_roundg (ps.length+1-(j+2))
       case measure=>omega
       case rel=>exact ⟨j+2,x1,n3,by omega,rfl,by go_num,by omega,h3,A3,jE,by omega,by omega,m3⟩
end Go.Proofs.YtkfgbhlpjkkgfaaGreatDoor
namespace Go.Proofs.YtkfgbhlpjkkgfaaGreatDoor
open Go.RowKit Go.IntWalk
def PostS {α:Type} (S:List Nat) (b g cap:Nat) (I:Inp) (op:Nat) (V:Nat->World->Value->α->Prop) (nx:Nat) (w:World) (res:Res α) (r:Ending) (w':World):Prop :=
 Aside S w.heap.size w w' /\
 match res with
 | .ok v n1=>nx<=n1/\Rd w' b g cap I.L I.len n1 op/\∃ x,r=.returned x/\V w.heap.size w' x v
 | .err c a=>r=upE c a
theorem PostS.fail {α:Type} {S:List Nat} {b g cap:Nat} {I:Inp} {op:Nat} {V:Nat->World->Value->α->Prop} {nx:Nat} {w:World} {res:Res α} {w':World} {c a:Nat} (h:res=.err c a) (hA:Aside S w.heap.size w w'):PostS S b g cap I op V nx w res (upE c a) w':=by
 subst h;exact ⟨hA,rfl⟩
theorem PostS.good {α:Type} {S:List Nat} {b g cap:Nat} {I:Inp} {op:Nat} {V:Nat->World->Value->α->Prop} {nx:Nat} {w:World} {res:Res α} {w':World} {v:α} {n1:Nat} {x:Value} (h:res=.ok v n1) (hA:Aside S w.heap.size w w') (hn:nx<=n1) (hR:Rd w' b g cap I.L I.len n1 op) (hV:V w.heap.size w' x v):PostS S b g cap I op V nx w res (.returned x) w':=by
 subst h;exact ⟨hA,hn,hR,x,rfl,hV⟩
theorem opened_two {ok0:Nat->Prop} {w:World} {b g cap:Nat} {I:Inp} {nx op F eb:Nat} {first pS:Array Value} {R0:Res Ex} (h:Rd w b g cap I.L I.len nx op) (jL:eb<w.heap.size) (uB:eb≠b) (neg:eb≠g) (bm:∀ i,ok0 i->i<w.heap.size/\i≠b) (Ah:op<60) (ak:nx<I.L.length) (lS:∀ args w,(callFunc F args).run Tryz.prog w=.ok (.enter F args) w)
  (HF:∀ w',Rd w' b g cap I.L I.len (nx+1) (op+1)->Aside [b] w.heap.size w w'->Calls Tryz.prog F (first++pS) w' (PostS [b,eb] b g cap I (op+1) (exO ok0) (nx+1) w' R0)) :
  Calls Tryz.prog 273 #[.pointer (some ⟨b,0,none⟩),.func (.func F) first pS] w (PostS [b,eb] b g cap I op (exO ok0) (nx+1) w R0):=by
 have hb:=h.bb;have hg:=h.gb;have h0:=h.alloc (.cells #[.int .i64 0,.int .i64 0,.int .i64 0,.string ⟨#[]⟩,.slice none 0 0,.slice none 0 0] 54 (0,0));have A0:=(Aside.refl (S:=[b]) (B:=w.heap.size) w).alloc nR (.cells #[.int .i64 0,.int .i64 0,.int .i64 0,.string ⟨#[]⟩,.slice none 0 0,.slice none 0 0] 54 (0,0));have dO:=zAC w (.cells #[.int .i64 0,.int .i64 0,.int .i64 0,.string ⟨#[]⟩,.slice none 0 0,.slice none 0 0] 54 (0,0));have zN:(w.alloc (.cells #[.int .i64 0,.int .i64 0,.int .i64 0,.string ⟨#[]⟩,.slice none 0 0,.slice none 0 0] 54 (0,0))).heap.size=w.heap.size+1:=(by simp);have hd:decide ((60:Int)<=op)=false:=(by simp;omega);go_enter Tryz.func273,Tryz.ntmps273;go_upto_region 1 with fail;generalize w.alloc (.cells #[.int .i64 0,.int .i64 0,.int .i64 0,.string ⟨#[]⟩,.slice none 0 0,.slice none 0 0] 54 (0,0))=W at h0 A0 dO zN ⊢;obtain ⟨c0,c1,c2,c3,_⟩:=h0.cells;have fb:=h0.free 3;have h1:=h0.opens (op+1) ((op:Int)+1) (by omega);have A1:Aside [b] w.heap.size w (W.setCell ⟨b,3,none⟩ (.int .i64 ((op:Int)+1))):=A0.trans (Aside.setCell (by simp) _) A0.size;have aG:=zAI dO (p:=⟨b,3,none⟩) (by simp;omega) (.int .i64 ((op:Int)+1));have z1:(W.setCell ⟨b,3,none⟩ (.int .i64 ((op:Int)+1))).heap.size=W.heap.size:=(by simp [World.setCell]);go_wp2_with fail;generalize W.setCell ⟨b,3,none⟩ (.int .i64 ((op:Int)+1))=W1 at h1 A1 aG z1 ⊢;clear c0 c1 c2 c3 fb h0 A0 dO;refine (zAj h1 ak).mono ?_;rintro e w2 ⟨rfl,h2,a2⟩;have z2:=a2.size;have A2:=A1.trans a2 A1.size;have gH:=a2.keep aG (by omega) (by simp;omega);clear a2 A1 aG h1;go_wp2_with fail;refine (HF w2 h2 A2).mono ?_;rintro e w3 ⟨a3,hres⟩;have z3:=a3.size;have A3:Aside [b,eb] w.heap.size w w3:=(zBg A2).trans a3 A2.size;have eC:=a3.keep gH (by omega) (by simp;omega);clear a3 A2 gH h2 HF
 cases R0 with
 | err c0 a0=>
  obtain rfl:e=_:=hres;exact ⟨rfl,PostS.fail rfl A3⟩
 | ok e0 n1=>
  obtain ⟨oh,h3,_,rfl,y,rfl,iD⟩:=hres;have iz:=(iD.wide (ok':=fun i=>(ok0 i\/w.heap.size<i)/\i≠w.heap.size/\i≠b/\i≠w3.heap.size) (fun i hi hl=>hi.elim (fun q=>have:=bm i q;⟨.inl q,by omega,by omega,by omega⟩) (fun q=>⟨.inr (by omega),by omega,by omega,by omega⟩))).under ((Below.refl _ w3).alloc nR (.cells #[.int .i64 y.op,.int .i64 y.k,.int .i64 y.n,.string y.name,.slice y.aS y.nS y.cS,.slice y.aL y.nL y.cL] 54 (0,0)));have h4:=h3.alloc (.cells #[.int .i64 y.op,.int .i64 y.k,.int .i64 y.n,.string y.name,.slice y.aS y.nS y.cS,.slice y.aL y.nL y.cL] 54 (0,0));have A4:=A3.alloc A3.size (.cells #[.int .i64 y.op,.int .i64 y.k,.int .i64 y.n,.string y.name,.slice y.aS y.nS y.cS,.slice y.aL y.nL y.cL] 54 (0,0));have dy:=kA eC (.cells #[.int .i64 y.op,.int .i64 y.k,.int .i64 y.n,.string y.name,.slice y.aS y.nS y.cS,.slice y.aL y.nL y.cL] 54 (0,0));have cA:=zAC w3 (.cells #[.int .i64 y.op,.int .i64 y.k,.int .i64 y.n,.string y.name,.slice y.aS y.nS y.cS,.slice y.aL y.nL y.cL] 54 (0,0));have z4:(w3.alloc (.cells #[.int .i64 y.op,.int .i64 y.k,.int .i64 y.n,.string y.name,.slice y.aS y.nS y.cS,.slice y.aL y.nL y.cL] 54 (0,0))).heap.size=w3.heap.size+1:=(by simp);obtain ⟨c0,c1,c2,c3,_⟩:=h4.cells;have fb:=h4.free 3;have f4:=fun o=>fo dy o;have aB:=co dy 0;have ay:=co dy 1;have az:=co dy 2;have aF:=co dy 3;have aD:=co dy 4;have aH:=co dy 5;simp at aB ay az aF aD aH;have bw:=co cA 0;have bz:=co cA 1;have bv:=co cA 2;have bU:=co cA 3;have bT:=co cA 4;have dm:=co cA 5;simp at bw bz bv bU bT dm;go_wp2;have h5:=h4.opens op (op:Int) rfl;have A5:=A4.trans (Aside.setCell (S:=[b,eb]) (B:=w.heap.size) (p:=⟨b,3,none⟩) (by simp) (.int .i64 (op:Int))) nR;have kM:=iz.set (p:=⟨b,3,none⟩) (by simp) (.int .i64 (op:Int));refine bodyPost_ret (v:=.agg #[.int .i64 y.op,.int .i64 y.k,.int .i64 y.n,.string y.name,.slice y.aS y.nS y.cS,.slice y.aL y.nL y.cL]) (by simp [results,Tryz.results273,go_sem,aB,ay,az,aF,aD,aH]) rfl ?_;exact PostS.good rfl (A5.put6 (k:=w.heap.size) nR y) (by omega) (h5.put6 (k:=w.heap.size) (by omega) (by omega) y) ⟨y,rfl,(kM.put6 (k:=w.heap.size) (by simp) y).wide (fun i hi _=>hi.1.imp id Nat.le_of_lt)⟩
theorem form51_any {b g cap rb eb pb qb ob kb sb tq:Nat} {I:Inp} {op nx:Nat} {E:Nat->Res Ex} {o k:Int} {p:Ps.Pt} {ps:List Ps.Pt} {w:World} (HE:Does 245 b g cap I op exV E) (h:Rd w b g cap I.L I.len nx op) (hG:GlobB b w) (cP:7<eb)
  (EZ:rb≠b) (uB:eb≠b) (neg:eb≠g) (DM:rb≠eb) (npb:pb≠b) (npe:pb≠eb) (C9:qb≠b) (yf:qb≠eb) (E7:ob≠eb) (El:kb≠eb) (OC:sb≠eb)
  (hrb:w.heap[rb]?=some (.cells #[.pointer (some ⟨b,0,none⟩)] 124 (0,0))) (hpb:w.heap[pb]?=some (.cells #[fvOf eb rb pb .part] 1 (0,0))) (nF:w.heap[qb]?=some (.cells ((p :: ps).map (fvOf eb rb pb)).toArray tq (0,0)))
  (gA:w.heap[ob]?=some (.cells #[.int .i64 o] 3 (0,0))) (pJ:w.heap[kb]?=some (.cells #[.int .i64 k] 3 (0,0))) (GZ:w.heap[sb]?=some (.cells #[.slice (some ⟨qb,0,none⟩) (ps.length+1) (ps.length+1)] 276 (0,0))) (jL:w.heap[eb]?=some (.cells #[.int .i64 0,.int .i64 0,.int .i64 0,.string ⟨#[]⟩,.slice none 0 0,.slice none 0 0] 54 (0,0))) (xh:ps.length<=10) :
  Calls Tryz.prog 285 #[.pointer (some ⟨ob,0,none⟩),.pointer (some ⟨kb,0,none⟩),.pointer (some ⟨eb,0,none⟩),.pointer (some ⟨rb,0,none⟩),.pointer (some ⟨sb,0,none⟩)] w (PostS [b,eb] b g cap I op exV nx w (Ps.brackets I E p ps (Ps.bare o k) nx)):=by
 have hb:=h.bb;have hg:=h.gb;have le:=zAB jL;go_enter Tryz.func285,Tryz.ntmps285;go_upto_region 1 with fail;have bW:Below w.heap.size w (w.alloc (.cells #[.int .i64 0,.int .i64 0,.int .i64 0,.string ⟨#[]⟩,.slice none 0 0,.slice none 0 0] 54 (0,0))).drew:=((Below.refl _ w).alloc nR _).drew;have aG:(w.alloc (.cells #[.int .i64 0,.int .i64 0,.int .i64 0,.string ⟨#[]⟩,.slice none 0 0,.slice none 0 0] 54 (0,0))).drew.heap[w.heap.size]?=some (.cells #[.int .i64 0,.int .i64 0,.int .i64 0,.string ⟨#[]⟩,.slice none 0 0,.slice none 0 0] 54 (0,0)):=zAC w _;have z1:(w.alloc (.cells #[.int .i64 0,.int .i64 0,.int .i64 0,.string ⟨#[]⟩,.slice none 0 0,.slice none 0 0] 54 (0,0))).drew.heap.size=w.heap.size+1:=(by show (w.alloc _).heap.size=_;simp);refine zAE (fun w'=>w'.cell? ⟨ob,0,none⟩=some (.int .i64 o)/\w'.cell? ⟨kb,0,none⟩=some (.int .i64 k)) (fun _=>false) (by kernel_rfl) ?_;generalize (w.alloc (.cells #[.int .i64 0,.int .i64 0,.int .i64 0,.string ⟨#[]⟩,.slice none 0 0,.slice none 0 0] 54 (0,0))).drew=w1 at bW aG z1 ⊢;have K:=fun {x:Nat} {y:Obj} (q:w.heap[x]?=some y)=>((aside bW (S:=[])).keep q (zAB q) (by simp):w1.heap[x]?=some y);have o1:=co (K gA) 0;have k1:=co (K pJ) 0;have e0:=co (K jL) 0;have e1:=co (K jL) 1;have fe:=fun o=>fo (K jL) o;simp only [gT,gZ,gS] at o1 k1 e0 e1;have hH:=And.intro o1 k1;have lj:=zAD (K jL) 0 (.int .i64 o);have o2:=co (zAI (K gA) (p:=⟨eb,0,none⟩) (fun q=>E7 q.symm) (.int .i64 o)) 0;have k2:=co (zAI (K pJ) (p:=⟨eb,0,none⟩) (fun q=>El q.symm) (.int .i64 o)) 0;have DL:=zAD lj 1 (.int .i64 k);have o3:=co (zAI (zAI (K gA) (p:=⟨eb,0,none⟩) (fun q=>E7 q.symm) (.int .i64 o)) (p:=⟨eb,1,none⟩) (fun q=>E7 q.symm) (.int .i64 k)) 0;have k3:=co (zAI (zAI (K pJ) (p:=⟨eb,0,none⟩) (fun q=>El q.symm) (.int .i64 o)) (p:=⟨eb,1,none⟩) (fun q=>El q.symm) (.int .i64 k)) 0;simp only [gT,gZ,gS] at o2 k2 o3 k3;simp only [sT,sZ,sS] at lj DL;have H2:=zAA (And.intro o2 k2);have H3:=zAA (And.intro o3 k3);clear o2 k2 o3 k3;refine' tjQ 0 hH ?hyv ?o1
 case hyv=>
  intro wz ae;obtain ⟨c0,c1⟩:=ae;go_simp
  try rfl
 try simp only [Act.put,sT,sZ,sS]
 refine' tjQ 1 hH ?hyv ?o2
 case hyv=>
  intro wz ae;obtain ⟨c0,c1⟩:=ae;go_simp
  try rfl
 try simp only [Act.put,sT,sZ,sS]
 refine' tjQ 2 hH ?hyv ?o3
 case hyv=>
  intro wz ae;obtain ⟨c0,c1⟩:=ae;go_simp
  try rfl
 try simp only [Act.put,sT,sZ,sS]
 refine tnQ 3 (fun K hK=>?_);go_simp;refine hK.out _ _ (fun _=>H2.out) ?_;clear hK K
 try simp only [Act.put,sT,sZ,sS]
 refine' tjQ 4 H2.out ?hyv ?o4
 case hyv=>
  intro wz ae;obtain ⟨c0,c1⟩:=ae;go_simp
  try rfl
 try simp only [Act.put,sT,sZ,sS]
 refine tnQ 5 (fun K hK=>?_);go_simp;refine hK.out _ _ (fun _=>H3.out) ?_;clear hK K
 try simp only [Act.put,sT,sZ,sS]
 refine zAF (by kernel_rfl) ?_ _;have K3:=fun {x:Nat} {y:Obj} (q:w.heap[x]?=some y) (hx:x≠eb)=>(zAI (zAI (K q) (p:=⟨eb,0,none⟩) (fun e=>hx e.symm) (.int .i64 o)) (p:=⟨eb,1,none⟩) (fun e=>hx e.symm) (.int .i64 k):((w1.setCell ⟨eb,0,none⟩ (.int .i64 o)).setCell ⟨eb,1,none⟩ (.int .i64 k)).heap[x]?=some y);have eC:=zAI (zAI aG (p:=⟨eb,0,none⟩) (by simp;omega) (.int .i64 o)) (p:=⟨eb,1,none⟩) (by simp;omega) (.int .i64 k);have h3:=((h.below bW).set (p:=⟨eb,0,none⟩) (by simpa using uB) (by simpa using neg) (.int .i64 o)).set (p:=⟨eb,1,none⟩) (by simpa using uB) (by simpa using neg) (.int .i64 k);have A3:Aside [b,eb] w.heap.size w ((w1.setCell ⟨eb,0,none⟩ (.int .i64 o)).setCell ⟨eb,1,none⟩ (.int .i64 k)):=((aside bW).trans (Aside.setCell (by simp) _) nR).trans (Aside.setCell (by simp) _) nR;have z3:((w1.setCell ⟨eb,0,none⟩ (.int .i64 o)).setCell ⟨eb,1,none⟩ (.int .i64 k)).heap.size=w.heap.size+1:=(by simp [World.setCell,z1]);have qP:=K3 hrb DM;have Ku:=K3 hpb npe;have ko:=K3 nF yf;have mF:=K3 GZ OC;have cr:=co qP 0;have cs:=co mF 0;simp only [gT,gZ,gS] at cr cs;have Kx:GlobB b ((w1.setCell ⟨eb,0,none⟩ (.int .i64 o)).setCell ⟨eb,1,none⟩ (.int .i64 k)):=⟨hG.1,hG.2.keep A3.size (A3.block 7 hG.one (by have:=hG.1;simp;omega))⟩;go_upto_region 2 with fail;generalize (w1.setCell ⟨eb,0,none⟩ (.int .i64 o)).setCell ⟨eb,1,none⟩ (.int .i64 k)=w3 at DL eC h3 A3 z3 qP Ku ko mF cr cs Kx ⊢;clear K3 K H2 H3 hH o1 k1 e0 e1 fe lj aG bW;have F3:FEnv b g rb eb pb (w.heap.size+1) w3:=⟨⟨by omega,by omega,by have:=zAB hrb;omega,by omega,EZ,uB,neg,DM⟩,by have:=zAB hpb;omega,npb,npe,cP,by omega,Kx,qP,Ku⟩;have S3:ExSt (w.heap.size+1) eb w3 (Ps.bare o k):=⟨.slice none 0 0,.slice none 0 0,fun _=>False,fun _=>False,DL,OwnX.nil,OwnX.nil,fun i hi=>hi.elim,fun i hi=>hi.elim,fun i hi=>hi.elim⟩;go_wp2_with fail;refine (brackets_any HE F3 h3 S3 p ps (by show 0+_<=_;omega) (by show 0+_<=_;omega) (by have:=zAB nF;omega) C9 yf ko).mono ?_;rintro r w4 ⟨a4,hres⟩;have A4:Aside [b,eb] w.heap.size w w4:=A3.trans a4 (Nat.le_succ _);have dy:=a4.keep eC (by omega) (by simp;omega)
 cases ht:Ps.brackets I E p ps (Ps.bare o k) nx with
 | err c0 a0=>
  rw [ht] at hres;obtain rfl:r=_:=hres;exact ⟨rfl,PostS.fail rfl A4⟩
 | ok e4 n4=>
  rw [ht] at hres;obtain ⟨CB,h4,rfl,vS,vL,okS,okL,mW,oS,oL,dd,aM,cY⟩:=hres;obtain ⟨aS,cS,rfl,fp,fc⟩:=oS.form;obtain ⟨aL,cL,rfl,ry,mx⟩:=oL.form;have HT:=zAA ht;clear ht;have fa:=fun o=>fo dy o;have aB:=co dy 0;have ay:=co dy 1;have az:=co dy 2;have aF:=co dy 3;have aD:=co dy 4;have aH:=co dy 5;simp at aB ay az aF aD aH;have bw:=co mW 0;have bz:=co mW 1;have bv:=co mW 2;have bU:=co mW 3;have bT:=co mW 4;have dm:=co mW 5;simp at bw bz bv bU bT dm;have hX:HEx (fun i=>w.heap.size<i) w4 (ExV.cells ⟨e4.op,e4.k,e4.n,e4.name,aS,e4.S.length,cS,aL,e4.L.length,cL⟩) e4:=HEx.make (x:=⟨e4.op,e4.k,e4.n,e4.name,aS,e4.S.length,cS,aL,e4.L.length,cL⟩) rfl rfl rfl rfl (zBk (oS.row.wide (fun i hi _=>by have:=dd i hi;omega))) (zBl (oL.row.wide (fun i hi _=>by have:=aM i hi;omega)));go_wp2;refine bodyPost_ret (v:=.agg #[.int .i64 e4.op,.int .i64 e4.k,.int .i64 e4.n,.string e4.name,.slice aS e4.S.length cS,.slice aL e4.L.length cL]) (by simp [results,Tryz.results285,go_sem,aB,ay,az,aF,aD,aH]) rfl ?_;exact PostS.good HT.out (A4.put6 (k:=w.heap.size) nR ⟨e4.op,e4.k,e4.n,e4.name,aS,e4.S.length,cS,aL,e4.L.length,cL⟩) (by omega) (h4.put6 (k:=w.heap.size) (by omega) (by omega) ⟨e4.op,e4.k,e4.n,e4.name,aS,e4.S.length,cS,aL,e4.L.length,cL⟩) ⟨⟨e4.op,e4.k,e4.n,e4.name,aS,e4.S.length,cS,aL,e4.L.length,cL⟩,rfl,(hX.put6 (k:=w.heap.size) (by simp) ⟨e4.op,e4.k,e4.n,e4.name,aS,e4.S.length,cS,aL,e4.L.length,cL⟩).wide (fun i hi _=>Nat.le_of_lt hi)⟩
theorem PostS.mono {α:Type} {S:List Nat} {b g cap:Nat} {I:Inp} {op:Nat} {V V':Nat->World->Value->α->Prop} {nx:Nat} {w:World} {res:Res α} {r:Ending} {w':World} (hV:∀ B w x v,V B w x v->V' B w x v) (h:PostS S b g cap I op V nx w res r w'):PostS S b g cap I op V' nx w res r w':=by
 obtain ⟨h1,h2⟩:=h;refine ⟨h1,?_⟩
 cases res with
 | ok v n=>obtain ⟨a,b,x,c,d⟩:=h2;exact ⟨a,b,x,c,hV _ _ _ _ d⟩
 | err c a=>exact h2
theorem zAh {b g cap rb eb pb qb tq:Nat} {I:Inp} {op nx:Nat} {J:Option (Nat->Res Ex)} {o k:Int} {p:Ps.Pt} {ps:List Ps.Pt} {w:World} (HJ:Inner b g cap I op J) (ak:nx<I.L.length) (h:Rd w b g cap I.L I.len nx op) (hG:GlobB b w) (cP:7<eb)
  (EZ:rb≠b) (uB:eb≠b) (neg:eb≠g) (DM:rb≠eb) (npb:pb≠b) (npe:pb≠eb) (C9:qb≠b) (yf:qb≠eb)
  (hrb:w.heap[rb]?=some (.cells #[.pointer (some ⟨b,0,none⟩)] 124 (0,0))) (hpb:w.heap[pb]?=some (.cells #[fvOf eb rb pb .part] 1 (0,0))) (nF:w.heap[qb]?=some (.cells ((p :: ps).map (fvOf eb rb pb)).toArray tq (0,0)))
  (jL:w.heap[eb]?=some (.cells #[.int .i64 0,.int .i64 0,.int .i64 0,.string ⟨#[]⟩,.slice none 0 0,.slice none 0 0] 54 (0,0))) (xh:ps.length<=10) :
  Calls Tryz.prog 284 #[.int .i64 o,.int .i64 k,.slice (some ⟨qb,0,none⟩) (ps.length+1) (ps.length+1),.pointer (some ⟨rb,0,none⟩),.pointer (some ⟨eb,0,none⟩)] w (PostS [b,eb] b g cap I op exV nx w (Ps.opn I J nx fun A n1=>Ps.brackets I (Ps.exprOf I A) p ps (Ps.bare o k) n1)):=by
 have hb:=h.bb;have hg:=h.gb;have le:=zAB jL;have lr:=zAB hrb;have lp:=zAB hpb;have lq:=zAB nF;have oc:=zBi;obtain ⟨W,hW⟩:=nmQ (((((w.alloc (.cells #[.int .i64 o] 3 (0,0))).alloc (.cells #[.int .i64 k] 3 (0,0))).alloc (.cells #[.slice (some ⟨qb,0,none⟩) (ps.length+1) (ps.length+1)] 276 (0,0))).alloc (.cells #[.int .i64 0,.int .i64 0,.int .i64 0,.string ⟨#[]⟩,.slice none 0 0,.slice none 0 0] 54 (0,0))));have zW:W.heap.size=w.heap.size+1+1+1+1:=(by rw [hW];simp);have bW:Below w.heap.size w W:=(by rw [hW];exact ((((Below.refl _ w).alloc nR _).alloc (by simp) _).alloc (by simp;omega) _).alloc (by simp;omega) _);have oW:W.heap[w.heap.size]?=some (.cells #[.int .i64 o] 3 (0,0)):=by
  have q:=zAC w (.cells #[.int .i64 o] 3 (0,0));rw [hW];exact (kA (kA (kA q _) _) _)
 have kW:W.heap[w.heap.size+1]?=some (.cells #[.int .i64 k] 3 (0,0)):=by
  have q:=zAC (w.alloc (.cells #[.int .i64 o] 3 (0,0))) (.cells #[.int .i64 k] 3 (0,0));have z:(w.alloc (.cells #[.int .i64 o] 3 (0,0))).heap.size=w.heap.size+1:=(by simp);rw [z] at q;rw [hW];exact (kA (kA q _) _)
 have sW:W.heap[w.heap.size+1+1]?=some (.cells #[.slice (some ⟨qb,0,none⟩) (ps.length+1) (ps.length+1)] 276 (0,0)):=by
  have q:=zAC ((w.alloc (.cells #[.int .i64 o] 3 (0,0))).alloc (.cells #[.int .i64 k] 3 (0,0))) (.cells #[.slice (some ⟨qb,0,none⟩) (ps.length+1) (ps.length+1)] 276 (0,0));have z:((w.alloc (.cells #[.int .i64 o] 3 (0,0))).alloc (.cells #[.int .i64 k] 3 (0,0))).heap.size=w.heap.size+1+1:=(by simp);rw [z] at q;rw [hW];exact (kA q _)
 have nW:W.heap[w.heap.size+1+1+1]?=some (.cells #[.int .i64 0,.int .i64 0,.int .i64 0,.string ⟨#[]⟩,.slice none 0 0,.slice none 0 0] 54 (0,0)):=by
  have q:=zAC (((w.alloc (.cells #[.int .i64 o] 3 (0,0))).alloc (.cells #[.int .i64 k] 3 (0,0))).alloc (.cells #[.slice (some ⟨qb,0,none⟩) (ps.length+1) (ps.length+1)] 276 (0,0))) (.cells #[.int .i64 0,.int .i64 0,.int .i64 0,.string ⟨#[]⟩,.slice none 0 0,.slice none 0 0] 54 (0,0));have z:(((w.alloc (.cells #[.int .i64 o] 3 (0,0))).alloc (.cells #[.int .i64 k] 3 (0,0))).alloc (.cells #[.slice (some ⟨qb,0,none⟩) (ps.length+1) (ps.length+1)] 276 (0,0))).heap.size=w.heap.size+1+1+1:=(by simp);rw [z] at q;rw [hW];exact q
 have iP:=h.below bW;have AW:Aside [b,eb] w.heap.size w W:=aside bW;have Jw:Aside [b] w.heap.size w W:=aside bW;have K:=fun {x:Nat} {y:Obj} (q:w.heap[x]?=some y)=>((aside bW (S:=[])).keep q (zAB q) (by simp):W.heap[x]?=some y);have rW:=K hrb;have cr:=co rW 0;simp only [gT,gZ] at cr;go_enter Tryz.func284,Tryz.ntmps284;go_upto_region 1 with fail;rw [<-hW];clear hW;go_wp2_with fail
 cases J with
 | none=>
  refine (zBO iP HJ _).mono ?_;rintro r w1 ⟨rfl,a1⟩;exact ⟨rfl,PostS.fail rfl (AW.trans (zBg a1) AW.size)⟩
 | some A=>
  have HF:∀ w',Rd w' b g cap I.L I.len (nx+1) (op+1)->Aside [b] W.heap.size W w'->Calls Tryz.prog 285 (#[]++#[.pointer (some ⟨w.heap.size,0,none⟩),.pointer (some ⟨w.heap.size+1,0,none⟩),.pointer (some ⟨eb,0,none⟩),.pointer (some ⟨rb,0,none⟩),.pointer (some ⟨w.heap.size+1+1,0,none⟩)]) w' (PostS [b,eb] b g cap I (op+1) (exO fun _=>False) (nx+1) w' (Ps.brackets I (Ps.exprOf I A) p ps (Ps.bare o k) (nx+1))):=fun w' rE jj=>
   (form51_any (zBZ HJ.2) rE (hG.far (Jw.trans jj Jw.size)) cP EZ uB neg DM npb npe C9 yf (by omega) (by omega) (by omega) (jj.keep rW (zAB rW) (by simp;omega)) (jj.keep (K hpb) (zAB (K hpb)) (by simp;omega)) (jj.keep (K nF) (zAB (K nF)) (by simp;omega)) (jj.keep oW (zAB oW) (by simp;omega)) (jj.keep kW (zAB kW) (by simp;omega)) (jj.keep sW (zAB sW) (by simp;omega)) (jj.keep (K jL) (zAB (K jL)) (by simp;omega)) xh).mono fun e w2 hp=>hp.mono fun B w x v hv=>exO_of _ hv
  refine (opened_two iP (by omega) uB neg (fun i hi=>hi.elim) HJ.1 ak enter135 HF).mono ?_;rintro r w1 ⟨a1,hres⟩;have z1:=a1.size;have A1:=AW.trans a1 AW.size;have aG:=a1.keep nW (by omega) (by simp;omega)
  cases ht:Ps.brackets I (Ps.exprOf I A) p ps (Ps.bare o k) (nx+1) with
  | err c0 a0=>
   rw [ht] at hres;obtain rfl:r=_:=hres;exact ⟨rfl,PostS.fail (by unfold Ps.opn;exact ht) A1⟩
  | ok e1 n1=>
   rw [ht] at hres;obtain ⟨dx,h1,_,rfl,hx⟩:=hres;obtain ⟨y,rfl,cv⟩:=exV_of hx;have HT:=zAA ht;clear ht;have fa:=fun o=>fo aG o;have aB:=co aG 0;have ay:=co aG 1;have az:=co aG 2;have aF:=co aG 3;have aD:=co aG 4;have aH:=co aG 5;simp at aB ay az aF aD aH;have bM:=cv.wide (ok':=fun i=>w.heap.size+1+1+1<i) (fun i hi hl=>by omega);go_wp2;refine bodyPost_ret (v:=.agg #[.int .i64 y.op,.int .i64 y.k,.int .i64 y.n,.string y.name,.slice y.aS y.nS y.cS,.slice y.aL y.nL y.cL]) (by simp [results,Tryz.results284,go_sem,aB,ay,az,aF,aD,aH]) rfl ?_;exact PostS.good (by unfold Ps.opn;exact HT.out) (A1.put6 (k:=w.heap.size+1+1+1) (by omega) y) (by omega) (h1.put6 (k:=w.heap.size+1+1+1) (by omega) (by omega) y) ⟨y,rfl,(bM.put6 (k:=w.heap.size+1+1+1) (by simp) y).wide (fun i hi _=>by omega)⟩
end Go.Proofs.YtkfgbhlpjkkgfaaGreatDoor
