import Derived.Test.YtkfgbhlpjkkgfaaGreatDoorN45
import Derived.Test.YtkfgbhlpjkkgfaaGreatDoorN37
set_option linter.unusedVariables false
set_option linter.unusedSimpArgs false
set_option maxHeartbeats 64000000
set_option maxRecDepth 100000
namespace Go.Proofs.YtkfgbhlpjkkgfaaGreatDoor
open Go.RowKit Go.IntWalk
theorem addL_len (e x:Ex):(Ps.Ex.addL e x).L.length=e.L.length+1:=by
 show (e.L++[x]).length=_
 simp
theorem enter129 (args:Array Value) (w:World):(callFunc 279 args).run Tryz.prog w=.ok (.enter 279 args) w:=by kernel_rfl
theorem enter130 (args:Array Value) (w:World):(callFunc 280 args).run Tryz.prog w=.ok (.enter 280 args) w:=by kernel_rfl
theorem enter131 (args:Array Value) (w:World):(callFunc 281 args).run Tryz.prog w=.ok (.enter 281 args) w:=by kernel_rfl
theorem enter133 (args:Array Value) (w:World):(callFunc 283 args).run Tryz.prog w=.ok (.enter 283 args) w:=by kernel_rfl
theorem enter134 (args:Array Value) (w:World):(callFunc 284 args).run Tryz.prog w=.ok (.enter 284 args) w:=by kernel_rfl
theorem twoC_any {b g cap rb eb pb N0:Nat} {I:Inp} {op nx:Nat} {E:Nat→Res Ex} {e:Ex} {w:World} (HE:Does 245 b g cap I op exV E) (hv:Env b g rb eb N0) (hp0:pb<N0) (npb:pb≠b) (npe:pb≠eb) (h:Rd w b g cap I.L I.len nx op) (hG:GlobB b w) (hone:7<eb) (hN0:N0≤w.heap.size) (hrb:w.heap[rb]?=some (.cells #[.pointer (some ⟨b,0,none⟩)] 124 (0,0))) (hpb:w.heap[pb]?=some (.cells #[Value.func (.func 279) #[] #[.pointer (some ⟨eb,0,none⟩),.pointer (some ⟨rb,0,none⟩)]] 1 (0,0))) (hS:ExSt N0 eb w e) (hlen:e.L.length≤900) :
  Calls Tryz.prog 283 #[.pointer (some ⟨pb,0,none⟩),.pointer (some ⟨rb,0,none⟩)] w (PostE b g cap eb N0 I op nx w (Ps.part I E .oneOrTwo e nx)):=by
 have hv':=hv;obtain ⟨v0,v1,v2,v3,v4,v5,v6,v7⟩:=hv';have cp:=co hpb 0;simp only [gT,gZ] at cp;have hent:=enter129;go_enter Tryz.func283,Tryz.ntmps283;go_wp2_with fail;refine (partC_any HE hv h hG hone hN0 hrb hS (by omega)).mono ?_;rintro r w1 ⟨a1,hres⟩;have z1:=a1.size;have hr1:=a1.keep hrb (by omega) (by simp;omega);have hp1:=a1.keep hpb (by omega) (by simp;omega);clear cp
 cases ht:E nx with
 | err c0 a0=>
  have e1:Ps.part I E .part e nx=.err c0 a0:=(by unfold Ps.part;simp only [];rw [ht];rfl);rw [e1] at hres;obtain rfl:r=_:=hres;exact ⟨rfl,PostE.fail (by unfold Ps.part;simp only [];rw [ht];rfl) a1⟩
 | ok x n1=>
  have e1:Ps.part I E .part e nx=.ok (Ps.Ex.addL e x) n1:=(by unfold Ps.part;simp only [];rw [ht];rfl);rw [e1] at hres;obtain ⟨le1,h1,rfl,hS1⟩:=hres;have m1:Hid (Ps.part I E .oneOrTwo e nx=if Ps.sees I [44] n1=true then (E (n1+1)).bind fun y n2=>.ok (Ps.Ex.addL (Ps.Ex.addL e x) y) n2 else .ok (Ps.Ex.addL e x) n1):=by
   show Ps.part I E .oneOrTwo e nx=_
   conv=>lhs;unfold Ps.part
   simp only [];rw [ht];rfl
  clear ht e1;have cr:=co hr1 0;simp only [gT,gZ] at cr;go_wp2_with fail;refine (take_any h1 ⟨#[44]⟩ (by decide)).mono ?_;rintro r w2 ⟨rfl,h2,a2⟩;have es:(⟨#[44]⟩:ByteArray).data.toList=[44]:=rfl;rw [es] at h2;simp only [es];clear es cr;have z2:=a2.size;have A2:Aside [b,eb] N0 w w2:=a1.trans (asideE a2) (by omega);have hS2:=hS1.keepA a2 (by simp;exact v0) (by simp;exact v5);have hr2:=a2.keep hr1 (lt_of hr1) (by simp;omega);have hp2:=a2.keep hp1 (lt_of hp1) (by simp;omega)
  cases hq:Ps.sees I [44] n1 with
  | false=>
   rw [hq] at h2;simp only [Bool.false_eq_true,if_false] at h2;go_wp2;go_end0;exact PostE.good (by rw [m1.out,hq];rfl) A2 le1 h2 hS2
  | true=>
   rw [hq] at h2;simp only [if_true] at h2;have cp:=co hp2 0;simp only [gT,gZ] at cp;go_wp2_with fail;refine (partC_any HE hv h2 (hG.far2 A2 hone v3) hone (by omega) hr2 hS2 (by rw [addL_len];omega)).mono ?_;rintro r w3 ⟨a3,hres⟩;have A3:=A2.trans a3 nR
   cases ht:E (n1+1) with
   | err c0 a0=>
    have e1:Ps.part I E .part (Ps.Ex.addL e x) (n1+1)=.err c0 a0:=(by unfold Ps.part;simp only [];rw [ht];rfl);rw [e1] at hres;obtain rfl:r=_:=hres;exact ⟨rfl,PostE.fail (by rw [m1.out,hq,if_pos rfl,ht];rfl) A3⟩
   | ok y n3=>
    have e1:Ps.part I E .part (Ps.Ex.addL e x) (n1+1)=.ok (Ps.Ex.addL (Ps.Ex.addL e x) y) n3:=(by unfold Ps.part;simp only [];rw [ht];rfl);rw [e1] at hres;obtain ⟨le3,h3,rfl,hS3⟩:=hres;have m3:Hid (Ps.part I E .oneOrTwo e nx=.ok (Ps.Ex.addL (Ps.Ex.addL e x) y) n3):=by
     show Ps.part I E .oneOrTwo e nx=_
     rw [m1.out,hq,if_pos rfl,ht];rfl
    go_wp2;go_end0;exact PostE.good m3.out A3 (by omega) h3 hS3
end Go.Proofs.YtkfgbhlpjkkgfaaGreatDoor
namespace Go.Proofs.YtkfgbhlpjkkgfaaGreatDoor
open Go.RowKit Go.IntWalk
theorem addS_len (e:Ex) (s:List Tm):(Ps.Ex.addS e s).S.length=e.S.length+1:=by
 show (e.S++[s]).length=_
 simp
theorem part_lens {I:Inp} {E:Nat→Res Ex} {p:Ps.Pt} {e x:Ex} {n m:Nat} (h:Ps.part I E p e n=.ok x m):x.L.length≤e.L.length+2∧x.S.length≤e.S.length+2:=by
 cases p with
 | part=>
  obtain ⟨r,k,h1,h2⟩:=Res.bind_ok h;obtain ⟨rfl,rfl⟩:=ok_inj h2;rw [addL_len];exact ⟨by omega,by show e.S.length≤_;omega⟩
 | size=>
  obtain ⟨r,k,h1,h2⟩:=Res.bind_ok h;obtain ⟨rfl,rfl⟩:=ok_inj h2;rw [addS_len];exact ⟨by show e.L.length≤_;omega,by omega⟩
 | oper=>
  obtain ⟨r,k,h1,h2⟩:=Res.bind_ok h;obtain ⟨rfl,rfl⟩:=ok_inj h2;exact ⟨by show e.L.length≤_;omega,by show e.S.length≤_;omega⟩
 | oneOrTwo=>
  obtain ⟨r,k,h1,h2⟩:=Res.bind_ok h
  split at h2
  ·obtain ⟨s,j,h4,h5⟩:=Res.bind_ok h2
   obtain ⟨rfl,rfl⟩:=ok_inj h5;rw [addL_len,addL_len];exact ⟨by omega,by show e.S.length≤_;omega⟩
  ·obtain ⟨rfl,rfl⟩:=ok_inj h2
   rw [addL_len];exact ⟨by omega,by show e.S.length≤_;omega⟩
def fnOf:Ps.Pt→Nat
 | .part=>279
 | .size=>280
 | .oper=>281
 | .oneOrTwo=>283
def argsOf (eb rb pb:Nat):Ps.Pt→Array Value
 | .part=>#[.pointer (some ⟨eb,0,none⟩),.pointer (some ⟨rb,0,none⟩)]
 | .size=>#[.pointer (some ⟨eb,0,none⟩),.pointer (some ⟨rb,0,none⟩)]
 | .oper=>#[.pointer (some ⟨rb,0,none⟩),.pointer (some ⟨eb,0,none⟩)]
 | .oneOrTwo=>#[.pointer (some ⟨pb,0,none⟩),.pointer (some ⟨rb,0,none⟩)]
def fvOf (eb rb pb:Nat) (p:Ps.Pt):Value:=.func (.func (fnOf p)) #[] (argsOf eb rb pb p)
theorem enterOf (p:Ps.Pt) (args:Array Value) (w:World):(callFunc (fnOf p) args).run Tryz.prog w=.ok (.enter (fnOf p) args) w:=by
 cases p
 ·exact enter129 args w
 ·exact enter130 args w
 ·exact enter131 args w
 ·exact enter133 args w
structure FEnv (b g rb eb pb N0:Nat) (w:World):Prop where
 env:Env b g rb eb N0
 p0:pb<N0
 npb:pb≠b
 npe:pb≠eb
 one:7<eb
 size:N0≤w.heap.size
 glob:GlobB b w
 hrb:w.heap[rb]?=some (.cells #[.pointer (some ⟨b,0,none⟩)] 124 (0,0))
 hpb:w.heap[pb]?=some (.cells #[fvOf eb rb pb .part] 1 (0,0))
theorem FEnv.far {b g rb eb pb N0:Nat} {w w':World} (h:FEnv b g rb eb pb N0 w) (a:Aside [b,eb] N0 w w'):FEnv b g rb eb pb N0 w' :=
 ⟨h.env,h.p0,h.npb,h.npe,h.one,Nat.le_trans h.size a.size,h.glob.far2 a h.one h.env.e0,a.keep h.hrb h.env.r0 (by have:=h.env.nr;have:=h.env.nx;simp;omega),a.keep h.hpb h.p0 (by have:=h.npb;have:=h.npe;simp;omega)⟩
theorem pt_any {b g cap rb eb pb N0:Nat} {I:Inp} {op nx:Nat} {E:Nat→Res Ex} {e:Ex} {w:World} (HE:Does 245 b g cap I op exV E) (F:FEnv b g rb eb pb N0 w) (h:Rd w b g cap I.L I.len nx op) (hS:ExSt N0 eb w e) (hl:e.L.length≤900) (hs:e.S.length≤900) (p:Ps.Pt) :
  Calls Tryz.prog (fnOf p) (argsOf eb rb pb p) w (PostE b g cap eb N0 I op nx w (Ps.part I E p e nx)):=by
 cases p with
 | part=>exact partC_any HE F.env h F.glob F.one F.size F.hrb hS (by omega)
 | size=>exact sizeC_any F.env h F.size F.hrb hS (by omega)
 | oper=>exact operC_any F.env h F.glob F.size F.hrb hS
 | oneOrTwo=>exact twoC_any HE F.env F.p0 F.npb F.npe h F.glob F.one F.size F.hrb F.hpb hS hl
namespace Ps
def left (I:Inp) (E:Nat→Res Ex) (p:Pt) (ps:List Pt) (e:Ex) (n:Nat):Nat→Res Ex
 | 0=>(part I E p e n).bind fun e1 n2=>parts I E ps e1 n2
 | i+1=>parts I E (ps.drop i) e n
end Ps
theorem brackets_eq (I:Inp) (E:Nat→Res Ex) (p:Ps.Pt) (ps:List Ps.Pt) (e:Ex) (n:Nat):Ps.brackets I E p ps e n=(Ps.need I [40] n).bind fun _ n1=>(Ps.left I E p ps e n1 0).bind fun e2 n3=>(Ps.need I [41] n3).bind fun _ n4=>.ok e2 n4:=by
 unfold Ps.brackets Ps.left
 congr 1
 funext _ n1
 cases Ps.part I E p e n1<;>rfl
theorem left_end (I:Inp) (E:Nat→Res Ex) (p:Ps.Pt) (ps:List Ps.Pt) (x:Ex) (m:Nat):Ps.left I E p ps x m (ps.length+1)=.ok x m:=by
 unfold Ps.left;simp [Ps.parts]
theorem left_succ (I:Inp) (E:Nat→Res Ex) (p:Ps.Pt) (ps:List Ps.Pt) (x:Ex) (m i:Nat) (hi:i<ps.length):Ps.left I E p ps x m (i+1)=(Ps.need I [44] m).bind fun _ n1=>(Ps.part I E ps[i] x n1).bind fun e1 n2=>Ps.left I E p ps e1 n2 (i+2):=by
 conv=>lhs;unfold Ps.left
 simp only [];rw [List.drop_eq_getElem_cons hi];rfl
theorem brackets_any {b g cap rb eb pb qb N0 tq:Nat} {I:Inp} {op nx:Nat} {E:Nat→Res Ex} {e:Ex} {w:World} (HE:Does 245 b g cap I op exV E) (F:FEnv b g rb eb pb N0 w) (h:Rd w b g cap I.L I.len nx op) (hS:ExSt N0 eb w e) (p:Ps.Pt) (ps:List Ps.Pt) (hl:e.L.length+2*(ps.length+1)≤900) (hs:e.S.length+2*(ps.length+1)≤900)
  (hq0:qb<N0) (nqb:qb≠b) (nqe:qb≠eb) (hqb:w.heap[qb]?=some (.cells ((p :: ps).map (fvOf eb rb pb)).toArray tq (0,0))) :
  Calls Tryz.prog 286 #[.pointer (some ⟨b,0,none⟩),.slice (some ⟨qb,0,none⟩) (ps.length+1) (ps.length+1)] w (PostE b g cap eb N0 I op nx w (Ps.brackets I E p ps e nx)):=by
 have hb:=h.bb;go_enter Tryz.func286,Tryz.ntmps286;go_wp2_with fail;refine (need_any h ⟨#[40]⟩ (by decide)).mono ?_;rintro r w1 ⟨a1,hres⟩;have es:(⟨#[40]⟩:ByteArray).data.toList=[40]:=rfl;rw [es] at hres;clear es;have A1:Aside [b,eb] N0 w w1:=asideE (a1.mono F.size);have hS1:=hS.keepA a1 (by simp;exact F.env.b0) (by simp;exact F.env.ne)
 cases ht:Ps.need I [40] nx with
 | err c0 a0=>
  rw [ht] at hres;obtain rfl:r=_:=hres;exact ⟨rfl,PostE.fail (by rw [brackets_eq,ht];rfl) A1⟩
 | ok u n1=>
  rw [ht] at hres;obtain ⟨le1,h1,_,rfl,rfl⟩:=hres;have m1:Hid (Ps.brackets I E p ps e nx=(Ps.left I E p ps e n1 0).bind fun e2 n3=>(Ps.need I [41] n3).bind fun _ n4=>.ok e2 n4):=by
   show Ps.brackets I E p ps e nx=_
   rw [brackets_eq,ht];rfl
  clear ht;have hlenb:ps.length≤1000:=(by omega);go_wp2;go_loopg [4,5,10] (ps.length+1) (fun k v4 v5 v10 wr=>∃ (i:Nat) (x:Ex) (m:Nat),i≤ps.length+1∧k=ps.length+1-i∧v10=.int .i64 (i:Nat)∧nx≤m∧Rd wr b g cap I.L I.len m op∧Aside [b,eb] N0 w wr∧ExSt N0 eb wr x∧x.L.length+2*(ps.length+1-i)≤900∧x.S.length+2*(ps.length+1-i)≤900∧Hid (Ps.brackets I E p ps e nx=(Ps.left I E p ps x m i).bind fun e2 n3=>(Ps.need I [41] n3).bind fun _ n4=>.ok e2 n4))
  case atStart=>exact ⟨0,e,n1,Nat.zero_le _,rfl,rfl,le1,h1,A1,hS1,by omega,by omega,m1⟩
  case round=>
   clear m1 hS1 h1 A1;obtain ⟨i,x,m,hi,rfl,rfl,hle,hr,hA,hSx,hxl,hxs,hmod⟩:=hrel;have Fr:=F.far hA;have hqr:=hA.keep hqb hq0 (by simp;omega);have zr:=Fr.size;by_cases hend:i=ps.length+1
   ·subst hend
    have m2:Hid (Ps.brackets I E p ps e nx=(Ps.need I [41] m).bind fun _ n4=>.ok x n4):=by
     show Ps.brackets I E p ps e nx=_
     rw [hmod.out,left_end];rfl
    go_wp2_with fail;refine (need_any hr ⟨#[41]⟩ (by decide)).mono ?_;rintro r w2 ⟨a2,hres⟩;have es:(⟨#[41]⟩:ByteArray).data.toList=[41]:=rfl;rw [es] at hres;clear es;have A2:Aside [b,eb] N0 w w2:=hA.trans (asideE a2) zr;have hS2:=hSx.keepA a2 (by simp;exact F.env.b0) (by simp;exact F.env.ne)
    cases ht:Ps.need I [41] m with
    | err c0 a0=>
     rw [ht] at hres;obtain rfl:r=_:=hres;exact ⟨rfl,PostE.fail (by rw [m2.out,ht];rfl) A2⟩
    | ok u n2=>
     rw [ht] at hres;obtain ⟨le2,h2,_,rfl,rfl⟩:=hres;have m3:Hid (Ps.brackets I E p ps e nx=.ok x n2):=by
      show Ps.brackets I E p ps e nx=_
      rw [m2.out,ht];rfl
     go_wp2;go_end0;exact PostE.good m3.out A2 (by omega) h2 hS2
   ·have hil:i<(p :: ps).length:=by simp;omega
    have cq:wr.cell? ⟨qb,i,none⟩=some (fvOf eb rb pb (p :: ps)[i]):=by
     rw [co hqr,gT,List.getElem?_map,List.getElem?_eq_getElem hil];rfl
    unfold fvOf at cq;have hent:=enterOf (p :: ps)[i];by_cases hi0:i=0
    ·subst hi0
     simp only [List.getElem_cons_zero] at cq hent;go_wp2_with fail;refine (pt_any HE Fr hr hSx (by omega) (by omega) p).mono ?_;rintro r w3 ⟨a3,hres⟩;have A3:=hA.trans a3 nR
     cases ht:Ps.part I E p x m with
     | err c0 a0=>
      rw [ht] at hres;obtain rfl:r=_:=hres;exact ⟨rfl,PostE.fail (by rw [hmod.out];unfold Ps.left;simp only [];rw [ht];rfl) A3⟩
     | ok x1 n3=>
      rw [ht] at hres;obtain ⟨le3,h3,rfl,hS3⟩:=hres;have hln:=part_lens ht;have m3:Hid (Ps.brackets I E p ps e nx=(Ps.left I E p ps x1 n3 (1)).bind fun e2 n3=>(Ps.need I [41] n3).bind fun _ n4=>.ok e2 n4):=by
       show Ps.brackets I E p ps e nx=_
       rw [hmod.out]
       conv=>lhs;unfold Ps.left
       simp only [];rw [ht];rfl
      clear ht;go_wp2;go_roundg (ps.length+1-(1))
      case measure=>omega
      case rel=>exact ⟨1,x1,n3,by omega,rfl,by go_num,by omega,h3,A3,hS3,by omega,by omega,m3⟩
    ·skip
     obtain ⟨j,rfl⟩:∃ j,i=j+1:=⟨i-1,by omega⟩;have hj:j<ps.length:=(by simp at hil;omega);simp only [List.getElem_cons_succ] at cq hent;have hst:=hide (hmod.out.trans (congrArg (fun r=>Res.bind r fun e2 n3=>(Ps.need I [41] n3).bind fun _ n4=>Res.ok e2 n4) (left_succ I E p ps x m j hj)));go_wp2_with fail;refine (need_any hr ⟨#[44]⟩ (by decide)).mono ?_;rintro r w2 ⟨a2,hres⟩;have es:(⟨#[44]⟩:ByteArray).data.toList=[44]:=rfl;rw [es] at hres;clear es cq;have A2:Aside [b,eb] N0 w w2:=hA.trans (asideE a2) zr;have F2:=F.far A2;have hS2:=hSx.keepA a2 (by simp;exact F.env.b0) (by simp;exact F.env.ne)
     cases htn:Ps.need I [44] m with
     | err c0 a0=>
      rw [htn] at hres;obtain rfl:r=_:=hres;exact ⟨rfl,PostE.fail (by rw [hst.out,htn];rfl) A2⟩
     | ok u n2=>
      rw [htn] at hres;obtain ⟨le2,h2,_,rfl,rfl⟩:=hres;have hst2:Hid (Ps.brackets I E p ps e nx=((Ps.part I E ps[j] x n2).bind fun e1 n2=>Ps.left I E p ps e1 n2 (j+2)).bind fun e2 n3=>(Ps.need I [41] n3).bind fun _ n4=>.ok e2 n4):=by
       show Ps.brackets I E p ps e nx=_
       rw [hst.out,htn];rfl
      clear htn hst;go_wp2_with fail;refine (pt_any HE F2 h2 hS2 (by omega) (by omega) ps[j]).mono ?_;rintro r w3 ⟨a3,hres⟩;have A3:=A2.trans a3 nR
      cases ht:Ps.part I E ps[j] x n2 with
      | err c0 a0=>
       rw [ht] at hres;obtain rfl:r=_:=hres;exact ⟨rfl,PostE.fail (by rw [hst2.out,ht];rfl) A3⟩
      | ok x1 n3=>
       rw [ht] at hres;obtain ⟨le3,h3,rfl,hS3⟩:=hres;have hln:=part_lens ht;have m3:Hid (Ps.brackets I E p ps e nx=(Ps.left I E p ps x1 n3 (j+2)).bind fun e2 n3=>(Ps.need I [41] n3).bind fun _ n4=>.ok e2 n4):=by
        show Ps.brackets I E p ps e nx=_
        rw [hst2.out,ht];rfl
       clear ht;go_wp2;go_roundg (ps.length+1-(j+2))
       case measure=>omega
       case rel=>exact ⟨j+2,x1,n3,by omega,rfl,by go_num,by omega,h3,A3,hS3,by omega,by omega,m3⟩
end Go.Proofs.YtkfgbhlpjkkgfaaGreatDoor
namespace Go.Proofs.YtkfgbhlpjkkgfaaGreatDoor
open Go.RowKit Go.IntWalk
def PostS {α:Type} (S:List Nat) (b g cap:Nat) (I:Inp) (op:Nat) (V:Nat→World→Value→α→Prop) (nx:Nat) (w:World) (res:Res α) (r:Ending) (w':World):Prop :=
 Aside S w.heap.size w w' ∧
 match res with
 | .ok v n1=>nx≤n1∧Rd w' b g cap I.L I.len n1 op∧∃ x,r=.returned x∧V w.heap.size w' x v
 | .err c a=>r=upE c a
theorem PostS.fail {α:Type} {S:List Nat} {b g cap:Nat} {I:Inp} {op:Nat} {V:Nat→World→Value→α→Prop} {nx:Nat} {w:World} {res:Res α} {w':World} {c a:Nat} (h:res=.err c a) (hA:Aside S w.heap.size w w'):PostS S b g cap I op V nx w res (upE c a) w':=by
 subst h;exact ⟨hA,rfl⟩
theorem PostS.good {α:Type} {S:List Nat} {b g cap:Nat} {I:Inp} {op:Nat} {V:Nat→World→Value→α→Prop} {nx:Nat} {w:World} {res:Res α} {w':World} {v:α} {n1:Nat} {x:Value} (h:res=.ok v n1) (hA:Aside S w.heap.size w w') (hn:nx≤n1) (hR:Rd w' b g cap I.L I.len n1 op) (hV:V w.heap.size w' x v):PostS S b g cap I op V nx w res (.returned x) w':=by
 subst h;exact ⟨hA,hn,hR,x,rfl,hV⟩
theorem opened_two {ok0:Nat→Prop} {w:World} {b g cap:Nat} {I:Inp} {nx op F eb:Nat} {first caps:Array Value} {R0:Res Ex} (h:Rd w b g cap I.L I.len nx op) (heb:eb<w.heap.size) (neb:eb≠b) (neg:eb≠g) (hok:∀ i,ok0 i→i<w.heap.size∧i≠b) (hop:op<60) (hlt:nx<I.L.length) (hent:∀ args w,(callFunc F args).run Tryz.prog w=.ok (.enter F args) w)
  (HF:∀ w',Rd w' b g cap I.L I.len (nx+1) (op+1)→Aside [b] w.heap.size w w'→Calls Tryz.prog F (first++caps) w' (PostS [b,eb] b g cap I (op+1) (exO ok0) (nx+1) w' R0)) :
  Calls Tryz.prog 273 #[.pointer (some ⟨b,0,none⟩),.func (.func F) first caps] w (PostS [b,eb] b g cap I op (exO ok0) (nx+1) w R0):=by
 have hb:=h.bb;have hg:=h.gb;have h0:=h.alloc (.cells #[.int .i64 0,.int .i64 0,.int .i64 0,.string ⟨#[]⟩,.slice none 0 0,.slice none 0 0] 54 (0,0));have A0:=(Aside.refl (S:=[b]) (B:=w.heap.size) w).alloc nR (.cells #[.int .i64 0,.int .i64 0,.int .i64 0,.string ⟨#[]⟩,.slice none 0 0,.slice none 0 0] 54 (0,0));have hN0:=heap_new w (.cells #[.int .i64 0,.int .i64 0,.int .i64 0,.string ⟨#[]⟩,.slice none 0 0,.slice none 0 0] 54 (0,0));have zN:(w.alloc (.cells #[.int .i64 0,.int .i64 0,.int .i64 0,.string ⟨#[]⟩,.slice none 0 0,.slice none 0 0] 54 (0,0))).heap.size=w.heap.size+1:=(by simp);have hd:decide ((60:Int)≤op)=false:=(by simp;omega);go_enter Tryz.func273,Tryz.ntmps273;go_upto_region 1 with fail;generalize w.alloc (.cells #[.int .i64 0,.int .i64 0,.int .i64 0,.string ⟨#[]⟩,.slice none 0 0,.slice none 0 0] 54 (0,0))=W at h0 A0 hN0 zN ⊢;obtain ⟨c0,c1,c2,c3,_⟩:=h0.cells;have fb:=h0.free 3;have h1:=h0.opens (op+1) ((op:Int)+1) (by omega);have A1:Aside [b] w.heap.size w (W.setCell ⟨b,3,none⟩ (.int .i64 ((op:Int)+1))):=A0.trans (Aside.setCell (by simp) _) A0.size;have hN1:=keep_set hN0 (p:=⟨b,3,none⟩) (by simp;omega) (.int .i64 ((op:Int)+1));have z1:(W.setCell ⟨b,3,none⟩ (.int .i64 ((op:Int)+1))).heap.size=W.heap.size:=(by simp [World.setCell]);go_wp2_with fail;generalize W.setCell ⟨b,3,none⟩ (.int .i64 ((op:Int)+1))=W1 at h1 A1 hN1 z1 ⊢;clear c0 c1 c2 c3 fb h0 A0 hN0;refine (step_any h1 hlt).mono ?_;rintro e w2 ⟨rfl,h2,a2⟩;have z2:=a2.size;have A2:=A1.trans a2 A1.size;have hN2:=a2.keep hN1 (by omega) (by simp;omega);clear a2 A1 hN1 h1;go_wp2_with fail;refine (HF w2 h2 A2).mono ?_;rintro e w3 ⟨a3,hres⟩;have z3:=a3.size;have A3:Aside [b,eb] w.heap.size w w3:=(asideE A2).trans a3 A2.size;have hN3:=a3.keep hN2 (by omega) (by simp;omega);clear a3 A2 hN2 h2 HF
 cases R0 with
 | err c0 a0=>
  obtain rfl:e=_:=hres;exact ⟨rfl,PostS.fail rfl A3⟩
 | ok e0 n1=>
  obtain ⟨le3,h3,_,rfl,y,rfl,he3⟩:=hres;have he4:=(he3.wide (ok':=fun i=>(ok0 i∨w.heap.size<i)∧i≠w.heap.size∧i≠b∧i≠w3.heap.size) (fun i hi hl=>hi.elim (fun q=>have:=hok i q;⟨.inl q,by omega,by omega,by omega⟩) (fun q=>⟨.inr (by omega),by omega,by omega,by omega⟩))).under ((Below.refl _ w3).alloc nR (.cells #[.int .i64 y.op,.int .i64 y.k,.int .i64 y.n,.string y.name,.slice y.aS y.nS y.cS,.slice y.aL y.nL y.cL] 54 (0,0)));have h4:=h3.alloc (.cells #[.int .i64 y.op,.int .i64 y.k,.int .i64 y.n,.string y.name,.slice y.aS y.nS y.cS,.slice y.aL y.nL y.cL] 54 (0,0));have A4:=A3.alloc A3.size (.cells #[.int .i64 y.op,.int .i64 y.k,.int .i64 y.n,.string y.name,.slice y.aS y.nS y.cS,.slice y.aL y.nL y.cL] 54 (0,0));have hN4:=kA hN3 (.cells #[.int .i64 y.op,.int .i64 y.k,.int .i64 y.n,.string y.name,.slice y.aS y.nS y.cS,.slice y.aL y.nL y.cL] 54 (0,0));have hT4:=heap_new w3 (.cells #[.int .i64 y.op,.int .i64 y.k,.int .i64 y.n,.string y.name,.slice y.aS y.nS y.cS,.slice y.aL y.nL y.cL] 54 (0,0));have z4:(w3.alloc (.cells #[.int .i64 y.op,.int .i64 y.k,.int .i64 y.n,.string y.name,.slice y.aS y.nS y.cS,.slice y.aL y.nL y.cL] 54 (0,0))).heap.size=w3.heap.size+1:=(by simp);obtain ⟨c0,c1,c2,c3,_⟩:=h4.cells;have fb:=h4.free 3;have f4:=fun o=>fo hN4 o;have ca0:=co hN4 0;have ca1:=co hN4 1;have ca2:=co hN4 2;have ca3:=co hN4 3;have ca4:=co hN4 4;have ca5:=co hN4 5;simp at ca0 ca1 ca2 ca3 ca4 ca5;have cb0:=co hT4 0;have cb1:=co hT4 1;have cb2:=co hT4 2;have cb3:=co hT4 3;have cb4:=co hT4 4;have cb5:=co hT4 5;simp at cb0 cb1 cb2 cb3 cb4 cb5;go_wp2;have h5:=h4.opens op (op:Int) rfl;have A5:=A4.trans (Aside.setCell (S:=[b,eb]) (B:=w.heap.size) (p:=⟨b,3,none⟩) (by simp) (.int .i64 (op:Int))) nR;have he5:=he4.set (p:=⟨b,3,none⟩) (by simp) (.int .i64 (op:Int));refine bodyPost_ret (v:=.agg #[.int .i64 y.op,.int .i64 y.k,.int .i64 y.n,.string y.name,.slice y.aS y.nS y.cS,.slice y.aL y.nL y.cL]) (by simp [results,Tryz.results273,go_sem,ca0,ca1,ca2,ca3,ca4,ca5]) rfl ?_;exact PostS.good rfl (A5.put6 (k:=w.heap.size) nR y) (by omega) (h5.put6 (k:=w.heap.size) (by omega) (by omega) y) ⟨y,rfl,(he5.put6 (k:=w.heap.size) (by simp) y).wide (fun i hi _=>hi.1.imp id Nat.le_of_lt)⟩
theorem form51_any {b g cap rb eb pb qb ob kb sb tq:Nat} {I:Inp} {op nx:Nat} {E:Nat→Res Ex} {o k:Int} {p:Ps.Pt} {ps:List Ps.Pt} {w:World} (HE:Does 245 b g cap I op exV E) (h:Rd w b g cap I.L I.len nx op) (hG:GlobB b w) (hone:7<eb)
  (nrb:rb≠b) (neb:eb≠b) (neg:eb≠g) (nre:rb≠eb) (npb:pb≠b) (npe:pb≠eb) (nqb:qb≠b) (nqe:qb≠eb) (noe:ob≠eb) (nke:kb≠eb) (nse:sb≠eb)
  (hrb:w.heap[rb]?=some (.cells #[.pointer (some ⟨b,0,none⟩)] 124 (0,0))) (hpb:w.heap[pb]?=some (.cells #[fvOf eb rb pb .part] 1 (0,0))) (hqb:w.heap[qb]?=some (.cells ((p :: ps).map (fvOf eb rb pb)).toArray tq (0,0)))
  (hob:w.heap[ob]?=some (.cells #[.int .i64 o] 3 (0,0))) (hkb:w.heap[kb]?=some (.cells #[.int .i64 k] 3 (0,0))) (hsb:w.heap[sb]?=some (.cells #[.slice (some ⟨qb,0,none⟩) (ps.length+1) (ps.length+1)] 276 (0,0))) (heb:w.heap[eb]?=some (.cells #[.int .i64 0,.int .i64 0,.int .i64 0,.string ⟨#[]⟩,.slice none 0 0,.slice none 0 0] 54 (0,0))) (hps:ps.length≤10) :
  Calls Tryz.prog 285 #[.pointer (some ⟨ob,0,none⟩),.pointer (some ⟨kb,0,none⟩),.pointer (some ⟨eb,0,none⟩),.pointer (some ⟨rb,0,none⟩),.pointer (some ⟨sb,0,none⟩)] w (PostS [b,eb] b g cap I op exV nx w (Ps.brackets I E p ps (Ps.bare o k) nx)):=by
 have hb:=h.bb;have hg:=h.gb;have le:=lt_of heb;go_enter Tryz.func285,Tryz.ntmps285;go_upto_region 1 with fail;have bW:Below w.heap.size w (w.alloc (.cells #[.int .i64 0,.int .i64 0,.int .i64 0,.string ⟨#[]⟩,.slice none 0 0,.slice none 0 0] 54 (0,0))).drew:=((Below.refl _ w).alloc nR _).drew;have hN1:(w.alloc (.cells #[.int .i64 0,.int .i64 0,.int .i64 0,.string ⟨#[]⟩,.slice none 0 0,.slice none 0 0] 54 (0,0))).drew.heap[w.heap.size]?=some (.cells #[.int .i64 0,.int .i64 0,.int .i64 0,.string ⟨#[]⟩,.slice none 0 0,.slice none 0 0] 54 (0,0)):=heap_new w _;have z1:(w.alloc (.cells #[.int .i64 0,.int .i64 0,.int .i64 0,.string ⟨#[]⟩,.slice none 0 0,.slice none 0 0] 54 (0,0))).drew.heap.size=w.heap.size+1:=(by show (w.alloc _).heap.size=_;simp);refine wp_region_late (fun w'=>w'.cell? ⟨ob,0,none⟩=some (.int .i64 o)∧w'.cell? ⟨kb,0,none⟩=some (.int .i64 k)) (fun _=>false) (by kernel_rfl) ?_;generalize (w.alloc (.cells #[.int .i64 0,.int .i64 0,.int .i64 0,.string ⟨#[]⟩,.slice none 0 0,.slice none 0 0] 54 (0,0))).drew=w1 at bW hN1 z1 ⊢;have K:=fun {x:Nat} {y:Obj} (q:w.heap[x]?=some y)=>((aside bW (S:=[])).keep q (lt_of q) (by simp):w1.heap[x]?=some y);have o1:=co (K hob) 0;have k1:=co (K hkb) 0;have e0:=co (K heb) 0;have e1:=co (K heb) 1;have fe:=fun o=>fo (K heb) o;simp only [gT,gZ,gS] at o1 k1 e0 e1;have hH:=And.intro o1 k1;have hb2:=set_in (K heb) 0 (.int .i64 o);have o2:=co (keep_set (K hob) (p:=⟨eb,0,none⟩) (fun q=>noe q.symm) (.int .i64 o)) 0;have k2:=co (keep_set (K hkb) (p:=⟨eb,0,none⟩) (fun q=>nke q.symm) (.int .i64 o)) 0;have hb3:=set_in hb2 1 (.int .i64 k);have o3:=co (keep_set (keep_set (K hob) (p:=⟨eb,0,none⟩) (fun q=>noe q.symm) (.int .i64 o)) (p:=⟨eb,1,none⟩) (fun q=>noe q.symm) (.int .i64 k)) 0;have k3:=co (keep_set (keep_set (K hkb) (p:=⟨eb,0,none⟩) (fun q=>nke q.symm) (.int .i64 o)) (p:=⟨eb,1,none⟩) (fun q=>nke q.symm) (.int .i64 k)) 0;simp only [gT,gZ,gS] at o2 k2 o3 k3;simp only [sT,sZ,sS] at hb2 hb3;have H2:=hide (And.intro o2 k2);have H3:=hide (And.intro o3 k3);clear o2 k2 o3 k3;refine' wpAnyL_take (i:=0) (v:=_) rfl (by kernel_rfl) (by kernel_rfl) (by kernel_rfl) (by kernel_rfl) (fun _ _ _ h=>h) hH (by rfl) ?hyv ?o1
 case hyv=>
  intro wz hSw;obtain ⟨c0,c1⟩:=hSw;go_simp
  try rfl
 try simp only [Act.put,sT,sZ,sS]
 refine' wpAnyL_take (i:=1) (v:=_) rfl (by kernel_rfl) (by kernel_rfl) (by kernel_rfl) (by kernel_rfl) (fun _ _ _ h=>h) hH (by rfl) ?hyv ?o2
 case hyv=>
  intro wz hSw;obtain ⟨c0,c1⟩:=hSw;go_simp
  try rfl
 try simp only [Act.put,sT,sZ,sS]
 refine' wpAnyL_take (i:=2) (v:=_) rfl (by kernel_rfl) (by kernel_rfl) (by kernel_rfl) (by kernel_rfl) (fun _ _ _ h=>h) hH (by rfl) ?hyv ?o3
 case hyv=>
  intro wz hSw;obtain ⟨c0,c1⟩:=hSw;go_simp
  try rfl
 try simp only [Act.put,sT,sZ,sS]
 refine wpAnyL_one (i:=3) rfl (by kernel_rfl) (by rfl) (fun K hK=>?_);go_simp;refine hK.out _ _ (fun _=>H2.out) ?_;clear hK K
 try simp only [Act.put,sT,sZ,sS]
 refine' wpAnyL_take (i:=4) (v:=_) rfl (by kernel_rfl) (by kernel_rfl) (by kernel_rfl) (by kernel_rfl) (fun _ _ _ h=>h) H2.out (by rfl) ?hyv ?o4
 case hyv=>
  intro wz hSw;obtain ⟨c0,c1⟩:=hSw;go_simp
  try rfl
 try simp only [Act.put,sT,sZ,sS]
 refine wpAnyL_one (i:=5) rfl (by kernel_rfl) (by rfl) (fun K hK=>?_);go_simp;refine hK.out _ _ (fun _=>H3.out) ?_;clear hK K
 try simp only [Act.put,sT,sZ,sS]
 refine wpAnyL_done (by kernel_rfl) ?_ _;have K3:=fun {x:Nat} {y:Obj} (q:w.heap[x]?=some y) (hx:x≠eb)=>(keep_set (keep_set (K q) (p:=⟨eb,0,none⟩) (fun e=>hx e.symm) (.int .i64 o)) (p:=⟨eb,1,none⟩) (fun e=>hx e.symm) (.int .i64 k):((w1.setCell ⟨eb,0,none⟩ (.int .i64 o)).setCell ⟨eb,1,none⟩ (.int .i64 k)).heap[x]?=some y);have hN3:=keep_set (keep_set hN1 (p:=⟨eb,0,none⟩) (by simp;omega) (.int .i64 o)) (p:=⟨eb,1,none⟩) (by simp;omega) (.int .i64 k);have h3:=((h.below bW).set (p:=⟨eb,0,none⟩) (by simpa using neb) (by simpa using neg) (.int .i64 o)).set (p:=⟨eb,1,none⟩) (by simpa using neb) (by simpa using neg) (.int .i64 k);have A3:Aside [b,eb] w.heap.size w ((w1.setCell ⟨eb,0,none⟩ (.int .i64 o)).setCell ⟨eb,1,none⟩ (.int .i64 k)):=((aside bW).trans (Aside.setCell (by simp) _) nR).trans (Aside.setCell (by simp) _) nR;have z3:((w1.setCell ⟨eb,0,none⟩ (.int .i64 o)).setCell ⟨eb,1,none⟩ (.int .i64 k)).heap.size=w.heap.size+1:=(by simp [World.setCell,z1]);have hr3:=K3 hrb nre;have hp3:=K3 hpb npe;have hq3:=K3 hqb nqe;have hs3:=K3 hsb nse;have cr:=co hr3 0;have cs:=co hs3 0;simp only [gT,gZ,gS] at cr cs;have hG3:GlobB b ((w1.setCell ⟨eb,0,none⟩ (.int .i64 o)).setCell ⟨eb,1,none⟩ (.int .i64 k)):=⟨hG.1,hG.2.keep A3.size (A3.block 7 hG.one (by have:=hG.1;simp;omega))⟩;go_upto_region 2 with fail;generalize (w1.setCell ⟨eb,0,none⟩ (.int .i64 o)).setCell ⟨eb,1,none⟩ (.int .i64 k)=w3 at hb3 hN3 h3 A3 z3 hr3 hp3 hq3 hs3 cr cs hG3 ⊢;clear K3 K H2 H3 hH o1 k1 e0 e1 fe hb2 hN1 bW;have F3:FEnv b g rb eb pb (w.heap.size+1) w3:=⟨⟨by omega,by omega,by have:=lt_of hrb;omega,by omega,nrb,neb,neg,nre⟩,by have:=lt_of hpb;omega,npb,npe,hone,by omega,hG3,hr3,hp3⟩;have S3:ExSt (w.heap.size+1) eb w3 (Ps.bare o k):=⟨.slice none 0 0,.slice none 0 0,fun _=>False,fun _=>False,hb3,OwnX.nil,OwnX.nil,fun i hi=>hi.elim,fun i hi=>hi.elim,fun i hi=>hi.elim⟩;go_wp2_with fail;refine (brackets_any HE F3 h3 S3 p ps (by show 0+_≤_;omega) (by show 0+_≤_;omega) (by have:=lt_of hqb;omega) nqb nqe hq3).mono ?_;rintro r w4 ⟨a4,hres⟩;have A4:Aside [b,eb] w.heap.size w w4:=A3.trans a4 (Nat.le_succ _);have hN4:=a4.keep hN3 (by omega) (by simp;omega)
 cases ht:Ps.brackets I E p ps (Ps.bare o k) nx with
 | err c0 a0=>
  rw [ht] at hres;obtain rfl:r=_:=hres;exact ⟨rfl,PostS.fail rfl A4⟩
 | ok e4 n4=>
  rw [ht] at hres;obtain ⟨le4,h4,rfl,vS,vL,okS,okL,heb4,oS,oL,hokS,hokL,hdis⟩:=hres;obtain ⟨aS,cS,rfl,hS1,hS2⟩:=oS.form;obtain ⟨aL,cL,rfl,hL1,hL2⟩:=oL.form;have HT:=hide ht;clear ht;have fa:=fun o=>fo hN4 o;have ca0:=co hN4 0;have ca1:=co hN4 1;have ca2:=co hN4 2;have ca3:=co hN4 3;have ca4:=co hN4 4;have ca5:=co hN4 5;simp at ca0 ca1 ca2 ca3 ca4 ca5;have cb0:=co heb4 0;have cb1:=co heb4 1;have cb2:=co heb4 2;have cb3:=co heb4 3;have cb4:=co heb4 4;have cb5:=co heb4 5;simp at cb0 cb1 cb2 cb3 cb4 cb5;have hX:HEx (fun i=>w.heap.size<i) w4 (ExV.cells ⟨e4.op,e4.k,e4.n,e4.name,aS,e4.S.length,cS,aL,e4.L.length,cL⟩) e4:=HEx.make (x:=⟨e4.op,e4.k,e4.n,e4.name,aS,e4.S.length,cS,aL,e4.L.length,cL⟩) rfl rfl rfl rfl (sizes_row (oS.row.wide (fun i hi _=>by have:=hokS i hi;omega))) (exprs_row (oL.row.wide (fun i hi _=>by have:=hokL i hi;omega)));go_wp2;refine bodyPost_ret (v:=.agg #[.int .i64 e4.op,.int .i64 e4.k,.int .i64 e4.n,.string e4.name,.slice aS e4.S.length cS,.slice aL e4.L.length cL]) (by simp [results,Tryz.results285,go_sem,ca0,ca1,ca2,ca3,ca4,ca5]) rfl ?_;exact PostS.good HT.out (A4.put6 (k:=w.heap.size) nR ⟨e4.op,e4.k,e4.n,e4.name,aS,e4.S.length,cS,aL,e4.L.length,cL⟩) (by omega) (h4.put6 (k:=w.heap.size) (by omega) (by omega) ⟨e4.op,e4.k,e4.n,e4.name,aS,e4.S.length,cS,aL,e4.L.length,cL⟩) ⟨⟨e4.op,e4.k,e4.n,e4.name,aS,e4.S.length,cS,aL,e4.L.length,cL⟩,rfl,(hX.put6 (k:=w.heap.size) (by simp) ⟨e4.op,e4.k,e4.n,e4.name,aS,e4.S.length,cS,aL,e4.L.length,cL⟩).wide (fun i hi _=>Nat.le_of_lt hi)⟩
theorem PostS.mono {α:Type} {S:List Nat} {b g cap:Nat} {I:Inp} {op:Nat} {V V':Nat→World→Value→α→Prop} {nx:Nat} {w:World} {res:Res α} {r:Ending} {w':World} (hV:∀ B w x v,V B w x v→V' B w x v) (h:PostS S b g cap I op V nx w res r w'):PostS S b g cap I op V' nx w res r w':=by
 obtain ⟨h1,h2⟩:=h;refine ⟨h1,?_⟩
 cases res with
 | ok v n=>obtain ⟨a,b,x,c,d⟩:=h2;exact ⟨a,b,x,c,hV _ _ _ _ d⟩
 | err c a=>exact h2
theorem form5_any {b g cap rb eb pb qb tq:Nat} {I:Inp} {op nx:Nat} {J:Option (Nat→Res Ex)} {o k:Int} {p:Ps.Pt} {ps:List Ps.Pt} {w:World} (HJ:Inner b g cap I op J) (hlt:nx<I.L.length) (h:Rd w b g cap I.L I.len nx op) (hG:GlobB b w) (hone:7<eb)
  (nrb:rb≠b) (neb:eb≠b) (neg:eb≠g) (nre:rb≠eb) (npb:pb≠b) (npe:pb≠eb) (nqb:qb≠b) (nqe:qb≠eb)
  (hrb:w.heap[rb]?=some (.cells #[.pointer (some ⟨b,0,none⟩)] 124 (0,0))) (hpb:w.heap[pb]?=some (.cells #[fvOf eb rb pb .part] 1 (0,0))) (hqb:w.heap[qb]?=some (.cells ((p :: ps).map (fvOf eb rb pb)).toArray tq (0,0)))
  (heb:w.heap[eb]?=some (.cells #[.int .i64 0,.int .i64 0,.int .i64 0,.string ⟨#[]⟩,.slice none 0 0,.slice none 0 0] 54 (0,0))) (hps:ps.length≤10) :
  Calls Tryz.prog 284 #[.int .i64 o,.int .i64 k,.slice (some ⟨qb,0,none⟩) (ps.length+1) (ps.length+1),.pointer (some ⟨rb,0,none⟩),.pointer (some ⟨eb,0,none⟩)] w (PostS [b,eb] b g cap I op exV nx w (Ps.opn I J nx fun A n1=>Ps.brackets I (Ps.exprOf I A) p ps (Ps.bare o k) n1)):=by
 have hb:=h.bb;have hg:=h.gb;have le:=lt_of heb;have lr:=lt_of hrb;have lp:=lt_of hpb;have lq:=lt_of hqb;have hmf:=makes;obtain ⟨W,hW⟩:=nmQ (((((w.alloc (.cells #[.int .i64 o] 3 (0,0))).alloc (.cells #[.int .i64 k] 3 (0,0))).alloc (.cells #[.slice (some ⟨qb,0,none⟩) (ps.length+1) (ps.length+1)] 276 (0,0))).alloc (.cells #[.int .i64 0,.int .i64 0,.int .i64 0,.string ⟨#[]⟩,.slice none 0 0,.slice none 0 0] 54 (0,0))));have zW:W.heap.size=w.heap.size+1+1+1+1:=(by rw [hW];simp);have bW:Below w.heap.size w W:=(by rw [hW];exact ((((Below.refl _ w).alloc nR _).alloc (by simp) _).alloc (by simp;omega) _).alloc (by simp;omega) _);have oW:W.heap[w.heap.size]?=some (.cells #[.int .i64 o] 3 (0,0)):=by
  have q:=heap_new w (.cells #[.int .i64 o] 3 (0,0));rw [hW];exact (kA (kA (kA q _) _) _)
 have kW:W.heap[w.heap.size+1]?=some (.cells #[.int .i64 k] 3 (0,0)):=by
  have q:=heap_new (w.alloc (.cells #[.int .i64 o] 3 (0,0))) (.cells #[.int .i64 k] 3 (0,0));have z:(w.alloc (.cells #[.int .i64 o] 3 (0,0))).heap.size=w.heap.size+1:=(by simp);rw [z] at q;rw [hW];exact (kA (kA q _) _)
 have sW:W.heap[w.heap.size+1+1]?=some (.cells #[.slice (some ⟨qb,0,none⟩) (ps.length+1) (ps.length+1)] 276 (0,0)):=by
  have q:=heap_new ((w.alloc (.cells #[.int .i64 o] 3 (0,0))).alloc (.cells #[.int .i64 k] 3 (0,0))) (.cells #[.slice (some ⟨qb,0,none⟩) (ps.length+1) (ps.length+1)] 276 (0,0));have z:((w.alloc (.cells #[.int .i64 o] 3 (0,0))).alloc (.cells #[.int .i64 k] 3 (0,0))).heap.size=w.heap.size+1+1:=(by simp);rw [z] at q;rw [hW];exact (kA q _)
 have nW:W.heap[w.heap.size+1+1+1]?=some (.cells #[.int .i64 0,.int .i64 0,.int .i64 0,.string ⟨#[]⟩,.slice none 0 0,.slice none 0 0] 54 (0,0)):=by
  have q:=heap_new (((w.alloc (.cells #[.int .i64 o] 3 (0,0))).alloc (.cells #[.int .i64 k] 3 (0,0))).alloc (.cells #[.slice (some ⟨qb,0,none⟩) (ps.length+1) (ps.length+1)] 276 (0,0))) (.cells #[.int .i64 0,.int .i64 0,.int .i64 0,.string ⟨#[]⟩,.slice none 0 0,.slice none 0 0] 54 (0,0));have z:(((w.alloc (.cells #[.int .i64 o] 3 (0,0))).alloc (.cells #[.int .i64 k] 3 (0,0))).alloc (.cells #[.slice (some ⟨qb,0,none⟩) (ps.length+1) (ps.length+1)] 276 (0,0))).heap.size=w.heap.size+1+1+1:=(by simp);rw [z] at q;rw [hW];exact q
 have hRW:=h.below bW;have AW:Aside [b,eb] w.heap.size w W:=aside bW;have AW1:Aside [b] w.heap.size w W:=aside bW;have K:=fun {x:Nat} {y:Obj} (q:w.heap[x]?=some y)=>((aside bW (S:=[])).keep q (lt_of q) (by simp):W.heap[x]?=some y);have rW:=K hrb;have cr:=co rW 0;simp only [gT,gZ] at cr;go_enter Tryz.func284,Tryz.ntmps284;go_upto_region 1 with fail;rw [←hW];clear hW;go_wp2_with fail
 cases J with
 | none=>
  refine (opened_deep hRW HJ _).mono ?_;rintro r w1 ⟨rfl,a1⟩;exact ⟨rfl,PostS.fail rfl (AW.trans (asideE a1) AW.size)⟩
 | some A=>
  have HF:∀ w',Rd w' b g cap I.L I.len (nx+1) (op+1)→Aside [b] W.heap.size W w'→Calls Tryz.prog 285 (#[]++#[.pointer (some ⟨w.heap.size,0,none⟩),.pointer (some ⟨w.heap.size+1,0,none⟩),.pointer (some ⟨eb,0,none⟩),.pointer (some ⟨rb,0,none⟩),.pointer (some ⟨w.heap.size+1+1,0,none⟩)]) w' (PostS [b,eb] b g cap I (op+1) (exO fun _=>False) (nx+1) w' (Ps.brackets I (Ps.exprOf I A) p ps (Ps.bare o k) (nx+1))):=fun w' hr' ha'=>
   (form51_any (exprOf_any HJ.2) hr' (hG.far (AW1.trans ha' AW1.size)) hone nrb neb neg nre npb npe nqb nqe (by omega) (by omega) (by omega) (ha'.keep rW (lt_of rW) (by simp;omega)) (ha'.keep (K hpb) (lt_of (K hpb)) (by simp;omega)) (ha'.keep (K hqb) (lt_of (K hqb)) (by simp;omega)) (ha'.keep oW (lt_of oW) (by simp;omega)) (ha'.keep kW (lt_of kW) (by simp;omega)) (ha'.keep sW (lt_of sW) (by simp;omega)) (ha'.keep (K heb) (lt_of (K heb)) (by simp;omega)) hps).mono fun e w2 hp=>hp.mono fun B w x v hv=>exO_of _ hv
  refine (opened_two hRW (by omega) neb neg (fun i hi=>hi.elim) HJ.1 hlt enter135 HF).mono ?_;rintro r w1 ⟨a1,hres⟩;have z1:=a1.size;have A1:=AW.trans a1 AW.size;have hN1:=a1.keep nW (by omega) (by simp;omega)
  cases ht:Ps.brackets I (Ps.exprOf I A) p ps (Ps.bare o k) (nx+1) with
  | err c0 a0=>
   rw [ht] at hres;obtain rfl:r=_:=hres;exact ⟨rfl,PostS.fail (by unfold Ps.opn;exact ht) A1⟩
  | ok e1 n1=>
   rw [ht] at hres;obtain ⟨le1,h1,_,rfl,hx⟩:=hres;obtain ⟨y,rfl,he1⟩:=exV_of hx;have HT:=hide ht;clear ht;have fa:=fun o=>fo hN1 o;have ca0:=co hN1 0;have ca1:=co hN1 1;have ca2:=co hN1 2;have ca3:=co hN1 3;have ca4:=co hN1 4;have ca5:=co hN1 5;simp at ca0 ca1 ca2 ca3 ca4 ca5;have he2:=he1.wide (ok':=fun i=>w.heap.size+1+1+1<i) (fun i hi hl=>by omega);go_wp2;refine bodyPost_ret (v:=.agg #[.int .i64 y.op,.int .i64 y.k,.int .i64 y.n,.string y.name,.slice y.aS y.nS y.cS,.slice y.aL y.nL y.cL]) (by simp [results,Tryz.results284,go_sem,ca0,ca1,ca2,ca3,ca4,ca5]) rfl ?_;exact PostS.good (by unfold Ps.opn;exact HT.out) (A1.put6 (k:=w.heap.size+1+1+1) (by omega) y) (by omega) (h1.put6 (k:=w.heap.size+1+1+1) (by omega) (by omega) y) ⟨y,rfl,(he2.put6 (k:=w.heap.size+1+1+1) (by simp) y).wide (fun i hi _=>by omega)⟩
end Go.Proofs.YtkfgbhlpjkkgfaaGreatDoor
