import Derived.Test.YtophfbefnaelfaaGreatDoorF24
set_option linter.unusedVariables false
set_option linter.unusedSimpArgs false
set_option maxHeartbeats 64000000
set_option maxRecDepth 100000
namespace Go.Proofs.YtophfbefnaelfaaGreatDoor
open Go.RowKit Go.IntWalk
theorem addL_len (e x:Ex):(Ps.Ex.addL e x).L.length=e.L.length+1:=by
 show (e.L++[x]).length=_
 simp
theorem enter129 (args:Array Value) (w:World):(callFunc 185 args).run Tryz.prog w=.ok (.enter 185 args) w:=by kernel_rfl
theorem enter130 (args:Array Value) (w:World):(callFunc 186 args).run Tryz.prog w=.ok (.enter 186 args) w:=by kernel_rfl
theorem enter131 (args:Array Value) (w:World):(callFunc 187 args).run Tryz.prog w=.ok (.enter 187 args) w:=by kernel_rfl
theorem enter133 (args:Array Value) (w:World):(callFunc 189 args).run Tryz.prog w=.ok (.enter 189 args) w:=by kernel_rfl
theorem enter134 (args:Array Value) (w:World):(callFunc 190 args).run Tryz.prog w=.ok (.enter 190 args) w:=by kernel_rfl
theorem twoC_any {b g cap rb eb pb N0:Nat} {I:Inp} {op nx:Nat} {E:Nat→Res Ex} {e:Ex} {w:World} (HE:Does 164 b g cap I op exV E) (hv:Env b g rb eb N0) (hp0:pb<N0) (npb:pb≠b) (npe:pb≠eb) (h:Rd w b g cap I.L I.len nx op) (hG:GlobB b w) (hone:6<eb) (hN0:N0≤w.heap.size) (hrb:w.heap[rb]?=some (.cells #[.pointer (some ⟨b,0,none⟩)] 104 (0,0))) (hpb:w.heap[pb]?=some (.cells #[Value.func (.func 185) #[] #[.pointer (some ⟨eb,0,none⟩),.pointer (some ⟨rb,0,none⟩)]] 1 (0,0))) (hS:ExSt N0 eb w e) (hlen:e.L.length≤900) :
  Calls Tryz.prog 189 #[.pointer (some ⟨pb,0,none⟩),.pointer (some ⟨rb,0,none⟩)] w (PostE b g cap eb N0 I op nx w (Ps.part I E .oneOrTwo e nx)):=by
 have hv':=hv;obtain ⟨v0,v1,v2,v3,v4,v5,v6,v7⟩:=hv';have cp:=co hpb 0;simp only [gT,gZ] at cp;have hent:=enter129;go_enter Tryz.func189,Tryz.ntmps189;go_wp2_with fail;refine (partC_any HE hv h hG hone hN0 hrb hS (by omega)).mono ?_;rintro r w1 ⟨a1,hres⟩;have z1:=a1.size;have hr1:=a1.keep hrb (by omega) (by simp;omega);have hp1:=a1.keep hpb (by omega) (by simp;omega);clear cp
 cases ht:E nx with
 | err c0 a0=>
  have e1:Ps.part I E .part e nx=.err c0 a0:=(by unfold Ps.part;simp only [];rw [ht];rfl);rw [e1] at hres;obtain rfl:r=_:=hres;exact ⟨rfl,PostE.fail (by unfold Ps.part;simp only [];rw [ht];rfl) a1⟩
 | ok x n1=>
  have e1:Ps.part I E .part e nx=.ok (Ps.Ex.addL e x) n1:=(by unfold Ps.part;simp only [];rw [ht];rfl);rw [e1] at hres;obtain ⟨le1,h1,rfl,hS1⟩:=hres;have m1:Hid (Ps.part I E .oneOrTwo e nx=if Ps.sees I [44] n1=true then (E (n1+1)).bind fun y n2=>.ok (Ps.Ex.addL (Ps.Ex.addL e x) y) n2 else .ok (Ps.Ex.addL e x) n1):=by
   show Ps.part I E .oneOrTwo e nx=_
   conv=>lhs;unfold Ps.part
   simp only [];rw [ht];rfl
  clear ht e1;have cr:=co hr1 0;simp only [gT,gZ] at cr;go_wp2_with fail;refine (take_any h1 ⟨#[44]⟩ (by decide)).mono ?_;rintro r w2 ⟨rfl,h2,a2⟩;have es:(⟨#[44]⟩:ByteArray).data.toList=[44]:=rfl;rw [es] at h2;simp only [es];clear es cr;have z2:=a2.size;have A2:Aside [b,eb] N0 w w2:=a1.trans (asideE a2) (by omega);have hS2:=hS1.keepA a2 (by simp;exact v0) (by simp;exact v5);have hr2:=a2.keep hr1 (lt_of hr1) (by simp;omega);have hp2:=a2.keep hp1 (lt_of hp1) (by simp;omega)
  cases hq:Ps.sees I [44] n1 with
  | false=>
   rw [hq] at h2;simp only [Bool.false_eq_true,if_false] at h2;go_wp2;go_end0;exact PostE.good (by rw [m1.out,hq];rfl) A2 le1 h2 hS2
  | true=>
   rw [hq] at h2;simp only [if_true] at h2;have cp:=co hp2 0;simp only [gT,gZ] at cp;go_wp2_with fail;refine (partC_any HE hv h2 (hG.far2 A2 hone v3) hone (by omega) hr2 hS2 (by rw [addL_len];omega)).mono ?_;rintro r w3 ⟨a3,hres⟩;have A3:=A2.trans a3 nR
   cases ht:E (n1+1) with
   | err c0 a0=>
    have e1:Ps.part I E .part (Ps.Ex.addL e x) (n1+1)=.err c0 a0:=(by unfold Ps.part;simp only [];rw [ht];rfl);rw [e1] at hres;obtain rfl:r=_:=hres;exact ⟨rfl,PostE.fail (by rw [m1.out,hq,if_pos rfl,ht];rfl) A3⟩
   | ok y n3=>
    have e1:Ps.part I E .part (Ps.Ex.addL e x) (n1+1)=.ok (Ps.Ex.addL (Ps.Ex.addL e x) y) n3:=(by unfold Ps.part;simp only [];rw [ht];rfl);rw [e1] at hres;obtain ⟨le3,h3,rfl,hS3⟩:=hres;have m3:Hid (Ps.part I E .oneOrTwo e nx=.ok (Ps.Ex.addL (Ps.Ex.addL e x) y) n3):=by
     show Ps.part I E .oneOrTwo e nx=_
     rw [m1.out,hq,if_pos rfl,ht];rfl
    go_wp2;go_end0;exact PostE.good m3.out A3 (by omega) h3 hS3
end Go.Proofs.YtophfbefnaelfaaGreatDoor
namespace Go.Proofs.YtophfbefnaelfaaGreatDoor
open Go.RowKit Go.IntWalk
theorem addS_len (e:Ex) (s:List Tm):(Ps.Ex.addS e s).S.length=e.S.length+1:=by
 show (e.S++[s]).length=_
 simp
theorem part_lens {I:Inp} {E:Nat→Res Ex} {p:Ps.Pt} {e x:Ex} {n m:Nat} (h:Ps.part I E p e n=.ok x m):x.L.length≤e.L.length+2∧x.S.length≤e.S.length+2:=by
 cases p with
 | part=>
  obtain ⟨r,k,h1,h2⟩:=Res.bind_ok h;obtain ⟨rfl,rfl⟩:=ok_inj h2;rw [addL_len];exact ⟨by omega,by show e.S.length≤_;omega⟩
 | size=>
  obtain ⟨r,k,h1,h2⟩:=Res.bind_ok h;obtain ⟨rfl,rfl⟩:=ok_inj h2;rw [addS_len];exact ⟨by show e.L.length≤_;omega,by omega⟩
 | oper=>
  obtain ⟨r,k,h1,h2⟩:=Res.bind_ok h;obtain ⟨rfl,rfl⟩:=ok_inj h2;exact ⟨by show e.L.length≤_;omega,by show e.S.length≤_;omega⟩
 | oneOrTwo=>
  obtain ⟨r,k,h1,h2⟩:=Res.bind_ok h
  split at h2
  ·obtain ⟨s,j,h4,h5⟩:=Res.bind_ok h2
   obtain ⟨rfl,rfl⟩:=ok_inj h5;rw [addL_len,addL_len];exact ⟨by omega,by show e.S.length≤_;omega⟩
  ·obtain ⟨rfl,rfl⟩:=ok_inj h2
   rw [addL_len];exact ⟨by omega,by show e.S.length≤_;omega⟩
def fnOf:Ps.Pt→Nat
 | .part=>185
 | .size=>186
 | .oper=>187
 | .oneOrTwo=>189
def argsOf (eb rb pb:Nat):Ps.Pt→Array Value
 | .part=>#[.pointer (some ⟨eb,0,none⟩),.pointer (some ⟨rb,0,none⟩)]
 | .size=>#[.pointer (some ⟨eb,0,none⟩),.pointer (some ⟨rb,0,none⟩)]
 | .oper=>#[.pointer (some ⟨rb,0,none⟩),.pointer (some ⟨eb,0,none⟩)]
 | .oneOrTwo=>#[.pointer (some ⟨pb,0,none⟩),.pointer (some ⟨rb,0,none⟩)]
def fvOf (eb rb pb:Nat) (p:Ps.Pt):Value:=.func (.func (fnOf p)) #[] (argsOf eb rb pb p)
theorem enterOf (p:Ps.Pt) (args:Array Value) (w:World):(callFunc (fnOf p) args).run Tryz.prog w=.ok (.enter (fnOf p) args) w:=by
 cases p
 ·exact enter129 args w
 ·exact enter130 args w
 ·exact enter131 args w
 ·exact enter133 args w
structure FEnv (b g rb eb pb N0:Nat) (w:World):Prop where
 env:Env b g rb eb N0
 p0:pb<N0
 npb:pb≠b
 npe:pb≠eb
 one:6<eb
 size:N0≤w.heap.size
 glob:GlobB b w
 hrb:w.heap[rb]?=some (.cells #[.pointer (some ⟨b,0,none⟩)] 104 (0,0))
 hpb:w.heap[pb]?=some (.cells #[fvOf eb rb pb .part] 1 (0,0))
theorem FEnv.far {b g rb eb pb N0:Nat} {w w':World} (h:FEnv b g rb eb pb N0 w) (a:Aside [b,eb] N0 w w'):FEnv b g rb eb pb N0 w' :=
 ⟨h.env,h.p0,h.npb,h.npe,h.one,Nat.le_trans h.size a.size,h.glob.far2 a h.one h.env.e0,a.keep h.hrb h.env.r0 (by have:=h.env.nr;have:=h.env.nx;simp;omega),a.keep h.hpb h.p0 (by have:=h.npb;have:=h.npe;simp;omega)⟩
theorem pt_any {b g cap rb eb pb N0:Nat} {I:Inp} {op nx:Nat} {E:Nat→Res Ex} {e:Ex} {w:World} (HE:Does 164 b g cap I op exV E) (F:FEnv b g rb eb pb N0 w) (h:Rd w b g cap I.L I.len nx op) (hS:ExSt N0 eb w e) (hl:e.L.length≤900) (hs:e.S.length≤900) (p:Ps.Pt) :
  Calls Tryz.prog (fnOf p) (argsOf eb rb pb p) w (PostE b g cap eb N0 I op nx w (Ps.part I E p e nx)):=by
 cases p with
 | part=>exact partC_any HE F.env h F.glob F.one F.size F.hrb hS (by omega)
 | size=>exact sizeC_any F.env h F.size F.hrb hS (by omega)
 | oper=>exact operC_any F.env h F.glob F.size F.hrb hS
 | oneOrTwo=>exact twoC_any HE F.env F.p0 F.npb F.npe h F.glob F.one F.size F.hrb F.hpb hS hl
namespace Ps
def left (I:Inp) (E:Nat→Res Ex) (p:Pt) (ps:List Pt) (e:Ex) (n:Nat):Nat→Res Ex
 | 0=>(part I E p e n).bind fun e1 n2=>parts I E ps e1 n2
 | i+1=>parts I E (ps.drop i) e n
end Ps
theorem brackets_eq (I:Inp) (E:Nat→Res Ex) (p:Ps.Pt) (ps:List Ps.Pt) (e:Ex) (n:Nat):Ps.brackets I E p ps e n=(Ps.need I [40] n).bind fun _ n1=>(Ps.left I E p ps e n1 0).bind fun e2 n3=>(Ps.need I [41] n3).bind fun _ n4=>.ok e2 n4:=by
 unfold Ps.brackets Ps.left
 congr 1
 funext _ n1
 cases Ps.part I E p e n1<;>rfl
theorem left_end (I:Inp) (E:Nat→Res Ex) (p:Ps.Pt) (ps:List Ps.Pt) (x:Ex) (m:Nat):Ps.left I E p ps x m (ps.length+1)=.ok x m:=by
 unfold Ps.left;simp [Ps.parts]
theorem left_succ (I:Inp) (E:Nat→Res Ex) (p:Ps.Pt) (ps:List Ps.Pt) (x:Ex) (m i:Nat) (hi:i<ps.length):Ps.left I E p ps x m (i+1)=(Ps.need I [44] m).bind fun _ n1=>(Ps.part I E ps[i] x n1).bind fun e1 n2=>Ps.left I E p ps e1 n2 (i+2):=by
 conv=>lhs;unfold Ps.left
 simp only [];rw [List.drop_eq_getElem_cons hi];rfl
theorem brackets_any {b g cap rb eb pb qb N0 tq:Nat} {I:Inp} {op nx:Nat} {E:Nat→Res Ex} {e:Ex} {w:World} (HE:Does 164 b g cap I op exV E) (F:FEnv b g rb eb pb N0 w) (h:Rd w b g cap I.L I.len nx op) (hS:ExSt N0 eb w e) (p:Ps.Pt) (ps:List Ps.Pt) (hl:e.L.length+2*(ps.length+1)≤900) (hs:e.S.length+2*(ps.length+1)≤900)
  (hq0:qb<N0) (nqb:qb≠b) (nqe:qb≠eb) (hqb:w.heap[qb]?=some (.cells ((p :: ps).map (fvOf eb rb pb)).toArray tq (0,0))) :
  Calls Tryz.prog 192 #[.pointer (some ⟨b,0,none⟩),.slice (some ⟨qb,0,none⟩) (ps.length+1) (ps.length+1)] w (PostE b g cap eb N0 I op nx w (Ps.brackets I E p ps e nx)):=by
 have hb:=h.bb;go_enter Tryz.func192,Tryz.ntmps192;go_wp2_with fail;refine (need_any h ⟨#[40]⟩ (by decide)).mono ?_;rintro r w1 ⟨a1,hres⟩;have es:(⟨#[40]⟩:ByteArray).data.toList=[40]:=rfl;rw [es] at hres;clear es;have A1:Aside [b,eb] N0 w w1:=asideE (a1.mono F.size);have hS1:=hS.keepA a1 (by simp;exact F.env.b0) (by simp;exact F.env.ne)
 cases ht:Ps.need I [40] nx with
 | err c0 a0=>
  rw [ht] at hres;obtain rfl:r=_:=hres;exact ⟨rfl,PostE.fail (by rw [brackets_eq,ht];rfl) A1⟩
 | ok u n1=>
  rw [ht] at hres;obtain ⟨le1,h1,_,rfl,rfl⟩:=hres;have m1:Hid (Ps.brackets I E p ps e nx=(Ps.left I E p ps e n1 0).bind fun e2 n3=>(Ps.need I [41] n3).bind fun _ n4=>.ok e2 n4):=by
   show Ps.brackets I E p ps e nx=_
   rw [brackets_eq,ht];rfl
  clear ht;have hlenb:ps.length≤1000:=(by omega);go_wp2;go_loopg [4,5,10] (ps.length+1) (fun k v4 v5 v10 wr=>∃ (i:Nat) (x:Ex) (m:Nat),i≤ps.length+1∧k=ps.length+1-i∧v10=.int .i64 (i:Nat)∧nx≤m∧Rd wr b g cap I.L I.len m op∧Aside [b,eb] N0 w wr∧ExSt N0 eb wr x∧x.L.length+2*(ps.length+1-i)≤900∧x.S.length+2*(ps.length+1-i)≤900∧Hid (Ps.brackets I E p ps e nx=(Ps.left I E p ps x m i).bind fun e2 n3=>(Ps.need I [41] n3).bind fun _ n4=>.ok e2 n4))
  case atStart=>exact ⟨0,e,n1,Nat.zero_le _,rfl,rfl,le1,h1,A1,hS1,by omega,by omega,m1⟩
  case round=>
   clear m1 hS1 h1 A1;obtain ⟨i,x,m,hi,rfl,rfl,hle,hr,hA,hSx,hxl,hxs,hmod⟩:=hrel;have Fr:=F.far hA;have hqr:=hA.keep hqb hq0 (by simp;omega);have zr:=Fr.size;by_cases hend:i=ps.length+1
   ·subst hend
    have m2:Hid (Ps.brackets I E p ps e nx=(Ps.need I [41] m).bind fun _ n4=>.ok x n4):=by
     show Ps.brackets I E p ps e nx=_
     rw [hmod.out,left_end];rfl
    go_wp2_with fail;refine (need_any hr ⟨#[41]⟩ (by decide)).mono ?_;rintro r w2 ⟨a2,hres⟩;have es:(⟨#[41]⟩:ByteArray).data.toList=[41]:=rfl;rw [es] at hres;clear es;have A2:Aside [b,eb] N0 w w2:=hA.trans (asideE a2) zr;have hS2:=hSx.keepA a2 (by simp;exact F.env.b0) (by simp;exact F.env.ne)
    cases ht:Ps.need I [41] m with
    | err c0 a0=>
     rw [ht] at hres;obtain rfl:r=_:=hres;exact ⟨rfl,PostE.fail (by rw [m2.out,ht];rfl) A2⟩
    | ok u n2=>
     rw [ht] at hres;obtain ⟨le2,h2,_,rfl,rfl⟩:=hres;have m3:Hid (Ps.brackets I E p ps e nx=.ok x n2):=by
      show Ps.brackets I E p ps e nx=_
      rw [m2.out,ht];rfl
     go_wp2;go_end0;exact PostE.good m3.out A2 (by omega) h2 hS2
   ·have hil:i<(p :: ps).length:=by simp;omega
    have cq:wr.cell? ⟨qb,i,none⟩=some (fvOf eb rb pb (p :: ps)[i]):=by
     rw [co hqr,gT,List.getElem?_map,List.getElem?_eq_getElem hil];rfl
    unfold fvOf at cq;have hent:=enterOf (p :: ps)[i];by_cases hi0:i=0
    ·subst hi0
     simp only [List.getElem_cons_zero] at cq hent;go_wp2_with fail;refine (pt_any HE Fr hr hSx (by omega) (by omega) p).mono ?_;rintro r w3 ⟨a3,hres⟩;have A3:=hA.trans a3 nR
     cases ht:Ps.part I E p x m with
     | err c0 a0=>
      rw [ht] at hres;obtain rfl:r=_:=hres;exact ⟨rfl,PostE.fail (by rw [hmod.out];unfold Ps.left;simp only [];rw [ht];rfl) A3⟩
     | ok x1 n3=>
      rw [ht] at hres;obtain ⟨le3,h3,rfl,hS3⟩:=hres;have hln:=part_lens ht;have m3:Hid (Ps.brackets I E p ps e nx=(Ps.left I E p ps x1 n3 (1)).bind fun e2 n3=>(Ps.need I [41] n3).bind fun _ n4=>.ok e2 n4):=by
       show Ps.brackets I E p ps e nx=_
       rw [hmod.out]
       conv=>lhs;unfold Ps.left
       simp only [];rw [ht];rfl
      clear ht;go_wp2;go_roundg (ps.length+1-(1))
      case measure=>omega
      case rel=>exact ⟨1,x1,n3,by omega,rfl,by go_num,by omega,h3,A3,hS3,by omega,by omega,m3⟩
    ·skip
     obtain ⟨j,rfl⟩:∃ j,i=j+1:=⟨i-1,by omega⟩;have hj:j<ps.length:=(by simp at hil;omega);simp only [List.getElem_cons_succ] at cq hent;have hst:=hide (hmod.out.trans (congrArg (fun r=>Res.bind r fun e2 n3=>(Ps.need I [41] n3).bind fun _ n4=>Res.ok e2 n4) (left_succ I E p ps x m j hj)));go_wp2_with fail;refine (need_any hr ⟨#[44]⟩ (by decide)).mono ?_;rintro r w2 ⟨a2,hres⟩;have es:(⟨#[44]⟩:ByteArray).data.toList=[44]:=rfl;rw [es] at hres;clear es cq;have A2:Aside [b,eb] N0 w w2:=hA.trans (asideE a2) zr;have F2:=F.far A2;have hS2:=hSx.keepA a2 (by simp;exact F.env.b0) (by simp;exact F.env.ne)
     cases htn:Ps.need I [44] m with
     | err c0 a0=>
      rw [htn] at hres;obtain rfl:r=_:=hres;exact ⟨rfl,PostE.fail (by rw [hst.out,htn];rfl) A2⟩
     | ok u n2=>
      rw [htn] at hres;obtain ⟨le2,h2,_,rfl,rfl⟩:=hres;have hst2:Hid (Ps.brackets I E p ps e nx=((Ps.part I E ps[j] x n2).bind fun e1 n2=>Ps.left I E p ps e1 n2 (j+2)).bind fun e2 n3=>(Ps.need I [41] n3).bind fun _ n4=>.ok e2 n4):=by
       show Ps.brackets I E p ps e nx=_
       rw [hst.out,htn];rfl
      clear htn hst;go_wp2_with fail;refine (pt_any HE F2 h2 hS2 (by omega) (by omega) ps[j]).mono ?_;rintro r w3 ⟨a3,hres⟩;have A3:=A2.trans a3 nR
      cases ht:Ps.part I E ps[j] x n2 with
      | err c0 a0=>
       rw [ht] at hres;obtain rfl:r=_:=hres;exact ⟨rfl,PostE.fail (by rw [hst2.out,ht];rfl) A3⟩
      | ok x1 n3=>
       rw [ht] at hres;obtain ⟨le3,h3,rfl,hS3⟩:=hres;have hln:=part_lens ht;have m3:Hid (Ps.brackets I E p ps e nx=(Ps.left I E p ps x1 n3 (j+2)).bind fun e2 n3=>(Ps.need I [41] n3).bind fun _ n4=>.ok e2 n4):=by
        show Ps.brackets I E p ps e nx=_
        rw [hst2.out,ht];rfl
       clear ht;go_wp2;go_roundg (ps.length+1-(j+2))
       case measure=>omega
       case rel=>exact ⟨j+2,x1,n3,by omega,rfl,by go_num,by omega,h3,A3,hS3,by omega,by omega,m3⟩
end Go.Proofs.YtophfbefnaelfaaGreatDoor
