import Derived.Test.YtkfgbhlpjkkgfaaGreatDoorT38
set_option linter.unusedVariables false
set_option linter.unusedSimpArgs false
set_option maxHeartbeats 64000000
set_option maxRecDepth 100000
namespace Go.Proofs.YtkfgbhlpjkkgfaaGreatDoor
open Go.RowKit Go.IntWalk
def put5 (w:World) (k:Nat) (y:EqV):World:=(((((w.setCell ⟨k,0,none⟩ (.int .i64 y.place)).setCell ⟨k,1,none⟩ (.slice y.aN y.nN y.cN)).setCell ⟨k,2,none⟩ (.string y.node)).setCell ⟨k,3,none⟩ (.slice y.aS y.nS y.cS)).setCell ⟨k,4,none⟩ (.slice y.aE y.nE y.cE))
theorem zCi (w:World) (k:Nat) (y:EqV):(put5 w k y).heap.size=w.heap.size:=by simp [put5,World.setCell]
theorem zBz (w:World) (k:Nat) (y:EqV) (i:Nat) (h:i≠k):(put5 w k y).heap[i]?=w.heap[i]?:=by
 unfold put5;rw [Below.heap_setCell _ _ _ _ h,Below.heap_setCell _ _ _ _ h,Below.heap_setCell _ _ _ _ h,Below.heap_setCell _ _ _ _ h,Below.heap_setCell _ _ _ _ h]
theorem Rd.put5 {w:World} {b g cap:Nat} {L:List Tk.Tok} {len nx op:Nat} (h:Rd w b g cap L len nx op) {k:Nat} (hb:k≠b) (hg:k≠g) (y:EqV):Rd (put5 w k y) b g cap L len nx op :=
 ⟨(zBz _ _ _ _ hb.symm).trans h.here,h.toks.keep (zBz _ _ _ _ hg.symm),h.apart,by rw [zCi];exact h.gb,h.le,h.lc,h.cm⟩
theorem Aside.put5 {S:List Nat} {B:Nat} {w w':World} (h:Aside S B w w') {k:Nat} (hk:B<=k) (y:EqV):Aside S B w (put5 w' k y):=by
 unfold YtkfgbhlpjkkgfaaGreatDoor.put5;exact (((((h.set (p:=⟨k,0,none⟩) hk _).set (p:=⟨k,1,none⟩) hk _).set (p:=⟨k,2,none⟩) hk _).set (p:=⟨k,3,none⟩) hk _).set (p:=⟨k,4,none⟩) hk _)
theorem HRow.put5 {α:Type} {T:Kind α} {ok:Nat->Prop} {w:World} {v:Value} {l:List α} (h:HRow T ok w v l) {k:Nat} (hk:¬ok k) (y:EqV):HRow T ok (put5 w k y) v l :=
 h.keep (by rw [zCi];exact Nat.le_refl _) fun i hi _=>zBz _ _ _ _ (fun e=>hk (e ▸ hi))
theorem HEx.put5 {ok:Nat->Prop} {w:World} {cs:List Value} {e:Ex} (h:HEx ok w cs e) {k:Nat} (hk:¬ok k) (y:EqV):HEx ok (put5 w k y) cs e :=
 h.keep (by rw [zCi];exact Nat.le_refl _) fun i hi _=>zBz _ _ _ _ (fun e=>hk (e ▸ hi))
def eqV:Nat->World->Value->Eqn->Prop:=fun B w x q=>∃ y:EqV,x=.agg #[.int .i64 y.place,.slice y.aN y.nN y.cN,.string y.node,.slice y.aS y.nS y.cS,.slice y.aE y.nE y.cE]/\HEq (fun i=>B<=i) w y q
theorem Res.bind_assoc {α β γ:Type} (r:Res α) (f:α->Nat->Res β) (h:β->Nat->Res γ):(r.bind f).bind h=r.bind fun v n=>(f v n).bind h:=by
 cases r<;>rfl
namespace Ps
def callE (I:Inp) (at0:Int) (l:List ByteArray) (s:ByteArray) (z:List (List Tm)) (n5:Nat):Res Eqn :=
 (need I [40] n5).bind fun _ n6=>(if sees I [41] n6=true then .ok [] (n6+1) else (row I (whole I) 30 [] n6).bind fun e n7=>(need I [41] n7).bind fun _ n8=>.ok e n8).bind fun e n9=>.ok ⟨at0,l,s,z,e⟩ n9
end Ps
theorem zEh (I:Inp) (at0:Int) (l:List ByteArray) (n:Nat):Ps.call I at0 l n=(Ps.need I [99,97,108,108] n).bind fun _ n1=>(Ps.name I n1).bind fun s n2 =>
  (if Ps.sees I [60] n2=true then (Ps.row I (Ps.size I) 3 [] (n2+1)).bind fun z n3=>(Ps.need I [62] n3).bind fun _ n4=>.ok z n4 else .ok [] n2).bind fun z n5=>Ps.callE I at0 l s z n5:=rfl
theorem zDV (aV:FormC) {b g cap:Nat} {I:Inp} (hL:I.L.length<=1099511627776):Does 185 b g cap I 0 eqV (Ps.equation I):=by
 intro nx w h hG;have HW:=whole_any aV (b:=b) (g:=g) (cap:=cap) hL;have hb:=h.bb;have hg:=h.gb;have oc:=zBi;have h0:=h.alloc (.cells #[.int .i64 0,.slice none 0 0,.string ⟨#[]⟩,.slice none 0 0,.slice none 0 0] 56 (0,0));have dO:=zAC w (.cells #[.int .i64 0,.slice none 0 0,.string ⟨#[]⟩,.slice none 0 0,.slice none 0 0] 56 (0,0));have z0:(w.alloc (.cells #[.int .i64 0,.slice none 0 0,.string ⟨#[]⟩,.slice none 0 0,.slice none 0 0] 56 (0,0))).heap.size=w.heap.size+1:=(by simp);have A0:=(Aside.refl (S:=[b]) (B:=w.heap.size) w).alloc nR (.cells #[.int .i64 0,.slice none 0 0,.string ⟨#[]⟩,.slice none 0 0,.slice none 0 0] 56 (0,0));have hp:=@zAT _ _ _ _ _ _ _ _ h0;obtain ⟨t,ht⟩:=nmQ (I.pk nx);have jM:peekT I.L I.len nx=t:=ht.symm;rw [jM] at hp;unfold tokV at hp;have hf:=fun x w=>tokF1 t x w;have HT:=zAA ht;clear jM ht;go_enter Tryz.func185,Tryz.ntmps185;go_wp2_with fail;generalize w.alloc (.cells #[.int .i64 0,.slice none 0 0,.string ⟨#[]⟩,.slice none 0 0,.slice none 0 0] 56 (0,0))=W at h0 dO z0 A0 hp ⊢;refine hp.mono ?_;rintro e w1 ⟨rfl,b1⟩;have z1:=b1.size;have h1:=(h0.below b1).alloc (.cells #[.int .i64 (t.place:Int),.slice none 0 0,.string ⟨#[]⟩,.slice none 0 0,.slice none 0 0] 56 (0,0));have A1:=(A0.trans (aside b1) A0.size).alloc (by omega) (.cells #[.int .i64 (t.place:Int),.slice none 0 0,.string ⟨#[]⟩,.slice none 0 0,.slice none 0 0] 56 (0,0));have aG:=kA ((aside b1 (S:=[])).keep dO (zAB dO) (by simp)) (.cells #[.int .i64 (t.place:Int),.slice none 0 0,.string ⟨#[]⟩,.slice none 0 0,.slice none 0 0] 56 (0,0));have ik:=zAC w1 (.cells #[.int .i64 (t.place:Int),.slice none 0 0,.string ⟨#[]⟩,.slice none 0 0,.slice none 0 0] 56 (0,0));have y1:(w1.alloc (.cells #[.int .i64 (t.place:Int),.slice none 0 0,.string ⟨#[]⟩,.slice none 0 0,.slice none 0 0] 56 (0,0))).heap.size=w1.heap.size+1:=(by simp);clear hp h0 A0 dO b1;go_wp2_with fail;generalize w1.alloc (.cells #[.int .i64 (t.place:Int),.slice none 0 0,.string ⟨#[]⟩,.slice none 0 0,.slice none 0 0] 56 (0,0))=W1 at h1 A1 aG ik y1 ⊢;refine (zER (fun n w h _=>zBJ h) h1 (hG.far A1) 30 (by decide)).mono ?_;rintro e w2 ⟨a2,hres⟩;have z2:=a2.size;have A2:=A1.trans a2 A1.size;have gI:=a2.keep aG (by omega) (by simp;omega);have eh:=a2.keep ik (by omega) (by simp;omega);clear A1 aG ik h1 a2
 cases mu:Ps.row I (Ps.name I) 30 [] nx with
 | err c0 a0=>
  rw [mu] at hres;obtain rfl:e=_:=hres;exact ⟨rfl,Post.fail (by unfold Ps.equation;rw [mu];rfl) A2⟩
 | ok l n1=>
  rw [mu] at hres;obtain ⟨sH,h2,x2,rfl,hV⟩:=hres;obtain ⟨aN,cN,rfl,Mj,GR⟩:=hV.form;unfold maxLen at GR;have JW:=hV.wide (ok':=fun i=>w1.heap.size<i) (fun i hi _=>by omega);have m2:Hid (Ps.equation I nx=(Ps.need I [61] n1).bind fun _ n2=>if l.length=1/\Ps.sees I [99,97,108,108] n2=false then (Ps.whole I n2).bind fun e n3=>.ok ⟨((I.pk nx).place:Int),l,⟨#[]⟩,[],[e]⟩ n3 else Ps.call I ((I.pk nx).place:Int) l n2):=by
   show Ps.equation I nx=_
   unfold Ps.equation;rw [mu];rfl
  clear mu hV;have tc:=co eh 1;have tf:=fo eh 1;simp at tc;have gV:=zAD eh 1 (.slice aN l.length cN);have eC:=zAI gI (p:=⟨w1.heap.size,1,none⟩) (by simp;omega) (.slice aN l.length cN);have h3:=h2.set (p:=⟨w1.heap.size,1,none⟩) (by simp;omega) (by simp;omega) (.slice aN l.length cN);have A3:=A2.set (p:=⟨w1.heap.size,1,none⟩) (by simp;omega) (.slice aN l.length cN);have z3:(w2.setCell ⟨w1.heap.size,1,none⟩ (.slice aN l.length cN)).heap.size=w2.heap.size:=(by simp [World.setCell]);simp at gV;have Hu:=JW.set (p:=⟨w1.heap.size,1,none⟩) (by simp) (.slice aN l.length cN);go_wp2_with fail;generalize w2.setCell ⟨w1.heap.size,1,none⟩ (.slice aN l.length cN)=w3 at gV eC h3 A3 z3 Hu ⊢;clear tc tf A2 gI eh h2 JW;refine (zAJ h3 ⟨#[61]⟩ (by decide)).mono ?_;rintro e w4 ⟨a4,hres⟩;have es:(⟨#[61]⟩:ByteArray).data.toList=[61]:=rfl;rw [es] at hres;clear es;have z4:=a4.size;have A4:=A3.trans a4 A3.size;have dw:=a4.keep eC (by omega) (by simp;omega);have cy:=a4.keep gV (by omega) (by simp;omega);have DK:=Hu.past a4 (fun i hi=>by simp;omega);clear A3 eC gV h3 a4 Hu
  cases ht4:Ps.need I [61] n1 with
  | err c0 a0=>
   rw [ht4] at hres;obtain rfl:e=_:=hres;exact ⟨rfl,Post.fail (by rw [m2.out,ht4];rfl) A4⟩
  | ok u n2=>
   rw [ht4] at hres;obtain ⟨Dm,h4,_,rfl,rfl⟩:=hres;have m4:Hid (Ps.equation I nx=if l.length=1/\Ps.sees I [99,97,108,108] n2=false then (Ps.whole I n2).bind fun e n3=>.ok ⟨((I.pk nx).place:Int),l,⟨#[]⟩,[],[e]⟩ n3 else Ps.call I ((I.pk nx).place:Int) l n2):=by
    show Ps.equation I nx=_
    rw [m2.out,ht4];rfl
   clear ht4 m2;have t1:=co cy 1;simp at t1;by_cases bh:l.length=1
   ·have Cu:((l.length:Int)==1)=true:=by rw [beq_iff_eq];omega
    have DD:=zAA bh;clear bh;go_wp2_with fail;clear Cu;refine (zCa h4 ⟨#[99,97,108,108]⟩).mono ?_;rintro e w5 ⟨rfl,b5⟩;have es:(⟨#[99,97,108,108]⟩:ByteArray).data.toList=[99,97,108,108]:=rfl;simp only [es];clear es t1;have a5:Aside [b] w4.heap.size w4 w5:=aside b5;have h5:=h4.below b5;have z5:=a5.size;have A5:=A4.trans a5 A4.size;have gY:=a5.keep dw (by omega) (by simp;omega);have e9:=a5.keep cy (by omega) (by simp;omega);have Dz:=DK.past a5 (fun i hi=>by simp;omega);clear A4 dw cy h4 a5 DK b5
    cases hq5:Ps.sees I [99,97,108,108] n2 with
    | false=>
     have m5:Hid (Ps.equation I nx=(Ps.whole I n2).bind fun e n3=>.ok ⟨((I.pk nx).place:Int),l,⟨#[]⟩,[],[e]⟩ n3):=by
      show Ps.equation I nx=_
      rw [m4.out,if_pos ⟨DD.out,hq5⟩]
     clear m4;go_wp2_with fail;refine (HW _ _ h5 (hG.far A5)).mono ?_;rintro e w6 ⟨a6,hres⟩;have z6:=a6.size;have A6:=A5.trans a6 A5.size;have mE:=a6.keep gY (by omega) (by simp;omega);have mG:=a6.keep e9 (by omega) (by simp;omega);have JG:=Dz.past a6 (fun i hi=>by simp;omega);clear A5 gY e9 h5 a6 Dz
     cases mq:Ps.whole I n2 with
     | err c0 a0=>
      rw [mq] at hres;obtain rfl:e=_:=hres;exact ⟨rfl,Post.fail (by rw [m5.out,mq];rfl) A6⟩
     | ok e6 n6=>
      rw [mq] at hres;obtain ⟨nX,h6,_,rfl,x6,rfl,ix⟩:=hres;have m6:Hid (Ps.equation I nx=.ok ⟨((I.pk nx).place:Int),l,⟨#[]⟩,[],[e6]⟩ n6):=by
       show Ps.equation I nx=_
       rw [m5.out,mq];rfl
      clear mq m5;have ak:=zAB mE;have Od:=zAB mG;have fa:=fun o=>fo mE o;have ft:=fun o=>fo mG o;have q6:=ix.wide (ok':=fun i=>w1.heap.size<i) (fun i hi _=>by omega);have ay:=co mE 0;have aB:=co mE 1;have az:=co mE 2;have aD:=co mE 3;have aF:=co mE 4;simp at ay aB az aD aF;have bv:=co mG 0;have bz:=co mG 1;have bw:=co mG 2;have bU:=co mG 3;have bT:=co mG 4;simp at bv bz bw bU bT;have sR:=JG.set (p:=⟨w1.heap.size,4,none⟩) (by simp) (.slice (some ⟨w6.heap.size,0,none⟩) 1 1);have kU:=zAI mE (p:=⟨w1.heap.size,4,none⟩) (by simp;omega) (.slice (some ⟨w6.heap.size,0,none⟩) 1 1);have q7:=q6.set (p:=⟨w1.heap.size,4,none⟩) (by simp) (.slice (some ⟨w6.heap.size,0,none⟩) 1 1);have A7:=A6.set (p:=⟨w1.heap.size,4,none⟩) (by simp;omega) (.slice (some ⟨w6.heap.size,0,none⟩) 1 1);have h7:=h6.set (p:=⟨w1.heap.size,4,none⟩) (by simp;omega) (by simp;omega) (.slice (some ⟨w6.heap.size,0,none⟩) 1 1);have z7:(w6.setCell ⟨w1.heap.size,4,none⟩ (.slice (some ⟨w6.heap.size,0,none⟩) 1 1)).heap.size=w6.heap.size:=(by simp [World.setCell]);clear A6 h6 q6 JG;go_wp2;generalize w6.setCell ⟨w1.heap.size,4,none⟩ (.slice (some ⟨w6.heap.size,0,none⟩) 1 1)=w7 at sR q7 A7 h7 z7 kU ⊢;have Ff:=zAB kU;have Je:=co kU 0;have Jy:=co kU 1;have I4:=co kU 2;have Ij:=co kU 3;have Ip:=co kU 4;simp at Je Jy I4 Ij Ip;have zP:(put5 w7 w.heap.size ⟨(t.place:Int),aN,l.length,cN,⟨#[]⟩,none,0,0,some ⟨w6.heap.size,0,none⟩,1,1⟩).heap.size=w6.heap.size:=(zCi _ _ _).trans z7;have je:=zFf (q7.put5 (k:=w.heap.size) (by omega) ⟨(t.place:Int),aN,l.length,cN,⟨#[]⟩,none,0,0,some ⟨w6.heap.size,0,none⟩,1,1⟩) 54 (by rw [zP];omega);have tJ:=(sR.put5 (k:=w.heap.size) (by omega) ⟨(t.place:Int),aN,l.length,cN,⟨#[]⟩,none,0,0,some ⟨w6.heap.size,0,none⟩,1,1⟩).under ((Below.refl _ _).alloc nR (.cells #[.int .i64 x6.op,.int .i64 x6.k,.int .i64 x6.n,.string x6.name,.slice x6.aS x6.nS x6.cS,.slice x6.aL x6.nL x6.cL] 54 (0,0)));rw [zP] at je;refine bodyPost_ret (v:=.agg #[.int .i64 (t.place:Int),.slice aN l.length cN,.string ⟨#[]⟩,.slice none 0 0,.slice (some ⟨w6.heap.size,0,none⟩) 1 1]) (by simp [results,Tryz.results185,go_sem,Je,Jy,I4,Ij,Ip,Ff]) rfl ?_;exact Post.good (v:=⟨((I.pk nx).place:Int),l,⟨#[]⟩,[],[e6]⟩) m6.out ((A7.put5 (k:=w.heap.size) nR ⟨(t.place:Int),aN,l.length,cN,⟨#[]⟩,none,0,0,some ⟨w6.heap.size,0,none⟩,1,1⟩).alloc (by rw [zP];omega) _) (by omega) ((h7.put5 (k:=w.heap.size) (by omega) (by omega) ⟨(t.place:Int),aN,l.length,cN,⟨#[]⟩,none,0,0,some ⟨w6.heap.size,0,none⟩,1,1⟩).alloc _) ⟨⟨(t.place:Int),aN,l.length,cN,⟨#[]⟩,none,0,0,some ⟨w6.heap.size,0,none⟩,1,1⟩,rfl,⟨by rw [<-HT.out],zAg (tJ.wide (fun i hi _=>by omega)),rfl,zAw,je.wide (fun i hi _=>by omega)⟩⟩
    | true=>
     have m5:Hid (Ps.equation I nx=Ps.call I ((I.pk nx).place:Int) l n2):=by
      show Ps.equation I nx=_
      rw [m4.out,if_neg (by simp [hq5])]
     clear m4;go_wp2_with fail;refine (zAJ h5 ⟨#[99,97,108,108]⟩ (by decide)).mono ?_;rintro e w7 ⟨a7,hres⟩;have es:(⟨#[99,97,108,108]⟩:ByteArray).data.toList=[99,97,108,108]:=rfl;rw [es] at hres;clear es;have z7:=a7.size;have A7:=A5.trans a7 A5.size;have kU:=a7.keep gY (by omega) (by simp;omega);have p9:=a7.keep e9 (by omega) (by simp;omega);have sR:=Dz.past a7 (fun i hi=>by simp;omega);clear A5 gY e9 h5 a7 Dz
     cases ht7:Ps.need I [99,97,108,108] n2 with
     | err c0 a0=>
      rw [ht7] at hres;obtain rfl:e=_:=hres;exact ⟨rfl,Post.fail (by rw [m5.out,zEh,ht7];rfl) A7⟩
     | ok u7 n7=>
      rw [ht7] at hres;obtain ⟨rf,h7,_,rfl,rfl⟩:=hres;have m7:Hid (Ps.equation I nx=(Ps.name I n7).bind fun s n2=>(if Ps.sees I [60] n2=true then (Ps.row I (Ps.size I) 3 [] (n2+1)).bind fun z n3=>(Ps.need I [62] n3).bind fun _ n4=>.ok z n4 else .ok [] n2).bind fun z n5=>Ps.callE I ((I.pk nx).place:Int) l s z n5):=by
       show Ps.equation I nx=_
       rw [m5.out,zEh,ht7];rfl
      clear ht7 m5;go_wp2_with fail;refine (zBJ h7).mono ?_;rintro e w8 ⟨a8,hres⟩;have z8:=a8.size;have A8:=A7.trans a8 A7.size;have qA:=a8.keep kU (by omega) (by simp;omega);have mw:=a8.keep p9 (by omega) (by simp;omega);have tJ:=sR.past a8 (fun i hi=>by simp;omega);clear A7 kU p9 h7 a8 sR
      cases ht8:Ps.name I n7 with
      | err c0 a0=>
       rw [ht8] at hres;obtain rfl:e=_:=hres;exact ⟨rfl,Post.fail (by rw [m7.out,ht8];rfl) A8⟩
      | ok s n8=>
       rw [ht8] at hres;obtain ⟨GI,h8,_,rfl,rfl⟩:=hres;have m8:Hid (Ps.equation I nx=(if Ps.sees I [60] n8=true then (Ps.row I (Ps.size I) 3 [] (n8+1)).bind fun z n3=>(Ps.need I [62] n3).bind fun _ n4=>.ok z n4 else .ok [] n8).bind fun z n5=>Ps.callE I ((I.pk nx).place:Int) l s z n5):=by
        show Ps.equation I nx=_
        rw [m7.out,ht8];rfl
       clear ht8 m7;have tc:=co mw 2;have tf:=fo mw 2;simp at tc;have nU:=zAD mw 2 (.string s);have da:=zAI qA (p:=⟨w1.heap.size,2,none⟩) (by simp;omega) (.string s);have h9:=h8.set (p:=⟨w1.heap.size,2,none⟩) (by simp;omega) (by simp;omega) (.string s);have A9:=A8.set (p:=⟨w1.heap.size,2,none⟩) (by simp;omega) (.string s);have z9:(w8.setCell ⟨w1.heap.size,2,none⟩ (.string s)).heap.size=w8.heap.size:=(by simp [World.setCell]);simp at nU;have tv:=tJ.set (p:=⟨w1.heap.size,2,none⟩) (by simp) (.string s);go_wp2_with fail;generalize w8.setCell ⟨w1.heap.size,2,none⟩ (.string s)=w9 at nU da h9 A9 z9 tv ⊢;clear tc tf A8 qA mw h8 tJ;refine (zAH h9 ⟨#[60]⟩ (by decide)).mono ?_;rintro e rD ⟨rfl,cP,dZ⟩;have es:(⟨#[60]⟩:ByteArray).data.toList=[60]:=rfl;rw [es] at cP;simp only [es];clear es;have JN:=dZ.size;have fX:=A9.trans dZ A9.size;have gu:=dZ.keep da (by omega) (by simp;omega);have gB:=dZ.keep nU (by omega) (by simp;omega);have j6:=tv.past dZ (fun i hi=>by simp;omega);clear A9 da nU h9 dZ tv
       cases hq10:Ps.sees I [60] n8 with
       | false=>
        rw [hq10] at cP;simp only [Bool.false_eq_true,if_false] at cP;have mP:Hid (Ps.equation I nx=Ps.callE I ((I.pk nx).place:Int) l s [] n8):=by
         show Ps.equation I nx=_
         rw [m8.out,hq10];rfl
        clear m8;go_wp2_with fail;refine (zAJ cP ⟨#[40]⟩ (by decide)).mono ?_;rintro e Dr ⟨eA,hres⟩;have es:(⟨#[40]⟩:ByteArray).data.toList=[40]:=rfl;rw [es] at hres;clear es;have CA:=eA.size;have iP:=fX.trans eA fX.size;have gH:=eA.keep gu (by omega) (by simp;omega);have gP:=eA.keep gB (by omega) (by simp;omega);have iZ:=j6.past eA (fun i hi=>by simp;omega);clear fX gu gB cP eA j6
        cases ht14:Ps.need I [40] n8 with
        | err c0 a0=>
         rw [ht14] at hres;obtain rfl:e=_:=hres;exact ⟨rfl,Post.fail (by rw [mP.out];unfold Ps.callE;rw [ht14];rfl) iP⟩
        | ok u14 n14=>
         rw [ht14] at hres;obtain ⟨rn,ki,_,rfl,rfl⟩:=hres;have iX:Hid (Ps.equation I nx=(if Ps.sees I [41] n14=true then .ok [] (n14+1) else (Ps.row I (Ps.whole I) 30 [] n14).bind fun e n7=>(Ps.need I [41] n7).bind fun _ n8=>.ok e n8).bind fun e n9=>.ok ⟨((I.pk nx).place:Int),l,s,[],e⟩ n9):=by
          show Ps.equation I nx=_
          rw [mP.out];unfold Ps.callE;rw [ht14];rfl
         clear ht14 mP;go_wp2_with fail;refine (zAH ki ⟨#[41]⟩ (by decide)).mono ?_;rintro e Dq ⟨rfl,ek,ey⟩;have es:(⟨#[41]⟩:ByteArray).data.toList=[41]:=rfl;rw [es] at ek;simp only [es];clear es;have CG:=ey.size;have gO:=iP.trans ey iP.size;have br:=ey.keep gH (by omega) (by simp;omega);have bK:=ey.keep gP (by omega) (by simp;omega);have fD:=iZ.past ey (fun i hi=>by simp;omega);clear iP gH gP ki ey iZ
         cases cY:Ps.sees I [41] n14 with
         | true=>
          rw [cY] at ek;simp only [if_true] at ek;have fa:=fun o=>fo br o;have ay:=co br 0;have aB:=co br 1;have az:=co br 2;have aD:=co br 3;have aF:=co br 4;simp at ay aB az aD aF;have bv:=co bK 0;have bz:=co bK 1;have bw:=co bK 2;have bU:=co bK 3;have bT:=co bK 4;simp at bv bz bw bU bT;go_wp2;refine bodyPost_ret (v:=.agg #[.int .i64 (t.place:Int),.slice aN l.length cN,.string s,.slice none 0 0,.slice none 0 0]) (by simp [results,Tryz.results185,go_sem,ay,aB,az,aD,aF]) rfl ?_;exact Post.good (v:=⟨((I.pk nx).place:Int),l,s,[],[]⟩) (by rw [iX.out,cY];rfl) (gO.put5 (k:=w.heap.size) nR ⟨(t.place:Int),aN,l.length,cN,s,none,0,0,none,0,0⟩) (by omega) (ek.put5 (k:=w.heap.size) (by omega) (by omega) ⟨(t.place:Int),aN,l.length,cN,s,none,0,0,none,0,0⟩) ⟨⟨(t.place:Int),aN,l.length,cN,s,none,0,0,none,0,0⟩,rfl,⟨by rw [<-HT.out],zAg ((fD.put5 (k:=w.heap.size) (by omega) ⟨(t.place:Int),aN,l.length,cN,s,none,0,0,none,0,0⟩).wide (fun i hi _=>by omega)),rfl,zAw,zCo⟩⟩
         | false=>
          rw [cY] at ek;simp only [Bool.false_eq_true,if_false] at ek;go_wp2_with fail;refine (zBe HW ek (hG.far gO) 30 (by decide)).mono ?_;rintro e j7 ⟨ew,hres⟩;have Ci:=ew.size;have jZ:=gO.trans ew gO.size;have gj:=ew.keep br (by omega) (by simp;omega);have dh:=ew.keep bK (by omega) (by simp;omega);have ja:=fD.past ew (fun i hi=>by simp;omega);clear gO br bK ek ew fD
          cases ht16:Ps.row I (Ps.whole I) 30 [] n14 with
          | err c0 a0=>
           rw [ht16] at hres;obtain rfl:e=_:=hres;exact ⟨rfl,Post.fail (by rw [iX.out,cY];simp only [Bool.false_eq_true,if_false];rw [ht16];rfl) jZ⟩
          | ok e16 n16=>
           rw [ht16] at hres;obtain ⟨qJ,mx,Cq,rfl,hV⟩:=hres;obtain ⟨aE,cE,rfl,vC,lS⟩:=hV.form;unfold maxLen at lS;have jh:=hV.wide (ok':=fun i=>w1.heap.size<i) (fun i hi _=>by omega);have mh:Hid (Ps.equation I nx=(Ps.need I [41] n16).bind fun _ n8=>.ok ⟨((I.pk nx).place:Int),l,s,[],e16⟩ n8):=by
            show Ps.equation I nx=_
            rw [iX.out,cY];simp only [Bool.false_eq_true,if_false];rw [ht16]
            show ((Ps.need I [41] n16).bind fun _ n8=>Res.ok e16 n8).bind _=_
            rw [Res.bind_assoc];rfl
           clear ht16 hV iX;have tc:=co dh 4;have tf:=fo dh 4;simp at tc;have dd:=zAD dh 4 (.slice aE e16.length cE);have dQ:=zAI gj (p:=⟨w1.heap.size,4,none⟩) (by simp;omega) (.slice aE e16.length cE);have jO:=mx.set (p:=⟨w1.heap.size,4,none⟩) (by simp;omega) (by simp;omega) (.slice aE e16.length cE);have iI:=jZ.set (p:=⟨w1.heap.size,4,none⟩) (by simp;omega) (.slice aE e16.length cE);have rp:(j7.setCell ⟨w1.heap.size,4,none⟩ (.slice aE e16.length cE)).heap.size=j7.heap.size:=(by simp [World.setCell]);simp at dd;have fV:=ja.set (p:=⟨w1.heap.size,4,none⟩) (by simp) (.slice aE e16.length cE);have fU:=jh.set (p:=⟨w1.heap.size,4,none⟩) (by simp) (.slice aE e16.length cE);go_wp2_with fail;generalize j7.setCell ⟨w1.heap.size,4,none⟩ (.slice aE e16.length cE)=Di at dd dQ jO iI rp fV fU ⊢;clear tc tf jZ gj dh mx ja jh;refine (zAJ jO ⟨#[41]⟩ (by decide)).mono ?_;rintro e CZ ⟨dG,hres⟩;have es:(⟨#[41]⟩:ByteArray).data.toList=[41]:=rfl;rw [es] at hres;clear es;have DH:=dG.size;have lm:=iI.trans dG iI.size;have cv:=dG.keep dQ (by omega) (by simp;omega);have cT:=dG.keep dd (by omega) (by simp;omega);have lJ:=fV.past dG (fun i hi=>by simp;omega);have lQ:=fU.past dG (fun i hi=>by simp;omega);clear iI dQ dd jO dG fV fU
           cases ht18:Ps.need I [41] n16 with
           | err c0 a0=>
            rw [ht18] at hres;obtain rfl:e=_:=hres;exact ⟨rfl,Post.fail (by rw [mh.out,ht18];rfl) lm⟩
           | ok u18 n18=>
            rw [ht18] at hres;obtain ⟨rK,nK,_,rfl,rfl⟩:=hres;have fa:=fun o=>fo cv o;have ay:=co cv 0;have aB:=co cv 1;have az:=co cv 2;have aD:=co cv 3;have aF:=co cv 4;simp at ay aB az aD aF;have bv:=co cT 0;have bz:=co cT 1;have bw:=co cT 2;have bU:=co cT 3;have bT:=co cT 4;simp at bv bz bw bU bT;go_wp2;refine bodyPost_ret (v:=.agg #[.int .i64 (t.place:Int),.slice aN l.length cN,.string s,.slice none 0 0,.slice aE e16.length cE]) (by simp [results,Tryz.results185,go_sem,ay,aB,az,aD,aF]) rfl ?_;exact Post.good (v:=⟨((I.pk nx).place:Int),l,s,[],e16⟩) (by rw [mh.out,ht18];rfl) (lm.put5 (k:=w.heap.size) nR ⟨(t.place:Int),aN,l.length,cN,s,none,0,0,aE,e16.length,cE⟩) (by omega) (nK.put5 (k:=w.heap.size) (by omega) (by omega) ⟨(t.place:Int),aN,l.length,cN,s,none,0,0,aE,e16.length,cE⟩) ⟨⟨(t.place:Int),aN,l.length,cN,s,none,0,0,aE,e16.length,cE⟩,rfl,⟨by rw [<-HT.out],zAg ((lJ.put5 (k:=w.heap.size) (by omega) ⟨(t.place:Int),aN,l.length,cN,s,none,0,0,aE,e16.length,cE⟩).wide (fun i hi _=>by omega)),rfl,zAw,zBl ((lQ.put5 (k:=w.heap.size) (by omega) ⟨(t.place:Int),aN,l.length,cN,s,none,0,0,aE,e16.length,cE⟩).wide (fun i hi _=>by omega))⟩⟩
       | true=>
        rw [hq10] at cP;simp only [if_true] at cP;go_wp2_with fail;refine (zET (fun n w h _=>zCb h) cP (hG.far fX) 3 (by decide)).mono ?_;rintro e oG ⟨jF,hres⟩;have cD:=jF.size;have pQ:=fX.trans jF fX.size;have kO:=jF.keep gu (by omega) (by simp;omega);have gK:=jF.keep gB (by omega) (by simp;omega);have oP:=j6.past jF (fun i hi=>by simp;omega);clear fX gu gB cP jF j6
        cases ht11:Ps.row I (Ps.size I) 3 [] (n8+1) with
        | err c0 a0=>
         rw [ht11] at hres;obtain rfl:e=_:=hres;exact ⟨rfl,Post.fail (by rw [m8.out,hq10,if_pos rfl,ht11];rfl) pQ⟩
        | ok cD n11=>
         rw [ht11] at hres;obtain ⟨Ar,lK,Js,rfl,hV⟩:=hres;obtain ⟨aS,cS,rfl,EP,fy⟩:=hV.form;unfold maxLen at fy;have pN:=hV.wide (ok':=fun i=>w1.heap.size<i) (fun i hi _=>by omega);have pT:Hid (Ps.equation I nx=((Ps.need I [62] n11).bind fun _ n4=>Res.ok cD n4).bind fun z n5=>Ps.callE I ((I.pk nx).place:Int) l s z n5):=by
          show Ps.equation I nx=_
          rw [m8.out,hq10,if_pos rfl,ht11];rfl
         clear ht11 hV m8;have tc:=co gK 3;have tf:=fo gK 3;simp at tc;have gp:=zAD gK 3 (.slice aS cD.length cS);have gx:=zAI kO (p:=⟨w1.heap.size,3,none⟩) (by simp;omega) (.slice aS cD.length cS);have oy:=lK.set (p:=⟨w1.heap.size,3,none⟩) (by simp;omega) (by simp;omega) (.slice aS cD.length cS);have mJ:=pQ.set (p:=⟨w1.heap.size,3,none⟩) (by simp;omega) (.slice aS cD.length cS);have AY:(oG.setCell ⟨w1.heap.size,3,none⟩ (.slice aS cD.length cS)).heap.size=oG.heap.size:=(by simp [World.setCell]);simp at gp;have lx:=oP.set (p:=⟨w1.heap.size,3,none⟩) (by simp) (.slice aS cD.length cS);have mn:=pN.set (p:=⟨w1.heap.size,3,none⟩) (by simp) (.slice aS cD.length cS);go_wp2_with fail;generalize oG.setCell ⟨w1.heap.size,3,none⟩ (.slice aS cD.length cS)=Lr at gp gx oy mJ AY lx mn ⊢;clear tc tf pQ kO gK lK oP pN;refine (zAJ oy ⟨#[62]⟩ (by decide)).mono ?_;rintro e Hl ⟨iD,hres⟩;have es:(⟨#[62]⟩:ByteArray).data.toList=[62]:=rfl;rw [es] at hres;clear es;have F6:=iD.size;have kY:=mJ.trans iD mJ.size;have il:=iD.keep gx (by omega) (by simp;omega);have ju:=iD.keep gp (by omega) (by simp;omega);have pY:=lx.past iD (fun i hi=>by simp;omega);have ph:=mn.past iD (fun i hi=>by simp;omega);clear mJ gx gp oy iD lx mn
         cases ht13:Ps.need I [62] n11 with
         | err c0 a0=>
          rw [ht13] at hres;obtain rfl:e=_:=hres;exact ⟨rfl,Post.fail (by rw [pT.out,ht13];rfl) kY⟩
         | ok u13 n13=>
          rw [ht13] at hres;obtain ⟨um,qn,_,rfl,rfl⟩:=hres;have mP:Hid (Ps.equation I nx=Ps.callE I ((I.pk nx).place:Int) l s cD n13):=by
           show Ps.equation I nx=_
           rw [pT.out,ht13];rfl
          clear ht13 pT;go_wp2_with fail;refine (zAJ qn ⟨#[40]⟩ (by decide)).mono ?_;rintro e Dr ⟨eA,hres⟩;have es:(⟨#[40]⟩:ByteArray).data.toList=[40]:=rfl;rw [es] at hres;clear es;have CA:=eA.size;have iP:=kY.trans eA kY.size;have gH:=eA.keep il (by omega) (by simp;omega);have gP:=eA.keep ju (by omega) (by simp;omega);have iZ:=pY.past eA (fun i hi=>by simp;omega);have oU:=ph.past eA (fun i hi=>by simp;omega);clear kY il ju qn eA pY ph
          cases ht14:Ps.need I [40] n13 with
          | err c0 a0=>
           rw [ht14] at hres;obtain rfl:e=_:=hres;exact ⟨rfl,Post.fail (by rw [mP.out];unfold Ps.callE;rw [ht14];rfl) iP⟩
          | ok u14 n14=>
           rw [ht14] at hres;obtain ⟨rn,ki,_,rfl,rfl⟩:=hres;have iX:Hid (Ps.equation I nx=(if Ps.sees I [41] n14=true then .ok [] (n14+1) else (Ps.row I (Ps.whole I) 30 [] n14).bind fun e n7=>(Ps.need I [41] n7).bind fun _ n8=>.ok e n8).bind fun e n9=>.ok ⟨((I.pk nx).place:Int),l,s,cD,e⟩ n9):=by
            show Ps.equation I nx=_
            rw [mP.out];unfold Ps.callE;rw [ht14];rfl
           clear ht14 mP;go_wp2_with fail;refine (zAH ki ⟨#[41]⟩ (by decide)).mono ?_;rintro e Dq ⟨rfl,ek,ey⟩;have es:(⟨#[41]⟩:ByteArray).data.toList=[41]:=rfl;rw [es] at ek;simp only [es];clear es;have CG:=ey.size;have gO:=iP.trans ey iP.size;have br:=ey.keep gH (by omega) (by simp;omega);have bK:=ey.keep gP (by omega) (by simp;omega);have fD:=iZ.past ey (fun i hi=>by simp;omega);have lF:=oU.past ey (fun i hi=>by simp;omega);clear iP gH gP ki ey iZ oU
           cases cY:Ps.sees I [41] n14 with
           | true=>
            rw [cY] at ek;simp only [if_true] at ek;have fa:=fun o=>fo br o;have ay:=co br 0;have aB:=co br 1;have az:=co br 2;have aD:=co br 3;have aF:=co br 4;simp at ay aB az aD aF;have bv:=co bK 0;have bz:=co bK 1;have bw:=co bK 2;have bU:=co bK 3;have bT:=co bK 4;simp at bv bz bw bU bT;go_wp2;refine bodyPost_ret (v:=.agg #[.int .i64 (t.place:Int),.slice aN l.length cN,.string s,.slice aS cD.length cS,.slice none 0 0]) (by simp [results,Tryz.results185,go_sem,ay,aB,az,aD,aF]) rfl ?_;exact Post.good (v:=⟨((I.pk nx).place:Int),l,s,cD,[]⟩) (by rw [iX.out,cY];rfl) (gO.put5 (k:=w.heap.size) nR ⟨(t.place:Int),aN,l.length,cN,s,aS,cD.length,cS,none,0,0⟩) (by omega) (ek.put5 (k:=w.heap.size) (by omega) (by omega) ⟨(t.place:Int),aN,l.length,cN,s,aS,cD.length,cS,none,0,0⟩) ⟨⟨(t.place:Int),aN,l.length,cN,s,aS,cD.length,cS,none,0,0⟩,rfl,⟨by rw [<-HT.out],zAg ((fD.put5 (k:=w.heap.size) (by omega) ⟨(t.place:Int),aN,l.length,cN,s,aS,cD.length,cS,none,0,0⟩).wide (fun i hi _=>by omega)),rfl,zBk ((lF.put5 (k:=w.heap.size) (by omega) ⟨(t.place:Int),aN,l.length,cN,s,aS,cD.length,cS,none,0,0⟩).wide (fun i hi _=>by omega)),zCo⟩⟩
           | false=>
            rw [cY] at ek;simp only [Bool.false_eq_true,if_false] at ek;go_wp2_with fail;refine (zBe HW ek (hG.far gO) 30 (by decide)).mono ?_;rintro e j7 ⟨ew,hres⟩;have Ci:=ew.size;have jZ:=gO.trans ew gO.size;have gj:=ew.keep br (by omega) (by simp;omega);have dh:=ew.keep bK (by omega) (by simp;omega);have ja:=fD.past ew (fun i hi=>by simp;omega);have pG:=lF.past ew (fun i hi=>by simp;omega);clear gO br bK ek ew fD lF
            cases ht16:Ps.row I (Ps.whole I) 30 [] n14 with
            | err c0 a0=>
             rw [ht16] at hres;obtain rfl:e=_:=hres;exact ⟨rfl,Post.fail (by rw [iX.out,cY];simp only [Bool.false_eq_true,if_false];rw [ht16];rfl) jZ⟩
            | ok e16 n16=>
             rw [ht16] at hres;obtain ⟨qJ,mx,Cq,rfl,hV⟩:=hres;obtain ⟨aE,cE,rfl,vC,lS⟩:=hV.form;unfold maxLen at lS;have jh:=hV.wide (ok':=fun i=>w1.heap.size<i) (fun i hi _=>by omega);have mh:Hid (Ps.equation I nx=(Ps.need I [41] n16).bind fun _ n8=>.ok ⟨((I.pk nx).place:Int),l,s,cD,e16⟩ n8):=by
              show Ps.equation I nx=_
              rw [iX.out,cY];simp only [Bool.false_eq_true,if_false];rw [ht16]
              show ((Ps.need I [41] n16).bind fun _ n8=>Res.ok e16 n8).bind _=_
              rw [Res.bind_assoc];rfl
             clear ht16 hV iX;have tc:=co dh 4;have tf:=fo dh 4;simp at tc;have dd:=zAD dh 4 (.slice aE e16.length cE);have dQ:=zAI gj (p:=⟨w1.heap.size,4,none⟩) (by simp;omega) (.slice aE e16.length cE);have jO:=mx.set (p:=⟨w1.heap.size,4,none⟩) (by simp;omega) (by simp;omega) (.slice aE e16.length cE);have iI:=jZ.set (p:=⟨w1.heap.size,4,none⟩) (by simp;omega) (.slice aE e16.length cE);have rp:(j7.setCell ⟨w1.heap.size,4,none⟩ (.slice aE e16.length cE)).heap.size=j7.heap.size:=(by simp [World.setCell]);simp at dd;have fV:=ja.set (p:=⟨w1.heap.size,4,none⟩) (by simp) (.slice aE e16.length cE);have lD:=pG.set (p:=⟨w1.heap.size,4,none⟩) (by simp) (.slice aE e16.length cE);have fU:=jh.set (p:=⟨w1.heap.size,4,none⟩) (by simp) (.slice aE e16.length cE);go_wp2_with fail;generalize j7.setCell ⟨w1.heap.size,4,none⟩ (.slice aE e16.length cE)=Di at dd dQ jO iI rp fV lD fU ⊢;clear tc tf jZ gj dh mx ja pG jh;refine (zAJ jO ⟨#[41]⟩ (by decide)).mono ?_;rintro e CZ ⟨dG,hres⟩;have es:(⟨#[41]⟩:ByteArray).data.toList=[41]:=rfl;rw [es] at hres;clear es;have DH:=dG.size;have lm:=iI.trans dG iI.size;have cv:=dG.keep dQ (by omega) (by simp;omega);have cT:=dG.keep dd (by omega) (by simp;omega);have lJ:=fV.past dG (fun i hi=>by simp;omega);have tF:=lD.past dG (fun i hi=>by simp;omega);have lQ:=fU.past dG (fun i hi=>by simp;omega);clear iI dQ dd jO dG fV lD fU
             cases ht18:Ps.need I [41] n16 with
             | err c0 a0=>
              rw [ht18] at hres;obtain rfl:e=_:=hres;exact ⟨rfl,Post.fail (by rw [mh.out,ht18];rfl) lm⟩
             | ok u18 n18=>
              rw [ht18] at hres;obtain ⟨rK,nK,_,rfl,rfl⟩:=hres;have fa:=fun o=>fo cv o;have ay:=co cv 0;have aB:=co cv 1;have az:=co cv 2;have aD:=co cv 3;have aF:=co cv 4;simp at ay aB az aD aF;have bv:=co cT 0;have bz:=co cT 1;have bw:=co cT 2;have bU:=co cT 3;have bT:=co cT 4;simp at bv bz bw bU bT;go_wp2;refine bodyPost_ret (v:=.agg #[.int .i64 (t.place:Int),.slice aN l.length cN,.string s,.slice aS cD.length cS,.slice aE e16.length cE]) (by simp [results,Tryz.results185,go_sem,ay,aB,az,aD,aF]) rfl ?_;exact Post.good (v:=⟨((I.pk nx).place:Int),l,s,cD,e16⟩) (by rw [mh.out,ht18];rfl) (lm.put5 (k:=w.heap.size) nR ⟨(t.place:Int),aN,l.length,cN,s,aS,cD.length,cS,aE,e16.length,cE⟩) (by omega) (nK.put5 (k:=w.heap.size) (by omega) (by omega) ⟨(t.place:Int),aN,l.length,cN,s,aS,cD.length,cS,aE,e16.length,cE⟩) ⟨⟨(t.place:Int),aN,l.length,cN,s,aS,cD.length,cS,aE,e16.length,cE⟩,rfl,⟨by rw [<-HT.out],zAg ((lJ.put5 (k:=w.heap.size) (by omega) ⟨(t.place:Int),aN,l.length,cN,s,aS,cD.length,cS,aE,e16.length,cE⟩).wide (fun i hi _=>by omega)),rfl,zBk ((tF.put5 (k:=w.heap.size) (by omega) ⟨(t.place:Int),aN,l.length,cN,s,aS,cD.length,cS,aE,e16.length,cE⟩).wide (fun i hi _=>by omega)),zBl ((lQ.put5 (k:=w.heap.size) (by omega) ⟨(t.place:Int),aN,l.length,cN,s,aS,cD.length,cS,aE,e16.length,cE⟩).wide (fun i hi _=>by omega))⟩⟩
   ·have Cu:((l.length:Int)==1)=false:=by rw [beq_eq_false_iff_ne];omega
    have m5:Hid (Ps.equation I nx=Ps.call I ((I.pk nx).place:Int) l n2):=by
     show Ps.equation I nx=_
     rw [m4.out,if_neg (by simp [bh])]
    clear m4 bh;go_wp2_with fail;refine (zAJ h4 ⟨#[99,97,108,108]⟩ (by decide)).mono ?_;rintro e w7 ⟨a7,hres⟩;have es:(⟨#[99,97,108,108]⟩:ByteArray).data.toList=[99,97,108,108]:=rfl;rw [es] at hres;clear es;have z7:=a7.size;have A7:=A4.trans a7 A4.size;have kU:=a7.keep dw (by omega) (by simp;omega);have p9:=a7.keep cy (by omega) (by simp;omega);have sR:=DK.past a7 (fun i hi=>by simp;omega);clear A4 dw cy h4 a7 DK
    cases ht7:Ps.need I [99,97,108,108] n2 with
    | err c0 a0=>
     rw [ht7] at hres;obtain rfl:e=_:=hres;exact ⟨rfl,Post.fail (by rw [m5.out,zEh,ht7];rfl) A7⟩
    | ok u7 n7=>
     rw [ht7] at hres;obtain ⟨rf,h7,_,rfl,rfl⟩:=hres;have m7:Hid (Ps.equation I nx=(Ps.name I n7).bind fun s n2=>(if Ps.sees I [60] n2=true then (Ps.row I (Ps.size I) 3 [] (n2+1)).bind fun z n3=>(Ps.need I [62] n3).bind fun _ n4=>.ok z n4 else .ok [] n2).bind fun z n5=>Ps.callE I ((I.pk nx).place:Int) l s z n5):=by
      show Ps.equation I nx=_
      rw [m5.out,zEh,ht7];rfl
     clear ht7 m5;go_wp2_with fail;refine (zBJ h7).mono ?_;rintro e w8 ⟨a8,hres⟩;have z8:=a8.size;have A8:=A7.trans a8 A7.size;have qA:=a8.keep kU (by omega) (by simp;omega);have mw:=a8.keep p9 (by omega) (by simp;omega);have tJ:=sR.past a8 (fun i hi=>by simp;omega);clear A7 kU p9 h7 a8 sR
     cases ht8:Ps.name I n7 with
     | err c0 a0=>
      rw [ht8] at hres;obtain rfl:e=_:=hres;exact ⟨rfl,Post.fail (by rw [m7.out,ht8];rfl) A8⟩
     | ok s n8=>
      rw [ht8] at hres;obtain ⟨GI,h8,_,rfl,rfl⟩:=hres;have m8:Hid (Ps.equation I nx=(if Ps.sees I [60] n8=true then (Ps.row I (Ps.size I) 3 [] (n8+1)).bind fun z n3=>(Ps.need I [62] n3).bind fun _ n4=>.ok z n4 else .ok [] n8).bind fun z n5=>Ps.callE I ((I.pk nx).place:Int) l s z n5):=by
       show Ps.equation I nx=_
       rw [m7.out,ht8];rfl
      clear ht8 m7;have tc:=co mw 2;have tf:=fo mw 2;simp at tc;have nU:=zAD mw 2 (.string s);have da:=zAI qA (p:=⟨w1.heap.size,2,none⟩) (by simp;omega) (.string s);have h9:=h8.set (p:=⟨w1.heap.size,2,none⟩) (by simp;omega) (by simp;omega) (.string s);have A9:=A8.set (p:=⟨w1.heap.size,2,none⟩) (by simp;omega) (.string s);have z9:(w8.setCell ⟨w1.heap.size,2,none⟩ (.string s)).heap.size=w8.heap.size:=(by simp [World.setCell]);simp at nU;have tv:=tJ.set (p:=⟨w1.heap.size,2,none⟩) (by simp) (.string s);go_wp2_with fail;generalize w8.setCell ⟨w1.heap.size,2,none⟩ (.string s)=w9 at nU da h9 A9 z9 tv ⊢;clear tc tf A8 qA mw h8 tJ;refine (zAH h9 ⟨#[60]⟩ (by decide)).mono ?_;rintro e rD ⟨rfl,cP,dZ⟩;have es:(⟨#[60]⟩:ByteArray).data.toList=[60]:=rfl;rw [es] at cP;simp only [es];clear es;have JN:=dZ.size;have fX:=A9.trans dZ A9.size;have gu:=dZ.keep da (by omega) (by simp;omega);have gB:=dZ.keep nU (by omega) (by simp;omega);have j6:=tv.past dZ (fun i hi=>by simp;omega);clear A9 da nU h9 dZ tv
      cases hq10:Ps.sees I [60] n8 with
      | false=>
       rw [hq10] at cP;simp only [Bool.false_eq_true,if_false] at cP;have mP:Hid (Ps.equation I nx=Ps.callE I ((I.pk nx).place:Int) l s [] n8):=by
        show Ps.equation I nx=_
        rw [m8.out,hq10];rfl
       clear m8;go_wp2_with fail;refine (zAJ cP ⟨#[40]⟩ (by decide)).mono ?_;rintro e Dr ⟨eA,hres⟩;have es:(⟨#[40]⟩:ByteArray).data.toList=[40]:=rfl;rw [es] at hres;clear es;have CA:=eA.size;have iP:=fX.trans eA fX.size;have gH:=eA.keep gu (by omega) (by simp;omega);have gP:=eA.keep gB (by omega) (by simp;omega);have iZ:=j6.past eA (fun i hi=>by simp;omega);clear fX gu gB cP eA j6
       cases ht14:Ps.need I [40] n8 with
       | err c0 a0=>
        rw [ht14] at hres;obtain rfl:e=_:=hres;exact ⟨rfl,Post.fail (by rw [mP.out];unfold Ps.callE;rw [ht14];rfl) iP⟩
       | ok u14 n14=>
        rw [ht14] at hres;obtain ⟨rn,ki,_,rfl,rfl⟩:=hres;have iX:Hid (Ps.equation I nx=(if Ps.sees I [41] n14=true then .ok [] (n14+1) else (Ps.row I (Ps.whole I) 30 [] n14).bind fun e n7=>(Ps.need I [41] n7).bind fun _ n8=>.ok e n8).bind fun e n9=>.ok ⟨((I.pk nx).place:Int),l,s,[],e⟩ n9):=by
         show Ps.equation I nx=_
         rw [mP.out];unfold Ps.callE;rw [ht14];rfl
        clear ht14 mP;go_wp2_with fail;refine (zAH ki ⟨#[41]⟩ (by decide)).mono ?_;rintro e Dq ⟨rfl,ek,ey⟩;have es:(⟨#[41]⟩:ByteArray).data.toList=[41]:=rfl;rw [es] at ek;simp only [es];clear es;have CG:=ey.size;have gO:=iP.trans ey iP.size;have br:=ey.keep gH (by omega) (by simp;omega);have bK:=ey.keep gP (by omega) (by simp;omega);have fD:=iZ.past ey (fun i hi=>by simp;omega);clear iP gH gP ki ey iZ
        cases cY:Ps.sees I [41] n14 with
        | true=>
         rw [cY] at ek;simp only [if_true] at ek;have fa:=fun o=>fo br o;have ay:=co br 0;have aB:=co br 1;have az:=co br 2;have aD:=co br 3;have aF:=co br 4;simp at ay aB az aD aF;have bv:=co bK 0;have bz:=co bK 1;have bw:=co bK 2;have bU:=co bK 3;have bT:=co bK 4;simp at bv bz bw bU bT;go_wp2;refine bodyPost_ret (v:=.agg #[.int .i64 (t.place:Int),.slice aN l.length cN,.string s,.slice none 0 0,.slice none 0 0]) (by simp [results,Tryz.results185,go_sem,ay,aB,az,aD,aF]) rfl ?_;exact Post.good (v:=⟨((I.pk nx).place:Int),l,s,[],[]⟩) (by rw [iX.out,cY];rfl) (gO.put5 (k:=w.heap.size) nR ⟨(t.place:Int),aN,l.length,cN,s,none,0,0,none,0,0⟩) (by omega) (ek.put5 (k:=w.heap.size) (by omega) (by omega) ⟨(t.place:Int),aN,l.length,cN,s,none,0,0,none,0,0⟩) ⟨⟨(t.place:Int),aN,l.length,cN,s,none,0,0,none,0,0⟩,rfl,⟨by rw [<-HT.out],zAg ((fD.put5 (k:=w.heap.size) (by omega) ⟨(t.place:Int),aN,l.length,cN,s,none,0,0,none,0,0⟩).wide (fun i hi _=>by omega)),rfl,zAw,zCo⟩⟩
        | false=>
         rw [cY] at ek;simp only [Bool.false_eq_true,if_false] at ek;go_wp2_with fail;refine (zBe HW ek (hG.far gO) 30 (by decide)).mono ?_;rintro e j7 ⟨ew,hres⟩;have Ci:=ew.size;have jZ:=gO.trans ew gO.size;have gj:=ew.keep br (by omega) (by simp;omega);have dh:=ew.keep bK (by omega) (by simp;omega);have ja:=fD.past ew (fun i hi=>by simp;omega);clear gO br bK ek ew fD
         cases ht16:Ps.row I (Ps.whole I) 30 [] n14 with
         | err c0 a0=>
          rw [ht16] at hres;obtain rfl:e=_:=hres;exact ⟨rfl,Post.fail (by rw [iX.out,cY];simp only [Bool.false_eq_true,if_false];rw [ht16];rfl) jZ⟩
         | ok e16 n16=>
          rw [ht16] at hres;obtain ⟨qJ,mx,Cq,rfl,hV⟩:=hres;obtain ⟨aE,cE,rfl,vC,lS⟩:=hV.form;unfold maxLen at lS;have jh:=hV.wide (ok':=fun i=>w1.heap.size<i) (fun i hi _=>by omega);have mh:Hid (Ps.equation I nx=(Ps.need I [41] n16).bind fun _ n8=>.ok ⟨((I.pk nx).place:Int),l,s,[],e16⟩ n8):=by
           show Ps.equation I nx=_
           rw [iX.out,cY];simp only [Bool.false_eq_true,if_false];rw [ht16]
           show ((Ps.need I [41] n16).bind fun _ n8=>Res.ok e16 n8).bind _=_
           rw [Res.bind_assoc];rfl
          clear ht16 hV iX;have tc:=co dh 4;have tf:=fo dh 4;simp at tc;have dd:=zAD dh 4 (.slice aE e16.length cE);have dQ:=zAI gj (p:=⟨w1.heap.size,4,none⟩) (by simp;omega) (.slice aE e16.length cE);have jO:=mx.set (p:=⟨w1.heap.size,4,none⟩) (by simp;omega) (by simp;omega) (.slice aE e16.length cE);have iI:=jZ.set (p:=⟨w1.heap.size,4,none⟩) (by simp;omega) (.slice aE e16.length cE);have rp:(j7.setCell ⟨w1.heap.size,4,none⟩ (.slice aE e16.length cE)).heap.size=j7.heap.size:=(by simp [World.setCell]);simp at dd;have fV:=ja.set (p:=⟨w1.heap.size,4,none⟩) (by simp) (.slice aE e16.length cE);have fU:=jh.set (p:=⟨w1.heap.size,4,none⟩) (by simp) (.slice aE e16.length cE);go_wp2_with fail;generalize j7.setCell ⟨w1.heap.size,4,none⟩ (.slice aE e16.length cE)=Di at dd dQ jO iI rp fV fU ⊢;clear tc tf jZ gj dh mx ja jh;refine (zAJ jO ⟨#[41]⟩ (by decide)).mono ?_;rintro e CZ ⟨dG,hres⟩;have es:(⟨#[41]⟩:ByteArray).data.toList=[41]:=rfl;rw [es] at hres;clear es;have DH:=dG.size;have lm:=iI.trans dG iI.size;have cv:=dG.keep dQ (by omega) (by simp;omega);have cT:=dG.keep dd (by omega) (by simp;omega);have lJ:=fV.past dG (fun i hi=>by simp;omega);have lQ:=fU.past dG (fun i hi=>by simp;omega);clear iI dQ dd jO dG fV fU
          cases ht18:Ps.need I [41] n16 with
          | err c0 a0=>
           rw [ht18] at hres;obtain rfl:e=_:=hres;exact ⟨rfl,Post.fail (by rw [mh.out,ht18];rfl) lm⟩
          | ok u18 n18=>
           rw [ht18] at hres;obtain ⟨rK,nK,_,rfl,rfl⟩:=hres;have fa:=fun o=>fo cv o;have ay:=co cv 0;have aB:=co cv 1;have az:=co cv 2;have aD:=co cv 3;have aF:=co cv 4;simp at ay aB az aD aF;have bv:=co cT 0;have bz:=co cT 1;have bw:=co cT 2;have bU:=co cT 3;have bT:=co cT 4;simp at bv bz bw bU bT;go_wp2;refine bodyPost_ret (v:=.agg #[.int .i64 (t.place:Int),.slice aN l.length cN,.string s,.slice none 0 0,.slice aE e16.length cE]) (by simp [results,Tryz.results185,go_sem,ay,aB,az,aD,aF]) rfl ?_;exact Post.good (v:=⟨((I.pk nx).place:Int),l,s,[],e16⟩) (by rw [mh.out,ht18];rfl) (lm.put5 (k:=w.heap.size) nR ⟨(t.place:Int),aN,l.length,cN,s,none,0,0,aE,e16.length,cE⟩) (by omega) (nK.put5 (k:=w.heap.size) (by omega) (by omega) ⟨(t.place:Int),aN,l.length,cN,s,none,0,0,aE,e16.length,cE⟩) ⟨⟨(t.place:Int),aN,l.length,cN,s,none,0,0,aE,e16.length,cE⟩,rfl,⟨by rw [<-HT.out],zAg ((lJ.put5 (k:=w.heap.size) (by omega) ⟨(t.place:Int),aN,l.length,cN,s,none,0,0,aE,e16.length,cE⟩).wide (fun i hi _=>by omega)),rfl,zAw,zBl ((lQ.put5 (k:=w.heap.size) (by omega) ⟨(t.place:Int),aN,l.length,cN,s,none,0,0,aE,e16.length,cE⟩).wide (fun i hi _=>by omega))⟩⟩
      | true=>
       rw [hq10] at cP;simp only [if_true] at cP;go_wp2_with fail;refine (zET (fun n w h _=>zCb h) cP (hG.far fX) 3 (by decide)).mono ?_;rintro e oG ⟨jF,hres⟩;have cD:=jF.size;have pQ:=fX.trans jF fX.size;have kO:=jF.keep gu (by omega) (by simp;omega);have gK:=jF.keep gB (by omega) (by simp;omega);have oP:=j6.past jF (fun i hi=>by simp;omega);clear fX gu gB cP jF j6
       cases ht11:Ps.row I (Ps.size I) 3 [] (n8+1) with
       | err c0 a0=>
        rw [ht11] at hres;obtain rfl:e=_:=hres;exact ⟨rfl,Post.fail (by rw [m8.out,hq10,if_pos rfl,ht11];rfl) pQ⟩
       | ok cD n11=>
        rw [ht11] at hres;obtain ⟨Ar,lK,Js,rfl,hV⟩:=hres;obtain ⟨aS,cS,rfl,EP,fy⟩:=hV.form;unfold maxLen at fy;have pN:=hV.wide (ok':=fun i=>w1.heap.size<i) (fun i hi _=>by omega);have pT:Hid (Ps.equation I nx=((Ps.need I [62] n11).bind fun _ n4=>Res.ok cD n4).bind fun z n5=>Ps.callE I ((I.pk nx).place:Int) l s z n5):=by
         show Ps.equation I nx=_
         rw [m8.out,hq10,if_pos rfl,ht11];rfl
        clear ht11 hV m8;have tc:=co gK 3;have tf:=fo gK 3;simp at tc;have gp:=zAD gK 3 (.slice aS cD.length cS);have gx:=zAI kO (p:=⟨w1.heap.size,3,none⟩) (by simp;omega) (.slice aS cD.length cS);have oy:=lK.set (p:=⟨w1.heap.size,3,none⟩) (by simp;omega) (by simp;omega) (.slice aS cD.length cS);have mJ:=pQ.set (p:=⟨w1.heap.size,3,none⟩) (by simp;omega) (.slice aS cD.length cS);have AY:(oG.setCell ⟨w1.heap.size,3,none⟩ (.slice aS cD.length cS)).heap.size=oG.heap.size:=(by simp [World.setCell]);simp at gp;have lx:=oP.set (p:=⟨w1.heap.size,3,none⟩) (by simp) (.slice aS cD.length cS);have mn:=pN.set (p:=⟨w1.heap.size,3,none⟩) (by simp) (.slice aS cD.length cS);go_wp2_with fail;generalize oG.setCell ⟨w1.heap.size,3,none⟩ (.slice aS cD.length cS)=Lr at gp gx oy mJ AY lx mn ⊢;clear tc tf pQ kO gK lK oP pN;refine (zAJ oy ⟨#[62]⟩ (by decide)).mono ?_;rintro e Hl ⟨iD,hres⟩;have es:(⟨#[62]⟩:ByteArray).data.toList=[62]:=rfl;rw [es] at hres;clear es;have F6:=iD.size;have kY:=mJ.trans iD mJ.size;have il:=iD.keep gx (by omega) (by simp;omega);have ju:=iD.keep gp (by omega) (by simp;omega);have pY:=lx.past iD (fun i hi=>by simp;omega);have ph:=mn.past iD (fun i hi=>by simp;omega);clear mJ gx gp oy iD lx mn
        cases ht13:Ps.need I [62] n11 with
        | err c0 a0=>
         rw [ht13] at hres;obtain rfl:e=_:=hres;exact ⟨rfl,Post.fail (by rw [pT.out,ht13];rfl) kY⟩
        | ok u13 n13=>
         rw [ht13] at hres;obtain ⟨um,qn,_,rfl,rfl⟩:=hres;have mP:Hid (Ps.equation I nx=Ps.callE I ((I.pk nx).place:Int) l s cD n13):=by
          show Ps.equation I nx=_
          rw [pT.out,ht13];rfl
         clear ht13 pT;go_wp2_with fail;refine (zAJ qn ⟨#[40]⟩ (by decide)).mono ?_;rintro e Dr ⟨eA,hres⟩;have es:(⟨#[40]⟩:ByteArray).data.toList=[40]:=rfl;rw [es] at hres;clear es;have CA:=eA.size;have iP:=kY.trans eA kY.size;have gH:=eA.keep il (by omega) (by simp;omega);have gP:=eA.keep ju (by omega) (by simp;omega);have iZ:=pY.past eA (fun i hi=>by simp;omega);have oU:=ph.past eA (fun i hi=>by simp;omega);clear kY il ju qn eA pY ph
         cases ht14:Ps.need I [40] n13 with
         | err c0 a0=>
          rw [ht14] at hres;obtain rfl:e=_:=hres;exact ⟨rfl,Post.fail (by rw [mP.out];unfold Ps.callE;rw [ht14];rfl) iP⟩
         | ok u14 n14=>
          rw [ht14] at hres;obtain ⟨rn,ki,_,rfl,rfl⟩:=hres;have iX:Hid (Ps.equation I nx=(if Ps.sees I [41] n14=true then .ok [] (n14+1) else (Ps.row I (Ps.whole I) 30 [] n14).bind fun e n7=>(Ps.need I [41] n7).bind fun _ n8=>.ok e n8).bind fun e n9=>.ok ⟨((I.pk nx).place:Int),l,s,cD,e⟩ n9):=by
           show Ps.equation I nx=_
           rw [mP.out];unfold Ps.callE;rw [ht14];rfl
          clear ht14 mP;go_wp2_with fail;refine (zAH ki ⟨#[41]⟩ (by decide)).mono ?_;rintro e Dq ⟨rfl,ek,ey⟩;have es:(⟨#[41]⟩:ByteArray).data.toList=[41]:=rfl;rw [es] at ek;simp only [es];clear es;have CG:=ey.size;have gO:=iP.trans ey iP.size;have br:=ey.keep gH (by omega) (by simp;omega);have bK:=ey.keep gP (by omega) (by simp;omega);have fD:=iZ.past ey (fun i hi=>by simp;omega);have lF:=oU.past ey (fun i hi=>by simp;omega);clear iP gH gP ki ey iZ oU
          cases cY:Ps.sees I [41] n14 with
          | true=>
           rw [cY] at ek;simp only [if_true] at ek;have fa:=fun o=>fo br o;have ay:=co br 0;have aB:=co br 1;have az:=co br 2;have aD:=co br 3;have aF:=co br 4;simp at ay aB az aD aF;have bv:=co bK 0;have bz:=co bK 1;have bw:=co bK 2;have bU:=co bK 3;have bT:=co bK 4;simp at bv bz bw bU bT;go_wp2;refine bodyPost_ret (v:=.agg #[.int .i64 (t.place:Int),.slice aN l.length cN,.string s,.slice aS cD.length cS,.slice none 0 0]) (by simp [results,Tryz.results185,go_sem,ay,aB,az,aD,aF]) rfl ?_;exact Post.good (v:=⟨((I.pk nx).place:Int),l,s,cD,[]⟩) (by rw [iX.out,cY];rfl) (gO.put5 (k:=w.heap.size) nR ⟨(t.place:Int),aN,l.length,cN,s,aS,cD.length,cS,none,0,0⟩) (by omega) (ek.put5 (k:=w.heap.size) (by omega) (by omega) ⟨(t.place:Int),aN,l.length,cN,s,aS,cD.length,cS,none,0,0⟩) ⟨⟨(t.place:Int),aN,l.length,cN,s,aS,cD.length,cS,none,0,0⟩,rfl,⟨by rw [<-HT.out],zAg ((fD.put5 (k:=w.heap.size) (by omega) ⟨(t.place:Int),aN,l.length,cN,s,aS,cD.length,cS,none,0,0⟩).wide (fun i hi _=>by omega)),rfl,zBk ((lF.put5 (k:=w.heap.size) (by omega) ⟨(t.place:Int),aN,l.length,cN,s,aS,cD.length,cS,none,0,0⟩).wide (fun i hi _=>by omega)),zCo⟩⟩
          | false=>
           rw [cY] at ek;simp only [Bool.false_eq_true,if_false] at ek;go_wp2_with fail;refine (zBe HW ek (hG.far gO) 30 (by decide)).mono ?_;rintro e j7 ⟨ew,hres⟩;have Ci:=ew.size;have jZ:=gO.trans ew gO.size;have gj:=ew.keep br (by omega) (by simp;omega);have dh:=ew.keep bK (by omega) (by simp;omega);have ja:=fD.past ew (fun i hi=>by simp;omega);have pG:=lF.past ew (fun i hi=>by simp;omega);clear gO br bK ek ew fD lF
           cases ht16:Ps.row I (Ps.whole I) 30 [] n14 with
           | err c0 a0=>
            rw [ht16] at hres;obtain rfl:e=_:=hres;exact ⟨rfl,Post.fail (by rw [iX.out,cY];simp only [Bool.false_eq_true,if_false];rw [ht16];rfl) jZ⟩
           | ok e16 n16=>
            rw [ht16] at hres;obtain ⟨qJ,mx,Cq,rfl,hV⟩:=hres;obtain ⟨aE,cE,rfl,vC,lS⟩:=hV.form;unfold maxLen at lS;have jh:=hV.wide (ok':=fun i=>w1.heap.size<i) (fun i hi _=>by omega);have mh:Hid (Ps.equation I nx=(Ps.need I [41] n16).bind fun _ n8=>.ok ⟨((I.pk nx).place:Int),l,s,cD,e16⟩ n8):=by
             show Ps.equation I nx=_
             rw [iX.out,cY];simp only [Bool.false_eq_true,if_false];rw [ht16]
             show ((Ps.need I [41] n16).bind fun _ n8=>Res.ok e16 n8).bind _=_
             rw [Res.bind_assoc];rfl
            clear ht16 hV iX;have tc:=co dh 4;have tf:=fo dh 4;simp at tc;have dd:=zAD dh 4 (.slice aE e16.length cE);have dQ:=zAI gj (p:=⟨w1.heap.size,4,none⟩) (by simp;omega) (.slice aE e16.length cE);have jO:=mx.set (p:=⟨w1.heap.size,4,none⟩) (by simp;omega) (by simp;omega) (.slice aE e16.length cE);have iI:=jZ.set (p:=⟨w1.heap.size,4,none⟩) (by simp;omega) (.slice aE e16.length cE);have rp:(j7.setCell ⟨w1.heap.size,4,none⟩ (.slice aE e16.length cE)).heap.size=j7.heap.size:=(by simp [World.setCell]);simp at dd;have fV:=ja.set (p:=⟨w1.heap.size,4,none⟩) (by simp) (.slice aE e16.length cE);have lD:=pG.set (p:=⟨w1.heap.size,4,none⟩) (by simp) (.slice aE e16.length cE);have fU:=jh.set (p:=⟨w1.heap.size,4,none⟩) (by simp) (.slice aE e16.length cE);go_wp2_with fail;generalize j7.setCell ⟨w1.heap.size,4,none⟩ (.slice aE e16.length cE)=Di at dd dQ jO iI rp fV lD fU ⊢;clear tc tf jZ gj dh mx ja pG jh;refine (zAJ jO ⟨#[41]⟩ (by decide)).mono ?_;rintro e CZ ⟨dG,hres⟩;have es:(⟨#[41]⟩:ByteArray).data.toList=[41]:=rfl;rw [es] at hres;clear es;have DH:=dG.size;have lm:=iI.trans dG iI.size;have cv:=dG.keep dQ (by omega) (by simp;omega);have cT:=dG.keep dd (by omega) (by simp;omega);have lJ:=fV.past dG (fun i hi=>by simp;omega);have tF:=lD.past dG (fun i hi=>by simp;omega);have lQ:=fU.past dG (fun i hi=>by simp;omega);clear iI dQ dd jO dG fV lD fU
            cases ht18:Ps.need I [41] n16 with
            | err c0 a0=>
             rw [ht18] at hres;obtain rfl:e=_:=hres;exact ⟨rfl,Post.fail (by rw [mh.out,ht18];rfl) lm⟩
            | ok u18 n18=>
             rw [ht18] at hres;obtain ⟨rK,nK,_,rfl,rfl⟩:=hres;have fa:=fun o=>fo cv o;have ay:=co cv 0;have aB:=co cv 1;have az:=co cv 2;have aD:=co cv 3;have aF:=co cv 4;simp at ay aB az aD aF;have bv:=co cT 0;have bz:=co cT 1;have bw:=co cT 2;have bU:=co cT 3;have bT:=co cT 4;simp at bv bz bw bU bT;go_wp2;refine bodyPost_ret (v:=.agg #[.int .i64 (t.place:Int),.slice aN l.length cN,.string s,.slice aS cD.length cS,.slice aE e16.length cE]) (by simp [results,Tryz.results185,go_sem,ay,aB,az,aD,aF]) rfl ?_;exact Post.good (v:=⟨((I.pk nx).place:Int),l,s,cD,e16⟩) (by rw [mh.out,ht18];rfl) (lm.put5 (k:=w.heap.size) nR ⟨(t.place:Int),aN,l.length,cN,s,aS,cD.length,cS,aE,e16.length,cE⟩) (by omega) (nK.put5 (k:=w.heap.size) (by omega) (by omega) ⟨(t.place:Int),aN,l.length,cN,s,aS,cD.length,cS,aE,e16.length,cE⟩) ⟨⟨(t.place:Int),aN,l.length,cN,s,aS,cD.length,cS,aE,e16.length,cE⟩,rfl,⟨by rw [<-HT.out],zAg ((lJ.put5 (k:=w.heap.size) (by omega) ⟨(t.place:Int),aN,l.length,cN,s,aS,cD.length,cS,aE,e16.length,cE⟩).wide (fun i hi _=>by omega)),rfl,zBk ((tF.put5 (k:=w.heap.size) (by omega) ⟨(t.place:Int),aN,l.length,cN,s,aS,cD.length,cS,aE,e16.length,cE⟩).wide (fun i hi _=>by omega)),zBl ((lQ.put5 (k:=w.heap.size) (by omega) ⟨(t.place:Int),aN,l.length,cN,s,aS,cD.length,cS,aE,e16.length,cE⟩).wide (fun i hi _=>by omega))⟩⟩
end Go.Proofs.YtkfgbhlpjkkgfaaGreatDoor
