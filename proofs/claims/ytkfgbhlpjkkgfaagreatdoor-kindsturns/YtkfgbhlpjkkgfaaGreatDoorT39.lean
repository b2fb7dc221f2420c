import Derived.Test.YtkfgbhlpjkkgfaaGreatDoorT38
set_option linter.unusedVariables false
set_option linter.unusedSimpArgs false
set_option maxHeartbeats 64000000
set_option maxRecDepth 100000
namespace Go.Proofs.YtkfgbhlpjkkgfaaGreatDoor
open Go.RowKit Go.IntWalk
def put5 (w:World) (k:Nat) (y:EqV):World:=(((((w.setCell ⟨k,0,none⟩ (.int .i64 y.place)).setCell ⟨k,1,none⟩ (.slice y.aN y.nN y.cN)).setCell ⟨k,2,none⟩ (.string y.node)).setCell ⟨k,3,none⟩ (.slice y.aS y.nS y.cS)).setCell ⟨k,4,none⟩ (.slice y.aE y.nE y.cE))
theorem zCi (w:World) (k:Nat) (y:EqV):(put5 w k y).heap.size=w.heap.size:=by simp [put5,World.setCell]
theorem zBz (w:World) (k:Nat) (y:EqV) (i:Nat) (h:i≠k):(put5 w k y).heap[i]?=w.heap[i]?:=by
 unfold put5;rw [Below.heap_setCell _ _ _ _ h,Below.heap_setCell _ _ _ _ h,Below.heap_setCell _ _ _ _ h,Below.heap_setCell _ _ _ _ h,Below.heap_setCell _ _ _ _ h]
theorem Rd.put5 {w:World} {b g cap:Nat} {L:List Tk.Tok} {len nx op:Nat} (h:Rd w b g cap L len nx op) {k:Nat} (hb:k≠b) (hg:k≠g) (y:EqV):Rd (put5 w k y) b g cap L len nx op :=
 ⟨(zBz _ _ _ _ hb.symm).trans h.here,h.toks.keep (zBz _ _ _ _ hg.symm),h.apart,by rw [zCi];exact h.gb,h.le,h.lc,h.cm⟩
theorem Aside.put5 {S:List Nat} {B:Nat} {w w':World} (h:Aside S B w w') {k:Nat} (hk:B<=k) (y:EqV):Aside S B w (put5 w' k y):=by
 unfold YtkfgbhlpjkkgfaaGreatDoor.put5;exact (((((h.set (p:=⟨k,0,none⟩) hk _).set (p:=⟨k,1,none⟩) hk _).set (p:=⟨k,2,none⟩) hk _).set (p:=⟨k,3,none⟩) hk _).set (p:=⟨k,4,none⟩) hk _)
theorem HRow.put5 {α:Type} {T:Kind α} {ok:Nat->Prop} {w:World} {v:Value} {l:List α} (h:HRow T ok w v l) {k:Nat} (hk:¬ok k) (y:EqV):HRow T ok (put5 w k y) v l :=
 h.keep (by rw [zCi];exact Nat.le_refl _) fun i hi _=>zBz _ _ _ _ (fun e=>hk (e ▸ hi))
theorem HEx.put5 {ok:Nat->Prop} {w:World} {cs:List Value} {e:Ex} (h:HEx ok w cs e) {k:Nat} (hk:¬ok k) (y:EqV):HEx ok (put5 w k y) cs e :=
 h.keep (by rw [zCi];exact Nat.le_refl _) fun i hi _=>zBz _ _ _ _ (fun e=>hk (e ▸ hi))
def eqV:Nat->World->Value->Eqn->Prop:=fun B w x q=>∃ y:EqV,x=.agg #[.int .i64 y.place,.slice y.aN y.nN y.cN,.string y.node,.slice y.aS y.nS y.cS,.slice y.aE y.nE y.cE]/\HEq (fun i=>B<=i) w y q
theorem Res.bind_assoc {α β γ:Type} (r:Res α) (f:α->Nat->Res β) (h:β->Nat->Res γ):(r.bind f).bind h=r.bind fun v n=>(f v n).bind h:=by
 cases r<;>rfl
namespace Ps
def callE (I:Inp) (at0:Int) (l:List ByteArray) (s:ByteArray) (z:List (List Tm)) (n5:Nat):Res Eqn :=
 (need I [40] n5).bind fun _ n6=>(if sees I [41] n6=true then .ok [] (n6+1) else (row I (whole I) 30 [] n6).bind fun e n7=>(need I [41] n7).bind fun _ n8=>.ok e n8).bind fun e n9=>.ok ⟨at0,l,s,z,e⟩ n9
end Ps
theorem zEh (I:Inp) (at0:Int) (l:List ByteArray) (n:Nat):Ps.call I at0 l n=(Ps.need I [99,97,108,108] n).bind fun _ n1=>(Ps.name I n1).bind fun s n2 =>
  (if Ps.sees I [60] n2=true then (Ps.row I (Ps.size I) 3 [] (n2+1)).bind fun z n3=>(Ps.need I [62] n3).bind fun _ n4=>.ok z n4 else .ok [] n2).bind fun z n5=>Ps.callE I at0 l s z n5:=rfl
theorem zDV (aV:FormC) {b g cap:Nat} {I:Inp} (hL:I.L.length<=1099511627776):Does 185 b g cap I 0 eqV (Ps.equation I):=by
 intro nx w h hG;have HW:=whole_any aV (b:=b) (g:=g) (cap:=cap) hL;have hb:=h.bb;have hg:=h.gb;have oc:=zBi;have h0:=h.alloc (.cells #[.int .i64 0,.slice none 0 0,.string ⟨#[]⟩,.slice none 0 0,.slice none 0 0] 56 (0,0));have dO:=zAC w (.cells #[.int .i64 0,.slice none 0 0,.string ⟨#[]⟩,.slice none 0 0,.slice none 0 0] 56 (0,0));have z0:(w.alloc (.cells #[.int .i64 0,.slice none 0 0,.string ⟨#[]⟩,.slice none 0 0,.slice none 0 0] 56 (0,0))).heap.size=w.heap.size+1:=(by simp);have A0:=(Aside.refl (S:=[b]) (B:=w.heap.size) w).alloc nR (.cells #[.int .i64 0,.slice none 0 0,.string ⟨#[]⟩,.slice none 0 0,.slice none 0 0] 56 (0,0));have hp:=@zAT _ _ _ _ _ _ _ _ h0;obtain ⟨t,ht⟩:=nmQ (I.pk nx);have jH:peekT I.L I.len nx=t:=ht.symm;rw [jH] at hp;unfold tokV at hp;have hf:=fun x w=>tokF1 t x w;have HT:=zAA ht;clear jH ht;go_enter Tryz.func185,Tryz.ntmps185;go_wp2_with fail;generalize w.alloc (.cells #[.int .i64 0,.slice none 0 0,.string ⟨#[]⟩,.slice none 0 0,.slice none 0 0] 56 (0,0))=W at h0 dO z0 A0 hp ⊢;refine hp.mono ?_;rintro e w1 ⟨rfl,b1⟩;have z1:=b1.size;have h1:=(h0.below b1).alloc (.cells #[.int .i64 (t.place:Int),.slice none 0 0,.string ⟨#[]⟩,.slice none 0 0,.slice none 0 0] 56 (0,0));have A1:=(A0.trans (aside b1) A0.size).alloc (by omega) (.cells #[.int .i64 (t.place:Int),.slice none 0 0,.string ⟨#[]⟩,.slice none 0 0,.slice none 0 0] 56 (0,0));have aG:=kA ((aside b1 (S:=[])).keep dO (zAB dO) (by simp)) (.cells #[.int .i64 (t.place:Int),.slice none 0 0,.string ⟨#[]⟩,.slice none 0 0,.slice none 0 0] 56 (0,0));have iu:=zAC w1 (.cells #[.int .i64 (t.place:Int),.slice none 0 0,.string ⟨#[]⟩,.slice none 0 0,.slice none 0 0] 56 (0,0));have y1:(w1.alloc (.cells #[.int .i64 (t.place:Int),.slice none 0 0,.string ⟨#[]⟩,.slice none 0 0,.slice none 0 0] 56 (0,0))).heap.size=w1.heap.size+1:=(by simp);clear hp h0 A0 dO b1;go_wp2_with fail;generalize w1.alloc (.cells #[.int .i64 (t.place:Int),.slice none 0 0,.string ⟨#[]⟩,.slice none 0 0,.slice none 0 0] 56 (0,0))=W1 at h1 A1 aG iu y1 ⊢;refine (zER (fun n w h _=>zBJ h) h1 (hG.far A1) 30 (by decide)).mono ?_;rintro e w2 ⟨a2,hres⟩;have z2:=a2.size;have A2:=A1.trans a2 A1.size;have gH:=a2.keep aG (by omega) (by simp;omega);have et:=a2.keep iu (by omega) (by simp;omega);clear A1 aG iu h1 a2
 cases mG:Ps.row I (Ps.name I) 30 [] nx with
 | err c0 a0=>
  rw [mG] at hres;obtain rfl:e=_:=hres;exact ⟨rfl,Post.fail (by unfold Ps.equation;rw [mG];rfl) A2⟩
 | ok l n1=>
  rw [mG] at hres;obtain ⟨sM,h2,x2,rfl,hV⟩:=hres;obtain ⟨aN,cN,rfl,OG,Gs⟩:=hV.form;unfold maxLen at Gs;have I6:=hV.wide (ok':=fun i=>w1.heap.size<i) (fun i hi _=>by omega);have m2:Hid (Ps.equation I nx=(Ps.need I [61] n1).bind fun _ n2=>if l.length=1/\Ps.sees I [99,97,108,108] n2=false then (Ps.whole I n2).bind fun e n3=>.ok ⟨((I.pk nx).place:Int),l,⟨#[]⟩,[],[e]⟩ n3 else Ps.call I ((I.pk nx).place:Int) l n2):=by
   show Ps.equation I nx=_
   unfold Ps.equation;rw [mG];rfl
  clear mG hV;have tc:=co et 1;have tf:=fo et 1;simp at tc;have gU:=zAD et 1 (.slice aN l.length cN);have eC:=zAI gH (p:=⟨w1.heap.size,1,none⟩) (by simp;omega) (.slice aN l.length cN);have h3:=h2.set (p:=⟨w1.heap.size,1,none⟩) (by simp;omega) (by simp;omega) (.slice aN l.length cN);have A3:=A2.set (p:=⟨w1.heap.size,1,none⟩) (by simp;omega) (.slice aN l.length cN);have z3:(w2.setCell ⟨w1.heap.size,1,none⟩ (.slice aN l.length cN)).heap.size=w2.heap.size:=(by simp [World.setCell]);simp at gU;have FC:=I6.set (p:=⟨w1.heap.size,1,none⟩) (by simp) (.slice aN l.length cN);go_wp2_with fail;generalize w2.setCell ⟨w1.heap.size,1,none⟩ (.slice aN l.length cN)=w3 at gU eC h3 A3 z3 FC ⊢;clear tc tf A2 gH et h2 I6;refine (zAJ h3 ⟨#[61]⟩ (by decide)).mono ?_;rintro e w4 ⟨a4,hres⟩;have es:(⟨#[61]⟩:ByteArray).data.toList=[61]:=rfl;rw [es] at hres;clear es;have z4:=a4.size;have A4:=A3.trans a4 A3.size;have dy:=a4.keep eC (by omega) (by simp;omega);have cA:=a4.keep gU (by omega) (by simp;omega);have CN:=FC.past a4 (fun i hi=>by simp;omega);clear A3 eC gU h3 a4 FC
  cases ht4:Ps.need I [61] n1 with
  | err c0 a0=>
   rw [ht4] at hres;obtain rfl:e=_:=hres;exact ⟨rfl,Post.fail (by rw [m2.out,ht4];rfl) A4⟩
  | ok u n2=>
   rw [ht4] at hres;obtain ⟨CB,h4,_,rfl,rfl⟩:=hres;have m4:Hid (Ps.equation I nx=if l.length=1/\Ps.sees I [99,97,108,108] n2=false then (Ps.whole I n2).bind fun e n3=>.ok ⟨((I.pk nx).place:Int),l,⟨#[]⟩,[],[e]⟩ n3 else Ps.call I ((I.pk nx).place:Int) l n2):=by
    show Ps.equation I nx=_
    rw [m2.out,ht4];rfl
   clear ht4 m2;have t1:=co cA 1;simp at t1;by_cases bh:l.length=1
   ·have Ds:((l.length:Int)==1)=true:=by rw [beq_iff_eq];omega
    have CH:=zAA bh;clear bh;go_wp2_with fail;clear Ds;refine (zCa h4 ⟨#[99,97,108,108]⟩).mono ?_;rintro e w5 ⟨rfl,b5⟩;have es:(⟨#[99,97,108,108]⟩:ByteArray).data.toList=[99,97,108,108]:=rfl;simp only [es];clear es t1;have a5:Aside [b] w4.heap.size w4 w5:=aside b5;have h5:=h4.below b5;have z5:=a5.size;have A5:=A4.trans a5 A4.size;have gY:=a5.keep dy (by omega) (by simp;omega);have fh:=a5.keep cA (by omega) (by simp;omega);have Dj:=CN.past a5 (fun i hi=>by simp;omega);clear A4 dy cA h4 a5 CN b5
    cases hq5:Ps.sees I [99,97,108,108] n2 with
    | false=>
     have m5:Hid (Ps.equation I nx=(Ps.whole I n2).bind fun e n3=>.ok ⟨((I.pk nx).place:Int),l,⟨#[]⟩,[],[e]⟩ n3):=by
      show Ps.equation I nx=_
      rw [m4.out,if_pos ⟨CH.out,hq5⟩]
     clear m4;go_wp2_with fail;refine (HW _ _ h5 (hG.far A5)).mono ?_;rintro e w6 ⟨a6,hres⟩;have z6:=a6.size;have A6:=A5.trans a6 A5.size;have mN:=a6.keep gY (by omega) (by simp;omega);have mu:=a6.keep fh (by omega) (by simp;omega);have Kw:=Dj.past a6 (fun i hi=>by simp;omega);clear A5 gY fh h5 a6 Dj
     cases lU:Ps.whole I n2 with
     | err c0 a0=>
      rw [lU] at hres;obtain rfl:e=_:=hres;exact ⟨rfl,Post.fail (by rw [m5.out,lU];rfl) A6⟩
     | ok e6 n6=>
      rw [lU] at hres;obtain ⟨od,h6,_,rfl,x6,rfl,ix⟩:=hres;have m6:Hid (Ps.equation I nx=.ok ⟨((I.pk nx).place:Int),l,⟨#[]⟩,[],[e6]⟩ n6):=by
       show Ps.equation I nx=_
       rw [m5.out,lU];rfl
      clear lU m5;have ak:=zAB mN;have Ng:=zAB mu;have fa:=fun o=>fo mN o;have ft:=fun o=>fo mu o;have q6:=ix.wide (ok':=fun i=>w1.heap.size<i) (fun i hi _=>by omega);have aB:=co mN 0;have ay:=co mN 1;have az:=co mN 2;have aF:=co mN 3;have aD:=co mN 4;simp at aB ay az aF aD;have bw:=co mu 0;have bz:=co mu 1;have bv:=co mu 2;have bU:=co mu 3;have bT:=co mu 4;simp at bw bz bv bU bT;have sU:=Kw.set (p:=⟨w1.heap.size,4,none⟩) (by simp) (.slice (some ⟨w6.heap.size,0,none⟩) 1 1);have kv:=zAI mN (p:=⟨w1.heap.size,4,none⟩) (by simp;omega) (.slice (some ⟨w6.heap.size,0,none⟩) 1 1);have q7:=q6.set (p:=⟨w1.heap.size,4,none⟩) (by simp) (.slice (some ⟨w6.heap.size,0,none⟩) 1 1);have A7:=A6.set (p:=⟨w1.heap.size,4,none⟩) (by simp;omega) (.slice (some ⟨w6.heap.size,0,none⟩) 1 1);have h7:=h6.set (p:=⟨w1.heap.size,4,none⟩) (by simp;omega) (by simp;omega) (.slice (some ⟨w6.heap.size,0,none⟩) 1 1);have z7:(w6.setCell ⟨w1.heap.size,4,none⟩ (.slice (some ⟨w6.heap.size,0,none⟩) 1 1)).heap.size=w6.heap.size:=(by simp [World.setCell]);clear A6 h6 q6 Kw;go_wp2;generalize w6.setCell ⟨w1.heap.size,4,none⟩ (.slice (some ⟨w6.heap.size,0,none⟩) 1 1)=w7 at sU q7 A7 h7 z7 kv ⊢;have Hr:=zAB kv;have Ka:=co kv 0;have La:=co kv 1;have Jv:=co kv 2;have JQ:=co kv 3;have Kg:=co kv 4;simp at Ka La Jv JQ Kg;have zP:(put5 w7 w.heap.size ⟨(t.place:Int),aN,l.length,cN,⟨#[]⟩,none,0,0,some ⟨w6.heap.size,0,none⟩,1,1⟩).heap.size=w6.heap.size:=(zCi _ _ _).trans z7;have jc:=zFf (q7.put5 (k:=w.heap.size) (by omega) ⟨(t.place:Int),aN,l.length,cN,⟨#[]⟩,none,0,0,some ⟨w6.heap.size,0,none⟩,1,1⟩) 54 (by rw [zP];omega);have tH:=(sU.put5 (k:=w.heap.size) (by omega) ⟨(t.place:Int),aN,l.length,cN,⟨#[]⟩,none,0,0,some ⟨w6.heap.size,0,none⟩,1,1⟩).under ((Below.refl _ _).alloc nR (.cells #[.int .i64 x6.op,.int .i64 x6.k,.int .i64 x6.n,.string x6.name,.slice x6.aS x6.nS x6.cS,.slice x6.aL x6.nL x6.cL] 54 (0,0)));rw [zP] at jc;refine bodyPost_ret (v:=.agg #[.int .i64 (t.place:Int),.slice aN l.length cN,.string ⟨#[]⟩,.slice none 0 0,.slice (some ⟨w6.heap.size,0,none⟩) 1 1]) (by simp [results,Tryz.results185,go_sem,Ka,La,Jv,JQ,Kg,Hr]) rfl ?_;exact Post.good (v:=⟨((I.pk nx).place:Int),l,⟨#[]⟩,[],[e6]⟩) m6.out ((A7.put5 (k:=w.heap.size) nR ⟨(t.place:Int),aN,l.length,cN,⟨#[]⟩,none,0,0,some ⟨w6.heap.size,0,none⟩,1,1⟩).alloc (by rw [zP];omega) _) (by omega) ((h7.put5 (k:=w.heap.size) (by omega) (by omega) ⟨(t.place:Int),aN,l.length,cN,⟨#[]⟩,none,0,0,some ⟨w6.heap.size,0,none⟩,1,1⟩).alloc _) ⟨⟨(t.place:Int),aN,l.length,cN,⟨#[]⟩,none,0,0,some ⟨w6.heap.size,0,none⟩,1,1⟩,rfl,⟨by rw [<-HT.out],zAg (tH.wide (fun i hi _=>by omega)),rfl,zAw,jc.wide (fun i hi _=>by omega)⟩⟩
    | true=>
     have m5:Hid (Ps.equation I nx=Ps.call I ((I.pk nx).place:Int) l n2):=by
      show Ps.equation I nx=_
      rw [m4.out,if_neg (by simp [hq5])]
     clear m4;go_wp2_with fail;refine (zAJ h5 ⟨#[99,97,108,108]⟩ (by decide)).mono ?_;rintro e w7 ⟨a7,hres⟩;have es:(⟨#[99,97,108,108]⟩:ByteArray).data.toList=[99,97,108,108]:=rfl;rw [es] at hres;clear es;have z7:=a7.size;have A7:=A5.trans a7 A5.size;have kv:=a7.keep gY (by omega) (by simp;omega);have qg:=a7.keep fh (by omega) (by simp;omega);have sU:=Dj.past a7 (fun i hi=>by simp;omega);clear A5 gY fh h5 a7 Dj
     cases ht7:Ps.need I [99,97,108,108] n2 with
     | err c0 a0=>
      rw [ht7] at hres;obtain rfl:e=_:=hres;exact ⟨rfl,Post.fail (by rw [m5.out,zEh,ht7];rfl) A7⟩
     | ok u7 n7=>
      rw [ht7] at hres;obtain ⟨qN,h7,_,rfl,rfl⟩:=hres;have m7:Hid (Ps.equation I nx=(Ps.name I n7).bind fun s n2=>(if Ps.sees I [60] n2=true then (Ps.row I (Ps.size I) 3 [] (n2+1)).bind fun z n3=>(Ps.need I [62] n3).bind fun _ n4=>.ok z n4 else .ok [] n2).bind fun z n5=>Ps.callE I ((I.pk nx).place:Int) l s z n5):=by
       show Ps.equation I nx=_
       rw [m5.out,zEh,ht7];rfl
      clear ht7 m5;go_wp2_with fail;refine (zBJ h7).mono ?_;rintro e w8 ⟨a8,hres⟩;have z8:=a8.size;have A8:=A7.trans a8 A7.size;have qf:=a8.keep kv (by omega) (by simp;omega);have mz:=a8.keep qg (by omega) (by simp;omega);have tH:=sU.past a8 (fun i hi=>by simp;omega);clear A7 kv qg h7 a8 sU
      cases ht8:Ps.name I n7 with
      | err c0 a0=>
       rw [ht8] at hres;obtain rfl:e=_:=hres;exact ⟨rfl,Post.fail (by rw [m7.out,ht8];rfl) A8⟩
      | ok s n8=>
       rw [ht8] at hres;obtain ⟨G8,h8,_,rfl,rfl⟩:=hres;have m8:Hid (Ps.equation I nx=(if Ps.sees I [60] n8=true then (Ps.row I (Ps.size I) 3 [] (n8+1)).bind fun z n3=>(Ps.need I [62] n3).bind fun _ n4=>.ok z n4 else .ok [] n8).bind fun z n5=>Ps.callE I ((I.pk nx).place:Int) l s z n5):=by
        show Ps.equation I nx=_
        rw [m7.out,ht8];rfl
       clear ht8 m7;have tc:=co mz 2;have tf:=fo mz 2;simp at tc;have nY:=zAD mz 2 (.string s);have dc:=zAI qf (p:=⟨w1.heap.size,2,none⟩) (by simp;omega) (.string s);have h9:=h8.set (p:=⟨w1.heap.size,2,none⟩) (by simp;omega) (by simp;omega) (.string s);have A9:=A8.set (p:=⟨w1.heap.size,2,none⟩) (by simp;omega) (.string s);have z9:(w8.setCell ⟨w1.heap.size,2,none⟩ (.string s)).heap.size=w8.heap.size:=(by simp [World.setCell]);simp at nY;have vM:=tH.set (p:=⟨w1.heap.size,2,none⟩) (by simp) (.string s);go_wp2_with fail;generalize w8.setCell ⟨w1.heap.size,2,none⟩ (.string s)=w9 at nY dc h9 A9 z9 vM ⊢;clear tc tf A8 qf mz h8 tH;refine (zAH h9 ⟨#[60]⟩ (by decide)).mono ?_;rintro e ru ⟨rfl,cQ,dT⟩;have es:(⟨#[60]⟩:ByteArray).data.toList=[60]:=rfl;rw [es] at cQ;simp only [es];clear es;have IJ:=dT.size;have fI:=A9.trans dT A9.size;have gM:=dT.keep dc (by omega) (by simp;omega);have gu:=dT.keep nY (by omega) (by simp;omega);have jY:=vM.past dT (fun i hi=>by simp;omega);clear A9 dc nY h9 dT vM
       cases hq10:Ps.sees I [60] n8 with
       | false=>
        rw [hq10] at cQ;simp only [Bool.false_eq_true,if_false] at cQ;have mP:Hid (Ps.equation I nx=Ps.callE I ((I.pk nx).place:Int) l s [] n8):=by
         show Ps.equation I nx=_
         rw [m8.out,hq10];rfl
        clear m8;go_wp2_with fail;refine (zAJ cQ ⟨#[40]⟩ (by decide)).mono ?_;rintro e CR ⟨ey,hres⟩;have es:(⟨#[40]⟩:ByteArray).data.toList=[40]:=rfl;rw [es] at hres;clear es;have Cv:=ey.size;have iK:=fI.trans ey fI.size;have gD:=ey.keep gM (by omega) (by simp;omega);have gL:=ey.keep gu (by omega) (by simp;omega);have iX:=jY.past ey (fun i hi=>by simp;omega);clear fI gM gu cQ ey jY
        cases ht14:Ps.need I [40] n8 with
        | err c0 a0=>
         rw [ht14] at hres;obtain rfl:e=_:=hres;exact ⟨rfl,Post.fail (by rw [mP.out];unfold Ps.callE;rw [ht14];rfl) iK⟩
        | ok u14 n14=>
         rw [ht14] at hres;obtain ⟨qY,kE,_,rfl,rfl⟩:=hres;have i9:Hid (Ps.equation I nx=(if Ps.sees I [41] n14=true then .ok [] (n14+1) else (Ps.row I (Ps.whole I) 30 [] n14).bind fun e n7=>(Ps.need I [41] n7).bind fun _ n8=>.ok e n8).bind fun e n9=>.ok ⟨((I.pk nx).place:Int),l,s,[],e⟩ n9):=by
          show Ps.equation I nx=_
          rw [mP.out];unfold Ps.callE;rw [ht14];rfl
         clear ht14 mP;go_wp2_with fail;refine (zAH kE ⟨#[41]⟩ (by decide)).mono ?_;rintro e Cb ⟨rfl,eh,ez⟩;have es:(⟨#[41]⟩:ByteArray).data.toList=[41]:=rfl;rw [es] at eh;simp only [es];clear es;have DD:=ez.size;have gx:=iK.trans ez iK.size;have bu:=ez.keep gD (by omega) (by simp;omega);have bK:=ez.keep gL (by omega) (by simp;omega);have fJ:=iX.past ez (fun i hi=>by simp;omega);clear iK gD gL kE ez iX
         cases cX:Ps.sees I [41] n14 with
         | true=>
          rw [cX] at eh;simp only [if_true] at eh;have fa:=fun o=>fo bu o;have aB:=co bu 0;have ay:=co bu 1;have az:=co bu 2;have aF:=co bu 3;have aD:=co bu 4;simp at aB ay az aF aD;have bw:=co bK 0;have bz:=co bK 1;have bv:=co bK 2;have bU:=co bK 3;have bT:=co bK 4;simp at bw bz bv bU bT;go_wp2;refine bodyPost_ret (v:=.agg #[.int .i64 (t.place:Int),.slice aN l.length cN,.string s,.slice none 0 0,.slice none 0 0]) (by simp [results,Tryz.results185,go_sem,aB,ay,az,aF,aD]) rfl ?_;exact Post.good (v:=⟨((I.pk nx).place:Int),l,s,[],[]⟩) (by rw [i9.out,cX];rfl) (gx.put5 (k:=w.heap.size) nR ⟨(t.place:Int),aN,l.length,cN,s,none,0,0,none,0,0⟩) (by omega) (eh.put5 (k:=w.heap.size) (by omega) (by omega) ⟨(t.place:Int),aN,l.length,cN,s,none,0,0,none,0,0⟩) ⟨⟨(t.place:Int),aN,l.length,cN,s,none,0,0,none,0,0⟩,rfl,⟨by rw [<-HT.out],zAg ((fJ.put5 (k:=w.heap.size) (by omega) ⟨(t.place:Int),aN,l.length,cN,s,none,0,0,none,0,0⟩).wide (fun i hi _=>by omega)),rfl,zAw,zCo⟩⟩
         | false=>
          rw [cX] at eh;simp only [Bool.false_eq_true,if_false] at eh;go_wp2_with fail;refine (zBe HW eh (hG.far gx) 30 (by decide)).mono ?_;rintro e jT ⟨eA,hres⟩;have DE:=eA.size;have j6:=gx.trans eA gx.size;have gi:=eA.keep bu (by omega) (by simp;omega);have di:=eA.keep bK (by omega) (by simp;omega);have jd:=fJ.past eA (fun i hi=>by simp;omega);clear gx bu bK eh eA fJ
          cases ht16:Ps.row I (Ps.whole I) 30 [] n14 with
          | err c0 a0=>
           rw [ht16] at hres;obtain rfl:e=_:=hres;exact ⟨rfl,Post.fail (by rw [i9.out,cX];simp only [Bool.false_eq_true,if_false];rw [ht16];rfl) j6⟩
          | ok e16 n16=>
           rw [ht16] at hres;obtain ⟨rM,mD,CG,rfl,hV⟩:=hres;obtain ⟨aE,cE,rfl,tQ,lx⟩:=hV.form;unfold maxLen at lx;have iU:=hV.wide (ok':=fun i=>w1.heap.size<i) (fun i hi _=>by omega);have mh:Hid (Ps.equation I nx=(Ps.need I [41] n16).bind fun _ n8=>.ok ⟨((I.pk nx).place:Int),l,s,[],e16⟩ n8):=by
            show Ps.equation I nx=_
            rw [i9.out,cX];simp only [Bool.false_eq_true,if_false];rw [ht16]
            show ((Ps.need I [41] n16).bind fun _ n8=>Res.ok e16 n8).bind _=_
            rw [Res.bind_assoc];rfl
           clear ht16 hV i9;have tc:=co di 4;have tf:=fo di 4;simp at tc;have dk:=zAD di 4 (.slice aE e16.length cE);have dV:=zAI gi (p:=⟨w1.heap.size,4,none⟩) (by simp;omega) (.slice aE e16.length cE);have jV:=mD.set (p:=⟨w1.heap.size,4,none⟩) (by simp;omega) (by simp;omega) (.slice aE e16.length cE);have iQ:=j6.set (p:=⟨w1.heap.size,4,none⟩) (by simp;omega) (.slice aE e16.length cE);have qK:(jT.setCell ⟨w1.heap.size,4,none⟩ (.slice aE e16.length cE)).heap.size=jT.heap.size:=(by simp [World.setCell]);simp at dk;have fH:=jd.set (p:=⟨w1.heap.size,4,none⟩) (by simp) (.slice aE e16.length cE);have fN:=iU.set (p:=⟨w1.heap.size,4,none⟩) (by simp) (.slice aE e16.length cE);go_wp2_with fail;generalize jT.setCell ⟨w1.heap.size,4,none⟩ (.slice aE e16.length cE)=CF at dk dV jV iQ qK fH fN ⊢;clear tc tf j6 gi di mD jd iU;refine (zAJ jV ⟨#[41]⟩ (by decide)).mono ?_;rintro e Dl ⟨dG,hres⟩;have es:(⟨#[41]⟩:ByteArray).data.toList=[41]:=rfl;rw [es] at hres;clear es;have CW:=dG.size;have kY:=iQ.trans dG iQ.size;have cj:=dG.keep dV (by omega) (by simp;omega);have cV:=dG.keep dk (by omega) (by simp;omega);have lG:=fH.past dG (fun i hi=>by simp;omega);have mf:=fN.past dG (fun i hi=>by simp;omega);clear iQ dV dk jV dG fH fN
           cases ht18:Ps.need I [41] n16 with
           | err c0 a0=>
            rw [ht18] at hres;obtain rfl:e=_:=hres;exact ⟨rfl,Post.fail (by rw [mh.out,ht18];rfl) kY⟩
           | ok u18 n18=>
            rw [ht18] at hres;obtain ⟨rG,nI,_,rfl,rfl⟩:=hres;have fa:=fun o=>fo cj o;have aB:=co cj 0;have ay:=co cj 1;have az:=co cj 2;have aF:=co cj 3;have aD:=co cj 4;simp at aB ay az aF aD;have bw:=co cV 0;have bz:=co cV 1;have bv:=co cV 2;have bU:=co cV 3;have bT:=co cV 4;simp at bw bz bv bU bT;go_wp2;refine bodyPost_ret (v:=.agg #[.int .i64 (t.place:Int),.slice aN l.length cN,.string s,.slice none 0 0,.slice aE e16.length cE]) (by simp [results,Tryz.results185,go_sem,aB,ay,az,aF,aD]) rfl ?_;exact Post.good (v:=⟨((I.pk nx).place:Int),l,s,[],e16⟩) (by rw [mh.out,ht18];rfl) (kY.put5 (k:=w.heap.size) nR ⟨(t.place:Int),aN,l.length,cN,s,none,0,0,aE,e16.length,cE⟩) (by omega) (nI.put5 (k:=w.heap.size) (by omega) (by omega) ⟨(t.place:Int),aN,l.length,cN,s,none,0,0,aE,e16.length,cE⟩) ⟨⟨(t.place:Int),aN,l.length,cN,s,none,0,0,aE,e16.length,cE⟩,rfl,⟨by rw [<-HT.out],zAg ((lG.put5 (k:=w.heap.size) (by omega) ⟨(t.place:Int),aN,l.length,cN,s,none,0,0,aE,e16.length,cE⟩).wide (fun i hi _=>by omega)),rfl,zAw,zBl ((mf.put5 (k:=w.heap.size) (by omega) ⟨(t.place:Int),aN,l.length,cN,s,none,0,0,aE,e16.length,cE⟩).wide (fun i hi _=>by omega))⟩⟩
       | true=>
        rw [hq10] at cQ;simp only [if_true] at cQ;go_wp2_with fail;refine (zET (fun n w h _=>zCb h) cQ (hG.far fI) 3 (by decide)).mono ?_;rintro e oH ⟨jK,hres⟩;have cD:=jK.size;have pN:=fI.trans jK fI.size;have kN:=jK.keep gM (by omega) (by simp;omega);have gC:=jK.keep gu (by omega) (by simp;omega);have oG:=jY.past jK (fun i hi=>by simp;omega);clear fI gM gu cQ jK jY
        cases ht11:Ps.row I (Ps.size I) 3 [] (n8+1) with
        | err c0 a0=>
         rw [ht11] at hres;obtain rfl:e=_:=hres;exact ⟨rfl,Post.fail (by rw [m8.out,hq10,if_pos rfl,ht11];rfl) pN⟩
        | ok cD n11=>
         rw [ht11] at hres;obtain ⟨yx,lW,JN,rfl,hV⟩:=hres;obtain ⟨aS,cS,rfl,EM,fG⟩:=hV.form;unfold maxLen at fG;have pY:=hV.wide (ok':=fun i=>w1.heap.size<i) (fun i hi _=>by omega);have oU:Hid (Ps.equation I nx=((Ps.need I [62] n11).bind fun _ n4=>Res.ok cD n4).bind fun z n5=>Ps.callE I ((I.pk nx).place:Int) l s z n5):=by
          show Ps.equation I nx=_
          rw [m8.out,hq10,if_pos rfl,ht11];rfl
         clear ht11 hV m8;have tc:=co gC 3;have tf:=fo gC 3;simp at tc;have gN:=zAD gC 3 (.slice aS cD.length cS);have gR:=zAI kN (p:=⟨w1.heap.size,3,none⟩) (by simp;omega) (.slice aS cD.length cS);have ov:=lW.set (p:=⟨w1.heap.size,3,none⟩) (by simp;omega) (by simp;omega) (.slice aS cD.length cS);have mv:=pN.set (p:=⟨w1.heap.size,3,none⟩) (by simp;omega) (.slice aS cD.length cS);have As:(oH.setCell ⟨w1.heap.size,3,none⟩ (.slice aS cD.length cS)).heap.size=oH.heap.size:=(by simp [World.setCell]);simp at gN;have lw:=oG.set (p:=⟨w1.heap.size,3,none⟩) (by simp) (.slice aS cD.length cS);have lR:=pY.set (p:=⟨w1.heap.size,3,none⟩) (by simp) (.slice aS cD.length cS);go_wp2_with fail;generalize oH.setCell ⟨w1.heap.size,3,none⟩ (.slice aS cD.length cS)=Lc at gN gR ov mv As lw lR ⊢;clear tc tf pN kN gC lW oG pY;refine (zAJ ov ⟨#[62]⟩ (by decide)).mono ?_;rintro e Hu ⟨iG,hres⟩;have es:(⟨#[62]⟩:ByteArray).data.toList=[62]:=rfl;rw [es] at hres;clear es;have Ef:=iG.size;have lm:=mv.trans iG mv.size;have ig:=iG.keep gR (by omega) (by simp;omega);have jB:=iG.keep gN (by omega) (by simp;omega);have pq:=lw.past iG (fun i hi=>by simp;omega);have pV:=lR.past iG (fun i hi=>by simp;omega);clear mv gR gN ov iG lw lR
         cases ht13:Ps.need I [62] n11 with
         | err c0 a0=>
          rw [ht13] at hres;obtain rfl:e=_:=hres;exact ⟨rfl,Post.fail (by rw [oU.out,ht13];rfl) lm⟩
         | ok u13 n13=>
          rw [ht13] at hres;obtain ⟨uX,qq,_,rfl,rfl⟩:=hres;have mP:Hid (Ps.equation I nx=Ps.callE I ((I.pk nx).place:Int) l s cD n13):=by
           show Ps.equation I nx=_
           rw [oU.out,ht13];rfl
          clear ht13 oU;go_wp2_with fail;refine (zAJ qq ⟨#[40]⟩ (by decide)).mono ?_;rintro e CR ⟨ey,hres⟩;have es:(⟨#[40]⟩:ByteArray).data.toList=[40]:=rfl;rw [es] at hres;clear es;have Cv:=ey.size;have iK:=lm.trans ey lm.size;have gD:=ey.keep ig (by omega) (by simp;omega);have gL:=ey.keep jB (by omega) (by simp;omega);have iX:=pq.past ey (fun i hi=>by simp;omega);have oK:=pV.past ey (fun i hi=>by simp;omega);clear lm ig jB qq ey pq pV
          cases ht14:Ps.need I [40] n13 with
          | err c0 a0=>
           rw [ht14] at hres;obtain rfl:e=_:=hres;exact ⟨rfl,Post.fail (by rw [mP.out];unfold Ps.callE;rw [ht14];rfl) iK⟩
          | ok u14 n14=>
           rw [ht14] at hres;obtain ⟨qY,kE,_,rfl,rfl⟩:=hres;have i9:Hid (Ps.equation I nx=(if Ps.sees I [41] n14=true then .ok [] (n14+1) else (Ps.row I (Ps.whole I) 30 [] n14).bind fun e n7=>(Ps.need I [41] n7).bind fun _ n8=>.ok e n8).bind fun e n9=>.ok ⟨((I.pk nx).place:Int),l,s,cD,e⟩ n9):=by
            show Ps.equation I nx=_
            rw [mP.out];unfold Ps.callE;rw [ht14];rfl
           clear ht14 mP;go_wp2_with fail;refine (zAH kE ⟨#[41]⟩ (by decide)).mono ?_;rintro e Cb ⟨rfl,eh,ez⟩;have es:(⟨#[41]⟩:ByteArray).data.toList=[41]:=rfl;rw [es] at eh;simp only [es];clear es;have DD:=ez.size;have gx:=iK.trans ez iK.size;have bu:=ez.keep gD (by omega) (by simp;omega);have bK:=ez.keep gL (by omega) (by simp;omega);have fJ:=iX.past ez (fun i hi=>by simp;omega);have lP:=oK.past ez (fun i hi=>by simp;omega);clear iK gD gL kE ez iX oK
           cases cX:Ps.sees I [41] n14 with
           | true=>
            rw [cX] at eh;simp only [if_true] at eh;have fa:=fun o=>fo bu o;have aB:=co bu 0;have ay:=co bu 1;have az:=co bu 2;have aF:=co bu 3;have aD:=co bu 4;simp at aB ay az aF aD;have bw:=co bK 0;have bz:=co bK 1;have bv:=co bK 2;have bU:=co bK 3;have bT:=co bK 4;simp at bw bz bv bU bT;go_wp2;refine bodyPost_ret (v:=.agg #[.int .i64 (t.place:Int),.slice aN l.length cN,.string s,.slice aS cD.length cS,.slice none 0 0]) (by simp [results,Tryz.results185,go_sem,aB,ay,az,aF,aD]) rfl ?_;exact Post.good (v:=⟨((I.pk nx).place:Int),l,s,cD,[]⟩) (by rw [i9.out,cX];rfl) (gx.put5 (k:=w.heap.size) nR ⟨(t.place:Int),aN,l.length,cN,s,aS,cD.length,cS,none,0,0⟩) (by omega) (eh.put5 (k:=w.heap.size) (by omega) (by omega) ⟨(t.place:Int),aN,l.length,cN,s,aS,cD.length,cS,none,0,0⟩) ⟨⟨(t.place:Int),aN,l.length,cN,s,aS,cD.length,cS,none,0,0⟩,rfl,⟨by rw [<-HT.out],zAg ((fJ.put5 (k:=w.heap.size) (by omega) ⟨(t.place:Int),aN,l.length,cN,s,aS,cD.length,cS,none,0,0⟩).wide (fun i hi _=>by omega)),rfl,zBk ((lP.put5 (k:=w.heap.size) (by omega) ⟨(t.place:Int),aN,l.length,cN,s,aS,cD.length,cS,none,0,0⟩).wide (fun i hi _=>by omega)),zCo⟩⟩
           | false=>
            rw [cX] at eh;simp only [Bool.false_eq_true,if_false] at eh;go_wp2_with fail;refine (zBe HW eh (hG.far gx) 30 (by decide)).mono ?_;rintro e jT ⟨eA,hres⟩;have DE:=eA.size;have j6:=gx.trans eA gx.size;have gi:=eA.keep bu (by omega) (by simp;omega);have di:=eA.keep bK (by omega) (by simp;omega);have jd:=fJ.past eA (fun i hi=>by simp;omega);have oR:=lP.past eA (fun i hi=>by simp;omega);clear gx bu bK eh eA fJ lP
            cases ht16:Ps.row I (Ps.whole I) 30 [] n14 with
            | err c0 a0=>
             rw [ht16] at hres;obtain rfl:e=_:=hres;exact ⟨rfl,Post.fail (by rw [i9.out,cX];simp only [Bool.false_eq_true,if_false];rw [ht16];rfl) j6⟩
            | ok e16 n16=>
             rw [ht16] at hres;obtain ⟨rM,mD,CG,rfl,hV⟩:=hres;obtain ⟨aE,cE,rfl,tQ,lx⟩:=hV.form;unfold maxLen at lx;have iU:=hV.wide (ok':=fun i=>w1.heap.size<i) (fun i hi _=>by omega);have mh:Hid (Ps.equation I nx=(Ps.need I [41] n16).bind fun _ n8=>.ok ⟨((I.pk nx).place:Int),l,s,cD,e16⟩ n8):=by
              show Ps.equation I nx=_
              rw [i9.out,cX];simp only [Bool.false_eq_true,if_false];rw [ht16]
              show ((Ps.need I [41] n16).bind fun _ n8=>Res.ok e16 n8).bind _=_
              rw [Res.bind_assoc];rfl
             clear ht16 hV i9;have tc:=co di 4;have tf:=fo di 4;simp at tc;have dk:=zAD di 4 (.slice aE e16.length cE);have dV:=zAI gi (p:=⟨w1.heap.size,4,none⟩) (by simp;omega) (.slice aE e16.length cE);have jV:=mD.set (p:=⟨w1.heap.size,4,none⟩) (by simp;omega) (by simp;omega) (.slice aE e16.length cE);have iQ:=j6.set (p:=⟨w1.heap.size,4,none⟩) (by simp;omega) (.slice aE e16.length cE);have qK:(jT.setCell ⟨w1.heap.size,4,none⟩ (.slice aE e16.length cE)).heap.size=jT.heap.size:=(by simp [World.setCell]);simp at dk;have fH:=jd.set (p:=⟨w1.heap.size,4,none⟩) (by simp) (.slice aE e16.length cE);have lD:=oR.set (p:=⟨w1.heap.size,4,none⟩) (by simp) (.slice aE e16.length cE);have fN:=iU.set (p:=⟨w1.heap.size,4,none⟩) (by simp) (.slice aE e16.length cE);go_wp2_with fail;generalize jT.setCell ⟨w1.heap.size,4,none⟩ (.slice aE e16.length cE)=CF at dk dV jV iQ qK fH lD fN ⊢;clear tc tf j6 gi di mD jd oR iU;refine (zAJ jV ⟨#[41]⟩ (by decide)).mono ?_;rintro e Dl ⟨dG,hres⟩;have es:(⟨#[41]⟩:ByteArray).data.toList=[41]:=rfl;rw [es] at hres;clear es;have CW:=dG.size;have kY:=iQ.trans dG iQ.size;have cj:=dG.keep dV (by omega) (by simp;omega);have cV:=dG.keep dk (by omega) (by simp;omega);have lG:=fH.past dG (fun i hi=>by simp;omega);have ux:=lD.past dG (fun i hi=>by simp;omega);have mf:=fN.past dG (fun i hi=>by simp;omega);clear iQ dV dk jV dG fH lD fN
             cases ht18:Ps.need I [41] n16 with
             | err c0 a0=>
              rw [ht18] at hres;obtain rfl:e=_:=hres;exact ⟨rfl,Post.fail (by rw [mh.out,ht18];rfl) kY⟩
             | ok u18 n18=>
              rw [ht18] at hres;obtain ⟨rG,nI,_,rfl,rfl⟩:=hres;have fa:=fun o=>fo cj o;have aB:=co cj 0;have ay:=co cj 1;have az:=co cj 2;have aF:=co cj 3;have aD:=co cj 4;simp at aB ay az aF aD;have bw:=co cV 0;have bz:=co cV 1;have bv:=co cV 2;have bU:=co cV 3;have bT:=co cV 4;simp at bw bz bv bU bT;go_wp2;refine bodyPost_ret (v:=.agg #[.int .i64 (t.place:Int),.slice aN l.length cN,.string s,.slice aS cD.length cS,.slice aE e16.length cE]) (by simp [results,Tryz.results185,go_sem,aB,ay,az,aF,aD]) rfl ?_;exact Post.good (v:=⟨((I.pk nx).place:Int),l,s,cD,e16⟩) (by rw [mh.out,ht18];rfl) (kY.put5 (k:=w.heap.size) nR ⟨(t.place:Int),aN,l.length,cN,s,aS,cD.length,cS,aE,e16.length,cE⟩) (by omega) (nI.put5 (k:=w.heap.size) (by omega) (by omega) ⟨(t.place:Int),aN,l.length,cN,s,aS,cD.length,cS,aE,e16.length,cE⟩) ⟨⟨(t.place:Int),aN,l.length,cN,s,aS,cD.length,cS,aE,e16.length,cE⟩,rfl,⟨by rw [<-HT.out],zAg ((lG.put5 (k:=w.heap.size) (by omega) ⟨(t.place:Int),aN,l.length,cN,s,aS,cD.length,cS,aE,e16.length,cE⟩).wide (fun i hi _=>by omega)),rfl,zBk ((ux.put5 (k:=w.heap.size) (by omega) ⟨(t.place:Int),aN,l.length,cN,s,aS,cD.length,cS,aE,e16.length,cE⟩).wide (fun i hi _=>by omega)),zBl ((mf.put5 (k:=w.heap.size) (by omega) ⟨(t.place:Int),aN,l.length,cN,s,aS,cD.length,cS,aE,e16.length,cE⟩).wide (fun i hi _=>by omega))⟩⟩
   ·have Ds:((l.length:Int)==1)=false:=by rw [beq_eq_false_iff_ne];omega
    have m5:Hid (Ps.equation I nx=Ps.call I ((I.pk nx).place:Int) l n2):=by
     show Ps.equation I nx=_
     rw [m4.out,if_neg (by simp [bh])]
    clear m4 bh;go_wp2_with fail;refine (zAJ h4 ⟨#[99,97,108,108]⟩ (by decide)).mono ?_;rintro e w7 ⟨a7,hres⟩;have es:(⟨#[99,97,108,108]⟩:ByteArray).data.toList=[99,97,108,108]:=rfl;rw [es] at hres;clear es;have z7:=a7.size;have A7:=A4.trans a7 A4.size;have kv:=a7.keep dy (by omega) (by simp;omega);have qg:=a7.keep cA (by omega) (by simp;omega);have sU:=CN.past a7 (fun i hi=>by simp;omega);clear A4 dy cA h4 a7 CN
    cases ht7:Ps.need I [99,97,108,108] n2 with
    | err c0 a0=>
     rw [ht7] at hres;obtain rfl:e=_:=hres;exact ⟨rfl,Post.fail (by rw [m5.out,zEh,ht7];rfl) A7⟩
    | ok u7 n7=>
     rw [ht7] at hres;obtain ⟨qN,h7,_,rfl,rfl⟩:=hres;have m7:Hid (Ps.equation I nx=(Ps.name I n7).bind fun s n2=>(if Ps.sees I [60] n2=true then (Ps.row I (Ps.size I) 3 [] (n2+1)).bind fun z n3=>(Ps.need I [62] n3).bind fun _ n4=>.ok z n4 else .ok [] n2).bind fun z n5=>Ps.callE I ((I.pk nx).place:Int) l s z n5):=by
      show Ps.equation I nx=_
      rw [m5.out,zEh,ht7];rfl
     clear ht7 m5;go_wp2_with fail;refine (zBJ h7).mono ?_;rintro e w8 ⟨a8,hres⟩;have z8:=a8.size;have A8:=A7.trans a8 A7.size;have qf:=a8.keep kv (by omega) (by simp;omega);have mz:=a8.keep qg (by omega) (by simp;omega);have tH:=sU.past a8 (fun i hi=>by simp;omega);clear A7 kv qg h7 a8 sU
     cases ht8:Ps.name I n7 with
     | err c0 a0=>
      rw [ht8] at hres;obtain rfl:e=_:=hres;exact ⟨rfl,Post.fail (by rw [m7.out,ht8];rfl) A8⟩
     | ok s n8=>
      rw [ht8] at hres;obtain ⟨G8,h8,_,rfl,rfl⟩:=hres;have m8:Hid (Ps.equation I nx=(if Ps.sees I [60] n8=true then (Ps.row I (Ps.size I) 3 [] (n8+1)).bind fun z n3=>(Ps.need I [62] n3).bind fun _ n4=>.ok z n4 else .ok [] n8).bind fun z n5=>Ps.callE I ((I.pk nx).place:Int) l s z n5):=by
       show Ps.equation I nx=_
       rw [m7.out,ht8];rfl
      clear ht8 m7;have tc:=co mz 2;have tf:=fo mz 2;simp at tc;have nY:=zAD mz 2 (.string s);have dc:=zAI qf (p:=⟨w1.heap.size,2,none⟩) (by simp;omega) (.string s);have h9:=h8.set (p:=⟨w1.heap.size,2,none⟩) (by simp;omega) (by simp;omega) (.string s);have A9:=A8.set (p:=⟨w1.heap.size,2,none⟩) (by simp;omega) (.string s);have z9:(w8.setCell ⟨w1.heap.size,2,none⟩ (.string s)).heap.size=w8.heap.size:=(by simp [World.setCell]);simp at nY;have vM:=tH.set (p:=⟨w1.heap.size,2,none⟩) (by simp) (.string s);go_wp2_with fail;generalize w8.setCell ⟨w1.heap.size,2,none⟩ (.string s)=w9 at nY dc h9 A9 z9 vM ⊢;clear tc tf A8 qf mz h8 tH;refine (zAH h9 ⟨#[60]⟩ (by decide)).mono ?_;rintro e ru ⟨rfl,cQ,dT⟩;have es:(⟨#[60]⟩:ByteArray).data.toList=[60]:=rfl;rw [es] at cQ;simp only [es];clear es;have IJ:=dT.size;have fI:=A9.trans dT A9.size;have gM:=dT.keep dc (by omega) (by simp;omega);have gu:=dT.keep nY (by omega) (by simp;omega);have jY:=vM.past dT (fun i hi=>by simp;omega);clear A9 dc nY h9 dT vM
      cases hq10:Ps.sees I [60] n8 with
      | false=>
       rw [hq10] at cQ;simp only [Bool.false_eq_true,if_false] at cQ;have mP:Hid (Ps.equation I nx=Ps.callE I ((I.pk nx).place:Int) l s [] n8):=by
        show Ps.equation I nx=_
        rw [m8.out,hq10];rfl
       clear m8;go_wp2_with fail;refine (zAJ cQ ⟨#[40]⟩ (by decide)).mono ?_;rintro e CR ⟨ey,hres⟩;have es:(⟨#[40]⟩:ByteArray).data.toList=[40]:=rfl;rw [es] at hres;clear es;have Cv:=ey.size;have iK:=fI.trans ey fI.size;have gD:=ey.keep gM (by omega) (by simp;omega);have gL:=ey.keep gu (by omega) (by simp;omega);have iX:=jY.past ey (fun i hi=>by simp;omega);clear fI gM gu cQ ey jY
       cases ht14:Ps.need I [40] n8 with
       | err c0 a0=>
        rw [ht14] at hres;obtain rfl:e=_:=hres;exact ⟨rfl,Post.fail (by rw [mP.out];unfold Ps.callE;rw [ht14];rfl) iK⟩
       | ok u14 n14=>
        rw [ht14] at hres;obtain ⟨qY,kE,_,rfl,rfl⟩:=hres;have i9:Hid (Ps.equation I nx=(if Ps.sees I [41] n14=true then .ok [] (n14+1) else (Ps.row I (Ps.whole I) 30 [] n14).bind fun e n7=>(Ps.need I [41] n7).bind fun _ n8=>.ok e n8).bind fun e n9=>.ok ⟨((I.pk nx).place:Int),l,s,[],e⟩ n9):=by
         show Ps.equation I nx=_
         rw [mP.out];unfold Ps.callE;rw [ht14];rfl
        clear ht14 mP;go_wp2_with fail;refine (zAH kE ⟨#[41]⟩ (by decide)).mono ?_;rintro e Cb ⟨rfl,eh,ez⟩;have es:(⟨#[41]⟩:ByteArray).data.toList=[41]:=rfl;rw [es] at eh;simp only [es];clear es;have DD:=ez.size;have gx:=iK.trans ez iK.size;have bu:=ez.keep gD (by omega) (by simp;omega);have bK:=ez.keep gL (by omega) (by simp;omega);have fJ:=iX.past ez (fun i hi=>by simp;omega);clear iK gD gL kE ez iX
        cases cX:Ps.sees I [41] n14 with
        | true=>
         rw [cX] at eh;simp only [if_true] at eh;have fa:=fun o=>fo bu o;have aB:=co bu 0;have ay:=co bu 1;have az:=co bu 2;have aF:=co bu 3;have aD:=co bu 4;simp at aB ay az aF aD;have bw:=co bK 0;have bz:=co bK 1;have bv:=co bK 2;have bU:=co bK 3;have bT:=co bK 4;simp at bw bz bv bU bT;go_wp2;refine bodyPost_ret (v:=.agg #[.int .i64 (t.place:Int),.slice aN l.length cN,.string s,.slice none 0 0,.slice none 0 0]) (by simp [results,Tryz.results185,go_sem,aB,ay,az,aF,aD]) rfl ?_;exact Post.good (v:=⟨((I.pk nx).place:Int),l,s,[],[]⟩) (by rw [i9.out,cX];rfl) (gx.put5 (k:=w.heap.size) nR ⟨(t.place:Int),aN,l.length,cN,s,none,0,0,none,0,0⟩) (by omega) (eh.put5 (k:=w.heap.size) (by omega) (by omega) ⟨(t.place:Int),aN,l.length,cN,s,none,0,0,none,0,0⟩) ⟨⟨(t.place:Int),aN,l.length,cN,s,none,0,0,none,0,0⟩,rfl,⟨by rw [<-HT.out],zAg ((fJ.put5 (k:=w.heap.size) (by omega) ⟨(t.place:Int),aN,l.length,cN,s,none,0,0,none,0,0⟩).wide (fun i hi _=>by omega)),rfl,zAw,zCo⟩⟩
        | false=>
         rw [cX] at eh;simp only [Bool.false_eq_true,if_false] at eh;go_wp2_with fail;refine (zBe HW eh (hG.far gx) 30 (by decide)).mono ?_;rintro e jT ⟨eA,hres⟩;have DE:=eA.size;have j6:=gx.trans eA gx.size;have gi:=eA.keep bu (by omega) (by simp;omega);have di:=eA.keep bK (by omega) (by simp;omega);have jd:=fJ.past eA (fun i hi=>by simp;omega);clear gx bu bK eh eA fJ
         cases ht16:Ps.row I (Ps.whole I) 30 [] n14 with
         | err c0 a0=>
          rw [ht16] at hres;obtain rfl:e=_:=hres;exact ⟨rfl,Post.fail (by rw [i9.out,cX];simp only [Bool.false_eq_true,if_false];rw [ht16];rfl) j6⟩
         | ok e16 n16=>
          rw [ht16] at hres;obtain ⟨rM,mD,CG,rfl,hV⟩:=hres;obtain ⟨aE,cE,rfl,tQ,lx⟩:=hV.form;unfold maxLen at lx;have iU:=hV.wide (ok':=fun i=>w1.heap.size<i) (fun i hi _=>by omega);have mh:Hid (Ps.equation I nx=(Ps.need I [41] n16).bind fun _ n8=>.ok ⟨((I.pk nx).place:Int),l,s,[],e16⟩ n8):=by
           show Ps.equation I nx=_
           rw [i9.out,cX];simp only [Bool.false_eq_true,if_false];rw [ht16]
           show ((Ps.need I [41] n16).bind fun _ n8=>Res.ok e16 n8).bind _=_
           rw [Res.bind_assoc];rfl
          clear ht16 hV i9;have tc:=co di 4;have tf:=fo di 4;simp at tc;have dk:=zAD di 4 (.slice aE e16.length cE);have dV:=zAI gi (p:=⟨w1.heap.size,4,none⟩) (by simp;omega) (.slice aE e16.length cE);have jV:=mD.set (p:=⟨w1.heap.size,4,none⟩) (by simp;omega) (by simp;omega) (.slice aE e16.length cE);have iQ:=j6.set (p:=⟨w1.heap.size,4,none⟩) (by simp;omega) (.slice aE e16.length cE);have qK:(jT.setCell ⟨w1.heap.size,4,none⟩ (.slice aE e16.length cE)).heap.size=jT.heap.size:=(by simp [World.setCell]);simp at dk;have fH:=jd.set (p:=⟨w1.heap.size,4,none⟩) (by simp) (.slice aE e16.length cE);have fN:=iU.set (p:=⟨w1.heap.size,4,none⟩) (by simp) (.slice aE e16.length cE);go_wp2_with fail;generalize jT.setCell ⟨w1.heap.size,4,none⟩ (.slice aE e16.length cE)=CF at dk dV jV iQ qK fH fN ⊢;clear tc tf j6 gi di mD jd iU;refine (zAJ jV ⟨#[41]⟩ (by decide)).mono ?_;rintro e Dl ⟨dG,hres⟩;have es:(⟨#[41]⟩:ByteArray).data.toList=[41]:=rfl;rw [es] at hres;clear es;have CW:=dG.size;have kY:=iQ.trans dG iQ.size;have cj:=dG.keep dV (by omega) (by simp;omega);have cV:=dG.keep dk (by omega) (by simp;omega);have lG:=fH.past dG (fun i hi=>by simp;omega);have mf:=fN.past dG (fun i hi=>by simp;omega);clear iQ dV dk jV dG fH fN
          cases ht18:Ps.need I [41] n16 with
          | err c0 a0=>
           rw [ht18] at hres;obtain rfl:e=_:=hres;exact ⟨rfl,Post.fail (by rw [mh.out,ht18];rfl) kY⟩
          | ok u18 n18=>
           rw [ht18] at hres;obtain ⟨rG,nI,_,rfl,rfl⟩:=hres;have fa:=fun o=>fo cj o;have aB:=co cj 0;have ay:=co cj 1;have az:=co cj 2;have aF:=co cj 3;have aD:=co cj 4;simp at aB ay az aF aD;have bw:=co cV 0;have bz:=co cV 1;have bv:=co cV 2;have bU:=co cV 3;have bT:=co cV 4;simp at bw bz bv bU bT;go_wp2;refine bodyPost_ret (v:=.agg #[.int .i64 (t.place:Int),.slice aN l.length cN,.string s,.slice none 0 0,.slice aE e16.length cE]) (by simp [results,Tryz.results185,go_sem,aB,ay,az,aF,aD]) rfl ?_;exact Post.good (v:=⟨((I.pk nx).place:Int),l,s,[],e16⟩) (by rw [mh.out,ht18];rfl) (kY.put5 (k:=w.heap.size) nR ⟨(t.place:Int),aN,l.length,cN,s,none,0,0,aE,e16.length,cE⟩) (by omega) (nI.put5 (k:=w.heap.size) (by omega) (by omega) ⟨(t.place:Int),aN,l.length,cN,s,none,0,0,aE,e16.length,cE⟩) ⟨⟨(t.place:Int),aN,l.length,cN,s,none,0,0,aE,e16.length,cE⟩,rfl,⟨by rw [<-HT.out],zAg ((lG.put5 (k:=w.heap.size) (by omega) ⟨(t.place:Int),aN,l.length,cN,s,none,0,0,aE,e16.length,cE⟩).wide (fun i hi _=>by omega)),rfl,zAw,zBl ((mf.put5 (k:=w.heap.size) (by omega) ⟨(t.place:Int),aN,l.length,cN,s,none,0,0,aE,e16.length,cE⟩).wide (fun i hi _=>by omega))⟩⟩
      | true=>
       rw [hq10] at cQ;simp only [if_true] at cQ;go_wp2_with fail;refine (zET (fun n w h _=>zCb h) cQ (hG.far fI) 3 (by decide)).mono ?_;rintro e oH ⟨jK,hres⟩;have cD:=jK.size;have pN:=fI.trans jK fI.size;have kN:=jK.keep gM (by omega) (by simp;omega);have gC:=jK.keep gu (by omega) (by simp;omega);have oG:=jY.past jK (fun i hi=>by simp;omega);clear fI gM gu cQ jK jY
       cases ht11:Ps.row I (Ps.size I) 3 [] (n8+1) with
       | err c0 a0=>
        rw [ht11] at hres;obtain rfl:e=_:=hres;exact ⟨rfl,Post.fail (by rw [m8.out,hq10,if_pos rfl,ht11];rfl) pN⟩
       | ok cD n11=>
        rw [ht11] at hres;obtain ⟨yx,lW,JN,rfl,hV⟩:=hres;obtain ⟨aS,cS,rfl,EM,fG⟩:=hV.form;unfold maxLen at fG;have pY:=hV.wide (ok':=fun i=>w1.heap.size<i) (fun i hi _=>by omega);have oU:Hid (Ps.equation I nx=((Ps.need I [62] n11).bind fun _ n4=>Res.ok cD n4).bind fun z n5=>Ps.callE I ((I.pk nx).place:Int) l s z n5):=by
         show Ps.equation I nx=_
         rw [m8.out,hq10,if_pos rfl,ht11];rfl
        clear ht11 hV m8;have tc:=co gC 3;have tf:=fo gC 3;simp at tc;have gN:=zAD gC 3 (.slice aS cD.length cS);have gR:=zAI kN (p:=⟨w1.heap.size,3,none⟩) (by simp;omega) (.slice aS cD.length cS);have ov:=lW.set (p:=⟨w1.heap.size,3,none⟩) (by simp;omega) (by simp;omega) (.slice aS cD.length cS);have mv:=pN.set (p:=⟨w1.heap.size,3,none⟩) (by simp;omega) (.slice aS cD.length cS);have As:(oH.setCell ⟨w1.heap.size,3,none⟩ (.slice aS cD.length cS)).heap.size=oH.heap.size:=(by simp [World.setCell]);simp at gN;have lw:=oG.set (p:=⟨w1.heap.size,3,none⟩) (by simp) (.slice aS cD.length cS);have lR:=pY.set (p:=⟨w1.heap.size,3,none⟩) (by simp) (.slice aS cD.length cS);go_wp2_with fail;generalize oH.setCell ⟨w1.heap.size,3,none⟩ (.slice aS cD.length cS)=Lc at gN gR ov mv As lw lR ⊢;clear tc tf pN kN gC lW oG pY;refine (zAJ ov ⟨#[62]⟩ (by decide)).mono ?_;rintro e Hu ⟨iG,hres⟩;have es:(⟨#[62]⟩:ByteArray).data.toList=[62]:=rfl;rw [es] at hres;clear es;have Ef:=iG.size;have lm:=mv.trans iG mv.size;have ig:=iG.keep gR (by omega) (by simp;omega);have jB:=iG.keep gN (by omega) (by simp;omega);have pq:=lw.past iG (fun i hi=>by simp;omega);have pV:=lR.past iG (fun i hi=>by simp;omega);clear mv gR gN ov iG lw lR
        cases ht13:Ps.need I [62] n11 with
        | err c0 a0=>
         rw [ht13] at hres;obtain rfl:e=_:=hres;exact ⟨rfl,Post.fail (by rw [oU.out,ht13];rfl) lm⟩
        | ok u13 n13=>
         rw [ht13] at hres;obtain ⟨uX,qq,_,rfl,rfl⟩:=hres;have mP:Hid (Ps.equation I nx=Ps.callE I ((I.pk nx).place:Int) l s cD n13):=by
          show Ps.equation I nx=_
          rw [oU.out,ht13];rfl
         clear ht13 oU;go_wp2_with fail;refine (zAJ qq ⟨#[40]⟩ (by decide)).mono ?_;rintro e CR ⟨ey,hres⟩;have es:(⟨#[40]⟩:ByteArray).data.toList=[40]:=rfl;rw [es] at hres;clear es;have Cv:=ey.size;have iK:=lm.trans ey lm.size;have gD:=ey.keep ig (by omega) (by simp;omega);have gL:=ey.keep jB (by omega) (by simp;omega);have iX:=pq.past ey (fun i hi=>by simp;omega);have oK:=pV.past ey (fun i hi=>by simp;omega);clear lm ig jB qq ey pq pV
         cases ht14:Ps.need I [40] n13 with
         | err c0 a0=>
          rw [ht14] at hres;obtain rfl:e=_:=hres;exact ⟨rfl,Post.fail (by rw [mP.out];unfold Ps.callE;rw [ht14];rfl) iK⟩
         | ok u14 n14=>
          rw [ht14] at hres;obtain ⟨qY,kE,_,rfl,rfl⟩:=hres;have i9:Hid (Ps.equation I nx=(if Ps.sees I [41] n14=true then .ok [] (n14+1) else (Ps.row I (Ps.whole I) 30 [] n14).bind fun e n7=>(Ps.need I [41] n7).bind fun _ n8=>.ok e n8).bind fun e n9=>.ok ⟨((I.pk nx).place:Int),l,s,cD,e⟩ n9):=by
           show Ps.equation I nx=_
           rw [mP.out];unfold Ps.callE;rw [ht14];rfl
          clear ht14 mP;go_wp2_with fail;refine (zAH kE ⟨#[41]⟩ (by decide)).mono ?_;rintro e Cb ⟨rfl,eh,ez⟩;have es:(⟨#[41]⟩:ByteArray).data.toList=[41]:=rfl;rw [es] at eh;simp only [es];clear es;have DD:=ez.size;have gx:=iK.trans ez iK.size;have bu:=ez.keep gD (by omega) (by simp;omega);have bK:=ez.keep gL (by omega) (by simp;omega);have fJ:=iX.past ez (fun i hi=>by simp;omega);have lP:=oK.past ez (fun i hi=>by simp;omega);clear iK gD gL kE ez iX oK
          cases cX:Ps.sees I [41] n14 with
          | true=>
           rw [cX] at eh;simp only [if_true] at eh;have fa:=fun o=>fo bu o;have aB:=co bu 0;have ay:=co bu 1;have az:=co bu 2;have aF:=co bu 3;have aD:=co bu 4;simp at aB ay az aF aD;have bw:=co bK 0;have bz:=co bK 1;have bv:=co bK 2;have bU:=co bK 3;have bT:=co bK 4;simp at bw bz bv bU bT;go_wp2;refine bodyPost_ret (v:=.agg #[.int .i64 (t.place:Int),.slice aN l.length cN,.string s,.slice aS cD.length cS,.slice none 0 0]) (by simp [results,Tryz.results185,go_sem,aB,ay,az,aF,aD]) rfl ?_;exact Post.good (v:=⟨((I.pk nx).place:Int),l,s,cD,[]⟩) (by rw [i9.out,cX];rfl) (gx.put5 (k:=w.heap.size) nR ⟨(t.place:Int),aN,l.length,cN,s,aS,cD.length,cS,none,0,0⟩) (by omega) (eh.put5 (k:=w.heap.size) (by omega) (by omega) ⟨(t.place:Int),aN,l.length,cN,s,aS,cD.length,cS,none,0,0⟩) ⟨⟨(t.place:Int),aN,l.length,cN,s,aS,cD.length,cS,none,0,0⟩,rfl,⟨by rw [<-HT.out],zAg ((fJ.put5 (k:=w.heap.size) (by omega) ⟨(t.place:Int),aN,l.length,cN,s,aS,cD.length,cS,none,0,0⟩).wide (fun i hi _=>by omega)),rfl,zBk ((lP.put5 (k:=w.heap.size) (by omega) ⟨(t.place:Int),aN,l.length,cN,s,aS,cD.length,cS,none,0,0⟩).wide (fun i hi _=>by omega)),zCo⟩⟩
          | false=>
           rw [cX] at eh;simp only [Bool.false_eq_true,if_false] at eh;go_wp2_with fail;refine (zBe HW eh (hG.far gx) 30 (by decide)).mono ?_;rintro e jT ⟨eA,hres⟩;have DE:=eA.size;have j6:=gx.trans eA gx.size;have gi:=eA.keep bu (by omega) (by simp;omega);have di:=eA.keep bK (by omega) (by simp;omega);have jd:=fJ.past eA (fun i hi=>by simp;omega);have oR:=lP.past eA (fun i hi=>by simp;omega);clear gx bu bK eh eA fJ lP
           cases ht16:Ps.row I (Ps.whole I) 30 [] n14 with
           | err c0 a0=>
            rw [ht16] at hres;obtain rfl:e=_:=hres;exact ⟨rfl,Post.fail (by rw [i9.out,cX];simp only [Bool.false_eq_true,if_false];rw [ht16];rfl) j6⟩
           | ok e16 n16=>
            rw [ht16] at hres;obtain ⟨rM,mD,CG,rfl,hV⟩:=hres;obtain ⟨aE,cE,rfl,tQ,lx⟩:=hV.form;unfold maxLen at lx;have iU:=hV.wide (ok':=fun i=>w1.heap.size<i) (fun i hi _=>by omega);have mh:Hid (Ps.equation I nx=(Ps.need I [41] n16).bind fun _ n8=>.ok ⟨((I.pk nx).place:Int),l,s,cD,e16⟩ n8):=by
             show Ps.equation I nx=_
             rw [i9.out,cX];simp only [Bool.false_eq_true,if_false];rw [ht16]
             show ((Ps.need I [41] n16).bind fun _ n8=>Res.ok e16 n8).bind _=_
             rw [Res.bind_assoc];rfl
            clear ht16 hV i9;have tc:=co di 4;have tf:=fo di 4;simp at tc;have dk:=zAD di 4 (.slice aE e16.length cE);have dV:=zAI gi (p:=⟨w1.heap.size,4,none⟩) (by simp;omega) (.slice aE e16.length cE);have jV:=mD.set (p:=⟨w1.heap.size,4,none⟩) (by simp;omega) (by simp;omega) (.slice aE e16.length cE);have iQ:=j6.set (p:=⟨w1.heap.size,4,none⟩) (by simp;omega) (.slice aE e16.length cE);have qK:(jT.setCell ⟨w1.heap.size,4,none⟩ (.slice aE e16.length cE)).heap.size=jT.heap.size:=(by simp [World.setCell]);simp at dk;have fH:=jd.set (p:=⟨w1.heap.size,4,none⟩) (by simp) (.slice aE e16.length cE);have lD:=oR.set (p:=⟨w1.heap.size,4,none⟩) (by simp) (.slice aE e16.length cE);have fN:=iU.set (p:=⟨w1.heap.size,4,none⟩) (by simp) (.slice aE e16.length cE);go_wp2_with fail;generalize jT.setCell ⟨w1.heap.size,4,none⟩ (.slice aE e16.length cE)=CF at dk dV jV iQ qK fH lD fN ⊢;clear tc tf j6 gi di mD jd oR iU;refine (zAJ jV ⟨#[41]⟩ (by decide)).mono ?_;rintro e Dl ⟨dG,hres⟩;have es:(⟨#[41]⟩:ByteArray).data.toList=[41]:=rfl;rw [es] at hres;clear es;have CW:=dG.size;have kY:=iQ.trans dG iQ.size;have cj:=dG.keep dV (by omega) (by simp;omega);have cV:=dG.keep dk (by omega) (by simp;omega);have lG:=fH.past dG (fun i hi=>by simp;omega);have ux:=lD.past dG (fun i hi=>by simp;omega);have mf:=fN.past dG (fun i hi=>by simp;omega);clear iQ dV dk jV dG fH lD fN
            cases ht18:Ps.need I [41] n16 with
            | err c0 a0=>
             rw [ht18] at hres;obtain rfl:e=_:=hres;exact ⟨rfl,Post.fail (by rw [mh.out,ht18];rfl) kY⟩
            | ok u18 n18=>
             rw [ht18] at hres;obtain ⟨rG,nI,_,rfl,rfl⟩:=hres;have fa:=fun o=>fo cj o;have aB:=co cj 0;have ay:=co cj 1;have az:=co cj 2;have aF:=co cj 3;have aD:=co cj 4;simp at aB ay az aF aD;have bw:=co cV 0;have bz:=co cV 1;have bv:=co cV 2;have bU:=co cV 3;have bT:=co cV 4;simp at bw bz bv bU bT;go_wp2;refine bodyPost_ret (v:=.agg #[.int .i64 (t.place:Int),.slice aN l.length cN,.string s,.slice aS cD.length cS,.slice aE e16.length cE]) (by simp [results,Tryz.results185,go_sem,aB,ay,az,aF,aD]) rfl ?_;exact Post.good (v:=⟨((I.pk nx).place:Int),l,s,cD,e16⟩) (by rw [mh.out,ht18];rfl) (kY.put5 (k:=w.heap.size) nR ⟨(t.place:Int),aN,l.length,cN,s,aS,cD.length,cS,aE,e16.length,cE⟩) (by omega) (nI.put5 (k:=w.heap.size) (by omega) (by omega) ⟨(t.place:Int),aN,l.length,cN,s,aS,cD.length,cS,aE,e16.length,cE⟩) ⟨⟨(t.place:Int),aN,l.length,cN,s,aS,cD.length,cS,aE,e16.length,cE⟩,rfl,⟨by rw [<-HT.out],zAg ((lG.put5 (k:=w.heap.size) (by omega) ⟨(t.place:Int),aN,l.length,cN,s,aS,cD.length,cS,aE,e16.length,cE⟩).wide (fun i hi _=>by omega)),rfl,zBk ((ux.put5 (k:=w.heap.size) (by omega) ⟨(t.place:Int),aN,l.length,cN,s,aS,cD.length,cS,aE,e16.length,cE⟩).wide (fun i hi _=>by omega)),zBl ((mf.put5 (k:=w.heap.size) (by omega) ⟨(t.place:Int),aN,l.length,cN,s,aS,cD.length,cS,aE,e16.length,cE⟩).wide (fun i hi _=>by omega))⟩⟩
end Go.Proofs.YtkfgbhlpjkkgfaaGreatDoor
