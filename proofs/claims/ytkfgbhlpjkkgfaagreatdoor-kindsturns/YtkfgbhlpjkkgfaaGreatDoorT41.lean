import Derived.Test.YtkfgbhlpjkkgfaaGreatDoorT40
set_option linter.unusedVariables false
set_option linter.unusedSimpArgs false
set_option maxHeartbeats 64000000
set_option maxRecDepth 100000
namespace Go.Proofs.YtkfgbhlpjkkgfaaGreatDoor
open Go.RowKit Go.IntWalk
def put7 (w:World) (k:Nat) (y:NdV):World:=(((((((w.setCell ⟨k,0,none⟩ (.string y.name)).setCell ⟨k,1,none⟩ (.int .i64 y.place)).setCell ⟨k,2,none⟩ (.slice y.a2 y.n2 y.c2)).setCell ⟨k,3,none⟩ (.slice y.a3 y.n3 y.c3)).setCell ⟨k,4,none⟩ (.slice y.a4 y.n4 y.c4)).setCell ⟨k,5,none⟩ (.slice y.a5 y.n5 y.c5)).setCell ⟨k,6,none⟩ (.slice y.a6 y.n6 y.c6))
theorem put7_size (w:World) (k:Nat) (y:NdV):(put7 w k y).heap.size=w.heap.size:=by simp [put7,World.setCell]
theorem zDC (w:World) (k:Nat) (y:NdV) (i:Nat) (h:i≠k):(put7 w k y).heap[i]?=w.heap[i]?:=by
 unfold put7;rw [Below.heap_setCell _ _ _ _ h,Below.heap_setCell _ _ _ _ h,Below.heap_setCell _ _ _ _ h,Below.heap_setCell _ _ _ _ h,Below.heap_setCell _ _ _ _ h,Below.heap_setCell _ _ _ _ h,Below.heap_setCell _ _ _ _ h]
theorem Rd.put7 {w:World} {b g cap:Nat} {L:List Tk.Tok} {len nx op:Nat} (h:Rd w b g cap L len nx op) {k:Nat} (hb:k≠b) (hg:k≠g) (y:NdV):Rd (put7 w k y) b g cap L len nx op :=
 ⟨(zDC _ _ _ _ hb.symm).trans h.here,h.toks.keep (zDC _ _ _ _ hg.symm),h.apart,by rw [put7_size];exact h.gb,h.le,h.lc,h.cm⟩
theorem Aside.put7 {S:List Nat} {B:Nat} {w w':World} (h:Aside S B w w') {k:Nat} (hk:B<=k) (y:NdV):Aside S B w (put7 w' k y):=by
 unfold YtkfgbhlpjkkgfaaGreatDoor.put7;exact (((((((h.set (p:=⟨k,0,none⟩) hk _).set (p:=⟨k,1,none⟩) hk _).set (p:=⟨k,2,none⟩) hk _).set (p:=⟨k,3,none⟩) hk _).set (p:=⟨k,4,none⟩) hk _).set (p:=⟨k,5,none⟩) hk _).set (p:=⟨k,6,none⟩) hk _)
theorem HRow.put7 {α:Type} {T:Kind α} {ok:Nat->Prop} {w:World} {v:Value} {l:List α} (h:HRow T ok w v l) {k:Nat} (hk:¬ok k) (y:NdV):HRow T ok (put7 w k y) v l :=
 h.keep (by rw [put7_size];exact Nat.le_refl _) fun i hi _=>zDC _ _ _ _ (fun e=>hk (e ▸ hi))
def ndV:Nat->World->Value->Nd->Prop:=fun B w x q=>∃ y:NdV,x=.agg #[.string y.name,.int .i64 y.place,.slice y.a2 y.n2 y.c2,.slice y.a3 y.n3 y.c3,.slice y.a4 y.n4 y.c4,.slice y.a5 y.n5 y.c5,.slice y.a6 y.n6 y.c6]/\HNd (fun i=>B<=i) w y q
theorem lines_succ {I:Inp} {f:Nat} {loc:List De} {eqs:List Eqn} {n:Nat}:Ps.lines I (f+1) loc eqs n=if Ps.sees I [125] n=true then .ok (loc,eqs) (n+1) else (Ps.line I loc eqs n).bind fun p n1=>Ps.lines I f p.1 p.2 n1:=rfl
namespace Ps
def nodeO (I:Inp) (at0:Int) (s:ByteArray) (z:List ByteArray) (inn:List De) (n9:Nat):Res Nd :=
 (need I [45,62] n9).bind fun _ n10=>(need I [40] n10).bind fun _ n11=>(row I (decl I) 30 [] n11).bind fun out n12=>(need I [41] n12).bind fun _ n13=>(need I [123] n13).bind fun _ n14=>
  (lines I (I.L.length-n14+1) [] [] n14).bind fun p n15=>.ok ⟨s,at0,z,inn,out,p.1,p.2⟩ n15
def nodeI (I:Inp) (at0:Int) (s:ByteArray) (z:List ByteArray) (n5:Nat):Res Nd :=
 (need I [40] n5).bind fun _ n6=>(if sees I [41] n6=true then .ok [] (n6+1) else (row I (decl I) 30 [] n6).bind fun l n7=>(need I [41] n7).bind fun _ n8=>.ok l n8).bind fun inn n9=>nodeO I at0 s z inn n9
end Ps
theorem node_eq (I:Inp) (n:Nat):Ps.node I n=(Ps.need I [110,111,100,101] n).bind fun _ n1=>(Ps.name I n1).bind fun s n2 =>
  (if Ps.sees I [60] n2=true then (Ps.row I (Ps.name I) 3 [] (n2+1)).bind fun z n3=>(Ps.need I [62] n3).bind fun _ n4=>.ok z n4 else .ok [] n2).bind fun z n5=>Ps.nodeI I (I.pk n).place s z n5:=rfl
theorem node_any (aV:FormC) {b g cap:Nat} {I:Inp} (hL:I.L.length<=1099511627776):Does 107 b g cap I 0 ndV (Ps.node I):=by
 intro nx w h hG;have hb:=h.bb;have hg:=h.gb;have oc:=zBi;have h0:=h.alloc (.cells #[.string ⟨#[]⟩,.int .i64 0,.slice none 0 0,.slice none 0 0,.slice none 0 0,.slice none 0 0,.slice none 0 0] 47 (0,0));have dO:=zAC w (.cells #[.string ⟨#[]⟩,.int .i64 0,.slice none 0 0,.slice none 0 0,.slice none 0 0,.slice none 0 0,.slice none 0 0] 47 (0,0));have z0:(w.alloc (.cells #[.string ⟨#[]⟩,.int .i64 0,.slice none 0 0,.slice none 0 0,.slice none 0 0,.slice none 0 0,.slice none 0 0] 47 (0,0))).heap.size=w.heap.size+1:=(by simp);have A0:=(Aside.refl (S:=[b]) (B:=w.heap.size) w).alloc nR (.cells #[.string ⟨#[]⟩,.int .i64 0,.slice none 0 0,.slice none 0 0,.slice none 0 0,.slice none 0 0,.slice none 0 0] 47 (0,0));have hp:=@zAT _ _ _ _ _ _ _ _ h0;obtain ⟨t,ht⟩:=nmQ (I.pk nx);have jH:peekT I.L I.len nx=t:=ht.symm;rw [jH] at hp;unfold tokV at hp;have hf:=fun x w=>tokF1 t x w;have HT:=zAA ht;clear jH ht;go_enter Tryz.func107,Tryz.ntmps107;go_wp2_with fail;generalize w.alloc (.cells #[.string ⟨#[]⟩,.int .i64 0,.slice none 0 0,.slice none 0 0,.slice none 0 0,.slice none 0 0,.slice none 0 0] 47 (0,0))=W at h0 dO z0 A0 hp ⊢;refine hp.mono ?_;rintro e w1 ⟨rfl,b1⟩;have z1:=b1.size;have h1:=(h0.below b1).alloc (.cells #[.string ⟨#[]⟩,.int .i64 (t.place:Int),.slice none 0 0,.slice none 0 0,.slice none 0 0,.slice none 0 0,.slice none 0 0] 47 (0,0));have A1:=(A0.trans (aside b1) A0.size).alloc (by omega) (.cells #[.string ⟨#[]⟩,.int .i64 (t.place:Int),.slice none 0 0,.slice none 0 0,.slice none 0 0,.slice none 0 0,.slice none 0 0] 47 (0,0));have aG:=kA ((aside b1 (S:=[])).keep dO (zAB dO) (by simp)) (.cells #[.string ⟨#[]⟩,.int .i64 (t.place:Int),.slice none 0 0,.slice none 0 0,.slice none 0 0,.slice none 0 0,.slice none 0 0] 47 (0,0));have iu:=zAC w1 (.cells #[.string ⟨#[]⟩,.int .i64 (t.place:Int),.slice none 0 0,.slice none 0 0,.slice none 0 0,.slice none 0 0,.slice none 0 0] 47 (0,0));have y1:(w1.alloc (.cells #[.string ⟨#[]⟩,.int .i64 (t.place:Int),.slice none 0 0,.slice none 0 0,.slice none 0 0,.slice none 0 0,.slice none 0 0] 47 (0,0))).heap.size=w1.heap.size+1:=(by simp);clear hp h0 A0 dO b1;go_wp2_with fail;generalize w1.alloc (.cells #[.string ⟨#[]⟩,.int .i64 (t.place:Int),.slice none 0 0,.slice none 0 0,.slice none 0 0,.slice none 0 0,.slice none 0 0] 47 (0,0))=W1 at h1 A1 aG iu y1 ⊢;refine (zAJ h1 ⟨#[110,111,100,101]⟩ (by decide)).mono ?_;rintro e w2 ⟨a2,hres⟩;have es:(⟨#[110,111,100,101]⟩:ByteArray).data.toList=[110,111,100,101]:=rfl;rw [es] at hres;clear es;have z2:=a2.size;have A2:=A1.trans a2 A1.size;have gH:=a2.keep aG (by omega) (by simp;omega);have et:=a2.keep iu (by omega) (by simp;omega);clear A1 aG iu h1 a2
 cases mG:Ps.need I [110,111,100,101] nx with
 | err c0 a0=>
  rw [mG] at hres;obtain rfl:e=_:=hres;exact ⟨rfl,Post.fail (by rw [node_eq,mG];rfl) A2⟩
 | ok u2 n2=>
  rw [mG] at hres;obtain ⟨sM,h2,_,rfl,rfl⟩:=hres;have m2:Hid (Ps.node I nx=(Ps.name I n2).bind fun s n2=>(if Ps.sees I [60] n2=true then (Ps.row I (Ps.name I) 3 [] (n2+1)).bind fun z n3=>(Ps.need I [62] n3).bind fun _ n4=>.ok z n4 else .ok [] n2).bind fun z n5=>Ps.nodeI I ((I.pk nx).place:Int) s z n5):=by
   show Ps.node I nx=_
   rw [node_eq,mG];rfl
  clear mG;go_wp2_with fail;refine (zBJ h2).mono ?_;rintro e w3 ⟨a3,hres⟩;have z3:=a3.size;have A3:=A2.trans a3 A2.size;have eC:=a3.keep gH (by omega) (by simp;omega);have gU:=a3.keep et (by omega) (by simp;omega);clear A2 gH et h2 a3
  cases ht3:Ps.name I n2 with
  | err c0 a0=>
   rw [ht3] at hres;obtain rfl:e=_:=hres;exact ⟨rfl,Post.fail (by rw [m2.out,ht3];rfl) A3⟩
  | ok s n3=>
   rw [ht3] at hres;obtain ⟨oh,h3,_,rfl,rfl⟩:=hres;have m3:Hid (Ps.node I nx=(if Ps.sees I [60] n3=true then (Ps.row I (Ps.name I) 3 [] (n3+1)).bind fun z Og=>(Ps.need I [62] Og).bind fun _ n4=>.ok z n4 else .ok [] n3).bind fun z n5=>Ps.nodeI I ((I.pk nx).place:Int) s z n5):=by
    show Ps.node I nx=_
    rw [m2.out,ht3];rfl
   clear ht3 m2;have tc:=co gU 0;have tf:=fo gU 0;simp at tc;have cA:=zAD gU 0 (.string s);have dy:=zAI eC (p:=⟨w1.heap.size,0,none⟩) (by simp;omega) (.string s);have h4:=h3.set (p:=⟨w1.heap.size,0,none⟩) (by simp;omega) (by simp;omega) (.string s);have A4:=A3.set (p:=⟨w1.heap.size,0,none⟩) (by simp;omega) (.string s);have z4:(w3.setCell ⟨w1.heap.size,0,none⟩ (.string s)).heap.size=w3.heap.size:=(by simp [World.setCell]);simp at cA;go_wp2_with fail;generalize w3.setCell ⟨w1.heap.size,0,none⟩ (.string s)=w4 at cA dy h4 A4 z4  ⊢;clear tc tf A3 eC gU h3;refine (zAH h4 ⟨#[60]⟩ (by decide)).mono ?_;rintro e w5 ⟨rfl,h5,a5⟩;have es:(⟨#[60]⟩:ByteArray).data.toList=[60]:=rfl;rw [es] at h5;simp only [es];clear es;have z5:=a5.size;have A5:=A4.trans a5 A4.size;have gY:=a5.keep dy (by omega) (by simp;omega);have fh:=a5.keep cA (by omega) (by simp;omega);clear A4 dy cA h4 a5;have QN:nx<=n3:=(by omega);go_upto_if 14 with fail;go_cut [] (fun wc=>∃ (dA:List ByteArray) (aZ:Option Addr) (cZ n8:Nat),nx<=n8/\w5.heap.size<=wc.heap.size/\cZ<=9223372036854775807/\Rd wc b g cap I.L I.len n8 0/\Aside [b] w.heap.size w wc/\wc.heap[w.heap.size]?=some (.cells #[.string ⟨#[]⟩,.int .i64 0,.slice none 0 0,.slice none 0 0,.slice none 0 0,.slice none 0 0,.slice none 0 0] 47 (0,0))/\wc.heap[w1.heap.size]?=some (.cells #[.string s,.int .i64 (t.place:Int),.slice aZ dA.length cZ,.slice none 0 0,.slice none 0 0,.slice none 0 0,.slice none 0 0] 47 (0,0))/\HRow kName (fun i=>w1.heap.size<i) wc (.slice aZ dA.length cZ) dA/\dA.length<=cZ/\Hid (Ps.node I nx=Ps.nodeI I ((I.pk nx).place:Int) s dA n8))
   case first=>
    cases hq5:Ps.sees I [60] n3 with
    | false=>
     rw [hq5] at h5;simp only [Bool.false_eq_true,if_false] at h5;have mI:Hid (Ps.node I nx=Ps.nodeI I ((I.pk nx).place:Int) s [] n3):=by
      show Ps.node I nx=_
      rw [m3.out,hq5];rfl
     clear m3;go_wp2_with fail;go_meet
     case rel=>exact ⟨[],none,0,n3,by omega,by omega,by omega,h5,A5,gY,fh,HRow.nil,Nat.le_refl _,mI⟩
    | true=>
     rw [hq5] at h5;simp only [if_true] at h5;go_wp2_with fail;refine (zER (fun n w h _=>zBJ h) h5 (hG.far A5) 3 (by decide)).mono ?_;rintro e w6 ⟨a6,hres⟩;have z6:=a6.size;have A6:=A5.trans a6 A5.size;have mN:=a6.keep gY (by omega) (by simp;omega);have mu:=a6.keep fh (by omega) (by simp;omega);clear A5 gY fh h5 a6
     cases lU:Ps.row I (Ps.name I) 3 [] (n3+1) with
     | err c0 a0=>
      rw [lU] at hres;obtain rfl:e=_:=hres;exact ⟨rfl,Post.fail (by rw [m3.out,hq5,if_pos rfl,lU];rfl) A6⟩
     | ok dA n6=>
      rw [lU] at hres;obtain ⟨od,h6,x6,rfl,hV⟩:=hres;obtain ⟨aZ,cZ,rfl,Bu,zJ⟩:=hV.form;unfold maxLen at zJ;have Ie:=hV.wide (ok':=fun i=>w1.heap.size<i) (fun i hi _=>by omega);have m6:Hid (Ps.node I nx=((Ps.need I [62] n6).bind fun _ n4=>Res.ok dA n4).bind fun z n5=>Ps.nodeI I ((I.pk nx).place:Int) s z n5):=by
       show Ps.node I nx=_
       rw [m3.out,hq5,if_pos rfl,lU];rfl
      clear lU hV m3;have tc:=co mu 2;have tf:=fo mu 2;simp at tc;have qg:=zAD mu 2 (.slice aZ dA.length cZ);have kv:=zAI mN (p:=⟨w1.heap.size,2,none⟩) (by simp;omega) (.slice aZ dA.length cZ);have h7:=h6.set (p:=⟨w1.heap.size,2,none⟩) (by simp;omega) (by simp;omega) (.slice aZ dA.length cZ);have A7:=A6.set (p:=⟨w1.heap.size,2,none⟩) (by simp;omega) (.slice aZ dA.length cZ);have z7:(w6.setCell ⟨w1.heap.size,2,none⟩ (.slice aZ dA.length cZ)).heap.size=w6.heap.size:=(by simp [World.setCell]);simp at qg;have FU:=Ie.set (p:=⟨w1.heap.size,2,none⟩) (by simp) (.slice aZ dA.length cZ);go_wp2_with fail;generalize w6.setCell ⟨w1.heap.size,2,none⟩ (.slice aZ dA.length cZ)=w7 at qg kv h7 A7 z7 FU ⊢;clear tc tf A6 mN mu h6 Ie;refine (zAJ h7 ⟨#[62]⟩ (by decide)).mono ?_;rintro e w8 ⟨a8,hres⟩;have es:(⟨#[62]⟩:ByteArray).data.toList=[62]:=rfl;rw [es] at hres;clear es;have z8:=a8.size;have A8:=A7.trans a8 A7.size;have qf:=a8.keep kv (by omega) (by simp;omega);have mz:=a8.keep qg (by omega) (by simp;omega);have Cp:=FU.past a8 (fun i hi=>by simp;omega);clear A7 kv qg h7 a8 FU
      cases ht8:Ps.need I [62] n6 with
      | err c0 a0=>
       rw [ht8] at hres;obtain rfl:e=_:=hres;exact ⟨rfl,Post.fail (by rw [m6.out,ht8];rfl) A8⟩
      | ok u8 n8=>
       rw [ht8] at hres;obtain ⟨G8,h8,_,rfl,rfl⟩:=hres;have mI:Hid (Ps.node I nx=Ps.nodeI I ((I.pk nx).place:Int) s dA n8):=by
        show Ps.node I nx=_
        rw [m6.out,ht8];rfl
       clear ht8 m6;go_wp2_with fail;go_meet
       case rel=>exact ⟨dA,aZ,cZ,n8,by omega,by omega,by omega,h8,A8,qf,mz,Cp,Bu,mI⟩
   case rest=>
    clear m3 A5 gY fh h5;obtain ⟨dA,aZ,cZ,n8,G8,z8,zJ,h8,A8,qf,mz,Cp,Bu,mI⟩:=hcut;obtain ⟨w8,O2⟩:=nmQ (wc);subst O2;go_wp2_with fail;refine (zAJ h8 ⟨#[40]⟩ (by decide)).mono ?_;rintro e w9 ⟨a9,hres⟩;have es:(⟨#[40]⟩:ByteArray).data.toList=[40]:=rfl;rw [es] at hres;clear es;have z9:=a9.size;have A9:=A8.trans a9 A8.size;have dc:=a9.keep qf (by omega) (by simp;omega);have nY:=a9.keep mz (by omega) (by simp;omega);have I0:=Cp.past a9 (fun i hi=>by simp;omega);clear A8 qf mz h8 a9 Cp
    cases ht9:Ps.need I [40] n8 with
    | err c0 a0=>
     rw [ht9] at hres;obtain rfl:e=_:=hres;exact ⟨rfl,Post.fail (by rw [mI.out];unfold Ps.nodeI;rw [ht9];rfl) A9⟩
    | ok u9 n9=>
     rw [ht9] at hres;obtain ⟨yW,h9,_,rfl,rfl⟩:=hres;have m9:Hid (Ps.node I nx=(if Ps.sees I [41] n9=true then .ok [] (n9+1) else (Ps.row I (Ps.decl I) 30 [] n9).bind fun l n7=>(Ps.need I [41] n7).bind fun _ n8=>.ok l n8).bind fun inn n9=>Ps.nodeO I ((I.pk nx).place:Int) s dA inn n9):=by
      show Ps.node I nx=_
      rw [mI.out];unfold Ps.nodeI;rw [ht9];rfl
     clear ht9 mI;go_wp2_with fail;refine (zAH h9 ⟨#[41]⟩ (by decide)).mono ?_;rintro e ru ⟨rfl,cQ,dT⟩;have es:(⟨#[41]⟩:ByteArray).data.toList=[41]:=rfl;rw [es] at cQ;simp only [es];clear es;have IJ:=dT.size;have fI:=A9.trans dT A9.size;have gM:=dT.keep dc (by omega) (by simp;omega);have gu:=dT.keep nY (by omega) (by simp;omega);have qW:=I0.past dT (fun i hi=>by simp;omega);clear A9 dc nY h9 dT I0;have MA:nx<=n9:=(by omega);go_upto_if 26 with fail;go_cut [] (fun wc=>∃ (inn:List De) (aI:Option Addr) (cI n13:Nat),nx<=n13/\ru.heap.size<=wc.heap.size/\cI<=9223372036854775807/\Rd wc b g cap I.L I.len n13 0/\Aside [b] w.heap.size w wc/\wc.heap[w.heap.size]?=some (.cells #[.string ⟨#[]⟩,.int .i64 0,.slice none 0 0,.slice none 0 0,.slice none 0 0,.slice none 0 0,.slice none 0 0] 47 (0,0))/\wc.heap[w1.heap.size]?=some (.cells #[.string s,.int .i64 (t.place:Int),.slice aZ dA.length cZ,.slice aI inn.length cI,.slice none 0 0,.slice none 0 0,.slice none 0 0] 47 (0,0))/\HRow kName (fun i=>w1.heap.size<i) wc (.slice aZ dA.length cZ) dA/\HRow kDecl (fun i=>w1.heap.size<i) wc (.slice aI inn.length cI) inn/\inn.length<=cI/\Hid (Ps.node I nx=Ps.nodeO I ((I.pk nx).place:Int) s dA inn n13))
     case first=>
      cases hq10:Ps.sees I [41] n9 with
      | true=>
       rw [hq10] at cQ;simp only [if_true] at cQ;have mO:Hid (Ps.node I nx=Ps.nodeO I ((I.pk nx).place:Int) s dA [] (n9+1)):=by
        show Ps.node I nx=_
        rw [m9.out,hq10];rfl
       clear m9;go_wp2_with fail;go_meet
       case rel=>exact ⟨[],none,0,n9+1,by omega,by omega,by omega,cQ,fI,gM,gu,qW,HRow.nil,Nat.le_refl _,mO⟩
      | false=>
       rw [hq10] at cQ;simp only [Bool.false_eq_true,if_false] at cQ;go_wp2_with fail;refine (zES zFa cQ (hG.far fI) 30 (by decide)).mono ?_;rintro e oH ⟨jK,hres⟩;have cD:=jK.size;have pN:=fI.trans jK fI.size;have kN:=jK.keep gM (by omega) (by simp;omega);have gC:=jK.keep gu (by omega) (by simp;omega);have By:=qW.past jK (fun i hi=>by simp;omega);clear fI gM gu cQ jK qW
       cases ht11:Ps.row I (Ps.decl I) 30 [] n9 with
       | err c0 a0=>
        rw [ht11] at hres;obtain rfl:e=_:=hres;exact ⟨rfl,Post.fail (by rw [m9.out,hq10];simp only [Bool.false_eq_true,if_false];rw [ht11];rfl) pN⟩
       | ok inn n11=>
        rw [ht11] at hres;obtain ⟨yx,lW,JN,rfl,hV⟩:=hres;obtain ⟨aI,cI,rfl,xU,xY⟩:=hV.form;unfold maxLen at xY;have xN:=hV.wide (ok':=fun i=>w1.heap.size<i) (fun i hi _=>by omega);have oU:Hid (Ps.node I nx=(Ps.need I [41] n11).bind fun _ n8=>Ps.nodeO I ((I.pk nx).place:Int) s dA inn n8):=by
         show Ps.node I nx=_
         rw [m9.out,hq10];simp only [Bool.false_eq_true,if_false];rw [ht11]
         show ((Ps.need I [41] n11).bind fun _ n8=>Res.ok inn n8).bind _=_
         rw [Res.bind_assoc];rfl
        clear ht11 hV m9;have tc:=co gC 3;have tf:=fo gC 3;simp at tc;have gN:=zAD gC 3 (.slice aI inn.length cI);have gR:=zAI kN (p:=⟨w1.heap.size,3,none⟩) (by simp;omega) (.slice aI inn.length cI);have ov:=lW.set (p:=⟨w1.heap.size,3,none⟩) (by simp;omega) (by simp;omega) (.slice aI inn.length cI);have mv:=pN.set (p:=⟨w1.heap.size,3,none⟩) (by simp;omega) (.slice aI inn.length cI);have As:(oH.setCell ⟨w1.heap.size,3,none⟩ (.slice aI inn.length cI)).heap.size=oH.heap.size:=(by simp [World.setCell]);simp at gN;have tw:=By.set (p:=⟨w1.heap.size,3,none⟩) (by simp) (.slice aI inn.length cI);have vH:=xN.set (p:=⟨w1.heap.size,3,none⟩) (by simp) (.slice aI inn.length cI);go_wp2_with fail;generalize oH.setCell ⟨w1.heap.size,3,none⟩ (.slice aI inn.length cI)=Lc at gN gR ov mv As tw vH ⊢;clear tc tf pN kN gC lW By xN;refine (zAJ ov ⟨#[41]⟩ (by decide)).mono ?_;rintro e Hu ⟨iG,hres⟩;have es:(⟨#[41]⟩:ByteArray).data.toList=[41]:=rfl;rw [es] at hres;clear es;have Ef:=iG.size;have lm:=mv.trans iG mv.size;have ig:=iG.keep gR (by omega) (by simp;omega);have jB:=iG.keep gN (by omega) (by simp;omega);have rD:=tw.past iG (fun i hi=>by simp;omega);have re:=vH.past iG (fun i hi=>by simp;omega);clear mv gR gN ov iG tw vH
        cases ht13:Ps.need I [41] n11 with
        | err c0 a0=>
         rw [ht13] at hres;obtain rfl:e=_:=hres;exact ⟨rfl,Post.fail (by rw [oU.out,ht13];rfl) lm⟩
        | ok u13 n13=>
         rw [ht13] at hres;obtain ⟨uX,qq,_,rfl,rfl⟩:=hres;have mO:Hid (Ps.node I nx=Ps.nodeO I ((I.pk nx).place:Int) s dA inn n13):=by
          show Ps.node I nx=_
          rw [oU.out,ht13];rfl
         clear ht13 oU;go_wp2_with fail;go_meet
         case rel=>exact ⟨inn,aI,cI,n13,by omega,by omega,by omega,qq,lm,ig,jB,rD,re,xU,mO⟩
     case rest=>
      clear m9 fI gM gu cQ qW;obtain ⟨inn,aI,cI,n13,uX,Ef,xY,qq,lm,ig,jB,rD,re,xU,mO⟩:=hcut;obtain ⟨Hu,Ga⟩:=nmQ (wc);subst Ga;go_wp2_with fail;refine (zAJ qq ⟨#[45,62]⟩ (by decide)).mono ?_;rintro e CR ⟨ey,hres⟩;have es:(⟨#[45,62]⟩:ByteArray).data.toList=[45,62]:=rfl;rw [es] at hres;clear es;have Cv:=ey.size;have iK:=lm.trans ey lm.size;have gD:=ey.keep ig (by omega) (by simp;omega);have gL:=ey.keep jB (by omega) (by simp;omega);have xO:=rD.past ey (fun i hi=>by simp;omega);have Bo:=re.past ey (fun i hi=>by simp;omega);clear lm ig jB qq ey rD re
      cases ht14:Ps.need I [45,62] n13 with
      | err c0 a0=>
       rw [ht14] at hres;obtain rfl:e=_:=hres;exact ⟨rfl,Post.fail (by rw [mO.out];unfold Ps.nodeO;rw [ht14];rfl) iK⟩
      | ok u14 n14=>
       rw [ht14] at hres;obtain ⟨qY,kE,_,rfl,rfl⟩:=hres;have i9:Hid (Ps.node I nx=(Ps.need I [40] n14).bind fun _ n15=>(Ps.row I (Ps.decl I) 30 [] n15).bind fun out n16=>(Ps.need I [41] n16).bind fun _ n18=>(Ps.need I [123] n18).bind fun _ n19=>(Ps.lines I (I.L.length-n19+1) [] [] n19).bind fun p n15=>.ok ⟨s,((I.pk nx).place:Int),dA,inn,out,p.1,p.2⟩ n15):=by
        show Ps.node I nx=_
        rw [mO.out];unfold Ps.nodeO;rw [ht14];rfl
       clear ht14 mO;go_wp2_with fail;refine (zAJ kE ⟨#[40]⟩ (by decide)).mono ?_;rintro e Cb ⟨ez,hres⟩;have es:(⟨#[40]⟩:ByteArray).data.toList=[40]:=rfl;rw [es] at hres;clear es;have DD:=ez.size;have gx:=iK.trans ez iK.size;have bu:=ez.keep gD (by omega) (by simp;omega);have bK:=ez.keep gL (by omega) (by simp;omega);have zE:=xO.past ez (fun i hi=>by simp;omega);have zT:=Bo.past ez (fun i hi=>by simp;omega);clear iK gD gL kE ez xO Bo
       cases ht15:Ps.need I [40] n14 with
       | err c0 a0=>
        rw [ht15] at hres;obtain rfl:e=_:=hres;exact ⟨rfl,Post.fail (by rw [i9.out,ht15];rfl) gx⟩
       | ok u15 n15=>
        rw [ht15] at hres;obtain ⟨NY,eh,_,rfl,rfl⟩:=hres;have Ge:Hid (Ps.node I nx=(Ps.row I (Ps.decl I) 30 [] n15).bind fun out n16=>(Ps.need I [41] n16).bind fun _ n18=>(Ps.need I [123] n18).bind fun _ n19=>(Ps.lines I (I.L.length-n19+1) [] [] n19).bind fun p n15=>.ok ⟨s,((I.pk nx).place:Int),dA,inn,out,p.1,p.2⟩ n15):=by
         show Ps.node I nx=_
         rw [i9.out,ht15];rfl
        clear ht15 i9;go_wp2_with fail;refine (zES zFa eh (hG.far gx) 30 (by decide)).mono ?_;rintro e jT ⟨eA,hres⟩;have DE:=eA.size;have j6:=gx.trans eA gx.size;have gi:=eA.keep bu (by omega) (by simp;omega);have di:=eA.keep bK (by omega) (by simp;omega);have BX:=zE.past eA (fun i hi=>by simp;omega);have Bl:=zT.past eA (fun i hi=>by simp;omega);clear gx bu bK eh eA zE zT
        cases ht16:Ps.row I (Ps.decl I) 30 [] n15 with
        | err c0 a0=>
         rw [ht16] at hres;obtain rfl:e=_:=hres;exact ⟨rfl,Post.fail (by rw [Ge.out,ht16];rfl) j6⟩
        | ok out n16=>
         rw [ht16] at hres;obtain ⟨rM,mD,CG,rfl,hV⟩:=hres;obtain ⟨aO,cO,rfl,ME,Ed⟩:=hV.form;unfold maxLen at Ed;have xQ:=hV.wide (ok':=fun i=>w1.heap.size<i) (fun i hi _=>by omega);have mh:Hid (Ps.node I nx=(Ps.need I [41] n16).bind fun _ n18=>(Ps.need I [123] n18).bind fun _ n19=>(Ps.lines I (I.L.length-n19+1) [] [] n19).bind fun p n15=>.ok ⟨s,((I.pk nx).place:Int),dA,inn,out,p.1,p.2⟩ n15):=by
          show Ps.node I nx=_
          rw [Ge.out,ht16];rfl
         clear ht16 hV Ge;have tc:=co di 4;have tf:=fo di 4;simp at tc;have dk:=zAD di 4 (.slice aO out.length cO);have dV:=zAI gi (p:=⟨w1.heap.size,4,none⟩) (by simp;omega) (.slice aO out.length cO);have jV:=mD.set (p:=⟨w1.heap.size,4,none⟩) (by simp;omega) (by simp;omega) (.slice aO out.length cO);have iQ:=j6.set (p:=⟨w1.heap.size,4,none⟩) (by simp;omega) (.slice aO out.length cO);have qK:(jT.setCell ⟨w1.heap.size,4,none⟩ (.slice aO out.length cO)).heap.size=jT.heap.size:=(by simp [World.setCell]);simp at dk;have vi:=BX.set (p:=⟨w1.heap.size,4,none⟩) (by simp) (.slice aO out.length cO);have tX:=Bl.set (p:=⟨w1.heap.size,4,none⟩) (by simp) (.slice aO out.length cO);have tY:=xQ.set (p:=⟨w1.heap.size,4,none⟩) (by simp) (.slice aO out.length cO);go_wp2_with fail;generalize jT.setCell ⟨w1.heap.size,4,none⟩ (.slice aO out.length cO)=CF at dk dV jV iQ qK vi tX tY ⊢;clear tc tf j6 gi di mD BX Bl xQ;refine (zAJ jV ⟨#[41]⟩ (by decide)).mono ?_;rintro e Dl ⟨dG,hres⟩;have es:(⟨#[41]⟩:ByteArray).data.toList=[41]:=rfl;rw [es] at hres;clear es;have CW:=dG.size;have kY:=iQ.trans dG iQ.size;have cj:=dG.keep dV (by omega) (by simp;omega);have cV:=dG.keep dk (by omega) (by simp;omega);have Ag:=vi.past dG (fun i hi=>by simp;omega);have yy:=tX.past dG (fun i hi=>by simp;omega);have yu:=tY.past dG (fun i hi=>by simp;omega);clear iQ dV dk jV dG vi tX tY
         cases ht18:Ps.need I [41] n16 with
         | err c0 a0=>
          rw [ht18] at hres;obtain rfl:e=_:=hres;exact ⟨rfl,Post.fail (by rw [mh.out,ht18];rfl) kY⟩
         | ok u18 n18=>
          rw [ht18] at hres;obtain ⟨rG,nI,_,rfl,rfl⟩:=hres;have Fx:Hid (Ps.node I nx=(Ps.need I [123] n18).bind fun _ n19=>(Ps.lines I (I.L.length-n19+1) [] [] n19).bind fun p n15=>.ok ⟨s,((I.pk nx).place:Int),dA,inn,out,p.1,p.2⟩ n15):=by
           show Ps.node I nx=_
           rw [mh.out,ht18];rfl
          clear ht18 mh;go_wp2_with fail;refine (zAJ nI ⟨#[123]⟩ (by decide)).mono ?_;rintro e qU ⟨r9,hres⟩;have es:(⟨#[123]⟩:ByteArray).data.toList=[123]:=rfl;rw [es] at hres;clear es;have QL:=r9.size;have Lp:=kY.trans r9 kY.size;have GM:=r9.keep cj (by omega) (by simp;omega);have BL:=r9.keep cV (by omega) (by simp;omega);have Aj:=Ag.past r9 (fun i hi=>by simp;omega);have Bv:=yy.past r9 (fun i hi=>by simp;omega);have zC:=yu.past r9 (fun i hi=>by simp;omega);clear kY cj cV nI r9 Ag yy yu
          cases ht19:Ps.need I [123] n18 with
          | err c0 a0=>
           rw [ht19] at hres;obtain rfl:e=_:=hres;exact ⟨rfl,Post.fail (by rw [Fx.out,ht19];rfl) Lp⟩
          | ok u19 n19=>
           rw [ht19] at hres;obtain ⟨M4,JA,_,rfl,rfl⟩:=hres;have KG:Hid (Ps.node I nx=(Ps.lines I (I.L.length-n19+1) [] [] n19).bind fun p n15=>.ok ⟨s,((I.pk nx).place:Int),dA,inn,out,p.1,p.2⟩ n15):=by
            show Ps.node I nx=_
            rw [Fx.out,ht19];rfl
           clear ht19 Fx;have IP:=Aj.wide (ok':=fun i=>w1.heap.size<i/\i<qU.heap.size) (fun i hi hl=>⟨hi,hl⟩);have H0:=Bv.wide (ok':=fun i=>w1.heap.size<i/\i<qU.heap.size) (fun i hi hl=>⟨hi,hl⟩);have Ko:=zC.wide (ok':=fun i=>w1.heap.size<i/\i<qU.heap.size) (fun i hi hl=>⟨hi,hl⟩);clear Aj Bv zC;have uj:=Lp;go_wp2;go_loopg [] (I.L.length-n19+1) (fun k wr=>∃ (m:Nat) (loc:List De) (eqs:List Eqn),I.L.length+1<=m+k/\nx<=m/\Rd wr b g cap I.L I.len m 0/\Aside [b,w1.heap.size] qU.heap.size qU wr /\
             LineSt qU.heap.size w1.heap.size s (t.place:Int) (.slice aZ dA.length cZ) (.slice aI inn.length cI) (.slice aO out.length cO) wr loc eqs/\Hid (Ps.node I nx=(Ps.lines I k loc eqs m).bind fun p n15=>.ok ⟨s,((I.pk nx).place:Int),dA,inn,out,p.1,p.2⟩ n15))
           case atStart=>exact ⟨n19,[],[],by omega,by omega,JA,Aside.refl _,⟨_,_,fun _=>False,fun _=>False,BL,OwnX.nil,OwnX.nil,fun i hi=>hi.elim,fun i hi=>hi.elim,fun i hi=>hi.elim⟩,KG⟩
           case round=>
            clear KG BL JA;obtain ⟨m,loc,eqs,hk,ii,hr,ha,hS,aw⟩:=hrel;have N7:=hr.le;obtain ⟨f,rfl⟩:∃ f,gk=f+1:=⟨gk-1,by omega⟩;have eG:=zAA aw.out;rw [lines_succ] at eG;clear aw;have zr:=ha.size;go_wp2_with fail;refine (zAH hr ⟨#[125]⟩ (by decide)).mono ?_;rintro e Hb ⟨rfl,uH,xj⟩;have es:(⟨#[125]⟩:ByteArray).data.toList=[125]:=rfl;rw [es] at uH;simp only [es];clear es;have Qh:=xj.size;have jh:Aside [b,w1.heap.size] qU.heap.size qU Hb:=ha.trans (zCP xj) (by omega);have Ba:LineSt qU.heap.size w1.heap.size s (t.place:Int) (.slice aZ dA.length cZ) (.slice aI inn.length cI) (.slice aO out.length cO) Hb loc eqs:=by
             obtain ⟨vL,vE,okL,okE,q1,q2,q3,q4,q5,q6⟩:=hS;exact ⟨vL,vE,okL,okE,xj.keep q1 (zAB q1) (by simp;omega),q2.past xj (fun i hi=>by have:=q4 i hi;simp;omega),q3.past xj (fun i hi=>by have:=q5 i hi;simp;omega),q4,q5,q6⟩
            clear hr ha hS xj
            cases hq:Ps.sees I [125] m with
            | false=>
             rw [hq] at uH eG;simp only [Bool.false_eq_true,if_false] at uH;go_wp2_with fail;refine (line_any aV hL uH ((hG.far uj).far2 jh (by have:=hG.one;omega) (by omega)) (by have:=hG.one;omega) (by omega) (by omega) (by omega) (by omega) (by omega) (by omega) Ba).mono ?_;rintro e PW ⟨LH,hres⟩;have Ao:=jh.trans LH nR
             cases lB:Ps.line I loc eqs m with
             | err c0 a0=>
              rw [lB] at hres;obtain rfl:e=_:=hres;exact ⟨rfl,Post.fail (by rw [eG.out];simp only [Bool.false_eq_true,if_false];rw [lB];rfl) (uj.trans (Ao.mono (B':=w.heap.size) (by omega) |>.wide (fun k hk hn hm=>by simp at hm hn;omega)) (by omega))⟩
             | ok pp n21=>
              rw [lB] at hres;obtain ⟨Mz,O1,rfl,Gb⟩:=hres;have bj:Hid (Ps.node I nx=(Ps.lines I f pp.1 pp.2 n21).bind fun p n15=>.ok ⟨s,((I.pk nx).place:Int),dA,inn,out,p.1,p.2⟩ n15):=by
               show Ps.node I nx=_
               rw [eG.out];simp only [Bool.false_eq_true,if_false];rw [lB];rfl
              go_wp2;go_roundg f
              case measure=>omega
              case rel=>exact ⟨n21,pp.1,pp.2,by omega,by omega,O1,Ao,Gb,bj⟩
            | true=>
             rw [hq] at uH eG;simp only [if_true] at uH;obtain ⟨vL,vE,okL,okE,lE,oL,oE,aM,de,cY⟩:=Ba;obtain ⟨aL,cL,rfl,ry,mx⟩:=oL.form;obtain ⟨aE,cE,rfl,Me,G5⟩:=oE.form;unfold maxLen at mx G5;have kJ:=jh.keep GM (by omega) (by simp;omega);have MT:Aside [b] w.heap.size w Hb:=uj.trans (jh.mono (B':=w.heap.size) (by omega) |>.wide (fun k hk hn hm=>by simp at hm hn;omega)) (by omega);have Nz:=(IP.keep jh.size (fun i hi hl=>jh.block i hi.2 (by simp;omega))).wide (ok':=fun i=>w.heap.size<i) (fun i hi _=>by omega);have M8:=(H0.keep jh.size (fun i hi hl=>jh.block i hi.2 (by simp;omega))).wide (ok':=fun i=>w.heap.size<i) (fun i hi _=>by omega);have NT:=(Ko.keep jh.size (fun i hi hl=>jh.block i hi.2 (by simp;omega))).wide (ok':=fun i=>w.heap.size<i) (fun i hi _=>by omega);have Pn:=oL.row.wide (ok':=fun i=>w.heap.size<i) (fun i hi _=>by have:=aM i hi;omega);have Py:=oE.row.wide (ok':=fun i=>w.heap.size<i) (fun i hi _=>by have:=de i hi;omega);have fa:=fun o=>fo kJ o;clear oL oE aM de cY jh IP H0 Ko;have aB:=co kJ 0;have bw:=co lE 0;have ay:=co kJ 1;have bz:=co lE 1;have az:=co kJ 2;have bv:=co lE 2;have aF:=co kJ 3;have bU:=co lE 3;have aD:=co kJ 4;have bT:=co lE 4;have aH:=co kJ 5;have dm:=co lE 5;have IZ:=co kJ 6;have Pb:=co lE 6;simp only [gT,gZ,gS] at aB bw ay bz az bv aF bU aD bT aH dm IZ Pb;go_wp2;refine bodyPost_ret (v:=.agg #[.string s,.int .i64 (t.place:Int),.slice aZ dA.length cZ,.slice aI inn.length cI,.slice aO out.length cO,.slice aL loc.length cL,.slice aE eqs.length cE]) (by simp [results,Tryz.results107,go_sem,aB,ay,az,aF,aD,aH,IZ]) rfl ?_;exact Post.good (v:=Nd.mk s ((I.pk nx).place:Int) dA inn out loc eqs) (by rw [eG.out];rfl) (MT.put7 (k:=w.heap.size) nR ⟨s,(t.place:Int),aZ,dA.length,cZ,aI,inn.length,cI,aO,out.length,cO,aL,loc.length,cL,aE,eqs.length,cE⟩) (by omega) (uH.put7 (k:=w.heap.size) (by omega) (by omega) ⟨s,(t.place:Int),aZ,dA.length,cZ,aI,inn.length,cI,aO,out.length,cO,aL,loc.length,cL,aE,eqs.length,cE⟩) ⟨⟨s,(t.place:Int),aZ,dA.length,cZ,aI,inn.length,cI,aO,out.length,cO,aL,loc.length,cL,aE,eqs.length,cE⟩,rfl,⟨rfl,by rw [<-HT.out],zAg ((Nz.put7 (k:=w.heap.size) (by omega) ⟨s,(t.place:Int),aZ,dA.length,cZ,aI,inn.length,cI,aO,out.length,cO,aL,loc.length,cL,aE,eqs.length,cE⟩).wide (fun i hi _=>Nat.le_of_lt hi)),zDn ((M8.put7 (k:=w.heap.size) (by omega) ⟨s,(t.place:Int),aZ,dA.length,cZ,aI,inn.length,cI,aO,out.length,cO,aL,loc.length,cL,aE,eqs.length,cE⟩).wide (fun i hi _=>Nat.le_of_lt hi)),zDn ((NT.put7 (k:=w.heap.size) (by omega) ⟨s,(t.place:Int),aZ,dA.length,cZ,aI,inn.length,cI,aO,out.length,cO,aL,loc.length,cL,aE,eqs.length,cE⟩).wide (fun i hi _=>Nat.le_of_lt hi)),zDn ((Pn.put7 (k:=w.heap.size) (by omega) ⟨s,(t.place:Int),aZ,dA.length,cZ,aI,inn.length,cI,aO,out.length,cO,aL,loc.length,cL,aE,eqs.length,cE⟩).wide (fun i hi _=>Nat.le_of_lt hi)),eqs_row ((Py.put7 (k:=w.heap.size) (by omega) ⟨s,(t.place:Int),aZ,dA.length,cZ,aI,inn.length,cI,aO,out.length,cO,aL,loc.length,cL,aE,eqs.length,cE⟩).wide (fun i hi _=>Nat.le_of_lt hi))⟩⟩
end Go.Proofs.YtkfgbhlpjkkgfaaGreatDoor
