import Derived.Test.YtkfgbhlpjkkgfaaGreatDoorT40
set_option linter.unusedVariables false
set_option linter.unusedSimpArgs false
set_option maxHeartbeats 64000000
set_option maxRecDepth 100000
namespace Go.Proofs.YtkfgbhlpjkkgfaaGreatDoor
open Go.RowKit Go.IntWalk
def put7 (w:World) (k:Nat) (y:NdV):World:=(((((((w.setCell ⟨k,0,none⟩ (.string y.name)).setCell ⟨k,1,none⟩ (.int .i64 y.place)).setCell ⟨k,2,none⟩ (.slice y.a2 y.n2 y.c2)).setCell ⟨k,3,none⟩ (.slice y.a3 y.n3 y.c3)).setCell ⟨k,4,none⟩ (.slice y.a4 y.n4 y.c4)).setCell ⟨k,5,none⟩ (.slice y.a5 y.n5 y.c5)).setCell ⟨k,6,none⟩ (.slice y.a6 y.n6 y.c6))
theorem put7_size (w:World) (k:Nat) (y:NdV):(put7 w k y).heap.size=w.heap.size:=by simp [put7,World.setCell]
theorem zDC (w:World) (k:Nat) (y:NdV) (i:Nat) (h:i≠k):(put7 w k y).heap[i]?=w.heap[i]?:=by
 unfold put7;rw [Below.heap_setCell _ _ _ _ h,Below.heap_setCell _ _ _ _ h,Below.heap_setCell _ _ _ _ h,Below.heap_setCell _ _ _ _ h,Below.heap_setCell _ _ _ _ h,Below.heap_setCell _ _ _ _ h,Below.heap_setCell _ _ _ _ h]
theorem Rd.put7 {w:World} {b g cap:Nat} {L:List Tk.Tok} {len nx op:Nat} (h:Rd w b g cap L len nx op) {k:Nat} (hb:k≠b) (hg:k≠g) (y:NdV):Rd (put7 w k y) b g cap L len nx op :=
 ⟨(zDC _ _ _ _ hb.symm).trans h.here,h.toks.keep (zDC _ _ _ _ hg.symm),h.apart,by rw [put7_size];exact h.gb,h.le,h.lc,h.cm⟩
theorem Aside.put7 {S:List Nat} {B:Nat} {w w':World} (h:Aside S B w w') {k:Nat} (hk:B<=k) (y:NdV):Aside S B w (put7 w' k y):=by
 unfold YtkfgbhlpjkkgfaaGreatDoor.put7;exact (((((((h.set (p:=⟨k,0,none⟩) hk _).set (p:=⟨k,1,none⟩) hk _).set (p:=⟨k,2,none⟩) hk _).set (p:=⟨k,3,none⟩) hk _).set (p:=⟨k,4,none⟩) hk _).set (p:=⟨k,5,none⟩) hk _).set (p:=⟨k,6,none⟩) hk _)
theorem HRow.put7 {α:Type} {T:Kind α} {ok:Nat->Prop} {w:World} {v:Value} {l:List α} (h:HRow T ok w v l) {k:Nat} (hk:¬ok k) (y:NdV):HRow T ok (put7 w k y) v l :=
 h.keep (by rw [put7_size];exact Nat.le_refl _) fun i hi _=>zDC _ _ _ _ (fun e=>hk (e ▸ hi))
def ndV:Nat->World->Value->Nd->Prop:=fun B w x q=>∃ y:NdV,x=.agg #[.string y.name,.int .i64 y.place,.slice y.a2 y.n2 y.c2,.slice y.a3 y.n3 y.c3,.slice y.a4 y.n4 y.c4,.slice y.a5 y.n5 y.c5,.slice y.a6 y.n6 y.c6]/\HNd (fun i=>B<=i) w y q
theorem lines_succ {I:Inp} {f:Nat} {loc:List De} {eqs:List Eqn} {n:Nat}:Ps.lines I (f+1) loc eqs n=if Ps.sees I [125] n=true then .ok (loc,eqs) (n+1) else (Ps.line I loc eqs n).bind fun p n1=>Ps.lines I f p.1 p.2 n1:=rfl
namespace Ps
def nodeO (I:Inp) (at0:Int) (s:ByteArray) (z:List ByteArray) (inn:List De) (n9:Nat):Res Nd :=
 (need I [45,62] n9).bind fun _ n10=>(need I [40] n10).bind fun _ n11=>(row I (decl I) 30 [] n11).bind fun out n12=>(need I [41] n12).bind fun _ n13=>(need I [123] n13).bind fun _ n14=>
  (lines I (I.L.length-n14+1) [] [] n14).bind fun p n15=>.ok ⟨s,at0,z,inn,out,p.1,p.2⟩ n15
def nodeI (I:Inp) (at0:Int) (s:ByteArray) (z:List ByteArray) (n5:Nat):Res Nd :=
 (need I [40] n5).bind fun _ n6=>(if sees I [41] n6=true then .ok [] (n6+1) else (row I (decl I) 30 [] n6).bind fun l n7=>(need I [41] n7).bind fun _ n8=>.ok l n8).bind fun inn n9=>nodeO I at0 s z inn n9
end Ps
theorem node_eq (I:Inp) (n:Nat):Ps.node I n=(Ps.need I [110,111,100,101] n).bind fun _ n1=>(Ps.name I n1).bind fun s n2 =>
  (if Ps.sees I [60] n2=true then (Ps.row I (Ps.name I) 3 [] (n2+1)).bind fun z n3=>(Ps.need I [62] n3).bind fun _ n4=>.ok z n4 else .ok [] n2).bind fun z n5=>Ps.nodeI I (I.pk n).place s z n5:=rfl
theorem node_any (aV:FormC) {b g cap:Nat} {I:Inp} (hL:I.L.length<=1099511627776):Does 107 b g cap I 0 ndV (Ps.node I):=by
 intro nx w h hG;have hb:=h.bb;have hg:=h.gb;have oc:=zBi;have h0:=h.alloc (.cells #[.string ⟨#[]⟩,.int .i64 0,.slice none 0 0,.slice none 0 0,.slice none 0 0,.slice none 0 0,.slice none 0 0] 47 (0,0));have dO:=zAC w (.cells #[.string ⟨#[]⟩,.int .i64 0,.slice none 0 0,.slice none 0 0,.slice none 0 0,.slice none 0 0,.slice none 0 0] 47 (0,0));have z0:(w.alloc (.cells #[.string ⟨#[]⟩,.int .i64 0,.slice none 0 0,.slice none 0 0,.slice none 0 0,.slice none 0 0,.slice none 0 0] 47 (0,0))).heap.size=w.heap.size+1:=(by simp);have A0:=(Aside.refl (S:=[b]) (B:=w.heap.size) w).alloc nR (.cells #[.string ⟨#[]⟩,.int .i64 0,.slice none 0 0,.slice none 0 0,.slice none 0 0,.slice none 0 0,.slice none 0 0] 47 (0,0));have hp:=@zAT _ _ _ _ _ _ _ _ h0;obtain ⟨t,ht⟩:=nmQ (I.pk nx);have jM:peekT I.L I.len nx=t:=ht.symm;rw [jM] at hp;unfold tokV at hp;have hf:=fun x w=>tokF1 t x w;have HT:=zAA ht;clear jM ht;go_enter Tryz.func107,Tryz.ntmps107;go_wp2_with fail;generalize w.alloc (.cells #[.string ⟨#[]⟩,.int .i64 0,.slice none 0 0,.slice none 0 0,.slice none 0 0,.slice none 0 0,.slice none 0 0] 47 (0,0))=W at h0 dO z0 A0 hp ⊢;refine hp.mono ?_;rintro e w1 ⟨rfl,b1⟩;have z1:=b1.size;have h1:=(h0.below b1).alloc (.cells #[.string ⟨#[]⟩,.int .i64 (t.place:Int),.slice none 0 0,.slice none 0 0,.slice none 0 0,.slice none 0 0,.slice none 0 0] 47 (0,0));have A1:=(A0.trans (aside b1) A0.size).alloc (by omega) (.cells #[.string ⟨#[]⟩,.int .i64 (t.place:Int),.slice none 0 0,.slice none 0 0,.slice none 0 0,.slice none 0 0,.slice none 0 0] 47 (0,0));have aG:=kA ((aside b1 (S:=[])).keep dO (zAB dO) (by simp)) (.cells #[.string ⟨#[]⟩,.int .i64 (t.place:Int),.slice none 0 0,.slice none 0 0,.slice none 0 0,.slice none 0 0,.slice none 0 0] 47 (0,0));have ik:=zAC w1 (.cells #[.string ⟨#[]⟩,.int .i64 (t.place:Int),.slice none 0 0,.slice none 0 0,.slice none 0 0,.slice none 0 0,.slice none 0 0] 47 (0,0));have y1:(w1.alloc (.cells #[.string ⟨#[]⟩,.int .i64 (t.place:Int),.slice none 0 0,.slice none 0 0,.slice none 0 0,.slice none 0 0,.slice none 0 0] 47 (0,0))).heap.size=w1.heap.size+1:=(by simp);clear hp h0 A0 dO b1;go_wp2_with fail;generalize w1.alloc (.cells #[.string ⟨#[]⟩,.int .i64 (t.place:Int),.slice none 0 0,.slice none 0 0,.slice none 0 0,.slice none 0 0,.slice none 0 0] 47 (0,0))=W1 at h1 A1 aG ik y1 ⊢;refine (zAJ h1 ⟨#[110,111,100,101]⟩ (by decide)).mono ?_;rintro e w2 ⟨a2,hres⟩;have es:(⟨#[110,111,100,101]⟩:ByteArray).data.toList=[110,111,100,101]:=rfl;rw [es] at hres;clear es;have z2:=a2.size;have A2:=A1.trans a2 A1.size;have gI:=a2.keep aG (by omega) (by simp;omega);have eh:=a2.keep ik (by omega) (by simp;omega);clear A1 aG ik h1 a2
 cases mu:Ps.need I [110,111,100,101] nx with
 | err c0 a0=>
  rw [mu] at hres;obtain rfl:e=_:=hres;exact ⟨rfl,Post.fail (by rw [node_eq,mu];rfl) A2⟩
 | ok u2 n2=>
  rw [mu] at hres;obtain ⟨sH,h2,_,rfl,rfl⟩:=hres;have m2:Hid (Ps.node I nx=(Ps.name I n2).bind fun s n2=>(if Ps.sees I [60] n2=true then (Ps.row I (Ps.name I) 3 [] (n2+1)).bind fun z n3=>(Ps.need I [62] n3).bind fun _ n4=>.ok z n4 else .ok [] n2).bind fun z n5=>Ps.nodeI I ((I.pk nx).place:Int) s z n5):=by
   show Ps.node I nx=_
   rw [node_eq,mu];rfl
  clear mu;go_wp2_with fail;refine (zBJ h2).mono ?_;rintro e w3 ⟨a3,hres⟩;have z3:=a3.size;have A3:=A2.trans a3 A2.size;have eC:=a3.keep gI (by omega) (by simp;omega);have gV:=a3.keep eh (by omega) (by simp;omega);clear A2 gI eh h2 a3
  cases ht3:Ps.name I n2 with
  | err c0 a0=>
   rw [ht3] at hres;obtain rfl:e=_:=hres;exact ⟨rfl,Post.fail (by rw [m2.out,ht3];rfl) A3⟩
  | ok s n3=>
   rw [ht3] at hres;obtain ⟨od,h3,_,rfl,rfl⟩:=hres;have m3:Hid (Ps.node I nx=(if Ps.sees I [60] n3=true then (Ps.row I (Ps.name I) 3 [] (n3+1)).bind fun z Oc=>(Ps.need I [62] Oc).bind fun _ n4=>.ok z n4 else .ok [] n3).bind fun z n5=>Ps.nodeI I ((I.pk nx).place:Int) s z n5):=by
    show Ps.node I nx=_
    rw [m2.out,ht3];rfl
   clear ht3 m2;have tc:=co gV 0;have tf:=fo gV 0;simp at tc;have cy:=zAD gV 0 (.string s);have dw:=zAI eC (p:=⟨w1.heap.size,0,none⟩) (by simp;omega) (.string s);have h4:=h3.set (p:=⟨w1.heap.size,0,none⟩) (by simp;omega) (by simp;omega) (.string s);have A4:=A3.set (p:=⟨w1.heap.size,0,none⟩) (by simp;omega) (.string s);have z4:(w3.setCell ⟨w1.heap.size,0,none⟩ (.string s)).heap.size=w3.heap.size:=(by simp [World.setCell]);simp at cy;go_wp2_with fail;generalize w3.setCell ⟨w1.heap.size,0,none⟩ (.string s)=w4 at cy dw h4 A4 z4  ⊢;clear tc tf A3 eC gV h3;refine (zAH h4 ⟨#[60]⟩ (by decide)).mono ?_;rintro e w5 ⟨rfl,h5,a5⟩;have es:(⟨#[60]⟩:ByteArray).data.toList=[60]:=rfl;rw [es] at h5;simp only [es];clear es;have z5:=a5.size;have A5:=A4.trans a5 A4.size;have gY:=a5.keep dw (by omega) (by simp;omega);have e9:=a5.keep cy (by omega) (by simp;omega);clear A4 dw cy h4 a5;have Qm:nx<=n3:=(by omega);go_upto_if 14 with fail;go_cut [] (fun wc=>∃ (dB:List ByteArray) (aZ:Option Addr) (cZ n8:Nat),nx<=n8/\w5.heap.size<=wc.heap.size/\cZ<=9223372036854775807/\Rd wc b g cap I.L I.len n8 0/\Aside [b] w.heap.size w wc/\wc.heap[w.heap.size]?=some (.cells #[.string ⟨#[]⟩,.int .i64 0,.slice none 0 0,.slice none 0 0,.slice none 0 0,.slice none 0 0,.slice none 0 0] 47 (0,0))/\wc.heap[w1.heap.size]?=some (.cells #[.string s,.int .i64 (t.place:Int),.slice aZ dB.length cZ,.slice none 0 0,.slice none 0 0,.slice none 0 0,.slice none 0 0] 47 (0,0))/\HRow kName (fun i=>w1.heap.size<i) wc (.slice aZ dB.length cZ) dB/\dB.length<=cZ/\Hid (Ps.node I nx=Ps.nodeI I ((I.pk nx).place:Int) s dB n8))
   case first=>
    cases hq5:Ps.sees I [60] n3 with
    | false=>
     rw [hq5] at h5;simp only [Bool.false_eq_true,if_false] at h5;have mI:Hid (Ps.node I nx=Ps.nodeI I ((I.pk nx).place:Int) s [] n3):=by
      show Ps.node I nx=_
      rw [m3.out,hq5];rfl
     clear m3;go_wp2_with fail;go_meet
     case rel=>exact ⟨[],none,0,n3,by omega,by omega,by omega,h5,A5,gY,e9,HRow.nil,Nat.le_refl _,mI⟩
    | true=>
     rw [hq5] at h5;simp only [if_true] at h5;go_wp2_with fail;refine (zER (fun n w h _=>zBJ h) h5 (hG.far A5) 3 (by decide)).mono ?_;rintro e w6 ⟨a6,hres⟩;have z6:=a6.size;have A6:=A5.trans a6 A5.size;have mE:=a6.keep gY (by omega) (by simp;omega);have mG:=a6.keep e9 (by omega) (by simp;omega);clear A5 gY e9 h5 a6
     cases mq:Ps.row I (Ps.name I) 3 [] (n3+1) with
     | err c0 a0=>
      rw [mq] at hres;obtain rfl:e=_:=hres;exact ⟨rfl,Post.fail (by rw [m3.out,hq5,if_pos rfl,mq];rfl) A6⟩
     | ok dB n6=>
      rw [mq] at hres;obtain ⟨nX,h6,x6,rfl,hV⟩:=hres;obtain ⟨aZ,cZ,rfl,x9,AX⟩:=hV.form;unfold maxLen at AX;have IC:=hV.wide (ok':=fun i=>w1.heap.size<i) (fun i hi _=>by omega);have m6:Hid (Ps.node I nx=((Ps.need I [62] n6).bind fun _ n4=>Res.ok dB n4).bind fun z n5=>Ps.nodeI I ((I.pk nx).place:Int) s z n5):=by
       show Ps.node I nx=_
       rw [m3.out,hq5,if_pos rfl,mq];rfl
      clear mq hV m3;have tc:=co mG 2;have tf:=fo mG 2;simp at tc;have p9:=zAD mG 2 (.slice aZ dB.length cZ);have kU:=zAI mE (p:=⟨w1.heap.size,2,none⟩) (by simp;omega) (.slice aZ dB.length cZ);have h7:=h6.set (p:=⟨w1.heap.size,2,none⟩) (by simp;omega) (by simp;omega) (.slice aZ dB.length cZ);have A7:=A6.set (p:=⟨w1.heap.size,2,none⟩) (by simp;omega) (.slice aZ dB.length cZ);have z7:(w6.setCell ⟨w1.heap.size,2,none⟩ (.slice aZ dB.length cZ)).heap.size=w6.heap.size:=(by simp [World.setCell]);simp at p9;have F9:=IC.set (p:=⟨w1.heap.size,2,none⟩) (by simp) (.slice aZ dB.length cZ);go_wp2_with fail;generalize w6.setCell ⟨w1.heap.size,2,none⟩ (.slice aZ dB.length cZ)=w7 at p9 kU h7 A7 z7 F9 ⊢;clear tc tf A6 mE mG h6 IC;refine (zAJ h7 ⟨#[62]⟩ (by decide)).mono ?_;rintro e w8 ⟨a8,hres⟩;have es:(⟨#[62]⟩:ByteArray).data.toList=[62]:=rfl;rw [es] at hres;clear es;have z8:=a8.size;have A8:=A7.trans a8 A7.size;have qA:=a8.keep kU (by omega) (by simp;omega);have mw:=a8.keep p9 (by omega) (by simp;omega);have C9:=F9.past a8 (fun i hi=>by simp;omega);clear A7 kU p9 h7 a8 F9
      cases ht8:Ps.need I [62] n6 with
      | err c0 a0=>
       rw [ht8] at hres;obtain rfl:e=_:=hres;exact ⟨rfl,Post.fail (by rw [m6.out,ht8];rfl) A8⟩
      | ok u8 n8=>
       rw [ht8] at hres;obtain ⟨GI,h8,_,rfl,rfl⟩:=hres;have mI:Hid (Ps.node I nx=Ps.nodeI I ((I.pk nx).place:Int) s dB n8):=by
        show Ps.node I nx=_
        rw [m6.out,ht8];rfl
       clear ht8 m6;go_wp2_with fail;go_meet
       case rel=>exact ⟨dB,aZ,cZ,n8,by omega,by omega,by omega,h8,A8,qA,mw,C9,x9,mI⟩
   case rest=>
    clear m3 A5 gY e9 h5;obtain ⟨dB,aZ,cZ,n8,GI,z8,AX,h8,A8,qA,mw,C9,x9,mI⟩:=hcut;obtain ⟨w8,NW⟩:=nmQ (wc);subst NW;go_wp2_with fail;refine (zAJ h8 ⟨#[40]⟩ (by decide)).mono ?_;rintro e w9 ⟨a9,hres⟩;have es:(⟨#[40]⟩:ByteArray).data.toList=[40]:=rfl;rw [es] at hres;clear es;have z9:=a9.size;have A9:=A8.trans a9 A8.size;have da:=a9.keep qA (by omega) (by simp;omega);have nU:=a9.keep mw (by omega) (by simp;omega);have I3:=C9.past a9 (fun i hi=>by simp;omega);clear A8 qA mw h8 a9 C9
    cases ht9:Ps.need I [40] n8 with
    | err c0 a0=>
     rw [ht9] at hres;obtain rfl:e=_:=hres;exact ⟨rfl,Post.fail (by rw [mI.out];unfold Ps.nodeI;rw [ht9];rfl) A9⟩
    | ok u9 n9=>
     rw [ht9] at hres;obtain ⟨Ac,h9,_,rfl,rfl⟩:=hres;have m9:Hid (Ps.node I nx=(if Ps.sees I [41] n9=true then .ok [] (n9+1) else (Ps.row I (Ps.decl I) 30 [] n9).bind fun l n7=>(Ps.need I [41] n7).bind fun _ n8=>.ok l n8).bind fun inn n9=>Ps.nodeO I ((I.pk nx).place:Int) s dB inn n9):=by
      show Ps.node I nx=_
      rw [mI.out];unfold Ps.nodeI;rw [ht9];rfl
     clear ht9 mI;go_wp2_with fail;refine (zAH h9 ⟨#[41]⟩ (by decide)).mono ?_;rintro e rD ⟨rfl,cP,dZ⟩;have es:(⟨#[41]⟩:ByteArray).data.toList=[41]:=rfl;rw [es] at cP;simp only [es];clear es;have JN:=dZ.size;have fX:=A9.trans dZ A9.size;have gu:=dZ.keep da (by omega) (by simp;omega);have gB:=dZ.keep nU (by omega) (by simp;omega);have rl:=I3.past dZ (fun i hi=>by simp;omega);clear A9 da nU h9 dZ I3;have N6:nx<=n9:=(by omega);go_upto_if 26 with fail;go_cut [] (fun wc=>∃ (inn:List De) (aI:Option Addr) (cI n13:Nat),nx<=n13/\rD.heap.size<=wc.heap.size/\cI<=9223372036854775807/\Rd wc b g cap I.L I.len n13 0/\Aside [b] w.heap.size w wc/\wc.heap[w.heap.size]?=some (.cells #[.string ⟨#[]⟩,.int .i64 0,.slice none 0 0,.slice none 0 0,.slice none 0 0,.slice none 0 0,.slice none 0 0] 47 (0,0))/\wc.heap[w1.heap.size]?=some (.cells #[.string s,.int .i64 (t.place:Int),.slice aZ dB.length cZ,.slice aI inn.length cI,.slice none 0 0,.slice none 0 0,.slice none 0 0] 47 (0,0))/\HRow kName (fun i=>w1.heap.size<i) wc (.slice aZ dB.length cZ) dB/\HRow kDecl (fun i=>w1.heap.size<i) wc (.slice aI inn.length cI) inn/\inn.length<=cI/\Hid (Ps.node I nx=Ps.nodeO I ((I.pk nx).place:Int) s dB inn n13))
     case first=>
      cases hq10:Ps.sees I [41] n9 with
      | true=>
       rw [hq10] at cP;simp only [if_true] at cP;have mO:Hid (Ps.node I nx=Ps.nodeO I ((I.pk nx).place:Int) s dB [] (n9+1)):=by
        show Ps.node I nx=_
        rw [m9.out,hq10];rfl
       clear m9;go_wp2_with fail;go_meet
       case rel=>exact ⟨[],none,0,n9+1,by omega,by omega,by omega,cP,fX,gu,gB,rl,HRow.nil,Nat.le_refl _,mO⟩
      | false=>
       rw [hq10] at cP;simp only [Bool.false_eq_true,if_false] at cP;go_wp2_with fail;refine (zES zFa cP (hG.far fX) 30 (by decide)).mono ?_;rintro e oG ⟨jF,hres⟩;have cD:=jF.size;have pQ:=fX.trans jF fX.size;have kO:=jF.keep gu (by omega) (by simp;omega);have gK:=jF.keep gB (by omega) (by simp;omega);have xQ:=rl.past jF (fun i hi=>by simp;omega);clear fX gu gB cP jF rl
       cases ht11:Ps.row I (Ps.decl I) 30 [] n9 with
       | err c0 a0=>
        rw [ht11] at hres;obtain rfl:e=_:=hres;exact ⟨rfl,Post.fail (by rw [m9.out,hq10];simp only [Bool.false_eq_true,if_false];rw [ht11];rfl) pQ⟩
       | ok inn n11=>
        rw [ht11] at hres;obtain ⟨Ar,lK,Js,rfl,hV⟩:=hres;obtain ⟨aI,cI,rfl,zO,xO⟩:=hV.form;unfold maxLen at xO;have yT:=hV.wide (ok':=fun i=>w1.heap.size<i) (fun i hi _=>by omega);have pT:Hid (Ps.node I nx=(Ps.need I [41] n11).bind fun _ n8=>Ps.nodeO I ((I.pk nx).place:Int) s dB inn n8):=by
         show Ps.node I nx=_
         rw [m9.out,hq10];simp only [Bool.false_eq_true,if_false];rw [ht11]
         show ((Ps.need I [41] n11).bind fun _ n8=>Res.ok inn n8).bind _=_
         rw [Res.bind_assoc];rfl
        clear ht11 hV m9;have tc:=co gK 3;have tf:=fo gK 3;simp at tc;have gp:=zAD gK 3 (.slice aI inn.length cI);have gx:=zAI kO (p:=⟨w1.heap.size,3,none⟩) (by simp;omega) (.slice aI inn.length cI);have oy:=lK.set (p:=⟨w1.heap.size,3,none⟩) (by simp;omega) (by simp;omega) (.slice aI inn.length cI);have mJ:=pQ.set (p:=⟨w1.heap.size,3,none⟩) (by simp;omega) (.slice aI inn.length cI);have AY:(oG.setCell ⟨w1.heap.size,3,none⟩ (.slice aI inn.length cI)).heap.size=oG.heap.size:=(by simp [World.setCell]);simp at gp;have vW:=xQ.set (p:=⟨w1.heap.size,3,none⟩) (by simp) (.slice aI inn.length cI);have vG:=yT.set (p:=⟨w1.heap.size,3,none⟩) (by simp) (.slice aI inn.length cI);go_wp2_with fail;generalize oG.setCell ⟨w1.heap.size,3,none⟩ (.slice aI inn.length cI)=Lr at gp gx oy mJ AY vW vG ⊢;clear tc tf pQ kO gK lK xQ yT;refine (zAJ oy ⟨#[41]⟩ (by decide)).mono ?_;rintro e Hl ⟨iD,hres⟩;have es:(⟨#[41]⟩:ByteArray).data.toList=[41]:=rfl;rw [es] at hres;clear es;have F6:=iD.size;have kY:=mJ.trans iD mJ.size;have il:=iD.keep gx (by omega) (by simp;omega);have ju:=iD.keep gp (by omega) (by simp;omega);have qX:=vW.past iD (fun i hi=>by simp;omega);have qH:=vG.past iD (fun i hi=>by simp;omega);clear mJ gx gp oy iD vW vG
        cases ht13:Ps.need I [41] n11 with
        | err c0 a0=>
         rw [ht13] at hres;obtain rfl:e=_:=hres;exact ⟨rfl,Post.fail (by rw [pT.out,ht13];rfl) kY⟩
        | ok u13 n13=>
         rw [ht13] at hres;obtain ⟨um,qn,_,rfl,rfl⟩:=hres;have mO:Hid (Ps.node I nx=Ps.nodeO I ((I.pk nx).place:Int) s dB inn n13):=by
          show Ps.node I nx=_
          rw [pT.out,ht13];rfl
         clear ht13 pT;go_wp2_with fail;go_meet
         case rel=>exact ⟨inn,aI,cI,n13,by omega,by omega,by omega,qn,kY,il,ju,qX,qH,zO,mO⟩
     case rest=>
      clear m9 fX gu gB cP rl;obtain ⟨inn,aI,cI,n13,um,F6,xO,qn,kY,il,ju,qX,qH,zO,mO⟩:=hcut;obtain ⟨Hl,Hv⟩:=nmQ (wc);subst Hv;go_wp2_with fail;refine (zAJ qn ⟨#[45,62]⟩ (by decide)).mono ?_;rintro e Dr ⟨eA,hres⟩;have es:(⟨#[45,62]⟩:ByteArray).data.toList=[45,62]:=rfl;rw [es] at hres;clear es;have CA:=eA.size;have iP:=kY.trans eA kY.size;have gH:=eA.keep il (by omega) (by simp;omega);have gP:=eA.keep ju (by omega) (by simp;omega);have yz:=qX.past eA (fun i hi=>by simp;omega);have yj:=qH.past eA (fun i hi=>by simp;omega);clear kY il ju qn eA qX qH
      cases ht14:Ps.need I [45,62] n13 with
      | err c0 a0=>
       rw [ht14] at hres;obtain rfl:e=_:=hres;exact ⟨rfl,Post.fail (by rw [mO.out];unfold Ps.nodeO;rw [ht14];rfl) iP⟩
      | ok u14 n14=>
       rw [ht14] at hres;obtain ⟨rn,ki,_,rfl,rfl⟩:=hres;have iX:Hid (Ps.node I nx=(Ps.need I [40] n14).bind fun _ n15=>(Ps.row I (Ps.decl I) 30 [] n15).bind fun out n16=>(Ps.need I [41] n16).bind fun _ n18=>(Ps.need I [123] n18).bind fun _ n19=>(Ps.lines I (I.L.length-n19+1) [] [] n19).bind fun p n15=>.ok ⟨s,((I.pk nx).place:Int),dB,inn,out,p.1,p.2⟩ n15):=by
        show Ps.node I nx=_
        rw [mO.out];unfold Ps.nodeO;rw [ht14];rfl
       clear ht14 mO;go_wp2_with fail;refine (zAJ ki ⟨#[40]⟩ (by decide)).mono ?_;rintro e Dq ⟨ey,hres⟩;have es:(⟨#[40]⟩:ByteArray).data.toList=[40]:=rfl;rw [es] at hres;clear es;have CG:=ey.size;have gO:=iP.trans ey iP.size;have br:=ey.keep gH (by omega) (by simp;omega);have bK:=ey.keep gP (by omega) (by simp;omega);have As:=yz.past ey (fun i hi=>by simp;omega);have zZ:=yj.past ey (fun i hi=>by simp;omega);clear iP gH gP ki ey yz yj
       cases ht15:Ps.need I [40] n14 with
       | err c0 a0=>
        rw [ht15] at hres;obtain rfl:e=_:=hres;exact ⟨rfl,Post.fail (by rw [iX.out,ht15];rfl) gO⟩
       | ok u15 n15=>
        rw [ht15] at hres;obtain ⟨MH,ek,_,rfl,rfl⟩:=hres;have GV:Hid (Ps.node I nx=(Ps.row I (Ps.decl I) 30 [] n15).bind fun out n16=>(Ps.need I [41] n16).bind fun _ n18=>(Ps.need I [123] n18).bind fun _ n19=>(Ps.lines I (I.L.length-n19+1) [] [] n19).bind fun p n15=>.ok ⟨s,((I.pk nx).place:Int),dB,inn,out,p.1,p.2⟩ n15):=by
         show Ps.node I nx=_
         rw [iX.out,ht15];rfl
        clear ht15 iX;go_wp2_with fail;refine (zES zFa ek (hG.far gO) 30 (by decide)).mono ?_;rintro e j7 ⟨ew,hres⟩;have Ci:=ew.size;have jZ:=gO.trans ew gO.size;have gj:=ew.keep br (by omega) (by simp;omega);have dh:=ew.keep bK (by omega) (by simp;omega);have yx:=As.past ew (fun i hi=>by simp;omega);have yW:=zZ.past ew (fun i hi=>by simp;omega);clear gO br bK ek ew As zZ
        cases ht16:Ps.row I (Ps.decl I) 30 [] n15 with
        | err c0 a0=>
         rw [ht16] at hres;obtain rfl:e=_:=hres;exact ⟨rfl,Post.fail (by rw [GV.out,ht16];rfl) jZ⟩
        | ok out n16=>
         rw [ht16] at hres;obtain ⟨qJ,mx,Cq,rfl,hV⟩:=hres;obtain ⟨aO,cO,rfl,OM,F7⟩:=hV.form;unfold maxLen at F7;have zy:=hV.wide (ok':=fun i=>w1.heap.size<i) (fun i hi _=>by omega);have mh:Hid (Ps.node I nx=(Ps.need I [41] n16).bind fun _ n18=>(Ps.need I [123] n18).bind fun _ n19=>(Ps.lines I (I.L.length-n19+1) [] [] n19).bind fun p n15=>.ok ⟨s,((I.pk nx).place:Int),dB,inn,out,p.1,p.2⟩ n15):=by
          show Ps.node I nx=_
          rw [GV.out,ht16];rfl
         clear ht16 hV GV;have tc:=co dh 4;have tf:=fo dh 4;simp at tc;have dd:=zAD dh 4 (.slice aO out.length cO);have dQ:=zAI gj (p:=⟨w1.heap.size,4,none⟩) (by simp;omega) (.slice aO out.length cO);have jO:=mx.set (p:=⟨w1.heap.size,4,none⟩) (by simp;omega) (by simp;omega) (.slice aO out.length cO);have iI:=jZ.set (p:=⟨w1.heap.size,4,none⟩) (by simp;omega) (.slice aO out.length cO);have rp:(j7.setCell ⟨w1.heap.size,4,none⟩ (.slice aO out.length cO)).heap.size=j7.heap.size:=(by simp [World.setCell]);simp at dd;have tK:=yx.set (p:=⟨w1.heap.size,4,none⟩) (by simp) (.slice aO out.length cO);have tj:=yW.set (p:=⟨w1.heap.size,4,none⟩) (by simp) (.slice aO out.length cO);have uL:=zy.set (p:=⟨w1.heap.size,4,none⟩) (by simp) (.slice aO out.length cO);go_wp2_with fail;generalize j7.setCell ⟨w1.heap.size,4,none⟩ (.slice aO out.length cO)=Di at dd dQ jO iI rp tK tj uL ⊢;clear tc tf jZ gj dh mx yx yW zy;refine (zAJ jO ⟨#[41]⟩ (by decide)).mono ?_;rintro e CZ ⟨dG,hres⟩;have es:(⟨#[41]⟩:ByteArray).data.toList=[41]:=rfl;rw [es] at hres;clear es;have DH:=dG.size;have lm:=iI.trans dG iI.size;have cv:=dG.keep dQ (by omega) (by simp;omega);have cT:=dG.keep dd (by omega) (by simp;omega);have BK:=tK.past dG (fun i hi=>by simp;omega);have Ax:=tj.past dG (fun i hi=>by simp;omega);have xZ:=uL.past dG (fun i hi=>by simp;omega);clear iI dQ dd jO dG tK tj uL
         cases ht18:Ps.need I [41] n16 with
         | err c0 a0=>
          rw [ht18] at hres;obtain rfl:e=_:=hres;exact ⟨rfl,Post.fail (by rw [mh.out,ht18];rfl) lm⟩
         | ok u18 n18=>
          rw [ht18] at hres;obtain ⟨rK,nK,_,rfl,rfl⟩:=hres;have En:Hid (Ps.node I nx=(Ps.need I [123] n18).bind fun _ n19=>(Ps.lines I (I.L.length-n19+1) [] [] n19).bind fun p n15=>.ok ⟨s,((I.pk nx).place:Int),dB,inn,out,p.1,p.2⟩ n15):=by
           show Ps.node I nx=_
           rw [mh.out,ht18];rfl
          clear ht18 mh;go_wp2_with fail;refine (zAJ nK ⟨#[123]⟩ (by decide)).mono ?_;rintro e rG ⟨sO,hres⟩;have es:(⟨#[123]⟩:ByteArray).data.toList=[123]:=rfl;rw [es] at hres;clear es;have Qa:=sO.size;have Jx:=lm.trans sO lm.size;have Gp:=sO.keep cv (by omega) (by simp;omega);have BE:=sO.keep cT (by omega) (by simp;omega);have yy:=BK.past sO (fun i hi=>by simp;omega);have yH:=Ax.past sO (fun i hi=>by simp;omega);have AN:=xZ.past sO (fun i hi=>by simp;omega);clear lm cv cT nK sO BK Ax xZ
          cases ht19:Ps.need I [123] n18 with
          | err c0 a0=>
           rw [ht19] at hres;obtain rfl:e=_:=hres;exact ⟨rfl,Post.fail (by rw [En.out,ht19];rfl) Jx⟩
          | ok u19 n19=>
           rw [ht19] at hres;obtain ⟨OA,IG,_,rfl,rfl⟩:=hres;have Iu:Hid (Ps.node I nx=(Ps.lines I (I.L.length-n19+1) [] [] n19).bind fun p n15=>.ok ⟨s,((I.pk nx).place:Int),dB,inn,out,p.1,p.2⟩ n15):=by
            show Ps.node I nx=_
            rw [En.out,ht19];rfl
           clear ht19 En;have J6:=yy.wide (ok':=fun i=>w1.heap.size<i/\i<rG.heap.size) (fun i hi hl=>⟨hi,hl⟩);have Im:=yH.wide (ok':=fun i=>w1.heap.size<i/\i<rG.heap.size) (fun i hi hl=>⟨hi,hl⟩);have J8:=AN.wide (ok':=fun i=>w1.heap.size<i/\i<rG.heap.size) (fun i hi hl=>⟨hi,hl⟩);clear yy yH AN;have uH:=Jx;go_wp2;go_loopg [] (I.L.length-n19+1) (fun k wr=>∃ (m:Nat) (loc:List De) (eqs:List Eqn),I.L.length+1<=m+k/\nx<=m/\Rd wr b g cap I.L I.len m 0/\Aside [b,w1.heap.size] rG.heap.size rG wr /\
             LineSt rG.heap.size w1.heap.size s (t.place:Int) (.slice aZ dB.length cZ) (.slice aI inn.length cI) (.slice aO out.length cO) wr loc eqs/\Hid (Ps.node I nx=(Ps.lines I k loc eqs m).bind fun p n15=>.ok ⟨s,((I.pk nx).place:Int),dB,inn,out,p.1,p.2⟩ n15))
           case atStart=>exact ⟨n19,[],[],by omega,by omega,IG,Aside.refl _,⟨_,_,fun _=>False,fun _=>False,BE,OwnX.nil,OwnX.nil,fun i hi=>hi.elim,fun i hi=>hi.elim,fun i hi=>hi.elim⟩,Iu⟩
           case round=>
            clear Iu BE IG;obtain ⟨m,loc,eqs,hk,iu,hr,ha,hS,aw⟩:=hrel;have OT:=hr.le;obtain ⟨f,rfl⟩:∃ f,gk=f+1:=⟨gk-1,by omega⟩;have eH:=zAA aw.out;rw [lines_succ] at eH;clear aw;have zr:=ha.size;go_wp2_with fail;refine (zAH hr ⟨#[125]⟩ (by decide)).mono ?_;rintro e Ey ⟨rfl,vM,wC⟩;have es:(⟨#[125]⟩:ByteArray).data.toList=[125]:=rfl;rw [es] at vM;simp only [es];clear es;have Qe:=wC.size;have iY:Aside [b,w1.heap.size] rG.heap.size rG Ey:=ha.trans (zCP wC) (by omega);have zw:LineSt rG.heap.size w1.heap.size s (t.place:Int) (.slice aZ dB.length cZ) (.slice aI inn.length cI) (.slice aO out.length cO) Ey loc eqs:=by
             obtain ⟨vL,vE,okL,okE,q1,q2,q3,q4,q5,q6⟩:=hS;exact ⟨vL,vE,okL,okE,wC.keep q1 (zAB q1) (by simp;omega),q2.past wC (fun i hi=>by have:=q4 i hi;simp;omega),q3.past wC (fun i hi=>by have:=q5 i hi;simp;omega),q4,q5,q6⟩
            clear hr ha hS wC
            cases hq:Ps.sees I [125] m with
            | false=>
             rw [hq] at vM eH;simp only [Bool.false_eq_true,if_false] at vM;go_wp2_with fail;refine (line_any aV hL vM ((hG.far uH).far2 iY (by have:=hG.one;omega) (by omega)) (by have:=hG.one;omega) (by omega) (by omega) (by omega) (by omega) (by omega) (by omega) zw).mono ?_;rintro e Qr ⟨NU,hres⟩;have AV:=iY.trans NU nR
             cases lH:Ps.line I loc eqs m with
             | err c0 a0=>
              rw [lH] at hres;obtain rfl:e=_:=hres;exact ⟨rfl,Post.fail (by rw [eH.out];simp only [Bool.false_eq_true,if_false];rw [lH];rfl) (uH.trans (AV.mono (B':=w.heap.size) (by omega) |>.wide (fun k hk hn hm=>by simp at hm hn;omega)) (by omega))⟩
             | ok pp n21=>
              rw [lH] at hres;obtain ⟨N1,N9,rfl,G9⟩:=hres;have bj:Hid (Ps.node I nx=(Ps.lines I f pp.1 pp.2 n21).bind fun p n15=>.ok ⟨s,((I.pk nx).place:Int),dB,inn,out,p.1,p.2⟩ n15):=by
               show Ps.node I nx=_
               rw [eH.out];simp only [Bool.false_eq_true,if_false];rw [lH];rfl
              go_wp2;go_roundg f
              case measure=>omega
              case rel=>exact ⟨n21,pp.1,pp.2,by omega,by omega,N9,AV,G9,bj⟩
            | true=>
             rw [hq] at vM eH;simp only [if_true] at vM;obtain ⟨vL,vE,okL,okE,lO,oL,oE,aM,dk,cX⟩:=zw;obtain ⟨aL,cL,rfl,rE,mF⟩:=oL.form;obtain ⟨aE,cE,rfl,M7,Hj⟩:=oE.form;unfold maxLen at mF Hj;have kJ:=iY.keep Gp (by omega) (by simp;omega);have Nh:Aside [b] w.heap.size w Ey:=uH.trans (iY.mono (B':=w.heap.size) (by omega) |>.wide (fun k hk hn hm=>by simp at hm hn;omega)) (by omega);have Pk:=(J6.keep iY.size (fun i hi hl=>iY.block i hi.2 (by simp;omega))).wide (ok':=fun i=>w.heap.size<i) (fun i hi _=>by omega);have LW:=(Im.keep iY.size (fun i hi hl=>iY.block i hi.2 (by simp;omega))).wide (ok':=fun i=>w.heap.size<i) (fun i hi _=>by omega);have Nn:=(J8.keep iY.size (fun i hi hl=>iY.block i hi.2 (by simp;omega))).wide (ok':=fun i=>w.heap.size<i) (fun i hi _=>by omega);have LI:=oL.row.wide (ok':=fun i=>w.heap.size<i) (fun i hi _=>by have:=aM i hi;omega);have OQ:=oE.row.wide (ok':=fun i=>w.heap.size<i) (fun i hi _=>by have:=dk i hi;omega);have fa:=fun o=>fo kJ o;clear oL oE aM dk cX iY J6 Im J8;have ay:=co kJ 0;have bv:=co lO 0;have aB:=co kJ 1;have bz:=co lO 1;have az:=co kJ 2;have bw:=co lO 2;have aD:=co kJ 3;have bU:=co lO 3;have aF:=co kJ 4;have bT:=co lO 4;have aH:=co kJ 5;have dl:=co lO 5;have Jd:=co kJ 6;have Mp:=co lO 6;simp only [gT,gZ,gS] at ay bv aB bz az bw aD bU aF bT aH dl Jd Mp;go_wp2;refine bodyPost_ret (v:=.agg #[.string s,.int .i64 (t.place:Int),.slice aZ dB.length cZ,.slice aI inn.length cI,.slice aO out.length cO,.slice aL loc.length cL,.slice aE eqs.length cE]) (by simp [results,Tryz.results107,go_sem,ay,aB,az,aD,aF,aH,Jd]) rfl ?_;exact Post.good (v:=Nd.mk s ((I.pk nx).place:Int) dB inn out loc eqs) (by rw [eH.out];rfl) (Nh.put7 (k:=w.heap.size) nR ⟨s,(t.place:Int),aZ,dB.length,cZ,aI,inn.length,cI,aO,out.length,cO,aL,loc.length,cL,aE,eqs.length,cE⟩) (by omega) (vM.put7 (k:=w.heap.size) (by omega) (by omega) ⟨s,(t.place:Int),aZ,dB.length,cZ,aI,inn.length,cI,aO,out.length,cO,aL,loc.length,cL,aE,eqs.length,cE⟩) ⟨⟨s,(t.place:Int),aZ,dB.length,cZ,aI,inn.length,cI,aO,out.length,cO,aL,loc.length,cL,aE,eqs.length,cE⟩,rfl,⟨rfl,by rw [<-HT.out],zAg ((Pk.put7 (k:=w.heap.size) (by omega) ⟨s,(t.place:Int),aZ,dB.length,cZ,aI,inn.length,cI,aO,out.length,cO,aL,loc.length,cL,aE,eqs.length,cE⟩).wide (fun i hi _=>Nat.le_of_lt hi)),zDn ((LW.put7 (k:=w.heap.size) (by omega) ⟨s,(t.place:Int),aZ,dB.length,cZ,aI,inn.length,cI,aO,out.length,cO,aL,loc.length,cL,aE,eqs.length,cE⟩).wide (fun i hi _=>Nat.le_of_lt hi)),zDn ((Nn.put7 (k:=w.heap.size) (by omega) ⟨s,(t.place:Int),aZ,dB.length,cZ,aI,inn.length,cI,aO,out.length,cO,aL,loc.length,cL,aE,eqs.length,cE⟩).wide (fun i hi _=>Nat.le_of_lt hi)),zDn ((LI.put7 (k:=w.heap.size) (by omega) ⟨s,(t.place:Int),aZ,dB.length,cZ,aI,inn.length,cI,aO,out.length,cO,aL,loc.length,cL,aE,eqs.length,cE⟩).wide (fun i hi _=>Nat.le_of_lt hi)),eqs_row ((OQ.put7 (k:=w.heap.size) (by omega) ⟨s,(t.place:Int),aZ,dB.length,cZ,aI,inn.length,cI,aO,out.length,cO,aL,loc.length,cL,aE,eqs.length,cE⟩).wide (fun i hi _=>Nat.le_of_lt hi))⟩⟩
end Go.Proofs.YtkfgbhlpjkkgfaaGreatDoor
