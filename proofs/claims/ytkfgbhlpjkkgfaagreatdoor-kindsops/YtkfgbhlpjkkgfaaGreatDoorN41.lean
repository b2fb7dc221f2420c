import Derived.Test.YtkfgbhlpjkkgfaaGreatDoorN40
set_option linter.unusedVariables false
set_option linter.unusedSimpArgs false
set_option maxHeartbeats 64000000
set_option maxRecDepth 100000
namespace Go.Proofs.YtkfgbhlpjkkgfaaGreatDoor
open Go.RowKit Go.IntWalk
def put7 (w:World) (k:Nat) (y:NdV):World:=(((((((w.setCell ⟨k,0,none⟩ (.string y.name)).setCell ⟨k,1,none⟩ (.int .i64 y.place)).setCell ⟨k,2,none⟩ (.slice y.a2 y.n2 y.c2)).setCell ⟨k,3,none⟩ (.slice y.a3 y.n3 y.c3)).setCell ⟨k,4,none⟩ (.slice y.a4 y.n4 y.c4)).setCell ⟨k,5,none⟩ (.slice y.a5 y.n5 y.c5)).setCell ⟨k,6,none⟩ (.slice y.a6 y.n6 y.c6))
theorem put7_size (w:World) (k:Nat) (y:NdV):(put7 w k y).heap.size=w.heap.size:=by simp [put7,World.setCell]
theorem put7_block (w:World) (k:Nat) (y:NdV) (i:Nat) (h:i≠k):(put7 w k y).heap[i]?=w.heap[i]?:=by
 unfold put7;rw [Below.heap_setCell _ _ _ _ h,Below.heap_setCell _ _ _ _ h,Below.heap_setCell _ _ _ _ h,Below.heap_setCell _ _ _ _ h,Below.heap_setCell _ _ _ _ h,Below.heap_setCell _ _ _ _ h,Below.heap_setCell _ _ _ _ h]
theorem Rd.put7 {w:World} {b g cap:Nat} {L:List Tk.Tok} {len nx op:Nat} (h:Rd w b g cap L len nx op) {k:Nat} (hb:k≠b) (hg:k≠g) (y:NdV):Rd (put7 w k y) b g cap L len nx op :=
 ⟨(put7_block _ _ _ _ hb.symm).trans h.here,h.toks.keep (put7_block _ _ _ _ hg.symm),h.apart,by rw [put7_size];exact h.gb,h.le,h.lc,h.cm⟩
theorem Aside.put7 {S:List Nat} {B:Nat} {w w':World} (h:Aside S B w w') {k:Nat} (hk:B≤k) (y:NdV):Aside S B w (put7 w' k y):=by
 unfold YtkfgbhlpjkkgfaaGreatDoor.put7;exact (((((((h.set (p:=⟨k,0,none⟩) hk _).set (p:=⟨k,1,none⟩) hk _).set (p:=⟨k,2,none⟩) hk _).set (p:=⟨k,3,none⟩) hk _).set (p:=⟨k,4,none⟩) hk _).set (p:=⟨k,5,none⟩) hk _).set (p:=⟨k,6,none⟩) hk _)
theorem HRow.put7 {α:Type} {T:Kind α} {ok:Nat→Prop} {w:World} {v:Value} {l:List α} (h:HRow T ok w v l) {k:Nat} (hk:¬ok k) (y:NdV):HRow T ok (put7 w k y) v l :=
 h.keep (by rw [put7_size];exact Nat.le_refl _) fun i hi _=>put7_block _ _ _ _ (fun e=>hk (e ▸ hi))
def ndV:Nat→World→Value→Nd→Prop:=fun B w x q=>∃ y:NdV,x=.agg #[.string y.name,.int .i64 y.place,.slice y.a2 y.n2 y.c2,.slice y.a3 y.n3 y.c3,.slice y.a4 y.n4 y.c4,.slice y.a5 y.n5 y.c5,.slice y.a6 y.n6 y.c6]∧HNd (fun i=>B≤i) w y q
theorem lines_succ {I:Inp} {f:Nat} {loc:List De} {eqs:List Eqn} {n:Nat}:Ps.lines I (f+1) loc eqs n=if Ps.sees I [125] n=true then .ok (loc,eqs) (n+1) else (Ps.line I loc eqs n).bind fun p n1=>Ps.lines I f p.1 p.2 n1:=rfl
namespace Ps
def nodeO (I:Inp) (at0:Int) (s:ByteArray) (z:List ByteArray) (inn:List De) (n9:Nat):Res Nd :=
 (need I [45,62] n9).bind fun _ n10=>(need I [40] n10).bind fun _ n11=>(row I (decl I) 30 [] n11).bind fun out n12=>(need I [41] n12).bind fun _ n13=>(need I [123] n13).bind fun _ n14=>
  (lines I (I.L.length-n14+1) [] [] n14).bind fun p n15=>.ok ⟨s,at0,z,inn,out,p.1,p.2⟩ n15
def nodeI (I:Inp) (at0:Int) (s:ByteArray) (z:List ByteArray) (n5:Nat):Res Nd :=
 (need I [40] n5).bind fun _ n6=>(if sees I [41] n6=true then .ok [] (n6+1) else (row I (decl I) 30 [] n6).bind fun l n7=>(need I [41] n7).bind fun _ n8=>.ok l n8).bind fun inn n9=>nodeO I at0 s z inn n9
end Ps
theorem node_eq (I:Inp) (n:Nat):Ps.node I n=(Ps.need I [110,111,100,101] n).bind fun _ n1=>(Ps.name I n1).bind fun s n2 =>
  (if Ps.sees I [60] n2=true then (Ps.row I (Ps.name I) 3 [] (n2+1)).bind fun z n3=>(Ps.need I [62] n3).bind fun _ n4=>.ok z n4 else .ok [] n2).bind fun z n5=>Ps.nodeI I (I.pk n).place s z n5:=rfl
theorem node_any (hform:FormC) {b g cap:Nat} {I:Inp} (hL:I.L.length≤1099511627776):Does 107 b g cap I 0 ndV (Ps.node I):=by
 intro nx w h hG;have hb:=h.bb;have hg:=h.gb;have hmf:=makes;have h0:=h.alloc (.cells #[.string ⟨#[]⟩,.int .i64 0,.slice none 0 0,.slice none 0 0,.slice none 0 0,.slice none 0 0,.slice none 0 0] 47 (0,0));have hN0:=heap_new w (.cells #[.string ⟨#[]⟩,.int .i64 0,.slice none 0 0,.slice none 0 0,.slice none 0 0,.slice none 0 0,.slice none 0 0] 47 (0,0));have z0:(w.alloc (.cells #[.string ⟨#[]⟩,.int .i64 0,.slice none 0 0,.slice none 0 0,.slice none 0 0,.slice none 0 0,.slice none 0 0] 47 (0,0))).heap.size=w.heap.size+1:=(by simp);have A0:=(Aside.refl (S:=[b]) (B:=w.heap.size) w).alloc nR (.cells #[.string ⟨#[]⟩,.int .i64 0,.slice none 0 0,.slice none 0 0,.slice none 0 0,.slice none 0 0,.slice none 0 0] 47 (0,0));have hp:=@peek_any _ _ _ _ _ _ _ _ h0;obtain ⟨t,ht⟩:=nmQ (I.pk nx);have hpk:peekT I.L I.len nx=t:=ht.symm;rw [hpk] at hp;unfold tokV at hp;have hf:=fun x w=>tokF1 t x w;have HT:=hide ht;clear hpk ht;go_enter Tryz.func107,Tryz.ntmps107;go_wp2_with fail;generalize w.alloc (.cells #[.string ⟨#[]⟩,.int .i64 0,.slice none 0 0,.slice none 0 0,.slice none 0 0,.slice none 0 0,.slice none 0 0] 47 (0,0))=W at h0 hN0 z0 A0 hp ⊢;refine hp.mono ?_;rintro e w1 ⟨rfl,b1⟩;have z1:=b1.size;have h1:=(h0.below b1).alloc (.cells #[.string ⟨#[]⟩,.int .i64 (t.place:Int),.slice none 0 0,.slice none 0 0,.slice none 0 0,.slice none 0 0,.slice none 0 0] 47 (0,0));have A1:=(A0.trans (aside b1) A0.size).alloc (by omega) (.cells #[.string ⟨#[]⟩,.int .i64 (t.place:Int),.slice none 0 0,.slice none 0 0,.slice none 0 0,.slice none 0 0,.slice none 0 0] 47 (0,0));have hN1:=kA ((aside b1 (S:=[])).keep hN0 (lt_of hN0) (by simp)) (.cells #[.string ⟨#[]⟩,.int .i64 (t.place:Int),.slice none 0 0,.slice none 0 0,.slice none 0 0,.slice none 0 0,.slice none 0 0] 47 (0,0));have hT1:=heap_new w1 (.cells #[.string ⟨#[]⟩,.int .i64 (t.place:Int),.slice none 0 0,.slice none 0 0,.slice none 0 0,.slice none 0 0,.slice none 0 0] 47 (0,0));have y1:(w1.alloc (.cells #[.string ⟨#[]⟩,.int .i64 (t.place:Int),.slice none 0 0,.slice none 0 0,.slice none 0 0,.slice none 0 0,.slice none 0 0] 47 (0,0))).heap.size=w1.heap.size+1:=(by simp);clear hp h0 A0 hN0 b1;go_wp2_with fail;generalize w1.alloc (.cells #[.string ⟨#[]⟩,.int .i64 (t.place:Int),.slice none 0 0,.slice none 0 0,.slice none 0 0,.slice none 0 0,.slice none 0 0] 47 (0,0))=W1 at h1 A1 hN1 hT1 y1 ⊢;refine (need_any h1 ⟨#[110,111,100,101]⟩ (by decide)).mono ?_;rintro e w2 ⟨a2,hres⟩;have es:(⟨#[110,111,100,101]⟩:ByteArray).data.toList=[110,111,100,101]:=rfl;rw [es] at hres;clear es;have z2:=a2.size;have A2:=A1.trans a2 A1.size;have hN2:=a2.keep hN1 (by omega) (by simp;omega);have hT2:=a2.keep hT1 (by omega) (by simp;omega);clear A1 hN1 hT1 h1 a2
 cases ht2:Ps.need I [110,111,100,101] nx with
 | err c0 a0=>
  rw [ht2] at hres;obtain rfl:e=_:=hres;exact ⟨rfl,Post.fail (by rw [node_eq,ht2];rfl) A2⟩
 | ok u2 n2=>
  rw [ht2] at hres;obtain ⟨le2,h2,_,rfl,rfl⟩:=hres;have m2:Hid (Ps.node I nx=(Ps.name I n2).bind fun s n2=>(if Ps.sees I [60] n2=true then (Ps.row I (Ps.name I) 3 [] (n2+1)).bind fun z n3=>(Ps.need I [62] n3).bind fun _ n4=>.ok z n4 else .ok [] n2).bind fun z n5=>Ps.nodeI I ((I.pk nx).place:Int) s z n5):=by
   show Ps.node I nx=_
   rw [node_eq,ht2];rfl
  clear ht2;go_wp2_with fail;refine (name_any h2).mono ?_;rintro e w3 ⟨a3,hres⟩;have z3:=a3.size;have A3:=A2.trans a3 A2.size;have hN3:=a3.keep hN2 (by omega) (by simp;omega);have hT3:=a3.keep hT2 (by omega) (by simp;omega);clear A2 hN2 hT2 h2 a3
  cases ht3:Ps.name I n2 with
  | err c0 a0=>
   rw [ht3] at hres;obtain rfl:e=_:=hres;exact ⟨rfl,Post.fail (by rw [m2.out,ht3];rfl) A3⟩
  | ok s n3=>
   rw [ht3] at hres;obtain ⟨le3,h3,_,rfl,rfl⟩:=hres;have m3:Hid (Ps.node I nx=(if Ps.sees I [60] n3=true then (Ps.row I (Ps.name I) 3 [] (n3+1)).bind fun z n3q=>(Ps.need I [62] n3q).bind fun _ n4=>.ok z n4 else .ok [] n3).bind fun z n5=>Ps.nodeI I ((I.pk nx).place:Int) s z n5):=by
    show Ps.node I nx=_
    rw [m2.out,ht3];rfl
   clear ht3 m2;have tc:=co hT3 0;have tf:=fo hT3 0;simp at tc;have hT4:=set_in hT3 0 (.string s);have hN4:=keep_set hN3 (p:=⟨w1.heap.size,0,none⟩) (by simp;omega) (.string s);have h4:=h3.set (p:=⟨w1.heap.size,0,none⟩) (by simp;omega) (by simp;omega) (.string s);have A4:=A3.set (p:=⟨w1.heap.size,0,none⟩) (by simp;omega) (.string s);have z4:(w3.setCell ⟨w1.heap.size,0,none⟩ (.string s)).heap.size=w3.heap.size:=(by simp [World.setCell]);simp at hT4;go_wp2_with fail;generalize w3.setCell ⟨w1.heap.size,0,none⟩ (.string s)=w4 at hT4 hN4 h4 A4 z4  ⊢;clear tc tf A3 hN3 hT3 h3;refine (take_any h4 ⟨#[60]⟩ (by decide)).mono ?_;rintro e w5 ⟨rfl,h5,a5⟩;have es:(⟨#[60]⟩:ByteArray).data.toList=[60]:=rfl;rw [es] at h5;simp only [es];clear es;have z5:=a5.size;have A5:=A4.trans a5 A4.size;have hN5:=a5.keep hN4 (by omega) (by simp;omega);have hT5:=a5.keep hT4 (by omega) (by simp;omega);clear A4 hN4 hT4 h4 a5
   cases hq5:Ps.sees I [60] n3 with
   | false=>
    rw [hq5] at h5;simp only [Bool.false_eq_true,if_false] at h5;have mI:Hid (Ps.node I nx=Ps.nodeI I ((I.pk nx).place:Int) s [] n3):=by
     show Ps.node I nx=_
     rw [m3.out,hq5];rfl
    clear m3;go_wp2_with fail;refine (need_any h5 ⟨#[40]⟩ (by decide)).mono ?_;rintro e w9 ⟨a9,hres⟩;have es:(⟨#[40]⟩:ByteArray).data.toList=[40]:=rfl;rw [es] at hres;clear es;have z9:=a9.size;have A9:=A5.trans a9 A5.size;have hN9:=a9.keep hN5 (by omega) (by simp;omega);have hT9:=a9.keep hT5 (by omega) (by simp;omega);clear A5 hN5 hT5 h5 a9
    cases ht9:Ps.need I [40] n3 with
    | err c0 a0=>
     rw [ht9] at hres;obtain rfl:e=_:=hres;exact ⟨rfl,Post.fail (by rw [mI.out];unfold Ps.nodeI;rw [ht9];rfl) A9⟩
    | ok u9 n9=>
     rw [ht9] at hres;obtain ⟨le9,h9,_,rfl,rfl⟩:=hres;have m9:Hid (Ps.node I nx=(if Ps.sees I [41] n9=true then .ok [] (n9+1) else (Ps.row I (Ps.decl I) 30 [] n9).bind fun l n7=>(Ps.need I [41] n7).bind fun _ n8=>.ok l n8).bind fun inn n9=>Ps.nodeO I ((I.pk nx).place:Int) s [] inn n9):=by
      show Ps.node I nx=_
      rw [mI.out];unfold Ps.nodeI;rw [ht9];rfl
     clear ht9 mI;go_wp2_with fail;refine (take_any h9 ⟨#[41]⟩ (by decide)).mono ?_;rintro e w10 ⟨rfl,h10,a10⟩;have es:(⟨#[41]⟩:ByteArray).data.toList=[41]:=rfl;rw [es] at h10;simp only [es];clear es;have z10:=a10.size;have A10:=A9.trans a10 A9.size;have hN10:=a10.keep hN9 (by omega) (by simp;omega);have hT10:=a10.keep hT9 (by omega) (by simp;omega);clear A9 hN9 hT9 h9 a10
     cases hq10:Ps.sees I [41] n9 with
     | true=>
      rw [hq10] at h10;simp only [if_true] at h10;have mO:Hid (Ps.node I nx=Ps.nodeO I ((I.pk nx).place:Int) s [] [] (n9+1)):=by
       show Ps.node I nx=_
       rw [m9.out,hq10];rfl
      clear m9;obtain ⟨nq,hnq⟩:=nmQ (n9+1);rw [←hnq] at h10 mO;have leq:n9≤nq:=(by omega);clear hnq;go_wp2_with fail;refine (need_any h10 ⟨#[45,62]⟩ (by decide)).mono ?_;rintro e w14 ⟨a14,hres⟩;have es:(⟨#[45,62]⟩:ByteArray).data.toList=[45,62]:=rfl;rw [es] at hres;clear es;have z14:=a14.size;have A14:=A10.trans a14 A10.size;have hN14:=a14.keep hN10 (by omega) (by simp;omega);have hT14:=a14.keep hT10 (by omega) (by simp;omega);clear A10 hN10 hT10 h10 a14
      cases ht14:Ps.need I [45,62] nq with
      | err c0 a0=>
       rw [ht14] at hres;obtain rfl:e=_:=hres;exact ⟨rfl,Post.fail (by rw [mO.out];unfold Ps.nodeO;rw [ht14];rfl) A14⟩
      | ok u14 n14=>
       rw [ht14] at hres;obtain ⟨le14,h14,_,rfl,rfl⟩:=hres;have m14:Hid (Ps.node I nx=(Ps.need I [40] n14).bind fun _ n15=>(Ps.row I (Ps.decl I) 30 [] n15).bind fun out n16=>(Ps.need I [41] n16).bind fun _ n18=>(Ps.need I [123] n18).bind fun _ n19=>(Ps.lines I (I.L.length-n19+1) [] [] n19).bind fun p n15=>.ok ⟨s,((I.pk nx).place:Int),[],[],out,p.1,p.2⟩ n15):=by
        show Ps.node I nx=_
        rw [mO.out];unfold Ps.nodeO;rw [ht14];rfl
       clear ht14 mO;go_wp2_with fail;refine (need_any h14 ⟨#[40]⟩ (by decide)).mono ?_;rintro e w15 ⟨a15,hres⟩;have es:(⟨#[40]⟩:ByteArray).data.toList=[40]:=rfl;rw [es] at hres;clear es;have z15:=a15.size;have A15:=A14.trans a15 A14.size;have hN15:=a15.keep hN14 (by omega) (by simp;omega);have hT15:=a15.keep hT14 (by omega) (by simp;omega);clear A14 hN14 hT14 h14 a15
       cases ht15:Ps.need I [40] n14 with
       | err c0 a0=>
        rw [ht15] at hres;obtain rfl:e=_:=hres;exact ⟨rfl,Post.fail (by rw [m14.out,ht15];rfl) A15⟩
       | ok u15 n15=>
        rw [ht15] at hres;obtain ⟨le15,h15,_,rfl,rfl⟩:=hres;have m15:Hid (Ps.node I nx=(Ps.row I (Ps.decl I) 30 [] n15).bind fun out n16=>(Ps.need I [41] n16).bind fun _ n18=>(Ps.need I [123] n18).bind fun _ n19=>(Ps.lines I (I.L.length-n19+1) [] [] n19).bind fun p n15=>.ok ⟨s,((I.pk nx).place:Int),[],[],out,p.1,p.2⟩ n15):=by
         show Ps.node I nx=_
         rw [m14.out,ht15];rfl
        clear ht15 m14;go_wp2_with fail;refine (rowDecl_any decl_any h15 (hG.far A15) 30 (by decide)).mono ?_;rintro e w16 ⟨a16,hres⟩;have z16:=a16.size;have A16:=A15.trans a16 A15.size;have hN16:=a16.keep hN15 (by omega) (by simp;omega);have hT16:=a16.keep hT15 (by omega) (by simp;omega);clear A15 hN15 hT15 h15 a16
        cases ht16:Ps.row I (Ps.decl I) 30 [] n15 with
        | err c0 a0=>
         rw [ht16] at hres;obtain rfl:e=_:=hres;exact ⟨rfl,Post.fail (by rw [m15.out,ht16];rfl) A16⟩
        | ok out n16=>
         rw [ht16] at hres;obtain ⟨le16,h16,x16,rfl,hV⟩:=hres;obtain ⟨aO,cO,rfl,hO1',hO2'⟩:=hV.form;unfold maxLen at hO2';have rO16:=hV.wide (ok':=fun i=>w1.heap.size<i) (fun i hi _=>by omega);have m16:Hid (Ps.node I nx=(Ps.need I [41] n16).bind fun _ n18=>(Ps.need I [123] n18).bind fun _ n19=>(Ps.lines I (I.L.length-n19+1) [] [] n19).bind fun p n15=>.ok ⟨s,((I.pk nx).place:Int),[],[],out,p.1,p.2⟩ n15):=by
          show Ps.node I nx=_
          rw [m15.out,ht16];rfl
         clear ht16 hV m15;have tc:=co hT16 4;have tf:=fo hT16 4;simp at tc;have hT17:=set_in hT16 4 (.slice aO out.length cO);have hN17:=keep_set hN16 (p:=⟨w1.heap.size,4,none⟩) (by simp;omega) (.slice aO out.length cO);have h17:=h16.set (p:=⟨w1.heap.size,4,none⟩) (by simp;omega) (by simp;omega) (.slice aO out.length cO);have A17:=A16.set (p:=⟨w1.heap.size,4,none⟩) (by simp;omega) (.slice aO out.length cO);have z17:(w16.setCell ⟨w1.heap.size,4,none⟩ (.slice aO out.length cO)).heap.size=w16.heap.size:=(by simp [World.setCell]);simp at hT17;have rO17:=rO16.set (p:=⟨w1.heap.size,4,none⟩) (by simp) (.slice aO out.length cO);go_wp2_with fail;generalize w16.setCell ⟨w1.heap.size,4,none⟩ (.slice aO out.length cO)=w17 at hT17 hN17 h17 A17 z17 rO17 ⊢;clear tc tf A16 hN16 hT16 h16 rO16;refine (need_any h17 ⟨#[41]⟩ (by decide)).mono ?_;rintro e w18 ⟨a18,hres⟩;have es:(⟨#[41]⟩:ByteArray).data.toList=[41]:=rfl;rw [es] at hres;clear es;have z18:=a18.size;have A18:=A17.trans a18 A17.size;have hN18:=a18.keep hN17 (by omega) (by simp;omega);have hT18:=a18.keep hT17 (by omega) (by simp;omega);have rO18:=rO17.past a18 (fun i hi=>by simp;omega);clear A17 hN17 hT17 h17 a18 rO17
         cases ht18:Ps.need I [41] n16 with
         | err c0 a0=>
          rw [ht18] at hres;obtain rfl:e=_:=hres;exact ⟨rfl,Post.fail (by rw [m16.out,ht18];rfl) A18⟩
         | ok u18 n18=>
          rw [ht18] at hres;obtain ⟨le18,h18,_,rfl,rfl⟩:=hres;have m18:Hid (Ps.node I nx=(Ps.need I [123] n18).bind fun _ n19=>(Ps.lines I (I.L.length-n19+1) [] [] n19).bind fun p n15=>.ok ⟨s,((I.pk nx).place:Int),[],[],out,p.1,p.2⟩ n15):=by
           show Ps.node I nx=_
           rw [m16.out,ht18];rfl
          clear ht18 m16;go_wp2_with fail;refine (need_any h18 ⟨#[123]⟩ (by decide)).mono ?_;rintro e w19 ⟨a19,hres⟩;have es:(⟨#[123]⟩:ByteArray).data.toList=[123]:=rfl;rw [es] at hres;clear es;have z19:=a19.size;have A19:=A18.trans a19 A18.size;have hN19:=a19.keep hN18 (by omega) (by simp;omega);have hT19:=a19.keep hT18 (by omega) (by simp;omega);have rO19:=rO18.past a19 (fun i hi=>by simp;omega);clear A18 hN18 hT18 h18 a19 rO18
          cases ht19:Ps.need I [123] n18 with
          | err c0 a0=>
           rw [ht19] at hres;obtain rfl:e=_:=hres;exact ⟨rfl,Post.fail (by rw [m18.out,ht19];rfl) A19⟩
          | ok u19 n19=>
           rw [ht19] at hres;obtain ⟨le19,h19,_,rfl,rfl⟩:=hres;have m19:Hid (Ps.node I nx=(Ps.lines I (I.L.length-n19+1) [] [] n19).bind fun p n15=>.ok ⟨s,((I.pk nx).place:Int),[],[],out,p.1,p.2⟩ n15):=by
            show Ps.node I nx=_
            rw [m18.out,ht19];rfl
           clear ht19 m18;have rOb:=rO19.wide (ok':=fun i=>w1.heap.size<i∧i<w19.heap.size) (fun i hi hl=>⟨hi,hl⟩);clear rO19;have hAs:=A19;go_wp2;go_loopg [] (I.L.length-n19+1) (fun k wr=>∃ (m:Nat) (loc:List De) (eqs:List Eqn),I.L.length+1≤m+k∧nx≤m∧Rd wr b g cap I.L I.len m 0∧Aside [b,w1.heap.size] w19.heap.size w19 wr ∧
             LineSt w19.heap.size w1.heap.size s (t.place:Int) (.slice none 0 0) (.slice none 0 0) (.slice aO out.length cO) wr loc eqs∧Hid (Ps.node I nx=(Ps.lines I k loc eqs m).bind fun p n15=>.ok ⟨s,((I.pk nx).place:Int),[],[],out,p.1,p.2⟩ n15))
           case atStart=>exact ⟨n19,[],[],by omega,by omega,h19,Aside.refl _,⟨_,_,fun _=>False,fun _=>False,hT19,OwnX.nil,OwnX.nil,fun i hi=>hi.elim,fun i hi=>hi.elim,fun i hi=>hi.elim⟩,m19⟩
           case round=>
            clear m19 hT19 h19;obtain ⟨m,loc,eqs,hk,hle,hr,ha,hS,hmod⟩:=hrel;have hle2:=hr.le;obtain ⟨f,rfl⟩:∃ f,gk=f+1:=⟨gk-1,by omega⟩;have hst:=hide hmod.out;rw [lines_succ] at hst;clear hmod;have zr:=ha.size;go_wp2_with fail;refine (take_any hr ⟨#[125]⟩ (by decide)).mono ?_;rintro e w20 ⟨rfl,h20,a20⟩;have es:(⟨#[125]⟩:ByteArray).data.toList=[125]:=rfl;rw [es] at h20;simp only [es];clear es;have z20:=a20.size;have ha20:Aside [b,w1.heap.size] w19.heap.size w19 w20:=ha.trans (aside2 a20) (by omega);have hS20:LineSt w19.heap.size w1.heap.size s (t.place:Int) (.slice none 0 0) (.slice none 0 0) (.slice aO out.length cO) w20 loc eqs:=by
             obtain ⟨vL,vE,okL,okE,q1,q2,q3,q4,q5,q6⟩:=hS;exact ⟨vL,vE,okL,okE,a20.keep q1 (lt_of q1) (by simp;omega),q2.past a20 (fun i hi=>by have:=q4 i hi;simp;omega),q3.past a20 (fun i hi=>by have:=q5 i hi;simp;omega),q4,q5,q6⟩
            clear hr ha hS a20
            cases hq:Ps.sees I [125] m with
            | false=>
             rw [hq] at h20 hst;simp only [Bool.false_eq_true,if_false] at h20;go_wp2_with fail;refine (line_any hform hL h20 ((hG.far hAs).far2 ha20 (by have:=hG.one;omega) (by omega)) (by have:=hG.one;omega) (by omega) (by omega) (by omega) (by omega) (by omega) (by omega) hS20).mono ?_;rintro e w21 ⟨a21,hres⟩;have ha21:=ha20.trans a21 nR
             cases htl:Ps.line I loc eqs m with
             | err c0 a0=>
              rw [htl] at hres;obtain rfl:e=_:=hres;exact ⟨rfl,Post.fail (by rw [hst.out];simp only [Bool.false_eq_true,if_false];rw [htl];rfl) (hAs.trans (ha21.mono (B':=w.heap.size) (by omega) |>.wide (fun k hk hn hm=>by simp at hm hn;omega)) (by omega))⟩
             | ok pp n21=>
              rw [htl] at hres;obtain ⟨le21,h21,rfl,hS21⟩:=hres;have hmod2:Hid (Ps.node I nx=(Ps.lines I f pp.1 pp.2 n21).bind fun p n15=>.ok ⟨s,((I.pk nx).place:Int),[],[],out,p.1,p.2⟩ n15):=by
               show Ps.node I nx=_
               rw [hst.out];simp only [Bool.false_eq_true,if_false];rw [htl];rfl
              go_wp2;go_roundg f
              case measure=>omega
              case rel=>exact ⟨n21,pp.1,pp.2,by omega,by omega,h21,ha21,hS21,hmod2⟩
            | true=>
             rw [hq] at h20 hst;simp only [if_true] at h20;obtain ⟨vL,vE,okL,okE,hT20,oL,oE,hokL,hokE,hdis⟩:=hS20;obtain ⟨aL,cL,rfl,hL1,hL2⟩:=oL.form;obtain ⟨aE,cE,rfl,hE1,hE2⟩:=oE.form;unfold maxLen at hL2 hE2;have hN20:=ha20.keep hN19 (by omega) (by simp;omega);have A20:Aside [b] w.heap.size w w20:=hAs.trans (ha20.mono (B':=w.heap.size) (by omega) |>.wide (fun k hk hn hm=>by simp at hm hn;omega)) (by omega);have rOc:=(rOb.keep ha20.size (fun i hi hl=>ha20.block i hi.2 (by simp;omega))).wide (ok':=fun i=>w.heap.size<i) (fun i hi _=>by omega);have rLc:=oL.row.wide (ok':=fun i=>w.heap.size<i) (fun i hi _=>by have:=hokL i hi;omega);have rEc:=oE.row.wide (ok':=fun i=>w.heap.size<i) (fun i hi _=>by have:=hokE i hi;omega);have fa:=fun o=>fo hN20 o;clear oL oE hokL hokE hdis ha20 rOb;have ca0:=co hN20 0;have cb0:=co hT20 0;have ca1:=co hN20 1;have cb1:=co hT20 1;have ca2:=co hN20 2;have cb2:=co hT20 2;have ca3:=co hN20 3;have cb3:=co hT20 3;have ca4:=co hN20 4;have cb4:=co hT20 4;have ca5:=co hN20 5;have cb5:=co hT20 5;have ca6:=co hN20 6;have cb6:=co hT20 6;simp only [gT,gZ,gS] at ca0 cb0 ca1 cb1 ca2 cb2 ca3 cb3 ca4 cb4 ca5 cb5 ca6 cb6;go_wp2;refine bodyPost_ret (v:=.agg #[.string s,.int .i64 (t.place:Int),.slice none 0 0,.slice none 0 0,.slice aO out.length cO,.slice aL loc.length cL,.slice aE eqs.length cE]) (by simp [results,Tryz.results107,go_sem,ca0,ca1,ca2,ca3,ca4,ca5,ca6]) rfl ?_;exact Post.good (v:=Nd.mk s ((I.pk nx).place:Int) [] [] out loc eqs) (by rw [hst.out];rfl) (A20.put7 (k:=w.heap.size) nR ⟨s,(t.place:Int),none,0,0,none,0,0,aO,out.length,cO,aL,loc.length,cL,aE,eqs.length,cE⟩) (by omega) (h20.put7 (k:=w.heap.size) (by omega) (by omega) ⟨s,(t.place:Int),none,0,0,none,0,0,aO,out.length,cO,aL,loc.length,cL,aE,eqs.length,cE⟩) ⟨⟨s,(t.place:Int),none,0,0,none,0,0,aO,out.length,cO,aL,loc.length,cL,aE,eqs.length,cE⟩,rfl,⟨rfl,by rw [←HT.out],names_row HRow.nil,decls_row HRow.nil,decls_row ((rOc.put7 (k:=w.heap.size) (by omega) ⟨s,(t.place:Int),none,0,0,none,0,0,aO,out.length,cO,aL,loc.length,cL,aE,eqs.length,cE⟩).wide (fun i hi _=>Nat.le_of_lt hi)),decls_row ((rLc.put7 (k:=w.heap.size) (by omega) ⟨s,(t.place:Int),none,0,0,none,0,0,aO,out.length,cO,aL,loc.length,cL,aE,eqs.length,cE⟩).wide (fun i hi _=>Nat.le_of_lt hi)),eqs_row ((rEc.put7 (k:=w.heap.size) (by omega) ⟨s,(t.place:Int),none,0,0,none,0,0,aO,out.length,cO,aL,loc.length,cL,aE,eqs.length,cE⟩).wide (fun i hi _=>Nat.le_of_lt hi))⟩⟩
     | false=>
      rw [hq10] at h10;simp only [Bool.false_eq_true,if_false] at h10;go_wp2_with fail;refine (rowDecl_any decl_any h10 (hG.far A10) 30 (by decide)).mono ?_;rintro e w11 ⟨a11,hres⟩;have z11:=a11.size;have A11:=A10.trans a11 A10.size;have hN11:=a11.keep hN10 (by omega) (by simp;omega);have hT11:=a11.keep hT10 (by omega) (by simp;omega);clear A10 hN10 hT10 h10 a11
      cases ht11:Ps.row I (Ps.decl I) 30 [] n9 with
      | err c0 a0=>
       rw [ht11] at hres;obtain rfl:e=_:=hres;exact ⟨rfl,Post.fail (by rw [m9.out,hq10];simp only [Bool.false_eq_true,if_false];rw [ht11];rfl) A11⟩
      | ok inn n11=>
       rw [ht11] at hres;obtain ⟨le11,h11,x11,rfl,hV⟩:=hres;obtain ⟨aI,cI,rfl,hI1',hI2'⟩:=hV.form;unfold maxLen at hI2';have rI11:=hV.wide (ok':=fun i=>w1.heap.size<i) (fun i hi _=>by omega);have m11:Hid (Ps.node I nx=(Ps.need I [41] n11).bind fun _ n8=>Ps.nodeO I ((I.pk nx).place:Int) s [] inn n8):=by
        show Ps.node I nx=_
        rw [m9.out,hq10];simp only [Bool.false_eq_true,if_false];rw [ht11]
        show ((Ps.need I [41] n11).bind fun _ n8=>Res.ok inn n8).bind _=_
        rw [Res.bind_assoc];rfl
       clear ht11 hV m9;have tc:=co hT11 3;have tf:=fo hT11 3;simp at tc;have hT12:=set_in hT11 3 (.slice aI inn.length cI);have hN12:=keep_set hN11 (p:=⟨w1.heap.size,3,none⟩) (by simp;omega) (.slice aI inn.length cI);have h12:=h11.set (p:=⟨w1.heap.size,3,none⟩) (by simp;omega) (by simp;omega) (.slice aI inn.length cI);have A12:=A11.set (p:=⟨w1.heap.size,3,none⟩) (by simp;omega) (.slice aI inn.length cI);have z12:(w11.setCell ⟨w1.heap.size,3,none⟩ (.slice aI inn.length cI)).heap.size=w11.heap.size:=(by simp [World.setCell]);simp at hT12;have rI12:=rI11.set (p:=⟨w1.heap.size,3,none⟩) (by simp) (.slice aI inn.length cI);go_wp2_with fail;generalize w11.setCell ⟨w1.heap.size,3,none⟩ (.slice aI inn.length cI)=w12 at hT12 hN12 h12 A12 z12 rI12 ⊢;clear tc tf A11 hN11 hT11 h11 rI11;refine (need_any h12 ⟨#[41]⟩ (by decide)).mono ?_;rintro e w13 ⟨a13,hres⟩;have es:(⟨#[41]⟩:ByteArray).data.toList=[41]:=rfl;rw [es] at hres;clear es;have z13:=a13.size;have A13:=A12.trans a13 A12.size;have hN13:=a13.keep hN12 (by omega) (by simp;omega);have hT13:=a13.keep hT12 (by omega) (by simp;omega);have rI13:=rI12.past a13 (fun i hi=>by simp;omega);clear A12 hN12 hT12 h12 a13 rI12
       cases ht13:Ps.need I [41] n11 with
       | err c0 a0=>
        rw [ht13] at hres;obtain rfl:e=_:=hres;exact ⟨rfl,Post.fail (by rw [m11.out,ht13];rfl) A13⟩
       | ok u13 n13=>
        rw [ht13] at hres;obtain ⟨le13,h13,_,rfl,rfl⟩:=hres;have mO:Hid (Ps.node I nx=Ps.nodeO I ((I.pk nx).place:Int) s [] inn n13):=by
         show Ps.node I nx=_
         rw [m11.out,ht13];rfl
        clear ht13 m11;go_wp2_with fail;refine (need_any h13 ⟨#[45,62]⟩ (by decide)).mono ?_;rintro e w14 ⟨a14,hres⟩;have es:(⟨#[45,62]⟩:ByteArray).data.toList=[45,62]:=rfl;rw [es] at hres;clear es;have z14:=a14.size;have A14:=A13.trans a14 A13.size;have hN14:=a14.keep hN13 (by omega) (by simp;omega);have hT14:=a14.keep hT13 (by omega) (by simp;omega);have rI14:=rI13.past a14 (fun i hi=>by simp;omega);clear A13 hN13 hT13 h13 a14 rI13
        cases ht14:Ps.need I [45,62] n13 with
        | err c0 a0=>
         rw [ht14] at hres;obtain rfl:e=_:=hres;exact ⟨rfl,Post.fail (by rw [mO.out];unfold Ps.nodeO;rw [ht14];rfl) A14⟩
        | ok u14 n14=>
         rw [ht14] at hres;obtain ⟨le14,h14,_,rfl,rfl⟩:=hres;have m14:Hid (Ps.node I nx=(Ps.need I [40] n14).bind fun _ n15=>(Ps.row I (Ps.decl I) 30 [] n15).bind fun out n16=>(Ps.need I [41] n16).bind fun _ n18=>(Ps.need I [123] n18).bind fun _ n19=>(Ps.lines I (I.L.length-n19+1) [] [] n19).bind fun p n15=>.ok ⟨s,((I.pk nx).place:Int),[],inn,out,p.1,p.2⟩ n15):=by
          show Ps.node I nx=_
          rw [mO.out];unfold Ps.nodeO;rw [ht14];rfl
         clear ht14 mO;go_wp2_with fail;refine (need_any h14 ⟨#[40]⟩ (by decide)).mono ?_;rintro e w15 ⟨a15,hres⟩;have es:(⟨#[40]⟩:ByteArray).data.toList=[40]:=rfl;rw [es] at hres;clear es;have z15:=a15.size;have A15:=A14.trans a15 A14.size;have hN15:=a15.keep hN14 (by omega) (by simp;omega);have hT15:=a15.keep hT14 (by omega) (by simp;omega);have rI15:=rI14.past a15 (fun i hi=>by simp;omega);clear A14 hN14 hT14 h14 a15 rI14
         cases ht15:Ps.need I [40] n14 with
         | err c0 a0=>
          rw [ht15] at hres;obtain rfl:e=_:=hres;exact ⟨rfl,Post.fail (by rw [m14.out,ht15];rfl) A15⟩
         | ok u15 n15=>
          rw [ht15] at hres;obtain ⟨le15,h15,_,rfl,rfl⟩:=hres;have m15:Hid (Ps.node I nx=(Ps.row I (Ps.decl I) 30 [] n15).bind fun out n16=>(Ps.need I [41] n16).bind fun _ n18=>(Ps.need I [123] n18).bind fun _ n19=>(Ps.lines I (I.L.length-n19+1) [] [] n19).bind fun p n15=>.ok ⟨s,((I.pk nx).place:Int),[],inn,out,p.1,p.2⟩ n15):=by
           show Ps.node I nx=_
           rw [m14.out,ht15];rfl
          clear ht15 m14;go_wp2_with fail;refine (rowDecl_any decl_any h15 (hG.far A15) 30 (by decide)).mono ?_;rintro e w16 ⟨a16,hres⟩;have z16:=a16.size;have A16:=A15.trans a16 A15.size;have hN16:=a16.keep hN15 (by omega) (by simp;omega);have hT16:=a16.keep hT15 (by omega) (by simp;omega);have rI16:=rI15.past a16 (fun i hi=>by simp;omega);clear A15 hN15 hT15 h15 a16 rI15
          cases ht16:Ps.row I (Ps.decl I) 30 [] n15 with
          | err c0 a0=>
           rw [ht16] at hres;obtain rfl:e=_:=hres;exact ⟨rfl,Post.fail (by rw [m15.out,ht16];rfl) A16⟩
          | ok out n16=>
           rw [ht16] at hres;obtain ⟨le16,h16,x16,rfl,hV⟩:=hres;obtain ⟨aO,cO,rfl,hO1',hO2'⟩:=hV.form;unfold maxLen at hO2';have rO16:=hV.wide (ok':=fun i=>w1.heap.size<i) (fun i hi _=>by omega);have m16:Hid (Ps.node I nx=(Ps.need I [41] n16).bind fun _ n18=>(Ps.need I [123] n18).bind fun _ n19=>(Ps.lines I (I.L.length-n19+1) [] [] n19).bind fun p n15=>.ok ⟨s,((I.pk nx).place:Int),[],inn,out,p.1,p.2⟩ n15):=by
            show Ps.node I nx=_
            rw [m15.out,ht16];rfl
           clear ht16 hV m15;have tc:=co hT16 4;have tf:=fo hT16 4;simp at tc;have hT17:=set_in hT16 4 (.slice aO out.length cO);have hN17:=keep_set hN16 (p:=⟨w1.heap.size,4,none⟩) (by simp;omega) (.slice aO out.length cO);have h17:=h16.set (p:=⟨w1.heap.size,4,none⟩) (by simp;omega) (by simp;omega) (.slice aO out.length cO);have A17:=A16.set (p:=⟨w1.heap.size,4,none⟩) (by simp;omega) (.slice aO out.length cO);have z17:(w16.setCell ⟨w1.heap.size,4,none⟩ (.slice aO out.length cO)).heap.size=w16.heap.size:=(by simp [World.setCell]);simp at hT17;have rI17:=rI16.set (p:=⟨w1.heap.size,4,none⟩) (by simp) (.slice aO out.length cO);have rO17:=rO16.set (p:=⟨w1.heap.size,4,none⟩) (by simp) (.slice aO out.length cO);go_wp2_with fail;generalize w16.setCell ⟨w1.heap.size,4,none⟩ (.slice aO out.length cO)=w17 at hT17 hN17 h17 A17 z17 rI17 rO17 ⊢;clear tc tf A16 hN16 hT16 h16 rI16 rO16;refine (need_any h17 ⟨#[41]⟩ (by decide)).mono ?_;rintro e w18 ⟨a18,hres⟩;have es:(⟨#[41]⟩:ByteArray).data.toList=[41]:=rfl;rw [es] at hres;clear es;have z18:=a18.size;have A18:=A17.trans a18 A17.size;have hN18:=a18.keep hN17 (by omega) (by simp;omega);have hT18:=a18.keep hT17 (by omega) (by simp;omega);have rI18:=rI17.past a18 (fun i hi=>by simp;omega);have rO18:=rO17.past a18 (fun i hi=>by simp;omega);clear A17 hN17 hT17 h17 a18 rI17 rO17
           cases ht18:Ps.need I [41] n16 with
           | err c0 a0=>
            rw [ht18] at hres;obtain rfl:e=_:=hres;exact ⟨rfl,Post.fail (by rw [m16.out,ht18];rfl) A18⟩
           | ok u18 n18=>
            rw [ht18] at hres;obtain ⟨le18,h18,_,rfl,rfl⟩:=hres;have m18:Hid (Ps.node I nx=(Ps.need I [123] n18).bind fun _ n19=>(Ps.lines I (I.L.length-n19+1) [] [] n19).bind fun p n15=>.ok ⟨s,((I.pk nx).place:Int),[],inn,out,p.1,p.2⟩ n15):=by
             show Ps.node I nx=_
             rw [m16.out,ht18];rfl
            clear ht18 m16;go_wp2_with fail;refine (need_any h18 ⟨#[123]⟩ (by decide)).mono ?_;rintro e w19 ⟨a19,hres⟩;have es:(⟨#[123]⟩:ByteArray).data.toList=[123]:=rfl;rw [es] at hres;clear es;have z19:=a19.size;have A19:=A18.trans a19 A18.size;have hN19:=a19.keep hN18 (by omega) (by simp;omega);have hT19:=a19.keep hT18 (by omega) (by simp;omega);have rI19:=rI18.past a19 (fun i hi=>by simp;omega);have rO19:=rO18.past a19 (fun i hi=>by simp;omega);clear A18 hN18 hT18 h18 a19 rI18 rO18
            cases ht19:Ps.need I [123] n18 with
            | err c0 a0=>
             rw [ht19] at hres;obtain rfl:e=_:=hres;exact ⟨rfl,Post.fail (by rw [m18.out,ht19];rfl) A19⟩
            | ok u19 n19=>
             rw [ht19] at hres;obtain ⟨le19,h19,_,rfl,rfl⟩:=hres;have m19:Hid (Ps.node I nx=(Ps.lines I (I.L.length-n19+1) [] [] n19).bind fun p n15=>.ok ⟨s,((I.pk nx).place:Int),[],inn,out,p.1,p.2⟩ n15):=by
              show Ps.node I nx=_
              rw [m18.out,ht19];rfl
             clear ht19 m18;have rIb:=rI19.wide (ok':=fun i=>w1.heap.size<i∧i<w19.heap.size) (fun i hi hl=>⟨hi,hl⟩);have rOb:=rO19.wide (ok':=fun i=>w1.heap.size<i∧i<w19.heap.size) (fun i hi hl=>⟨hi,hl⟩);clear rI19 rO19;have hAs:=A19;go_wp2;go_loopg [] (I.L.length-n19+1) (fun k wr=>∃ (m:Nat) (loc:List De) (eqs:List Eqn),I.L.length+1≤m+k∧nx≤m∧Rd wr b g cap I.L I.len m 0∧Aside [b,w1.heap.size] w19.heap.size w19 wr ∧
               LineSt w19.heap.size w1.heap.size s (t.place:Int) (.slice none 0 0) (.slice aI inn.length cI) (.slice aO out.length cO) wr loc eqs∧Hid (Ps.node I nx=(Ps.lines I k loc eqs m).bind fun p n15=>.ok ⟨s,((I.pk nx).place:Int),[],inn,out,p.1,p.2⟩ n15))
             case atStart=>exact ⟨n19,[],[],by omega,by omega,h19,Aside.refl _,⟨_,_,fun _=>False,fun _=>False,hT19,OwnX.nil,OwnX.nil,fun i hi=>hi.elim,fun i hi=>hi.elim,fun i hi=>hi.elim⟩,m19⟩
             case round=>
              clear m19 hT19 h19;obtain ⟨m,loc,eqs,hk,hle,hr,ha,hS,hmod⟩:=hrel;have hle2:=hr.le;obtain ⟨f,rfl⟩:∃ f,gk=f+1:=⟨gk-1,by omega⟩;have hst:=hide hmod.out;rw [lines_succ] at hst;clear hmod;have zr:=ha.size;go_wp2_with fail;refine (take_any hr ⟨#[125]⟩ (by decide)).mono ?_;rintro e w20 ⟨rfl,h20,a20⟩;have es:(⟨#[125]⟩:ByteArray).data.toList=[125]:=rfl;rw [es] at h20;simp only [es];clear es;have z20:=a20.size;have ha20:Aside [b,w1.heap.size] w19.heap.size w19 w20:=ha.trans (aside2 a20) (by omega);have hS20:LineSt w19.heap.size w1.heap.size s (t.place:Int) (.slice none 0 0) (.slice aI inn.length cI) (.slice aO out.length cO) w20 loc eqs:=by
               obtain ⟨vL,vE,okL,okE,q1,q2,q3,q4,q5,q6⟩:=hS;exact ⟨vL,vE,okL,okE,a20.keep q1 (lt_of q1) (by simp;omega),q2.past a20 (fun i hi=>by have:=q4 i hi;simp;omega),q3.past a20 (fun i hi=>by have:=q5 i hi;simp;omega),q4,q5,q6⟩
              clear hr ha hS a20
              cases hq:Ps.sees I [125] m with
              | false=>
               rw [hq] at h20 hst;simp only [Bool.false_eq_true,if_false] at h20;go_wp2_with fail;refine (line_any hform hL h20 ((hG.far hAs).far2 ha20 (by have:=hG.one;omega) (by omega)) (by have:=hG.one;omega) (by omega) (by omega) (by omega) (by omega) (by omega) (by omega) hS20).mono ?_;rintro e w21 ⟨a21,hres⟩;have ha21:=ha20.trans a21 nR
               cases htl:Ps.line I loc eqs m with
               | err c0 a0=>
                rw [htl] at hres;obtain rfl:e=_:=hres;exact ⟨rfl,Post.fail (by rw [hst.out];simp only [Bool.false_eq_true,if_false];rw [htl];rfl) (hAs.trans (ha21.mono (B':=w.heap.size) (by omega) |>.wide (fun k hk hn hm=>by simp at hm hn;omega)) (by omega))⟩
               | ok pp n21=>
                rw [htl] at hres;obtain ⟨le21,h21,rfl,hS21⟩:=hres;have hmod2:Hid (Ps.node I nx=(Ps.lines I f pp.1 pp.2 n21).bind fun p n15=>.ok ⟨s,((I.pk nx).place:Int),[],inn,out,p.1,p.2⟩ n15):=by
                 show Ps.node I nx=_
                 rw [hst.out];simp only [Bool.false_eq_true,if_false];rw [htl];rfl
                go_wp2;go_roundg f
                case measure=>omega
                case rel=>exact ⟨n21,pp.1,pp.2,by omega,by omega,h21,ha21,hS21,hmod2⟩
              | true=>
               rw [hq] at h20 hst;simp only [if_true] at h20;obtain ⟨vL,vE,okL,okE,hT20,oL,oE,hokL,hokE,hdis⟩:=hS20;obtain ⟨aL,cL,rfl,hL1,hL2⟩:=oL.form;obtain ⟨aE,cE,rfl,hE1,hE2⟩:=oE.form;unfold maxLen at hL2 hE2;have hN20:=ha20.keep hN19 (by omega) (by simp;omega);have A20:Aside [b] w.heap.size w w20:=hAs.trans (ha20.mono (B':=w.heap.size) (by omega) |>.wide (fun k hk hn hm=>by simp at hm hn;omega)) (by omega);have rIc:=(rIb.keep ha20.size (fun i hi hl=>ha20.block i hi.2 (by simp;omega))).wide (ok':=fun i=>w.heap.size<i) (fun i hi _=>by omega);have rOc:=(rOb.keep ha20.size (fun i hi hl=>ha20.block i hi.2 (by simp;omega))).wide (ok':=fun i=>w.heap.size<i) (fun i hi _=>by omega);have rLc:=oL.row.wide (ok':=fun i=>w.heap.size<i) (fun i hi _=>by have:=hokL i hi;omega);have rEc:=oE.row.wide (ok':=fun i=>w.heap.size<i) (fun i hi _=>by have:=hokE i hi;omega);have fa:=fun o=>fo hN20 o;clear oL oE hokL hokE hdis ha20 rIb rOb;have ca0:=co hN20 0;have cb0:=co hT20 0;have ca1:=co hN20 1;have cb1:=co hT20 1;have ca2:=co hN20 2;have cb2:=co hT20 2;have ca3:=co hN20 3;have cb3:=co hT20 3;have ca4:=co hN20 4;have cb4:=co hT20 4;have ca5:=co hN20 5;have cb5:=co hT20 5;have ca6:=co hN20 6;have cb6:=co hT20 6;simp only [gT,gZ,gS] at ca0 cb0 ca1 cb1 ca2 cb2 ca3 cb3 ca4 cb4 ca5 cb5 ca6 cb6;go_wp2;refine bodyPost_ret (v:=.agg #[.string s,.int .i64 (t.place:Int),.slice none 0 0,.slice aI inn.length cI,.slice aO out.length cO,.slice aL loc.length cL,.slice aE eqs.length cE]) (by simp [results,Tryz.results107,go_sem,ca0,ca1,ca2,ca3,ca4,ca5,ca6]) rfl ?_;exact Post.good (v:=Nd.mk s ((I.pk nx).place:Int) [] inn out loc eqs) (by rw [hst.out];rfl) (A20.put7 (k:=w.heap.size) nR ⟨s,(t.place:Int),none,0,0,aI,inn.length,cI,aO,out.length,cO,aL,loc.length,cL,aE,eqs.length,cE⟩) (by omega) (h20.put7 (k:=w.heap.size) (by omega) (by omega) ⟨s,(t.place:Int),none,0,0,aI,inn.length,cI,aO,out.length,cO,aL,loc.length,cL,aE,eqs.length,cE⟩) ⟨⟨s,(t.place:Int),none,0,0,aI,inn.length,cI,aO,out.length,cO,aL,loc.length,cL,aE,eqs.length,cE⟩,rfl,⟨rfl,by rw [←HT.out],names_row HRow.nil,decls_row ((rIc.put7 (k:=w.heap.size) (by omega) ⟨s,(t.place:Int),none,0,0,aI,inn.length,cI,aO,out.length,cO,aL,loc.length,cL,aE,eqs.length,cE⟩).wide (fun i hi _=>Nat.le_of_lt hi)),decls_row ((rOc.put7 (k:=w.heap.size) (by omega) ⟨s,(t.place:Int),none,0,0,aI,inn.length,cI,aO,out.length,cO,aL,loc.length,cL,aE,eqs.length,cE⟩).wide (fun i hi _=>Nat.le_of_lt hi)),decls_row ((rLc.put7 (k:=w.heap.size) (by omega) ⟨s,(t.place:Int),none,0,0,aI,inn.length,cI,aO,out.length,cO,aL,loc.length,cL,aE,eqs.length,cE⟩).wide (fun i hi _=>Nat.le_of_lt hi)),eqs_row ((rEc.put7 (k:=w.heap.size) (by omega) ⟨s,(t.place:Int),none,0,0,aI,inn.length,cI,aO,out.length,cO,aL,loc.length,cL,aE,eqs.length,cE⟩).wide (fun i hi _=>Nat.le_of_lt hi))⟩⟩
   | true=>
    rw [hq5] at h5;simp only [if_true] at h5;go_wp2_with fail;refine (rowName_any (fun n w h _=>name_any h) h5 (hG.far A5) 3 (by decide)).mono ?_;rintro e w6 ⟨a6,hres⟩;have z6:=a6.size;have A6:=A5.trans a6 A5.size;have hN6:=a6.keep hN5 (by omega) (by simp;omega);have hT6:=a6.keep hT5 (by omega) (by simp;omega);clear A5 hN5 hT5 h5 a6
    cases ht6:Ps.row I (Ps.name I) 3 [] (n3+1) with
    | err c0 a0=>
     rw [ht6] at hres;obtain rfl:e=_:=hres;exact ⟨rfl,Post.fail (by rw [m3.out,hq5,if_pos rfl,ht6];rfl) A6⟩
    | ok z6l n6=>
     rw [ht6] at hres;obtain ⟨le6,h6,x6,rfl,hV⟩:=hres;obtain ⟨aZ,cZ,rfl,hZ1',hZ2'⟩:=hV.form;unfold maxLen at hZ2';have rZ6:=hV.wide (ok':=fun i=>w1.heap.size<i) (fun i hi _=>by omega);have m6:Hid (Ps.node I nx=((Ps.need I [62] n6).bind fun _ n4=>Res.ok z6l n4).bind fun z n5=>Ps.nodeI I ((I.pk nx).place:Int) s z n5):=by
      show Ps.node I nx=_
      rw [m3.out,hq5,if_pos rfl,ht6];rfl
     clear ht6 hV m3;have tc:=co hT6 2;have tf:=fo hT6 2;simp at tc;have hT7:=set_in hT6 2 (.slice aZ z6l.length cZ);have hN7:=keep_set hN6 (p:=⟨w1.heap.size,2,none⟩) (by simp;omega) (.slice aZ z6l.length cZ);have h7:=h6.set (p:=⟨w1.heap.size,2,none⟩) (by simp;omega) (by simp;omega) (.slice aZ z6l.length cZ);have A7:=A6.set (p:=⟨w1.heap.size,2,none⟩) (by simp;omega) (.slice aZ z6l.length cZ);have z7:(w6.setCell ⟨w1.heap.size,2,none⟩ (.slice aZ z6l.length cZ)).heap.size=w6.heap.size:=(by simp [World.setCell]);simp at hT7;have rZ7:=rZ6.set (p:=⟨w1.heap.size,2,none⟩) (by simp) (.slice aZ z6l.length cZ);go_wp2_with fail;generalize w6.setCell ⟨w1.heap.size,2,none⟩ (.slice aZ z6l.length cZ)=w7 at hT7 hN7 h7 A7 z7 rZ7 ⊢;clear tc tf A6 hN6 hT6 h6 rZ6;refine (need_any h7 ⟨#[62]⟩ (by decide)).mono ?_;rintro e w8 ⟨a8,hres⟩;have es:(⟨#[62]⟩:ByteArray).data.toList=[62]:=rfl;rw [es] at hres;clear es;have z8:=a8.size;have A8:=A7.trans a8 A7.size;have hN8:=a8.keep hN7 (by omega) (by simp;omega);have hT8:=a8.keep hT7 (by omega) (by simp;omega);have rZ8:=rZ7.past a8 (fun i hi=>by simp;omega);clear A7 hN7 hT7 h7 a8 rZ7
     cases ht8:Ps.need I [62] n6 with
     | err c0 a0=>
      rw [ht8] at hres;obtain rfl:e=_:=hres;exact ⟨rfl,Post.fail (by rw [m6.out,ht8];rfl) A8⟩
     | ok u8 n8=>
      rw [ht8] at hres;obtain ⟨le8,h8,_,rfl,rfl⟩:=hres;have mI:Hid (Ps.node I nx=Ps.nodeI I ((I.pk nx).place:Int) s z6l n8):=by
       show Ps.node I nx=_
       rw [m6.out,ht8];rfl
      clear ht8 m6;go_wp2_with fail;refine (need_any h8 ⟨#[40]⟩ (by decide)).mono ?_;rintro e w9 ⟨a9,hres⟩;have es:(⟨#[40]⟩:ByteArray).data.toList=[40]:=rfl;rw [es] at hres;clear es;have z9:=a9.size;have A9:=A8.trans a9 A8.size;have hN9:=a9.keep hN8 (by omega) (by simp;omega);have hT9:=a9.keep hT8 (by omega) (by simp;omega);have rZ9:=rZ8.past a9 (fun i hi=>by simp;omega);clear A8 hN8 hT8 h8 a9 rZ8
      cases ht9:Ps.need I [40] n8 with
      | err c0 a0=>
       rw [ht9] at hres;obtain rfl:e=_:=hres;exact ⟨rfl,Post.fail (by rw [mI.out];unfold Ps.nodeI;rw [ht9];rfl) A9⟩
      | ok u9 n9=>
       rw [ht9] at hres;obtain ⟨le9,h9,_,rfl,rfl⟩:=hres;have m9:Hid (Ps.node I nx=(if Ps.sees I [41] n9=true then .ok [] (n9+1) else (Ps.row I (Ps.decl I) 30 [] n9).bind fun l n7=>(Ps.need I [41] n7).bind fun _ n8=>.ok l n8).bind fun inn n9=>Ps.nodeO I ((I.pk nx).place:Int) s z6l inn n9):=by
        show Ps.node I nx=_
        rw [mI.out];unfold Ps.nodeI;rw [ht9];rfl
       clear ht9 mI;go_wp2_with fail;refine (take_any h9 ⟨#[41]⟩ (by decide)).mono ?_;rintro e w10 ⟨rfl,h10,a10⟩;have es:(⟨#[41]⟩:ByteArray).data.toList=[41]:=rfl;rw [es] at h10;simp only [es];clear es;have z10:=a10.size;have A10:=A9.trans a10 A9.size;have hN10:=a10.keep hN9 (by omega) (by simp;omega);have hT10:=a10.keep hT9 (by omega) (by simp;omega);have rZ10:=rZ9.past a10 (fun i hi=>by simp;omega);clear A9 hN9 hT9 h9 a10 rZ9
       cases hq10:Ps.sees I [41] n9 with
       | true=>
        rw [hq10] at h10;simp only [if_true] at h10;have mO:Hid (Ps.node I nx=Ps.nodeO I ((I.pk nx).place:Int) s z6l [] (n9+1)):=by
         show Ps.node I nx=_
         rw [m9.out,hq10];rfl
        clear m9;obtain ⟨nq,hnq⟩:=nmQ (n9+1);rw [←hnq] at h10 mO;have leq:n9≤nq:=(by omega);clear hnq;go_wp2_with fail;refine (need_any h10 ⟨#[45,62]⟩ (by decide)).mono ?_;rintro e w14 ⟨a14,hres⟩;have es:(⟨#[45,62]⟩:ByteArray).data.toList=[45,62]:=rfl;rw [es] at hres;clear es;have z14:=a14.size;have A14:=A10.trans a14 A10.size;have hN14:=a14.keep hN10 (by omega) (by simp;omega);have hT14:=a14.keep hT10 (by omega) (by simp;omega);have rZ14:=rZ10.past a14 (fun i hi=>by simp;omega);clear A10 hN10 hT10 h10 a14 rZ10
        cases ht14:Ps.need I [45,62] nq with
        | err c0 a0=>
         rw [ht14] at hres;obtain rfl:e=_:=hres;exact ⟨rfl,Post.fail (by rw [mO.out];unfold Ps.nodeO;rw [ht14];rfl) A14⟩
        | ok u14 n14=>
         rw [ht14] at hres;obtain ⟨le14,h14,_,rfl,rfl⟩:=hres;have m14:Hid (Ps.node I nx=(Ps.need I [40] n14).bind fun _ n15=>(Ps.row I (Ps.decl I) 30 [] n15).bind fun out n16=>(Ps.need I [41] n16).bind fun _ n18=>(Ps.need I [123] n18).bind fun _ n19=>(Ps.lines I (I.L.length-n19+1) [] [] n19).bind fun p n15=>.ok ⟨s,((I.pk nx).place:Int),z6l,[],out,p.1,p.2⟩ n15):=by
          show Ps.node I nx=_
          rw [mO.out];unfold Ps.nodeO;rw [ht14];rfl
         clear ht14 mO;go_wp2_with fail;refine (need_any h14 ⟨#[40]⟩ (by decide)).mono ?_;rintro e w15 ⟨a15,hres⟩;have es:(⟨#[40]⟩:ByteArray).data.toList=[40]:=rfl;rw [es] at hres;clear es;have z15:=a15.size;have A15:=A14.trans a15 A14.size;have hN15:=a15.keep hN14 (by omega) (by simp;omega);have hT15:=a15.keep hT14 (by omega) (by simp;omega);have rZ15:=rZ14.past a15 (fun i hi=>by simp;omega);clear A14 hN14 hT14 h14 a15 rZ14
         cases ht15:Ps.need I [40] n14 with
         | err c0 a0=>
          rw [ht15] at hres;obtain rfl:e=_:=hres;exact ⟨rfl,Post.fail (by rw [m14.out,ht15];rfl) A15⟩
         | ok u15 n15=>
          rw [ht15] at hres;obtain ⟨le15,h15,_,rfl,rfl⟩:=hres;have m15:Hid (Ps.node I nx=(Ps.row I (Ps.decl I) 30 [] n15).bind fun out n16=>(Ps.need I [41] n16).bind fun _ n18=>(Ps.need I [123] n18).bind fun _ n19=>(Ps.lines I (I.L.length-n19+1) [] [] n19).bind fun p n15=>.ok ⟨s,((I.pk nx).place:Int),z6l,[],out,p.1,p.2⟩ n15):=by
           show Ps.node I nx=_
           rw [m14.out,ht15];rfl
          clear ht15 m14;go_wp2_with fail;refine (rowDecl_any decl_any h15 (hG.far A15) 30 (by decide)).mono ?_;rintro e w16 ⟨a16,hres⟩;have z16:=a16.size;have A16:=A15.trans a16 A15.size;have hN16:=a16.keep hN15 (by omega) (by simp;omega);have hT16:=a16.keep hT15 (by omega) (by simp;omega);have rZ16:=rZ15.past a16 (fun i hi=>by simp;omega);clear A15 hN15 hT15 h15 a16 rZ15
          cases ht16:Ps.row I (Ps.decl I) 30 [] n15 with
          | err c0 a0=>
           rw [ht16] at hres;obtain rfl:e=_:=hres;exact ⟨rfl,Post.fail (by rw [m15.out,ht16];rfl) A16⟩
          | ok out n16=>
           rw [ht16] at hres;obtain ⟨le16,h16,x16,rfl,hV⟩:=hres;obtain ⟨aO,cO,rfl,hO1',hO2'⟩:=hV.form;unfold maxLen at hO2';have rO16:=hV.wide (ok':=fun i=>w1.heap.size<i) (fun i hi _=>by omega);have m16:Hid (Ps.node I nx=(Ps.need I [41] n16).bind fun _ n18=>(Ps.need I [123] n18).bind fun _ n19=>(Ps.lines I (I.L.length-n19+1) [] [] n19).bind fun p n15=>.ok ⟨s,((I.pk nx).place:Int),z6l,[],out,p.1,p.2⟩ n15):=by
            show Ps.node I nx=_
            rw [m15.out,ht16];rfl
           clear ht16 hV m15;have tc:=co hT16 4;have tf:=fo hT16 4;simp at tc;have hT17:=set_in hT16 4 (.slice aO out.length cO);have hN17:=keep_set hN16 (p:=⟨w1.heap.size,4,none⟩) (by simp;omega) (.slice aO out.length cO);have h17:=h16.set (p:=⟨w1.heap.size,4,none⟩) (by simp;omega) (by simp;omega) (.slice aO out.length cO);have A17:=A16.set (p:=⟨w1.heap.size,4,none⟩) (by simp;omega) (.slice aO out.length cO);have z17:(w16.setCell ⟨w1.heap.size,4,none⟩ (.slice aO out.length cO)).heap.size=w16.heap.size:=(by simp [World.setCell]);simp at hT17;have rZ17:=rZ16.set (p:=⟨w1.heap.size,4,none⟩) (by simp) (.slice aO out.length cO);have rO17:=rO16.set (p:=⟨w1.heap.size,4,none⟩) (by simp) (.slice aO out.length cO);go_wp2_with fail;generalize w16.setCell ⟨w1.heap.size,4,none⟩ (.slice aO out.length cO)=w17 at hT17 hN17 h17 A17 z17 rZ17 rO17 ⊢;clear tc tf A16 hN16 hT16 h16 rZ16 rO16;refine (need_any h17 ⟨#[41]⟩ (by decide)).mono ?_;rintro e w18 ⟨a18,hres⟩;have es:(⟨#[41]⟩:ByteArray).data.toList=[41]:=rfl;rw [es] at hres;clear es;have z18:=a18.size;have A18:=A17.trans a18 A17.size;have hN18:=a18.keep hN17 (by omega) (by simp;omega);have hT18:=a18.keep hT17 (by omega) (by simp;omega);have rZ18:=rZ17.past a18 (fun i hi=>by simp;omega);have rO18:=rO17.past a18 (fun i hi=>by simp;omega);clear A17 hN17 hT17 h17 a18 rZ17 rO17
           cases ht18:Ps.need I [41] n16 with
           | err c0 a0=>
            rw [ht18] at hres;obtain rfl:e=_:=hres;exact ⟨rfl,Post.fail (by rw [m16.out,ht18];rfl) A18⟩
           | ok u18 n18=>
            rw [ht18] at hres;obtain ⟨le18,h18,_,rfl,rfl⟩:=hres;have m18:Hid (Ps.node I nx=(Ps.need I [123] n18).bind fun _ n19=>(Ps.lines I (I.L.length-n19+1) [] [] n19).bind fun p n15=>.ok ⟨s,((I.pk nx).place:Int),z6l,[],out,p.1,p.2⟩ n15):=by
             show Ps.node I nx=_
             rw [m16.out,ht18];rfl
            clear ht18 m16;go_wp2_with fail;refine (need_any h18 ⟨#[123]⟩ (by decide)).mono ?_;rintro e w19 ⟨a19,hres⟩;have es:(⟨#[123]⟩:ByteArray).data.toList=[123]:=rfl;rw [es] at hres;clear es;have z19:=a19.size;have A19:=A18.trans a19 A18.size;have hN19:=a19.keep hN18 (by omega) (by simp;omega);have hT19:=a19.keep hT18 (by omega) (by simp;omega);have rZ19:=rZ18.past a19 (fun i hi=>by simp;omega);have rO19:=rO18.past a19 (fun i hi=>by simp;omega);clear A18 hN18 hT18 h18 a19 rZ18 rO18
            cases ht19:Ps.need I [123] n18 with
            | err c0 a0=>
             rw [ht19] at hres;obtain rfl:e=_:=hres;exact ⟨rfl,Post.fail (by rw [m18.out,ht19];rfl) A19⟩
            | ok u19 n19=>
             rw [ht19] at hres;obtain ⟨le19,h19,_,rfl,rfl⟩:=hres;have m19:Hid (Ps.node I nx=(Ps.lines I (I.L.length-n19+1) [] [] n19).bind fun p n15=>.ok ⟨s,((I.pk nx).place:Int),z6l,[],out,p.1,p.2⟩ n15):=by
              show Ps.node I nx=_
              rw [m18.out,ht19];rfl
             clear ht19 m18;have rZb:=rZ19.wide (ok':=fun i=>w1.heap.size<i∧i<w19.heap.size) (fun i hi hl=>⟨hi,hl⟩);have rOb:=rO19.wide (ok':=fun i=>w1.heap.size<i∧i<w19.heap.size) (fun i hi hl=>⟨hi,hl⟩);clear rZ19 rO19;have hAs:=A19;go_wp2;go_loopg [] (I.L.length-n19+1) (fun k wr=>∃ (m:Nat) (loc:List De) (eqs:List Eqn),I.L.length+1≤m+k∧nx≤m∧Rd wr b g cap I.L I.len m 0∧Aside [b,w1.heap.size] w19.heap.size w19 wr ∧
               LineSt w19.heap.size w1.heap.size s (t.place:Int) (.slice aZ z6l.length cZ) (.slice none 0 0) (.slice aO out.length cO) wr loc eqs∧Hid (Ps.node I nx=(Ps.lines I k loc eqs m).bind fun p n15=>.ok ⟨s,((I.pk nx).place:Int),z6l,[],out,p.1,p.2⟩ n15))
             case atStart=>exact ⟨n19,[],[],by omega,by omega,h19,Aside.refl _,⟨_,_,fun _=>False,fun _=>False,hT19,OwnX.nil,OwnX.nil,fun i hi=>hi.elim,fun i hi=>hi.elim,fun i hi=>hi.elim⟩,m19⟩
             case round=>
              clear m19 hT19 h19;obtain ⟨m,loc,eqs,hk,hle,hr,ha,hS,hmod⟩:=hrel;have hle2:=hr.le;obtain ⟨f,rfl⟩:∃ f,gk=f+1:=⟨gk-1,by omega⟩;have hst:=hide hmod.out;rw [lines_succ] at hst;clear hmod;have zr:=ha.size;go_wp2_with fail;refine (take_any hr ⟨#[125]⟩ (by decide)).mono ?_;rintro e w20 ⟨rfl,h20,a20⟩;have es:(⟨#[125]⟩:ByteArray).data.toList=[125]:=rfl;rw [es] at h20;simp only [es];clear es;have z20:=a20.size;have ha20:Aside [b,w1.heap.size] w19.heap.size w19 w20:=ha.trans (aside2 a20) (by omega);have hS20:LineSt w19.heap.size w1.heap.size s (t.place:Int) (.slice aZ z6l.length cZ) (.slice none 0 0) (.slice aO out.length cO) w20 loc eqs:=by
               obtain ⟨vL,vE,okL,okE,q1,q2,q3,q4,q5,q6⟩:=hS;exact ⟨vL,vE,okL,okE,a20.keep q1 (lt_of q1) (by simp;omega),q2.past a20 (fun i hi=>by have:=q4 i hi;simp;omega),q3.past a20 (fun i hi=>by have:=q5 i hi;simp;omega),q4,q5,q6⟩
              clear hr ha hS a20
              cases hq:Ps.sees I [125] m with
              | false=>
               rw [hq] at h20 hst;simp only [Bool.false_eq_true,if_false] at h20;go_wp2_with fail;refine (line_any hform hL h20 ((hG.far hAs).far2 ha20 (by have:=hG.one;omega) (by omega)) (by have:=hG.one;omega) (by omega) (by omega) (by omega) (by omega) (by omega) (by omega) hS20).mono ?_;rintro e w21 ⟨a21,hres⟩;have ha21:=ha20.trans a21 nR
               cases htl:Ps.line I loc eqs m with
               | err c0 a0=>
                rw [htl] at hres;obtain rfl:e=_:=hres;exact ⟨rfl,Post.fail (by rw [hst.out];simp only [Bool.false_eq_true,if_false];rw [htl];rfl) (hAs.trans (ha21.mono (B':=w.heap.size) (by omega) |>.wide (fun k hk hn hm=>by simp at hm hn;omega)) (by omega))⟩
               | ok pp n21=>
                rw [htl] at hres;obtain ⟨le21,h21,rfl,hS21⟩:=hres;have hmod2:Hid (Ps.node I nx=(Ps.lines I f pp.1 pp.2 n21).bind fun p n15=>.ok ⟨s,((I.pk nx).place:Int),z6l,[],out,p.1,p.2⟩ n15):=by
                 show Ps.node I nx=_
                 rw [hst.out];simp only [Bool.false_eq_true,if_false];rw [htl];rfl
                go_wp2;go_roundg f
                case measure=>omega
                case rel=>exact ⟨n21,pp.1,pp.2,by omega,by omega,h21,ha21,hS21,hmod2⟩
              | true=>
               rw [hq] at h20 hst;simp only [if_true] at h20;obtain ⟨vL,vE,okL,okE,hT20,oL,oE,hokL,hokE,hdis⟩:=hS20;obtain ⟨aL,cL,rfl,hL1,hL2⟩:=oL.form;obtain ⟨aE,cE,rfl,hE1,hE2⟩:=oE.form;unfold maxLen at hL2 hE2;have hN20:=ha20.keep hN19 (by omega) (by simp;omega);have A20:Aside [b] w.heap.size w w20:=hAs.trans (ha20.mono (B':=w.heap.size) (by omega) |>.wide (fun k hk hn hm=>by simp at hm hn;omega)) (by omega);have rZc:=(rZb.keep ha20.size (fun i hi hl=>ha20.block i hi.2 (by simp;omega))).wide (ok':=fun i=>w.heap.size<i) (fun i hi _=>by omega);have rOc:=(rOb.keep ha20.size (fun i hi hl=>ha20.block i hi.2 (by simp;omega))).wide (ok':=fun i=>w.heap.size<i) (fun i hi _=>by omega);have rLc:=oL.row.wide (ok':=fun i=>w.heap.size<i) (fun i hi _=>by have:=hokL i hi;omega);have rEc:=oE.row.wide (ok':=fun i=>w.heap.size<i) (fun i hi _=>by have:=hokE i hi;omega);have fa:=fun o=>fo hN20 o;clear oL oE hokL hokE hdis ha20 rZb rOb;have ca0:=co hN20 0;have cb0:=co hT20 0;have ca1:=co hN20 1;have cb1:=co hT20 1;have ca2:=co hN20 2;have cb2:=co hT20 2;have ca3:=co hN20 3;have cb3:=co hT20 3;have ca4:=co hN20 4;have cb4:=co hT20 4;have ca5:=co hN20 5;have cb5:=co hT20 5;have ca6:=co hN20 6;have cb6:=co hT20 6;simp only [gT,gZ,gS] at ca0 cb0 ca1 cb1 ca2 cb2 ca3 cb3 ca4 cb4 ca5 cb5 ca6 cb6;go_wp2;refine bodyPost_ret (v:=.agg #[.string s,.int .i64 (t.place:Int),.slice aZ z6l.length cZ,.slice none 0 0,.slice aO out.length cO,.slice aL loc.length cL,.slice aE eqs.length cE]) (by simp [results,Tryz.results107,go_sem,ca0,ca1,ca2,ca3,ca4,ca5,ca6]) rfl ?_;exact Post.good (v:=Nd.mk s ((I.pk nx).place:Int) z6l [] out loc eqs) (by rw [hst.out];rfl) (A20.put7 (k:=w.heap.size) nR ⟨s,(t.place:Int),aZ,z6l.length,cZ,none,0,0,aO,out.length,cO,aL,loc.length,cL,aE,eqs.length,cE⟩) (by omega) (h20.put7 (k:=w.heap.size) (by omega) (by omega) ⟨s,(t.place:Int),aZ,z6l.length,cZ,none,0,0,aO,out.length,cO,aL,loc.length,cL,aE,eqs.length,cE⟩) ⟨⟨s,(t.place:Int),aZ,z6l.length,cZ,none,0,0,aO,out.length,cO,aL,loc.length,cL,aE,eqs.length,cE⟩,rfl,⟨rfl,by rw [←HT.out],names_row ((rZc.put7 (k:=w.heap.size) (by omega) ⟨s,(t.place:Int),aZ,z6l.length,cZ,none,0,0,aO,out.length,cO,aL,loc.length,cL,aE,eqs.length,cE⟩).wide (fun i hi _=>Nat.le_of_lt hi)),decls_row HRow.nil,decls_row ((rOc.put7 (k:=w.heap.size) (by omega) ⟨s,(t.place:Int),aZ,z6l.length,cZ,none,0,0,aO,out.length,cO,aL,loc.length,cL,aE,eqs.length,cE⟩).wide (fun i hi _=>Nat.le_of_lt hi)),decls_row ((rLc.put7 (k:=w.heap.size) (by omega) ⟨s,(t.place:Int),aZ,z6l.length,cZ,none,0,0,aO,out.length,cO,aL,loc.length,cL,aE,eqs.length,cE⟩).wide (fun i hi _=>Nat.le_of_lt hi)),eqs_row ((rEc.put7 (k:=w.heap.size) (by omega) ⟨s,(t.place:Int),aZ,z6l.length,cZ,none,0,0,aO,out.length,cO,aL,loc.length,cL,aE,eqs.length,cE⟩).wide (fun i hi _=>Nat.le_of_lt hi))⟩⟩
       | false=>
        rw [hq10] at h10;simp only [Bool.false_eq_true,if_false] at h10;go_wp2_with fail;refine (rowDecl_any decl_any h10 (hG.far A10) 30 (by decide)).mono ?_;rintro e w11 ⟨a11,hres⟩;have z11:=a11.size;have A11:=A10.trans a11 A10.size;have hN11:=a11.keep hN10 (by omega) (by simp;omega);have hT11:=a11.keep hT10 (by omega) (by simp;omega);have rZ11:=rZ10.past a11 (fun i hi=>by simp;omega);clear A10 hN10 hT10 h10 a11 rZ10
        cases ht11:Ps.row I (Ps.decl I) 30 [] n9 with
        | err c0 a0=>
         rw [ht11] at hres;obtain rfl:e=_:=hres;exact ⟨rfl,Post.fail (by rw [m9.out,hq10];simp only [Bool.false_eq_true,if_false];rw [ht11];rfl) A11⟩
        | ok inn n11=>
         rw [ht11] at hres;obtain ⟨le11,h11,x11,rfl,hV⟩:=hres;obtain ⟨aI,cI,rfl,hI1',hI2'⟩:=hV.form;unfold maxLen at hI2';have rI11:=hV.wide (ok':=fun i=>w1.heap.size<i) (fun i hi _=>by omega);have m11:Hid (Ps.node I nx=(Ps.need I [41] n11).bind fun _ n8=>Ps.nodeO I ((I.pk nx).place:Int) s z6l inn n8):=by
          show Ps.node I nx=_
          rw [m9.out,hq10];simp only [Bool.false_eq_true,if_false];rw [ht11]
          show ((Ps.need I [41] n11).bind fun _ n8=>Res.ok inn n8).bind _=_
          rw [Res.bind_assoc];rfl
         clear ht11 hV m9;have tc:=co hT11 3;have tf:=fo hT11 3;simp at tc;have hT12:=set_in hT11 3 (.slice aI inn.length cI);have hN12:=keep_set hN11 (p:=⟨w1.heap.size,3,none⟩) (by simp;omega) (.slice aI inn.length cI);have h12:=h11.set (p:=⟨w1.heap.size,3,none⟩) (by simp;omega) (by simp;omega) (.slice aI inn.length cI);have A12:=A11.set (p:=⟨w1.heap.size,3,none⟩) (by simp;omega) (.slice aI inn.length cI);have z12:(w11.setCell ⟨w1.heap.size,3,none⟩ (.slice aI inn.length cI)).heap.size=w11.heap.size:=(by simp [World.setCell]);simp at hT12;have rZ12:=rZ11.set (p:=⟨w1.heap.size,3,none⟩) (by simp) (.slice aI inn.length cI);have rI12:=rI11.set (p:=⟨w1.heap.size,3,none⟩) (by simp) (.slice aI inn.length cI);go_wp2_with fail;generalize w11.setCell ⟨w1.heap.size,3,none⟩ (.slice aI inn.length cI)=w12 at hT12 hN12 h12 A12 z12 rZ12 rI12 ⊢;clear tc tf A11 hN11 hT11 h11 rZ11 rI11;refine (need_any h12 ⟨#[41]⟩ (by decide)).mono ?_;rintro e w13 ⟨a13,hres⟩;have es:(⟨#[41]⟩:ByteArray).data.toList=[41]:=rfl;rw [es] at hres;clear es;have z13:=a13.size;have A13:=A12.trans a13 A12.size;have hN13:=a13.keep hN12 (by omega) (by simp;omega);have hT13:=a13.keep hT12 (by omega) (by simp;omega);have rZ13:=rZ12.past a13 (fun i hi=>by simp;omega);have rI13:=rI12.past a13 (fun i hi=>by simp;omega);clear A12 hN12 hT12 h12 a13 rZ12 rI12
         cases ht13:Ps.need I [41] n11 with
         | err c0 a0=>
          rw [ht13] at hres;obtain rfl:e=_:=hres;exact ⟨rfl,Post.fail (by rw [m11.out,ht13];rfl) A13⟩
         | ok u13 n13=>
          rw [ht13] at hres;obtain ⟨le13,h13,_,rfl,rfl⟩:=hres;have mO:Hid (Ps.node I nx=Ps.nodeO I ((I.pk nx).place:Int) s z6l inn n13):=by
           show Ps.node I nx=_
           rw [m11.out,ht13];rfl
          clear ht13 m11;go_wp2_with fail;refine (need_any h13 ⟨#[45,62]⟩ (by decide)).mono ?_;rintro e w14 ⟨a14,hres⟩;have es:(⟨#[45,62]⟩:ByteArray).data.toList=[45,62]:=rfl;rw [es] at hres;clear es;have z14:=a14.size;have A14:=A13.trans a14 A13.size;have hN14:=a14.keep hN13 (by omega) (by simp;omega);have hT14:=a14.keep hT13 (by omega) (by simp;omega);have rZ14:=rZ13.past a14 (fun i hi=>by simp;omega);have rI14:=rI13.past a14 (fun i hi=>by simp;omega);clear A13 hN13 hT13 h13 a14 rZ13 rI13
          cases ht14:Ps.need I [45,62] n13 with
          | err c0 a0=>
           rw [ht14] at hres;obtain rfl:e=_:=hres;exact ⟨rfl,Post.fail (by rw [mO.out];unfold Ps.nodeO;rw [ht14];rfl) A14⟩
          | ok u14 n14=>
           rw [ht14] at hres;obtain ⟨le14,h14,_,rfl,rfl⟩:=hres;have m14:Hid (Ps.node I nx=(Ps.need I [40] n14).bind fun _ n15=>(Ps.row I (Ps.decl I) 30 [] n15).bind fun out n16=>(Ps.need I [41] n16).bind fun _ n18=>(Ps.need I [123] n18).bind fun _ n19=>(Ps.lines I (I.L.length-n19+1) [] [] n19).bind fun p n15=>.ok ⟨s,((I.pk nx).place:Int),z6l,inn,out,p.1,p.2⟩ n15):=by
            show Ps.node I nx=_
            rw [mO.out];unfold Ps.nodeO;rw [ht14];rfl
           clear ht14 mO;go_wp2_with fail;refine (need_any h14 ⟨#[40]⟩ (by decide)).mono ?_;rintro e w15 ⟨a15,hres⟩;have es:(⟨#[40]⟩:ByteArray).data.toList=[40]:=rfl;rw [es] at hres;clear es;have z15:=a15.size;have A15:=A14.trans a15 A14.size;have hN15:=a15.keep hN14 (by omega) (by simp;omega);have hT15:=a15.keep hT14 (by omega) (by simp;omega);have rZ15:=rZ14.past a15 (fun i hi=>by simp;omega);have rI15:=rI14.past a15 (fun i hi=>by simp;omega);clear A14 hN14 hT14 h14 a15 rZ14 rI14
           cases ht15:Ps.need I [40] n14 with
           | err c0 a0=>
            rw [ht15] at hres;obtain rfl:e=_:=hres;exact ⟨rfl,Post.fail (by rw [m14.out,ht15];rfl) A15⟩
           | ok u15 n15=>
            rw [ht15] at hres;obtain ⟨le15,h15,_,rfl,rfl⟩:=hres;have m15:Hid (Ps.node I nx=(Ps.row I (Ps.decl I) 30 [] n15).bind fun out n16=>(Ps.need I [41] n16).bind fun _ n18=>(Ps.need I [123] n18).bind fun _ n19=>(Ps.lines I (I.L.length-n19+1) [] [] n19).bind fun p n15=>.ok ⟨s,((I.pk nx).place:Int),z6l,inn,out,p.1,p.2⟩ n15):=by
             show Ps.node I nx=_
             rw [m14.out,ht15];rfl
            clear ht15 m14;go_wp2_with fail;refine (rowDecl_any decl_any h15 (hG.far A15) 30 (by decide)).mono ?_;rintro e w16 ⟨a16,hres⟩;have z16:=a16.size;have A16:=A15.trans a16 A15.size;have hN16:=a16.keep hN15 (by omega) (by simp;omega);have hT16:=a16.keep hT15 (by omega) (by simp;omega);have rZ16:=rZ15.past a16 (fun i hi=>by simp;omega);have rI16:=rI15.past a16 (fun i hi=>by simp;omega);clear A15 hN15 hT15 h15 a16 rZ15 rI15
            cases ht16:Ps.row I (Ps.decl I) 30 [] n15 with
            | err c0 a0=>
             rw [ht16] at hres;obtain rfl:e=_:=hres;exact ⟨rfl,Post.fail (by rw [m15.out,ht16];rfl) A16⟩
            | ok out n16=>
             rw [ht16] at hres;obtain ⟨le16,h16,x16,rfl,hV⟩:=hres;obtain ⟨aO,cO,rfl,hO1',hO2'⟩:=hV.form;unfold maxLen at hO2';have rO16:=hV.wide (ok':=fun i=>w1.heap.size<i) (fun i hi _=>by omega);have m16:Hid (Ps.node I nx=(Ps.need I [41] n16).bind fun _ n18=>(Ps.need I [123] n18).bind fun _ n19=>(Ps.lines I (I.L.length-n19+1) [] [] n19).bind fun p n15=>.ok ⟨s,((I.pk nx).place:Int),z6l,inn,out,p.1,p.2⟩ n15):=by
              show Ps.node I nx=_
              rw [m15.out,ht16];rfl
             clear ht16 hV m15;have tc:=co hT16 4;have tf:=fo hT16 4;simp at tc;have hT17:=set_in hT16 4 (.slice aO out.length cO);have hN17:=keep_set hN16 (p:=⟨w1.heap.size,4,none⟩) (by simp;omega) (.slice aO out.length cO);have h17:=h16.set (p:=⟨w1.heap.size,4,none⟩) (by simp;omega) (by simp;omega) (.slice aO out.length cO);have A17:=A16.set (p:=⟨w1.heap.size,4,none⟩) (by simp;omega) (.slice aO out.length cO);have z17:(w16.setCell ⟨w1.heap.size,4,none⟩ (.slice aO out.length cO)).heap.size=w16.heap.size:=(by simp [World.setCell]);simp at hT17;have rZ17:=rZ16.set (p:=⟨w1.heap.size,4,none⟩) (by simp) (.slice aO out.length cO);have rI17:=rI16.set (p:=⟨w1.heap.size,4,none⟩) (by simp) (.slice aO out.length cO);have rO17:=rO16.set (p:=⟨w1.heap.size,4,none⟩) (by simp) (.slice aO out.length cO);go_wp2_with fail;generalize w16.setCell ⟨w1.heap.size,4,none⟩ (.slice aO out.length cO)=w17 at hT17 hN17 h17 A17 z17 rZ17 rI17 rO17 ⊢;clear tc tf A16 hN16 hT16 h16 rZ16 rI16 rO16;refine (need_any h17 ⟨#[41]⟩ (by decide)).mono ?_;rintro e w18 ⟨a18,hres⟩;have es:(⟨#[41]⟩:ByteArray).data.toList=[41]:=rfl;rw [es] at hres;clear es;have z18:=a18.size;have A18:=A17.trans a18 A17.size;have hN18:=a18.keep hN17 (by omega) (by simp;omega);have hT18:=a18.keep hT17 (by omega) (by simp;omega);have rZ18:=rZ17.past a18 (fun i hi=>by simp;omega);have rI18:=rI17.past a18 (fun i hi=>by simp;omega);have rO18:=rO17.past a18 (fun i hi=>by simp;omega);clear A17 hN17 hT17 h17 a18 rZ17 rI17 rO17
             cases ht18:Ps.need I [41] n16 with
             | err c0 a0=>
              rw [ht18] at hres;obtain rfl:e=_:=hres;exact ⟨rfl,Post.fail (by rw [m16.out,ht18];rfl) A18⟩
             | ok u18 n18=>
              rw [ht18] at hres;obtain ⟨le18,h18,_,rfl,rfl⟩:=hres;have m18:Hid (Ps.node I nx=(Ps.need I [123] n18).bind fun _ n19=>(Ps.lines I (I.L.length-n19+1) [] [] n19).bind fun p n15=>.ok ⟨s,((I.pk nx).place:Int),z6l,inn,out,p.1,p.2⟩ n15):=by
               show Ps.node I nx=_
               rw [m16.out,ht18];rfl
              clear ht18 m16;go_wp2_with fail;refine (need_any h18 ⟨#[123]⟩ (by decide)).mono ?_;rintro e w19 ⟨a19,hres⟩;have es:(⟨#[123]⟩:ByteArray).data.toList=[123]:=rfl;rw [es] at hres;clear es;have z19:=a19.size;have A19:=A18.trans a19 A18.size;have hN19:=a19.keep hN18 (by omega) (by simp;omega);have hT19:=a19.keep hT18 (by omega) (by simp;omega);have rZ19:=rZ18.past a19 (fun i hi=>by simp;omega);have rI19:=rI18.past a19 (fun i hi=>by simp;omega);have rO19:=rO18.past a19 (fun i hi=>by simp;omega);clear A18 hN18 hT18 h18 a19 rZ18 rI18 rO18
              cases ht19:Ps.need I [123] n18 with
              | err c0 a0=>
               rw [ht19] at hres;obtain rfl:e=_:=hres;exact ⟨rfl,Post.fail (by rw [m18.out,ht19];rfl) A19⟩
              | ok u19 n19=>
               rw [ht19] at hres;obtain ⟨le19,h19,_,rfl,rfl⟩:=hres;have m19:Hid (Ps.node I nx=(Ps.lines I (I.L.length-n19+1) [] [] n19).bind fun p n15=>.ok ⟨s,((I.pk nx).place:Int),z6l,inn,out,p.1,p.2⟩ n15):=by
                show Ps.node I nx=_
                rw [m18.out,ht19];rfl
               clear ht19 m18;have rZb:=rZ19.wide (ok':=fun i=>w1.heap.size<i∧i<w19.heap.size) (fun i hi hl=>⟨hi,hl⟩);have rIb:=rI19.wide (ok':=fun i=>w1.heap.size<i∧i<w19.heap.size) (fun i hi hl=>⟨hi,hl⟩);have rOb:=rO19.wide (ok':=fun i=>w1.heap.size<i∧i<w19.heap.size) (fun i hi hl=>⟨hi,hl⟩);clear rZ19 rI19 rO19;have hAs:=A19;go_wp2;go_loopg [] (I.L.length-n19+1) (fun k wr=>∃ (m:Nat) (loc:List De) (eqs:List Eqn),I.L.length+1≤m+k∧nx≤m∧Rd wr b g cap I.L I.len m 0∧Aside [b,w1.heap.size] w19.heap.size w19 wr ∧
                 LineSt w19.heap.size w1.heap.size s (t.place:Int) (.slice aZ z6l.length cZ) (.slice aI inn.length cI) (.slice aO out.length cO) wr loc eqs∧Hid (Ps.node I nx=(Ps.lines I k loc eqs m).bind fun p n15=>.ok ⟨s,((I.pk nx).place:Int),z6l,inn,out,p.1,p.2⟩ n15))
               case atStart=>exact ⟨n19,[],[],by omega,by omega,h19,Aside.refl _,⟨_,_,fun _=>False,fun _=>False,hT19,OwnX.nil,OwnX.nil,fun i hi=>hi.elim,fun i hi=>hi.elim,fun i hi=>hi.elim⟩,m19⟩
               case round=>
                clear m19 hT19 h19;obtain ⟨m,loc,eqs,hk,hle,hr,ha,hS,hmod⟩:=hrel;have hle2:=hr.le;obtain ⟨f,rfl⟩:∃ f,gk=f+1:=⟨gk-1,by omega⟩;have hst:=hide hmod.out;rw [lines_succ] at hst;clear hmod;have zr:=ha.size;go_wp2_with fail;refine (take_any hr ⟨#[125]⟩ (by decide)).mono ?_;rintro e w20 ⟨rfl,h20,a20⟩;have es:(⟨#[125]⟩:ByteArray).data.toList=[125]:=rfl;rw [es] at h20;simp only [es];clear es;have z20:=a20.size;have ha20:Aside [b,w1.heap.size] w19.heap.size w19 w20:=ha.trans (aside2 a20) (by omega);have hS20:LineSt w19.heap.size w1.heap.size s (t.place:Int) (.slice aZ z6l.length cZ) (.slice aI inn.length cI) (.slice aO out.length cO) w20 loc eqs:=by
                 obtain ⟨vL,vE,okL,okE,q1,q2,q3,q4,q5,q6⟩:=hS;exact ⟨vL,vE,okL,okE,a20.keep q1 (lt_of q1) (by simp;omega),q2.past a20 (fun i hi=>by have:=q4 i hi;simp;omega),q3.past a20 (fun i hi=>by have:=q5 i hi;simp;omega),q4,q5,q6⟩
                clear hr ha hS a20
                cases hq:Ps.sees I [125] m with
                | false=>
                 rw [hq] at h20 hst;simp only [Bool.false_eq_true,if_false] at h20;go_wp2_with fail;refine (line_any hform hL h20 ((hG.far hAs).far2 ha20 (by have:=hG.one;omega) (by omega)) (by have:=hG.one;omega) (by omega) (by omega) (by omega) (by omega) (by omega) (by omega) hS20).mono ?_;rintro e w21 ⟨a21,hres⟩;have ha21:=ha20.trans a21 nR
                 cases htl:Ps.line I loc eqs m with
                 | err c0 a0=>
                  rw [htl] at hres;obtain rfl:e=_:=hres;exact ⟨rfl,Post.fail (by rw [hst.out];simp only [Bool.false_eq_true,if_false];rw [htl];rfl) (hAs.trans (ha21.mono (B':=w.heap.size) (by omega) |>.wide (fun k hk hn hm=>by simp at hm hn;omega)) (by omega))⟩
                 | ok pp n21=>
                  rw [htl] at hres;obtain ⟨le21,h21,rfl,hS21⟩:=hres;have hmod2:Hid (Ps.node I nx=(Ps.lines I f pp.1 pp.2 n21).bind fun p n15=>.ok ⟨s,((I.pk nx).place:Int),z6l,inn,out,p.1,p.2⟩ n15):=by
                   show Ps.node I nx=_
                   rw [hst.out];simp only [Bool.false_eq_true,if_false];rw [htl];rfl
                  go_wp2;go_roundg f
                  case measure=>omega
                  case rel=>exact ⟨n21,pp.1,pp.2,by omega,by omega,h21,ha21,hS21,hmod2⟩
                | true=>
                 rw [hq] at h20 hst;simp only [if_true] at h20;obtain ⟨vL,vE,okL,okE,hT20,oL,oE,hokL,hokE,hdis⟩:=hS20;obtain ⟨aL,cL,rfl,hL1,hL2⟩:=oL.form;obtain ⟨aE,cE,rfl,hE1,hE2⟩:=oE.form;unfold maxLen at hL2 hE2;have hN20:=ha20.keep hN19 (by omega) (by simp;omega);have A20:Aside [b] w.heap.size w w20:=hAs.trans (ha20.mono (B':=w.heap.size) (by omega) |>.wide (fun k hk hn hm=>by simp at hm hn;omega)) (by omega);have rZc:=(rZb.keep ha20.size (fun i hi hl=>ha20.block i hi.2 (by simp;omega))).wide (ok':=fun i=>w.heap.size<i) (fun i hi _=>by omega);have rIc:=(rIb.keep ha20.size (fun i hi hl=>ha20.block i hi.2 (by simp;omega))).wide (ok':=fun i=>w.heap.size<i) (fun i hi _=>by omega);have rOc:=(rOb.keep ha20.size (fun i hi hl=>ha20.block i hi.2 (by simp;omega))).wide (ok':=fun i=>w.heap.size<i) (fun i hi _=>by omega);have rLc:=oL.row.wide (ok':=fun i=>w.heap.size<i) (fun i hi _=>by have:=hokL i hi;omega);have rEc:=oE.row.wide (ok':=fun i=>w.heap.size<i) (fun i hi _=>by have:=hokE i hi;omega);have fa:=fun o=>fo hN20 o;clear oL oE hokL hokE hdis ha20 rZb rIb rOb;have ca0:=co hN20 0;have cb0:=co hT20 0;have ca1:=co hN20 1;have cb1:=co hT20 1;have ca2:=co hN20 2;have cb2:=co hT20 2;have ca3:=co hN20 3;have cb3:=co hT20 3;have ca4:=co hN20 4;have cb4:=co hT20 4;have ca5:=co hN20 5;have cb5:=co hT20 5;have ca6:=co hN20 6;have cb6:=co hT20 6;simp only [gT,gZ,gS] at ca0 cb0 ca1 cb1 ca2 cb2 ca3 cb3 ca4 cb4 ca5 cb5 ca6 cb6;go_wp2;refine bodyPost_ret (v:=.agg #[.string s,.int .i64 (t.place:Int),.slice aZ z6l.length cZ,.slice aI inn.length cI,.slice aO out.length cO,.slice aL loc.length cL,.slice aE eqs.length cE]) (by simp [results,Tryz.results107,go_sem,ca0,ca1,ca2,ca3,ca4,ca5,ca6]) rfl ?_;exact Post.good (v:=Nd.mk s ((I.pk nx).place:Int) z6l inn out loc eqs) (by rw [hst.out];rfl) (A20.put7 (k:=w.heap.size) nR ⟨s,(t.place:Int),aZ,z6l.length,cZ,aI,inn.length,cI,aO,out.length,cO,aL,loc.length,cL,aE,eqs.length,cE⟩) (by omega) (h20.put7 (k:=w.heap.size) (by omega) (by omega) ⟨s,(t.place:Int),aZ,z6l.length,cZ,aI,inn.length,cI,aO,out.length,cO,aL,loc.length,cL,aE,eqs.length,cE⟩) ⟨⟨s,(t.place:Int),aZ,z6l.length,cZ,aI,inn.length,cI,aO,out.length,cO,aL,loc.length,cL,aE,eqs.length,cE⟩,rfl,⟨rfl,by rw [←HT.out],names_row ((rZc.put7 (k:=w.heap.size) (by omega) ⟨s,(t.place:Int),aZ,z6l.length,cZ,aI,inn.length,cI,aO,out.length,cO,aL,loc.length,cL,aE,eqs.length,cE⟩).wide (fun i hi _=>Nat.le_of_lt hi)),decls_row ((rIc.put7 (k:=w.heap.size) (by omega) ⟨s,(t.place:Int),aZ,z6l.length,cZ,aI,inn.length,cI,aO,out.length,cO,aL,loc.length,cL,aE,eqs.length,cE⟩).wide (fun i hi _=>Nat.le_of_lt hi)),decls_row ((rOc.put7 (k:=w.heap.size) (by omega) ⟨s,(t.place:Int),aZ,z6l.length,cZ,aI,inn.length,cI,aO,out.length,cO,aL,loc.length,cL,aE,eqs.length,cE⟩).wide (fun i hi _=>Nat.le_of_lt hi)),decls_row ((rLc.put7 (k:=w.heap.size) (by omega) ⟨s,(t.place:Int),aZ,z6l.length,cZ,aI,inn.length,cI,aO,out.length,cO,aL,loc.length,cL,aE,eqs.length,cE⟩).wide (fun i hi _=>Nat.le_of_lt hi)),eqs_row ((rEc.put7 (k:=w.heap.size) (by omega) ⟨s,(t.place:Int),aZ,z6l.length,cZ,aI,inn.length,cI,aO,out.length,cO,aL,loc.length,cL,aE,eqs.length,cE⟩).wide (fun i hi _=>Nat.le_of_lt hi))⟩⟩
end Go.Proofs.YtkfgbhlpjkkgfaaGreatDoor
