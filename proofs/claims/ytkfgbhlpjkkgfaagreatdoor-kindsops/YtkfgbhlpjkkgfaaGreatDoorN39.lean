import Derived.Test.YtkfgbhlpjkkgfaaGreatDoorN38
set_option linter.unusedVariables false
set_option linter.unusedSimpArgs false
set_option maxHeartbeats 64000000
set_option maxRecDepth 100000
namespace Go.Proofs.YtkfgbhlpjkkgfaaGreatDoor
open Go.RowKit Go.IntWalk
def put5 (w:World) (k:Nat) (y:EqV):World:=(((((w.setCell ⟨k,0,none⟩ (.int .i64 y.place)).setCell ⟨k,1,none⟩ (.slice y.aN y.nN y.cN)).setCell ⟨k,2,none⟩ (.string y.node)).setCell ⟨k,3,none⟩ (.slice y.aS y.nS y.cS)).setCell ⟨k,4,none⟩ (.slice y.aE y.nE y.cE))
theorem put5_size (w:World) (k:Nat) (y:EqV):(put5 w k y).heap.size=w.heap.size:=by simp [put5,World.setCell]
theorem put5_block (w:World) (k:Nat) (y:EqV) (i:Nat) (h:i≠k):(put5 w k y).heap[i]?=w.heap[i]?:=by
 unfold put5;rw [Below.heap_setCell _ _ _ _ h,Below.heap_setCell _ _ _ _ h,Below.heap_setCell _ _ _ _ h,Below.heap_setCell _ _ _ _ h,Below.heap_setCell _ _ _ _ h]
theorem Rd.put5 {w:World} {b g cap:Nat} {L:List Tk.Tok} {len nx op:Nat} (h:Rd w b g cap L len nx op) {k:Nat} (hb:k≠b) (hg:k≠g) (y:EqV):Rd (put5 w k y) b g cap L len nx op :=
 ⟨(put5_block _ _ _ _ hb.symm).trans h.here,h.toks.keep (put5_block _ _ _ _ hg.symm),h.apart,by rw [put5_size];exact h.gb,h.le,h.lc,h.cm⟩
theorem Aside.put5 {S:List Nat} {B:Nat} {w w':World} (h:Aside S B w w') {k:Nat} (hk:B≤k) (y:EqV):Aside S B w (put5 w' k y):=by
 unfold YtkfgbhlpjkkgfaaGreatDoor.put5;exact (((((h.set (p:=⟨k,0,none⟩) hk _).set (p:=⟨k,1,none⟩) hk _).set (p:=⟨k,2,none⟩) hk _).set (p:=⟨k,3,none⟩) hk _).set (p:=⟨k,4,none⟩) hk _)
theorem HRow.put5 {α:Type} {T:Kind α} {ok:Nat→Prop} {w:World} {v:Value} {l:List α} (h:HRow T ok w v l) {k:Nat} (hk:¬ok k) (y:EqV):HRow T ok (put5 w k y) v l :=
 h.keep (by rw [put5_size];exact Nat.le_refl _) fun i hi _=>put5_block _ _ _ _ (fun e=>hk (e ▸ hi))
theorem HEx.put5 {ok:Nat→Prop} {w:World} {cs:List Value} {e:Ex} (h:HEx ok w cs e) {k:Nat} (hk:¬ok k) (y:EqV):HEx ok (put5 w k y) cs e :=
 h.keep (by rw [put5_size];exact Nat.le_refl _) fun i hi _=>put5_block _ _ _ _ (fun e=>hk (e ▸ hi))
def eqV:Nat→World→Value→Eqn→Prop:=fun B w x q=>∃ y:EqV,x=.agg #[.int .i64 y.place,.slice y.aN y.nN y.cN,.string y.node,.slice y.aS y.nS y.cS,.slice y.aE y.nE y.cE]∧HEq (fun i=>B≤i) w y q
theorem Res.bind_assoc {α β γ:Type} (r:Res α) (f:α→Nat→Res β) (h:β→Nat→Res γ):(r.bind f).bind h=r.bind fun v n=>(f v n).bind h:=by
 cases r<;>rfl
namespace Ps
def callE (I:Inp) (at0:Int) (l:List ByteArray) (s:ByteArray) (z:List (List Tm)) (n5:Nat):Res Eqn :=
 (need I [40] n5).bind fun _ n6=>(if sees I [41] n6=true then .ok [] (n6+1) else (row I (whole I) 30 [] n6).bind fun e n7=>(need I [41] n7).bind fun _ n8=>.ok e n8).bind fun e n9=>.ok ⟨at0,l,s,z,e⟩ n9
end Ps
theorem call_eq (I:Inp) (at0:Int) (l:List ByteArray) (n:Nat):Ps.call I at0 l n=(Ps.need I [99,97,108,108] n).bind fun _ n1=>(Ps.name I n1).bind fun s n2 =>
  (if Ps.sees I [60] n2=true then (Ps.row I (Ps.size I) 3 [] (n2+1)).bind fun z n3=>(Ps.need I [62] n3).bind fun _ n4=>.ok z n4 else .ok [] n2).bind fun z n5=>Ps.callE I at0 l s z n5:=rfl
theorem equation_any (hform:FormC) {b g cap:Nat} {I:Inp} (hL:I.L.length≤1099511627776):Does 185 b g cap I 0 eqV (Ps.equation I):=by
 intro nx w h hG;have HW:=whole_any hform (b:=b) (g:=g) (cap:=cap) hL;have hb:=h.bb;have hg:=h.gb;have hmf:=makes;have h0:=h.alloc (.cells #[.int .i64 0,.slice none 0 0,.string ⟨#[]⟩,.slice none 0 0,.slice none 0 0] 56 (0,0));have hN0:=heap_new w (.cells #[.int .i64 0,.slice none 0 0,.string ⟨#[]⟩,.slice none 0 0,.slice none 0 0] 56 (0,0));have z0:(w.alloc (.cells #[.int .i64 0,.slice none 0 0,.string ⟨#[]⟩,.slice none 0 0,.slice none 0 0] 56 (0,0))).heap.size=w.heap.size+1:=(by simp);have A0:=(Aside.refl (S:=[b]) (B:=w.heap.size) w).alloc nR (.cells #[.int .i64 0,.slice none 0 0,.string ⟨#[]⟩,.slice none 0 0,.slice none 0 0] 56 (0,0));have hp:=@peek_any _ _ _ _ _ _ _ _ h0;obtain ⟨t,ht⟩:=nmQ (I.pk nx);have hpk:peekT I.L I.len nx=t:=ht.symm;rw [hpk] at hp;unfold tokV at hp;have hf:=fun x w=>tokF1 t x w;have HT:=hide ht;clear hpk ht;go_enter Tryz.func185,Tryz.ntmps185;go_wp2_with fail;generalize w.alloc (.cells #[.int .i64 0,.slice none 0 0,.string ⟨#[]⟩,.slice none 0 0,.slice none 0 0] 56 (0,0))=W at h0 hN0 z0 A0 hp ⊢;refine hp.mono ?_;rintro e w1 ⟨rfl,b1⟩;have z1:=b1.size;have h1:=(h0.below b1).alloc (.cells #[.int .i64 (t.place:Int),.slice none 0 0,.string ⟨#[]⟩,.slice none 0 0,.slice none 0 0] 56 (0,0));have A1:=(A0.trans (aside b1) A0.size).alloc (by omega) (.cells #[.int .i64 (t.place:Int),.slice none 0 0,.string ⟨#[]⟩,.slice none 0 0,.slice none 0 0] 56 (0,0));have hN1:=kA ((aside b1 (S:=[])).keep hN0 (lt_of hN0) (by simp)) (.cells #[.int .i64 (t.place:Int),.slice none 0 0,.string ⟨#[]⟩,.slice none 0 0,.slice none 0 0] 56 (0,0));have hT1:=heap_new w1 (.cells #[.int .i64 (t.place:Int),.slice none 0 0,.string ⟨#[]⟩,.slice none 0 0,.slice none 0 0] 56 (0,0));have y1:(w1.alloc (.cells #[.int .i64 (t.place:Int),.slice none 0 0,.string ⟨#[]⟩,.slice none 0 0,.slice none 0 0] 56 (0,0))).heap.size=w1.heap.size+1:=(by simp);clear hp h0 A0 hN0 b1;go_wp2_with fail;generalize w1.alloc (.cells #[.int .i64 (t.place:Int),.slice none 0 0,.string ⟨#[]⟩,.slice none 0 0,.slice none 0 0] 56 (0,0))=W1 at h1 A1 hN1 hT1 y1 ⊢;refine (rowName_any (fun n w h _=>name_any h) h1 (hG.far A1) 30 (by decide)).mono ?_;rintro e w2 ⟨a2,hres⟩;have z2:=a2.size;have A2:=A1.trans a2 A1.size;have hN2:=a2.keep hN1 (by omega) (by simp;omega);have hT2:=a2.keep hT1 (by omega) (by simp;omega);clear A1 hN1 hT1 h1 a2
 cases ht2:Ps.row I (Ps.name I) 30 [] nx with
 | err c0 a0=>
  rw [ht2] at hres;obtain rfl:e=_:=hres;exact ⟨rfl,Post.fail (by unfold Ps.equation;rw [ht2];rfl) A2⟩
 | ok l n1=>
  rw [ht2] at hres;obtain ⟨le2,h2,x2,rfl,hV⟩:=hres;obtain ⟨aN,cN,rfl,hN1',hN2'⟩:=hV.form;unfold maxLen at hN2';have rN2:=hV.wide (ok':=fun i=>w1.heap.size<i) (fun i hi _=>by omega);have m2:Hid (Ps.equation I nx=(Ps.need I [61] n1).bind fun _ n2=>if l.length=1∧Ps.sees I [99,97,108,108] n2=false then (Ps.whole I n2).bind fun e n3=>.ok ⟨((I.pk nx).place:Int),l,⟨#[]⟩,[],[e]⟩ n3 else Ps.call I ((I.pk nx).place:Int) l n2):=by
   show Ps.equation I nx=_
   unfold Ps.equation;rw [ht2];rfl
  clear ht2 hV;have tc:=co hT2 1;have tf:=fo hT2 1;simp at tc;have hT3:=set_in hT2 1 (.slice aN l.length cN);have hN3:=keep_set hN2 (p:=⟨w1.heap.size,1,none⟩) (by simp;omega) (.slice aN l.length cN);have h3:=h2.set (p:=⟨w1.heap.size,1,none⟩) (by simp;omega) (by simp;omega) (.slice aN l.length cN);have A3:=A2.set (p:=⟨w1.heap.size,1,none⟩) (by simp;omega) (.slice aN l.length cN);have z3:(w2.setCell ⟨w1.heap.size,1,none⟩ (.slice aN l.length cN)).heap.size=w2.heap.size:=(by simp [World.setCell]);simp at hT3;have rN3:=rN2.set (p:=⟨w1.heap.size,1,none⟩) (by simp) (.slice aN l.length cN);go_wp2_with fail;generalize w2.setCell ⟨w1.heap.size,1,none⟩ (.slice aN l.length cN)=w3 at hT3 hN3 h3 A3 z3 rN3 ⊢;clear tc tf A2 hN2 hT2 h2 rN2;refine (need_any h3 ⟨#[61]⟩ (by decide)).mono ?_;rintro e w4 ⟨a4,hres⟩;have es:(⟨#[61]⟩:ByteArray).data.toList=[61]:=rfl;rw [es] at hres;clear es;have z4:=a4.size;have A4:=A3.trans a4 A3.size;have hN4:=a4.keep hN3 (by omega) (by simp;omega);have hT4:=a4.keep hT3 (by omega) (by simp;omega);have rN4:=rN3.past a4 (fun i hi=>by simp;omega);clear A3 hN3 hT3 h3 a4 rN3
  cases ht4:Ps.need I [61] n1 with
  | err c0 a0=>
   rw [ht4] at hres;obtain rfl:e=_:=hres;exact ⟨rfl,Post.fail (by rw [m2.out,ht4];rfl) A4⟩
  | ok u n2=>
   rw [ht4] at hres;obtain ⟨le4,h4,_,rfl,rfl⟩:=hres;have m4:Hid (Ps.equation I nx=if l.length=1∧Ps.sees I [99,97,108,108] n2=false then (Ps.whole I n2).bind fun e n3=>.ok ⟨((I.pk nx).place:Int),l,⟨#[]⟩,[],[e]⟩ n3 else Ps.call I ((I.pk nx).place:Int) l n2):=by
    show Ps.equation I nx=_
    rw [m2.out,ht4];rfl
   clear ht4 m2;have t1:=co hT4 1;simp at t1;by_cases hl1:l.length=1
   ·have hlb:((l.length:Int)==1)=true:=by rw [beq_iff_eq];omega
    have HL1:=hide hl1;clear hl1;go_wp2_with fail;clear hlb;refine (seesI h4 ⟨#[99,97,108,108]⟩).mono ?_;rintro e w5 ⟨rfl,b5⟩;have es:(⟨#[99,97,108,108]⟩:ByteArray).data.toList=[99,97,108,108]:=rfl;simp only [es];clear es t1;have a5:Aside [b] w4.heap.size w4 w5:=aside b5;have h5:=h4.below b5;have z5:=a5.size;have A5:=A4.trans a5 A4.size;have hN5:=a5.keep hN4 (by omega) (by simp;omega);have hT5:=a5.keep hT4 (by omega) (by simp;omega);have rN5:=rN4.past a5 (fun i hi=>by simp;omega);clear A4 hN4 hT4 h4 a5 rN4 b5
    cases hq5:Ps.sees I [99,97,108,108] n2 with
    | false=>
     have m5:Hid (Ps.equation I nx=(Ps.whole I n2).bind fun e n3=>.ok ⟨((I.pk nx).place:Int),l,⟨#[]⟩,[],[e]⟩ n3):=by
      show Ps.equation I nx=_
      rw [m4.out,if_pos ⟨HL1.out,hq5⟩]
     clear m4;go_wp2_with fail;refine (HW _ _ h5 (hG.far A5)).mono ?_;rintro e w6 ⟨a6,hres⟩;have z6:=a6.size;have A6:=A5.trans a6 A5.size;have hN6:=a6.keep hN5 (by omega) (by simp;omega);have hT6:=a6.keep hT5 (by omega) (by simp;omega);have rN6:=rN5.past a6 (fun i hi=>by simp;omega);clear A5 hN5 hT5 h5 a6 rN5
     cases ht6:Ps.whole I n2 with
     | err c0 a0=>
      rw [ht6] at hres;obtain rfl:e=_:=hres;exact ⟨rfl,Post.fail (by rw [m5.out,ht6];rfl) A6⟩
     | ok e6 n6=>
      rw [ht6] at hres;obtain ⟨le6,h6,_,rfl,x6,rfl,he6⟩:=hres;have m6:Hid (Ps.equation I nx=.ok ⟨((I.pk nx).place:Int),l,⟨#[]⟩,[],[e6]⟩ n6):=by
       show Ps.equation I nx=_
       rw [m5.out,ht6];rfl
      clear ht6 m5;have hlt:=lt_of hN6;have hltT:=lt_of hT6;have fa:=fun o=>fo hN6 o;have ft:=fun o=>fo hT6 o;have q6:=he6.wide (ok':=fun i=>w1.heap.size<i) (fun i hi _=>by omega);have ca0:=co hN6 0;have ca1:=co hN6 1;have ca2:=co hN6 2;have ca3:=co hN6 3;have ca4:=co hN6 4;simp at ca0 ca1 ca2 ca3 ca4;have cb0:=co hT6 0;have cb1:=co hT6 1;have cb2:=co hT6 2;have cb3:=co hT6 3;have cb4:=co hT6 4;simp at cb0 cb1 cb2 cb3 cb4;have rN7:=rN6.set (p:=⟨w1.heap.size,4,none⟩) (by simp) (.slice (some ⟨w6.heap.size,0,none⟩) 1 1);have hN7:=keep_set hN6 (p:=⟨w1.heap.size,4,none⟩) (by simp;omega) (.slice (some ⟨w6.heap.size,0,none⟩) 1 1);have q7:=q6.set (p:=⟨w1.heap.size,4,none⟩) (by simp) (.slice (some ⟨w6.heap.size,0,none⟩) 1 1);have A7:=A6.set (p:=⟨w1.heap.size,4,none⟩) (by simp;omega) (.slice (some ⟨w6.heap.size,0,none⟩) 1 1);have h7:=h6.set (p:=⟨w1.heap.size,4,none⟩) (by simp;omega) (by simp;omega) (.slice (some ⟨w6.heap.size,0,none⟩) 1 1);have z7:(w6.setCell ⟨w1.heap.size,4,none⟩ (.slice (some ⟨w6.heap.size,0,none⟩) 1 1)).heap.size=w6.heap.size:=(by simp [World.setCell]);clear A6 h6 q6 rN6;go_wp2;generalize w6.setCell ⟨w1.heap.size,4,none⟩ (.slice (some ⟨w6.heap.size,0,none⟩) 1 1)=w7 at rN7 q7 A7 h7 z7 hN7 ⊢;have hlt7:=lt_of hN7;have ra0:=co hN7 0;have ra1:=co hN7 1;have ra2:=co hN7 2;have ra3:=co hN7 3;have ra4:=co hN7 4;simp at ra0 ra1 ra2 ra3 ra4;have zP:(put5 w7 w.heap.size ⟨(t.place:Int),aN,l.length,cN,⟨#[]⟩,none,0,0,some ⟨w6.heap.size,0,none⟩,1,1⟩).heap.size=w6.heap.size:=(put5_size _ _ _).trans z7;have hLit:=exprs_lit1 (q7.put5 (k:=w.heap.size) (by omega) ⟨(t.place:Int),aN,l.length,cN,⟨#[]⟩,none,0,0,some ⟨w6.heap.size,0,none⟩,1,1⟩) 54 (by rw [zP];omega);have rN8:=(rN7.put5 (k:=w.heap.size) (by omega) ⟨(t.place:Int),aN,l.length,cN,⟨#[]⟩,none,0,0,some ⟨w6.heap.size,0,none⟩,1,1⟩).under ((Below.refl _ _).alloc nR (.cells #[.int .i64 x6.op,.int .i64 x6.k,.int .i64 x6.n,.string x6.name,.slice x6.aS x6.nS x6.cS,.slice x6.aL x6.nL x6.cL] 54 (0,0)));rw [zP] at hLit;refine bodyPost_ret (v:=.agg #[.int .i64 (t.place:Int),.slice aN l.length cN,.string ⟨#[]⟩,.slice none 0 0,.slice (some ⟨w6.heap.size,0,none⟩) 1 1]) (by simp [results,Tryz.results185,go_sem,ra0,ra1,ra2,ra3,ra4,hlt7]) rfl ?_;exact Post.good (v:=⟨((I.pk nx).place:Int),l,⟨#[]⟩,[],[e6]⟩) m6.out ((A7.put5 (k:=w.heap.size) nR ⟨(t.place:Int),aN,l.length,cN,⟨#[]⟩,none,0,0,some ⟨w6.heap.size,0,none⟩,1,1⟩).alloc (by rw [zP];omega) _) (by omega) ((h7.put5 (k:=w.heap.size) (by omega) (by omega) ⟨(t.place:Int),aN,l.length,cN,⟨#[]⟩,none,0,0,some ⟨w6.heap.size,0,none⟩,1,1⟩).alloc _) ⟨⟨(t.place:Int),aN,l.length,cN,⟨#[]⟩,none,0,0,some ⟨w6.heap.size,0,none⟩,1,1⟩,rfl,⟨by rw [←HT.out],names_row (rN8.wide (fun i hi _=>by omega)),rfl,sizes_nil,hLit.wide (fun i hi _=>by omega)⟩⟩
    | true=>
     have m5:Hid (Ps.equation I nx=Ps.call I ((I.pk nx).place:Int) l n2):=by
      show Ps.equation I nx=_
      rw [m4.out,if_neg (by simp [hq5])]
     clear m4;go_wp2_with fail;refine (need_any h5 ⟨#[99,97,108,108]⟩ (by decide)).mono ?_;rintro e w7 ⟨a7,hres⟩;have es:(⟨#[99,97,108,108]⟩:ByteArray).data.toList=[99,97,108,108]:=rfl;rw [es] at hres;clear es;have z7:=a7.size;have A7:=A5.trans a7 A5.size;have hN7:=a7.keep hN5 (by omega) (by simp;omega);have hT7:=a7.keep hT5 (by omega) (by simp;omega);have rN7:=rN5.past a7 (fun i hi=>by simp;omega);clear A5 hN5 hT5 h5 a7 rN5
     cases ht7:Ps.need I [99,97,108,108] n2 with
     | err c0 a0=>
      rw [ht7] at hres;obtain rfl:e=_:=hres;exact ⟨rfl,Post.fail (by rw [m5.out,call_eq,ht7];rfl) A7⟩
     | ok u7 n7=>
      rw [ht7] at hres;obtain ⟨le7,h7,_,rfl,rfl⟩:=hres;have m7:Hid (Ps.equation I nx=(Ps.name I n7).bind fun s n2=>(if Ps.sees I [60] n2=true then (Ps.row I (Ps.size I) 3 [] (n2+1)).bind fun z n3=>(Ps.need I [62] n3).bind fun _ n4=>.ok z n4 else .ok [] n2).bind fun z n5=>Ps.callE I ((I.pk nx).place:Int) l s z n5):=by
       show Ps.equation I nx=_
       rw [m5.out,call_eq,ht7];rfl
      clear ht7 m5;go_wp2_with fail;refine (name_any h7).mono ?_;rintro e w8 ⟨a8,hres⟩;have z8:=a8.size;have A8:=A7.trans a8 A7.size;have hN8:=a8.keep hN7 (by omega) (by simp;omega);have hT8:=a8.keep hT7 (by omega) (by simp;omega);have rN8:=rN7.past a8 (fun i hi=>by simp;omega);clear A7 hN7 hT7 h7 a8 rN7
      cases ht8:Ps.name I n7 with
      | err c0 a0=>
       rw [ht8] at hres;obtain rfl:e=_:=hres;exact ⟨rfl,Post.fail (by rw [m7.out,ht8];rfl) A8⟩
      | ok s n8=>
       rw [ht8] at hres;obtain ⟨le8,h8,_,rfl,rfl⟩:=hres;have m8:Hid (Ps.equation I nx=(if Ps.sees I [60] n8=true then (Ps.row I (Ps.size I) 3 [] (n8+1)).bind fun z n3=>(Ps.need I [62] n3).bind fun _ n4=>.ok z n4 else .ok [] n8).bind fun z n5=>Ps.callE I ((I.pk nx).place:Int) l s z n5):=by
        show Ps.equation I nx=_
        rw [m7.out,ht8];rfl
       clear ht8 m7;have tc:=co hT8 2;have tf:=fo hT8 2;simp at tc;have hT9:=set_in hT8 2 (.string s);have hN9:=keep_set hN8 (p:=⟨w1.heap.size,2,none⟩) (by simp;omega) (.string s);have h9:=h8.set (p:=⟨w1.heap.size,2,none⟩) (by simp;omega) (by simp;omega) (.string s);have A9:=A8.set (p:=⟨w1.heap.size,2,none⟩) (by simp;omega) (.string s);have z9:(w8.setCell ⟨w1.heap.size,2,none⟩ (.string s)).heap.size=w8.heap.size:=(by simp [World.setCell]);simp at hT9;have rN9:=rN8.set (p:=⟨w1.heap.size,2,none⟩) (by simp) (.string s);go_wp2_with fail;generalize w8.setCell ⟨w1.heap.size,2,none⟩ (.string s)=w9 at hT9 hN9 h9 A9 z9 rN9 ⊢;clear tc tf A8 hN8 hT8 h8 rN8;refine (take_any h9 ⟨#[60]⟩ (by decide)).mono ?_;rintro e w10 ⟨rfl,h10,a10⟩;have es:(⟨#[60]⟩:ByteArray).data.toList=[60]:=rfl;rw [es] at h10;simp only [es];clear es;have z10:=a10.size;have A10:=A9.trans a10 A9.size;have hN10:=a10.keep hN9 (by omega) (by simp;omega);have hT10:=a10.keep hT9 (by omega) (by simp;omega);have rN10:=rN9.past a10 (fun i hi=>by simp;omega);clear A9 hN9 hT9 h9 a10 rN9
       cases hq10:Ps.sees I [60] n8 with
       | false=>
        rw [hq10] at h10;simp only [Bool.false_eq_true,if_false] at h10;have mP:Hid (Ps.equation I nx=Ps.callE I ((I.pk nx).place:Int) l s [] n8):=by
         show Ps.equation I nx=_
         rw [m8.out,hq10];rfl
        clear m8;go_wp2_with fail;refine (need_any h10 ⟨#[40]⟩ (by decide)).mono ?_;rintro e w14 ⟨a14,hres⟩;have es:(⟨#[40]⟩:ByteArray).data.toList=[40]:=rfl;rw [es] at hres;clear es;have z14:=a14.size;have A14:=A10.trans a14 A10.size;have hN14:=a14.keep hN10 (by omega) (by simp;omega);have hT14:=a14.keep hT10 (by omega) (by simp;omega);have rN14:=rN10.past a14 (fun i hi=>by simp;omega);clear A10 hN10 hT10 h10 a14 rN10
        cases ht14:Ps.need I [40] n8 with
        | err c0 a0=>
         rw [ht14] at hres;obtain rfl:e=_:=hres;exact ⟨rfl,Post.fail (by rw [mP.out];unfold Ps.callE;rw [ht14];rfl) A14⟩
        | ok u14 n14=>
         rw [ht14] at hres;obtain ⟨le14,h14,_,rfl,rfl⟩:=hres;have m14:Hid (Ps.equation I nx=(if Ps.sees I [41] n14=true then .ok [] (n14+1) else (Ps.row I (Ps.whole I) 30 [] n14).bind fun e n7=>(Ps.need I [41] n7).bind fun _ n8=>.ok e n8).bind fun e n9=>.ok ⟨((I.pk nx).place:Int),l,s,[],e⟩ n9):=by
          show Ps.equation I nx=_
          rw [mP.out];unfold Ps.callE;rw [ht14];rfl
         clear ht14 mP;go_wp2_with fail;refine (take_any h14 ⟨#[41]⟩ (by decide)).mono ?_;rintro e w15 ⟨rfl,h15,a15⟩;have es:(⟨#[41]⟩:ByteArray).data.toList=[41]:=rfl;rw [es] at h15;simp only [es];clear es;have z15:=a15.size;have A15:=A14.trans a15 A14.size;have hN15:=a15.keep hN14 (by omega) (by simp;omega);have hT15:=a15.keep hT14 (by omega) (by simp;omega);have rN15:=rN14.past a15 (fun i hi=>by simp;omega);clear A14 hN14 hT14 h14 a15 rN14
         cases hq15:Ps.sees I [41] n14 with
         | true=>
          rw [hq15] at h15;simp only [if_true] at h15;have fa:=fun o=>fo hN15 o;have ca0:=co hN15 0;have ca1:=co hN15 1;have ca2:=co hN15 2;have ca3:=co hN15 3;have ca4:=co hN15 4;simp at ca0 ca1 ca2 ca3 ca4;have cb0:=co hT15 0;have cb1:=co hT15 1;have cb2:=co hT15 2;have cb3:=co hT15 3;have cb4:=co hT15 4;simp at cb0 cb1 cb2 cb3 cb4;go_wp2;refine bodyPost_ret (v:=.agg #[.int .i64 (t.place:Int),.slice aN l.length cN,.string s,.slice none 0 0,.slice none 0 0]) (by simp [results,Tryz.results185,go_sem,ca0,ca1,ca2,ca3,ca4]) rfl ?_;exact Post.good (v:=⟨((I.pk nx).place:Int),l,s,[],[]⟩) (by rw [m14.out,hq15];rfl) (A15.put5 (k:=w.heap.size) nR ⟨(t.place:Int),aN,l.length,cN,s,none,0,0,none,0,0⟩) (by omega) (h15.put5 (k:=w.heap.size) (by omega) (by omega) ⟨(t.place:Int),aN,l.length,cN,s,none,0,0,none,0,0⟩) ⟨⟨(t.place:Int),aN,l.length,cN,s,none,0,0,none,0,0⟩,rfl,⟨by rw [←HT.out],names_row ((rN15.put5 (k:=w.heap.size) (by omega) ⟨(t.place:Int),aN,l.length,cN,s,none,0,0,none,0,0⟩).wide (fun i hi _=>by omega)),rfl,sizes_nil,exprs_nil⟩⟩
         | false=>
          rw [hq15] at h15;simp only [Bool.false_eq_true,if_false] at h15;go_wp2_with fail;refine (rowExpr_any HW h15 (hG.far A15) 30 (by decide)).mono ?_;rintro e w16 ⟨a16,hres⟩;have z16:=a16.size;have A16:=A15.trans a16 A15.size;have hN16:=a16.keep hN15 (by omega) (by simp;omega);have hT16:=a16.keep hT15 (by omega) (by simp;omega);have rN16:=rN15.past a16 (fun i hi=>by simp;omega);clear A15 hN15 hT15 h15 a16 rN15
          cases ht16:Ps.row I (Ps.whole I) 30 [] n14 with
          | err c0 a0=>
           rw [ht16] at hres;obtain rfl:e=_:=hres;exact ⟨rfl,Post.fail (by rw [m14.out,hq15];simp only [Bool.false_eq_true,if_false];rw [ht16];rfl) A16⟩
          | ok e16 n16=>
           rw [ht16] at hres;obtain ⟨le16,h16,x16,rfl,hV⟩:=hres;obtain ⟨aE,cE,rfl,hE1',hE2'⟩:=hV.form;unfold maxLen at hE2';have rE16:=hV.wide (ok':=fun i=>w1.heap.size<i) (fun i hi _=>by omega);have m16:Hid (Ps.equation I nx=(Ps.need I [41] n16).bind fun _ n8=>.ok ⟨((I.pk nx).place:Int),l,s,[],e16⟩ n8):=by
            show Ps.equation I nx=_
            rw [m14.out,hq15];simp only [Bool.false_eq_true,if_false];rw [ht16]
            show ((Ps.need I [41] n16).bind fun _ n8=>Res.ok e16 n8).bind _=_
            rw [Res.bind_assoc];rfl
           clear ht16 hV m14;have tc:=co hT16 4;have tf:=fo hT16 4;simp at tc;have hT17:=set_in hT16 4 (.slice aE e16.length cE);have hN17:=keep_set hN16 (p:=⟨w1.heap.size,4,none⟩) (by simp;omega) (.slice aE e16.length cE);have h17:=h16.set (p:=⟨w1.heap.size,4,none⟩) (by simp;omega) (by simp;omega) (.slice aE e16.length cE);have A17:=A16.set (p:=⟨w1.heap.size,4,none⟩) (by simp;omega) (.slice aE e16.length cE);have z17:(w16.setCell ⟨w1.heap.size,4,none⟩ (.slice aE e16.length cE)).heap.size=w16.heap.size:=(by simp [World.setCell]);simp at hT17;have rN17:=rN16.set (p:=⟨w1.heap.size,4,none⟩) (by simp) (.slice aE e16.length cE);have rE17:=rE16.set (p:=⟨w1.heap.size,4,none⟩) (by simp) (.slice aE e16.length cE);go_wp2_with fail;generalize w16.setCell ⟨w1.heap.size,4,none⟩ (.slice aE e16.length cE)=w17 at hT17 hN17 h17 A17 z17 rN17 rE17 ⊢;clear tc tf A16 hN16 hT16 h16 rN16 rE16;refine (need_any h17 ⟨#[41]⟩ (by decide)).mono ?_;rintro e w18 ⟨a18,hres⟩;have es:(⟨#[41]⟩:ByteArray).data.toList=[41]:=rfl;rw [es] at hres;clear es;have z18:=a18.size;have A18:=A17.trans a18 A17.size;have hN18:=a18.keep hN17 (by omega) (by simp;omega);have hT18:=a18.keep hT17 (by omega) (by simp;omega);have rN18:=rN17.past a18 (fun i hi=>by simp;omega);have rE18:=rE17.past a18 (fun i hi=>by simp;omega);clear A17 hN17 hT17 h17 a18 rN17 rE17
           cases ht18:Ps.need I [41] n16 with
           | err c0 a0=>
            rw [ht18] at hres;obtain rfl:e=_:=hres;exact ⟨rfl,Post.fail (by rw [m16.out,ht18];rfl) A18⟩
           | ok u18 n18=>
            rw [ht18] at hres;obtain ⟨le18,h18,_,rfl,rfl⟩:=hres;have fa:=fun o=>fo hN18 o;have ca0:=co hN18 0;have ca1:=co hN18 1;have ca2:=co hN18 2;have ca3:=co hN18 3;have ca4:=co hN18 4;simp at ca0 ca1 ca2 ca3 ca4;have cb0:=co hT18 0;have cb1:=co hT18 1;have cb2:=co hT18 2;have cb3:=co hT18 3;have cb4:=co hT18 4;simp at cb0 cb1 cb2 cb3 cb4;go_wp2;refine bodyPost_ret (v:=.agg #[.int .i64 (t.place:Int),.slice aN l.length cN,.string s,.slice none 0 0,.slice aE e16.length cE]) (by simp [results,Tryz.results185,go_sem,ca0,ca1,ca2,ca3,ca4]) rfl ?_;exact Post.good (v:=⟨((I.pk nx).place:Int),l,s,[],e16⟩) (by rw [m16.out,ht18];rfl) (A18.put5 (k:=w.heap.size) nR ⟨(t.place:Int),aN,l.length,cN,s,none,0,0,aE,e16.length,cE⟩) (by omega) (h18.put5 (k:=w.heap.size) (by omega) (by omega) ⟨(t.place:Int),aN,l.length,cN,s,none,0,0,aE,e16.length,cE⟩) ⟨⟨(t.place:Int),aN,l.length,cN,s,none,0,0,aE,e16.length,cE⟩,rfl,⟨by rw [←HT.out],names_row ((rN18.put5 (k:=w.heap.size) (by omega) ⟨(t.place:Int),aN,l.length,cN,s,none,0,0,aE,e16.length,cE⟩).wide (fun i hi _=>by omega)),rfl,sizes_nil,exprs_row ((rE18.put5 (k:=w.heap.size) (by omega) ⟨(t.place:Int),aN,l.length,cN,s,none,0,0,aE,e16.length,cE⟩).wide (fun i hi _=>by omega))⟩⟩
       | true=>
        rw [hq10] at h10;simp only [if_true] at h10;go_wp2_with fail;refine (rowSize_any (fun n w h _=>size_any h) h10 (hG.far A10) 3 (by decide)).mono ?_;rintro e w11 ⟨a11,hres⟩;have z11:=a11.size;have A11:=A10.trans a11 A10.size;have hN11:=a11.keep hN10 (by omega) (by simp;omega);have hT11:=a11.keep hT10 (by omega) (by simp;omega);have rN11:=rN10.past a11 (fun i hi=>by simp;omega);clear A10 hN10 hT10 h10 a11 rN10
        cases ht11:Ps.row I (Ps.size I) 3 [] (n8+1) with
        | err c0 a0=>
         rw [ht11] at hres;obtain rfl:e=_:=hres;exact ⟨rfl,Post.fail (by rw [m8.out,hq10,if_pos rfl,ht11];rfl) A11⟩
        | ok z11 n11=>
         rw [ht11] at hres;obtain ⟨le11,h11,x11,rfl,hV⟩:=hres;obtain ⟨aS,cS,rfl,hS1',hS2'⟩:=hV.form;unfold maxLen at hS2';have rS11:=hV.wide (ok':=fun i=>w1.heap.size<i) (fun i hi _=>by omega);have m11:Hid (Ps.equation I nx=((Ps.need I [62] n11).bind fun _ n4=>Res.ok z11 n4).bind fun z n5=>Ps.callE I ((I.pk nx).place:Int) l s z n5):=by
          show Ps.equation I nx=_
          rw [m8.out,hq10,if_pos rfl,ht11];rfl
         clear ht11 hV m8;have tc:=co hT11 3;have tf:=fo hT11 3;simp at tc;have hT12:=set_in hT11 3 (.slice aS z11.length cS);have hN12:=keep_set hN11 (p:=⟨w1.heap.size,3,none⟩) (by simp;omega) (.slice aS z11.length cS);have h12:=h11.set (p:=⟨w1.heap.size,3,none⟩) (by simp;omega) (by simp;omega) (.slice aS z11.length cS);have A12:=A11.set (p:=⟨w1.heap.size,3,none⟩) (by simp;omega) (.slice aS z11.length cS);have z12:(w11.setCell ⟨w1.heap.size,3,none⟩ (.slice aS z11.length cS)).heap.size=w11.heap.size:=(by simp [World.setCell]);simp at hT12;have rN12:=rN11.set (p:=⟨w1.heap.size,3,none⟩) (by simp) (.slice aS z11.length cS);have rS12:=rS11.set (p:=⟨w1.heap.size,3,none⟩) (by simp) (.slice aS z11.length cS);go_wp2_with fail;generalize w11.setCell ⟨w1.heap.size,3,none⟩ (.slice aS z11.length cS)=w12 at hT12 hN12 h12 A12 z12 rN12 rS12 ⊢;clear tc tf A11 hN11 hT11 h11 rN11 rS11;refine (need_any h12 ⟨#[62]⟩ (by decide)).mono ?_;rintro e w13 ⟨a13,hres⟩;have es:(⟨#[62]⟩:ByteArray).data.toList=[62]:=rfl;rw [es] at hres;clear es;have z13:=a13.size;have A13:=A12.trans a13 A12.size;have hN13:=a13.keep hN12 (by omega) (by simp;omega);have hT13:=a13.keep hT12 (by omega) (by simp;omega);have rN13:=rN12.past a13 (fun i hi=>by simp;omega);have rS13:=rS12.past a13 (fun i hi=>by simp;omega);clear A12 hN12 hT12 h12 a13 rN12 rS12
         cases ht13:Ps.need I [62] n11 with
         | err c0 a0=>
          rw [ht13] at hres;obtain rfl:e=_:=hres;exact ⟨rfl,Post.fail (by rw [m11.out,ht13];rfl) A13⟩
         | ok u13 n13=>
          rw [ht13] at hres;obtain ⟨le13,h13,_,rfl,rfl⟩:=hres;have mP:Hid (Ps.equation I nx=Ps.callE I ((I.pk nx).place:Int) l s z11 n13):=by
           show Ps.equation I nx=_
           rw [m11.out,ht13];rfl
          clear ht13 m11;go_wp2_with fail;refine (need_any h13 ⟨#[40]⟩ (by decide)).mono ?_;rintro e w14 ⟨a14,hres⟩;have es:(⟨#[40]⟩:ByteArray).data.toList=[40]:=rfl;rw [es] at hres;clear es;have z14:=a14.size;have A14:=A13.trans a14 A13.size;have hN14:=a14.keep hN13 (by omega) (by simp;omega);have hT14:=a14.keep hT13 (by omega) (by simp;omega);have rN14:=rN13.past a14 (fun i hi=>by simp;omega);have rS14:=rS13.past a14 (fun i hi=>by simp;omega);clear A13 hN13 hT13 h13 a14 rN13 rS13
          cases ht14:Ps.need I [40] n13 with
          | err c0 a0=>
           rw [ht14] at hres;obtain rfl:e=_:=hres;exact ⟨rfl,Post.fail (by rw [mP.out];unfold Ps.callE;rw [ht14];rfl) A14⟩
          | ok u14 n14=>
           rw [ht14] at hres;obtain ⟨le14,h14,_,rfl,rfl⟩:=hres;have m14:Hid (Ps.equation I nx=(if Ps.sees I [41] n14=true then .ok [] (n14+1) else (Ps.row I (Ps.whole I) 30 [] n14).bind fun e n7=>(Ps.need I [41] n7).bind fun _ n8=>.ok e n8).bind fun e n9=>.ok ⟨((I.pk nx).place:Int),l,s,z11,e⟩ n9):=by
            show Ps.equation I nx=_
            rw [mP.out];unfold Ps.callE;rw [ht14];rfl
           clear ht14 mP;go_wp2_with fail;refine (take_any h14 ⟨#[41]⟩ (by decide)).mono ?_;rintro e w15 ⟨rfl,h15,a15⟩;have es:(⟨#[41]⟩:ByteArray).data.toList=[41]:=rfl;rw [es] at h15;simp only [es];clear es;have z15:=a15.size;have A15:=A14.trans a15 A14.size;have hN15:=a15.keep hN14 (by omega) (by simp;omega);have hT15:=a15.keep hT14 (by omega) (by simp;omega);have rN15:=rN14.past a15 (fun i hi=>by simp;omega);have rS15:=rS14.past a15 (fun i hi=>by simp;omega);clear A14 hN14 hT14 h14 a15 rN14 rS14
           cases hq15:Ps.sees I [41] n14 with
           | true=>
            rw [hq15] at h15;simp only [if_true] at h15;have fa:=fun o=>fo hN15 o;have ca0:=co hN15 0;have ca1:=co hN15 1;have ca2:=co hN15 2;have ca3:=co hN15 3;have ca4:=co hN15 4;simp at ca0 ca1 ca2 ca3 ca4;have cb0:=co hT15 0;have cb1:=co hT15 1;have cb2:=co hT15 2;have cb3:=co hT15 3;have cb4:=co hT15 4;simp at cb0 cb1 cb2 cb3 cb4;go_wp2;refine bodyPost_ret (v:=.agg #[.int .i64 (t.place:Int),.slice aN l.length cN,.string s,.slice aS z11.length cS,.slice none 0 0]) (by simp [results,Tryz.results185,go_sem,ca0,ca1,ca2,ca3,ca4]) rfl ?_;exact Post.good (v:=⟨((I.pk nx).place:Int),l,s,z11,[]⟩) (by rw [m14.out,hq15];rfl) (A15.put5 (k:=w.heap.size) nR ⟨(t.place:Int),aN,l.length,cN,s,aS,z11.length,cS,none,0,0⟩) (by omega) (h15.put5 (k:=w.heap.size) (by omega) (by omega) ⟨(t.place:Int),aN,l.length,cN,s,aS,z11.length,cS,none,0,0⟩) ⟨⟨(t.place:Int),aN,l.length,cN,s,aS,z11.length,cS,none,0,0⟩,rfl,⟨by rw [←HT.out],names_row ((rN15.put5 (k:=w.heap.size) (by omega) ⟨(t.place:Int),aN,l.length,cN,s,aS,z11.length,cS,none,0,0⟩).wide (fun i hi _=>by omega)),rfl,sizes_row ((rS15.put5 (k:=w.heap.size) (by omega) ⟨(t.place:Int),aN,l.length,cN,s,aS,z11.length,cS,none,0,0⟩).wide (fun i hi _=>by omega)),exprs_nil⟩⟩
           | false=>
            rw [hq15] at h15;simp only [Bool.false_eq_true,if_false] at h15;go_wp2_with fail;refine (rowExpr_any HW h15 (hG.far A15) 30 (by decide)).mono ?_;rintro e w16 ⟨a16,hres⟩;have z16:=a16.size;have A16:=A15.trans a16 A15.size;have hN16:=a16.keep hN15 (by omega) (by simp;omega);have hT16:=a16.keep hT15 (by omega) (by simp;omega);have rN16:=rN15.past a16 (fun i hi=>by simp;omega);have rS16:=rS15.past a16 (fun i hi=>by simp;omega);clear A15 hN15 hT15 h15 a16 rN15 rS15
            cases ht16:Ps.row I (Ps.whole I) 30 [] n14 with
            | err c0 a0=>
             rw [ht16] at hres;obtain rfl:e=_:=hres;exact ⟨rfl,Post.fail (by rw [m14.out,hq15];simp only [Bool.false_eq_true,if_false];rw [ht16];rfl) A16⟩
            | ok e16 n16=>
             rw [ht16] at hres;obtain ⟨le16,h16,x16,rfl,hV⟩:=hres;obtain ⟨aE,cE,rfl,hE1',hE2'⟩:=hV.form;unfold maxLen at hE2';have rE16:=hV.wide (ok':=fun i=>w1.heap.size<i) (fun i hi _=>by omega);have m16:Hid (Ps.equation I nx=(Ps.need I [41] n16).bind fun _ n8=>.ok ⟨((I.pk nx).place:Int),l,s,z11,e16⟩ n8):=by
              show Ps.equation I nx=_
              rw [m14.out,hq15];simp only [Bool.false_eq_true,if_false];rw [ht16]
              show ((Ps.need I [41] n16).bind fun _ n8=>Res.ok e16 n8).bind _=_
              rw [Res.bind_assoc];rfl
             clear ht16 hV m14;have tc:=co hT16 4;have tf:=fo hT16 4;simp at tc;have hT17:=set_in hT16 4 (.slice aE e16.length cE);have hN17:=keep_set hN16 (p:=⟨w1.heap.size,4,none⟩) (by simp;omega) (.slice aE e16.length cE);have h17:=h16.set (p:=⟨w1.heap.size,4,none⟩) (by simp;omega) (by simp;omega) (.slice aE e16.length cE);have A17:=A16.set (p:=⟨w1.heap.size,4,none⟩) (by simp;omega) (.slice aE e16.length cE);have z17:(w16.setCell ⟨w1.heap.size,4,none⟩ (.slice aE e16.length cE)).heap.size=w16.heap.size:=(by simp [World.setCell]);simp at hT17;have rN17:=rN16.set (p:=⟨w1.heap.size,4,none⟩) (by simp) (.slice aE e16.length cE);have rS17:=rS16.set (p:=⟨w1.heap.size,4,none⟩) (by simp) (.slice aE e16.length cE);have rE17:=rE16.set (p:=⟨w1.heap.size,4,none⟩) (by simp) (.slice aE e16.length cE);go_wp2_with fail;generalize w16.setCell ⟨w1.heap.size,4,none⟩ (.slice aE e16.length cE)=w17 at hT17 hN17 h17 A17 z17 rN17 rS17 rE17 ⊢;clear tc tf A16 hN16 hT16 h16 rN16 rS16 rE16;refine (need_any h17 ⟨#[41]⟩ (by decide)).mono ?_;rintro e w18 ⟨a18,hres⟩;have es:(⟨#[41]⟩:ByteArray).data.toList=[41]:=rfl;rw [es] at hres;clear es;have z18:=a18.size;have A18:=A17.trans a18 A17.size;have hN18:=a18.keep hN17 (by omega) (by simp;omega);have hT18:=a18.keep hT17 (by omega) (by simp;omega);have rN18:=rN17.past a18 (fun i hi=>by simp;omega);have rS18:=rS17.past a18 (fun i hi=>by simp;omega);have rE18:=rE17.past a18 (fun i hi=>by simp;omega);clear A17 hN17 hT17 h17 a18 rN17 rS17 rE17
             cases ht18:Ps.need I [41] n16 with
             | err c0 a0=>
              rw [ht18] at hres;obtain rfl:e=_:=hres;exact ⟨rfl,Post.fail (by rw [m16.out,ht18];rfl) A18⟩
             | ok u18 n18=>
              rw [ht18] at hres;obtain ⟨le18,h18,_,rfl,rfl⟩:=hres;have fa:=fun o=>fo hN18 o;have ca0:=co hN18 0;have ca1:=co hN18 1;have ca2:=co hN18 2;have ca3:=co hN18 3;have ca4:=co hN18 4;simp at ca0 ca1 ca2 ca3 ca4;have cb0:=co hT18 0;have cb1:=co hT18 1;have cb2:=co hT18 2;have cb3:=co hT18 3;have cb4:=co hT18 4;simp at cb0 cb1 cb2 cb3 cb4;go_wp2;refine bodyPost_ret (v:=.agg #[.int .i64 (t.place:Int),.slice aN l.length cN,.string s,.slice aS z11.length cS,.slice aE e16.length cE]) (by simp [results,Tryz.results185,go_sem,ca0,ca1,ca2,ca3,ca4]) rfl ?_;exact Post.good (v:=⟨((I.pk nx).place:Int),l,s,z11,e16⟩) (by rw [m16.out,ht18];rfl) (A18.put5 (k:=w.heap.size) nR ⟨(t.place:Int),aN,l.length,cN,s,aS,z11.length,cS,aE,e16.length,cE⟩) (by omega) (h18.put5 (k:=w.heap.size) (by omega) (by omega) ⟨(t.place:Int),aN,l.length,cN,s,aS,z11.length,cS,aE,e16.length,cE⟩) ⟨⟨(t.place:Int),aN,l.length,cN,s,aS,z11.length,cS,aE,e16.length,cE⟩,rfl,⟨by rw [←HT.out],names_row ((rN18.put5 (k:=w.heap.size) (by omega) ⟨(t.place:Int),aN,l.length,cN,s,aS,z11.length,cS,aE,e16.length,cE⟩).wide (fun i hi _=>by omega)),rfl,sizes_row ((rS18.put5 (k:=w.heap.size) (by omega) ⟨(t.place:Int),aN,l.length,cN,s,aS,z11.length,cS,aE,e16.length,cE⟩).wide (fun i hi _=>by omega)),exprs_row ((rE18.put5 (k:=w.heap.size) (by omega) ⟨(t.place:Int),aN,l.length,cN,s,aS,z11.length,cS,aE,e16.length,cE⟩).wide (fun i hi _=>by omega))⟩⟩
   ·have hlb:((l.length:Int)==1)=false:=by rw [beq_eq_false_iff_ne];omega
    have m5:Hid (Ps.equation I nx=Ps.call I ((I.pk nx).place:Int) l n2):=by
     show Ps.equation I nx=_
     rw [m4.out,if_neg (by simp [hl1])]
    clear m4 hl1;go_wp2_with fail;refine (need_any h4 ⟨#[99,97,108,108]⟩ (by decide)).mono ?_;rintro e w7 ⟨a7,hres⟩;have es:(⟨#[99,97,108,108]⟩:ByteArray).data.toList=[99,97,108,108]:=rfl;rw [es] at hres;clear es;have z7:=a7.size;have A7:=A4.trans a7 A4.size;have hN7:=a7.keep hN4 (by omega) (by simp;omega);have hT7:=a7.keep hT4 (by omega) (by simp;omega);have rN7:=rN4.past a7 (fun i hi=>by simp;omega);clear A4 hN4 hT4 h4 a7 rN4
    cases ht7:Ps.need I [99,97,108,108] n2 with
    | err c0 a0=>
     rw [ht7] at hres;obtain rfl:e=_:=hres;exact ⟨rfl,Post.fail (by rw [m5.out,call_eq,ht7];rfl) A7⟩
    | ok u7 n7=>
     rw [ht7] at hres;obtain ⟨le7,h7,_,rfl,rfl⟩:=hres;have m7:Hid (Ps.equation I nx=(Ps.name I n7).bind fun s n2=>(if Ps.sees I [60] n2=true then (Ps.row I (Ps.size I) 3 [] (n2+1)).bind fun z n3=>(Ps.need I [62] n3).bind fun _ n4=>.ok z n4 else .ok [] n2).bind fun z n5=>Ps.callE I ((I.pk nx).place:Int) l s z n5):=by
      show Ps.equation I nx=_
      rw [m5.out,call_eq,ht7];rfl
     clear ht7 m5;go_wp2_with fail;refine (name_any h7).mono ?_;rintro e w8 ⟨a8,hres⟩;have z8:=a8.size;have A8:=A7.trans a8 A7.size;have hN8:=a8.keep hN7 (by omega) (by simp;omega);have hT8:=a8.keep hT7 (by omega) (by simp;omega);have rN8:=rN7.past a8 (fun i hi=>by simp;omega);clear A7 hN7 hT7 h7 a8 rN7
     cases ht8:Ps.name I n7 with
     | err c0 a0=>
      rw [ht8] at hres;obtain rfl:e=_:=hres;exact ⟨rfl,Post.fail (by rw [m7.out,ht8];rfl) A8⟩
     | ok s n8=>
      rw [ht8] at hres;obtain ⟨le8,h8,_,rfl,rfl⟩:=hres;have m8:Hid (Ps.equation I nx=(if Ps.sees I [60] n8=true then (Ps.row I (Ps.size I) 3 [] (n8+1)).bind fun z n3=>(Ps.need I [62] n3).bind fun _ n4=>.ok z n4 else .ok [] n8).bind fun z n5=>Ps.callE I ((I.pk nx).place:Int) l s z n5):=by
       show Ps.equation I nx=_
       rw [m7.out,ht8];rfl
      clear ht8 m7;have tc:=co hT8 2;have tf:=fo hT8 2;simp at tc;have hT9:=set_in hT8 2 (.string s);have hN9:=keep_set hN8 (p:=⟨w1.heap.size,2,none⟩) (by simp;omega) (.string s);have h9:=h8.set (p:=⟨w1.heap.size,2,none⟩) (by simp;omega) (by simp;omega) (.string s);have A9:=A8.set (p:=⟨w1.heap.size,2,none⟩) (by simp;omega) (.string s);have z9:(w8.setCell ⟨w1.heap.size,2,none⟩ (.string s)).heap.size=w8.heap.size:=(by simp [World.setCell]);simp at hT9;have rN9:=rN8.set (p:=⟨w1.heap.size,2,none⟩) (by simp) (.string s);go_wp2_with fail;generalize w8.setCell ⟨w1.heap.size,2,none⟩ (.string s)=w9 at hT9 hN9 h9 A9 z9 rN9 ⊢;clear tc tf A8 hN8 hT8 h8 rN8;refine (take_any h9 ⟨#[60]⟩ (by decide)).mono ?_;rintro e w10 ⟨rfl,h10,a10⟩;have es:(⟨#[60]⟩:ByteArray).data.toList=[60]:=rfl;rw [es] at h10;simp only [es];clear es;have z10:=a10.size;have A10:=A9.trans a10 A9.size;have hN10:=a10.keep hN9 (by omega) (by simp;omega);have hT10:=a10.keep hT9 (by omega) (by simp;omega);have rN10:=rN9.past a10 (fun i hi=>by simp;omega);clear A9 hN9 hT9 h9 a10 rN9
      cases hq10:Ps.sees I [60] n8 with
      | false=>
       rw [hq10] at h10;simp only [Bool.false_eq_true,if_false] at h10;have mP:Hid (Ps.equation I nx=Ps.callE I ((I.pk nx).place:Int) l s [] n8):=by
        show Ps.equation I nx=_
        rw [m8.out,hq10];rfl
       clear m8;go_wp2_with fail;refine (need_any h10 ⟨#[40]⟩ (by decide)).mono ?_;rintro e w14 ⟨a14,hres⟩;have es:(⟨#[40]⟩:ByteArray).data.toList=[40]:=rfl;rw [es] at hres;clear es;have z14:=a14.size;have A14:=A10.trans a14 A10.size;have hN14:=a14.keep hN10 (by omega) (by simp;omega);have hT14:=a14.keep hT10 (by omega) (by simp;omega);have rN14:=rN10.past a14 (fun i hi=>by simp;omega);clear A10 hN10 hT10 h10 a14 rN10
       cases ht14:Ps.need I [40] n8 with
       | err c0 a0=>
        rw [ht14] at hres;obtain rfl:e=_:=hres;exact ⟨rfl,Post.fail (by rw [mP.out];unfold Ps.callE;rw [ht14];rfl) A14⟩
       | ok u14 n14=>
        rw [ht14] at hres;obtain ⟨le14,h14,_,rfl,rfl⟩:=hres;have m14:Hid (Ps.equation I nx=(if Ps.sees I [41] n14=true then .ok [] (n14+1) else (Ps.row I (Ps.whole I) 30 [] n14).bind fun e n7=>(Ps.need I [41] n7).bind fun _ n8=>.ok e n8).bind fun e n9=>.ok ⟨((I.pk nx).place:Int),l,s,[],e⟩ n9):=by
         show Ps.equation I nx=_
         rw [mP.out];unfold Ps.callE;rw [ht14];rfl
        clear ht14 mP;go_wp2_with fail;refine (take_any h14 ⟨#[41]⟩ (by decide)).mono ?_;rintro e w15 ⟨rfl,h15,a15⟩;have es:(⟨#[41]⟩:ByteArray).data.toList=[41]:=rfl;rw [es] at h15;simp only [es];clear es;have z15:=a15.size;have A15:=A14.trans a15 A14.size;have hN15:=a15.keep hN14 (by omega) (by simp;omega);have hT15:=a15.keep hT14 (by omega) (by simp;omega);have rN15:=rN14.past a15 (fun i hi=>by simp;omega);clear A14 hN14 hT14 h14 a15 rN14
        cases hq15:Ps.sees I [41] n14 with
        | true=>
         rw [hq15] at h15;simp only [if_true] at h15;have fa:=fun o=>fo hN15 o;have ca0:=co hN15 0;have ca1:=co hN15 1;have ca2:=co hN15 2;have ca3:=co hN15 3;have ca4:=co hN15 4;simp at ca0 ca1 ca2 ca3 ca4;have cb0:=co hT15 0;have cb1:=co hT15 1;have cb2:=co hT15 2;have cb3:=co hT15 3;have cb4:=co hT15 4;simp at cb0 cb1 cb2 cb3 cb4;go_wp2;refine bodyPost_ret (v:=.agg #[.int .i64 (t.place:Int),.slice aN l.length cN,.string s,.slice none 0 0,.slice none 0 0]) (by simp [results,Tryz.results185,go_sem,ca0,ca1,ca2,ca3,ca4]) rfl ?_;exact Post.good (v:=⟨((I.pk nx).place:Int),l,s,[],[]⟩) (by rw [m14.out,hq15];rfl) (A15.put5 (k:=w.heap.size) nR ⟨(t.place:Int),aN,l.length,cN,s,none,0,0,none,0,0⟩) (by omega) (h15.put5 (k:=w.heap.size) (by omega) (by omega) ⟨(t.place:Int),aN,l.length,cN,s,none,0,0,none,0,0⟩) ⟨⟨(t.place:Int),aN,l.length,cN,s,none,0,0,none,0,0⟩,rfl,⟨by rw [←HT.out],names_row ((rN15.put5 (k:=w.heap.size) (by omega) ⟨(t.place:Int),aN,l.length,cN,s,none,0,0,none,0,0⟩).wide (fun i hi _=>by omega)),rfl,sizes_nil,exprs_nil⟩⟩
        | false=>
         rw [hq15] at h15;simp only [Bool.false_eq_true,if_false] at h15;go_wp2_with fail;refine (rowExpr_any HW h15 (hG.far A15) 30 (by decide)).mono ?_;rintro e w16 ⟨a16,hres⟩;have z16:=a16.size;have A16:=A15.trans a16 A15.size;have hN16:=a16.keep hN15 (by omega) (by simp;omega);have hT16:=a16.keep hT15 (by omega) (by simp;omega);have rN16:=rN15.past a16 (fun i hi=>by simp;omega);clear A15 hN15 hT15 h15 a16 rN15
         cases ht16:Ps.row I (Ps.whole I) 30 [] n14 with
         | err c0 a0=>
          rw [ht16] at hres;obtain rfl:e=_:=hres;exact ⟨rfl,Post.fail (by rw [m14.out,hq15];simp only [Bool.false_eq_true,if_false];rw [ht16];rfl) A16⟩
         | ok e16 n16=>
          rw [ht16] at hres;obtain ⟨le16,h16,x16,rfl,hV⟩:=hres;obtain ⟨aE,cE,rfl,hE1',hE2'⟩:=hV.form;unfold maxLen at hE2';have rE16:=hV.wide (ok':=fun i=>w1.heap.size<i) (fun i hi _=>by omega);have m16:Hid (Ps.equation I nx=(Ps.need I [41] n16).bind fun _ n8=>.ok ⟨((I.pk nx).place:Int),l,s,[],e16⟩ n8):=by
           show Ps.equation I nx=_
           rw [m14.out,hq15];simp only [Bool.false_eq_true,if_false];rw [ht16]
           show ((Ps.need I [41] n16).bind fun _ n8=>Res.ok e16 n8).bind _=_
           rw [Res.bind_assoc];rfl
          clear ht16 hV m14;have tc:=co hT16 4;have tf:=fo hT16 4;simp at tc;have hT17:=set_in hT16 4 (.slice aE e16.length cE);have hN17:=keep_set hN16 (p:=⟨w1.heap.size,4,none⟩) (by simp;omega) (.slice aE e16.length cE);have h17:=h16.set (p:=⟨w1.heap.size,4,none⟩) (by simp;omega) (by simp;omega) (.slice aE e16.length cE);have A17:=A16.set (p:=⟨w1.heap.size,4,none⟩) (by simp;omega) (.slice aE e16.length cE);have z17:(w16.setCell ⟨w1.heap.size,4,none⟩ (.slice aE e16.length cE)).heap.size=w16.heap.size:=(by simp [World.setCell]);simp at hT17;have rN17:=rN16.set (p:=⟨w1.heap.size,4,none⟩) (by simp) (.slice aE e16.length cE);have rE17:=rE16.set (p:=⟨w1.heap.size,4,none⟩) (by simp) (.slice aE e16.length cE);go_wp2_with fail;generalize w16.setCell ⟨w1.heap.size,4,none⟩ (.slice aE e16.length cE)=w17 at hT17 hN17 h17 A17 z17 rN17 rE17 ⊢;clear tc tf A16 hN16 hT16 h16 rN16 rE16;refine (need_any h17 ⟨#[41]⟩ (by decide)).mono ?_;rintro e w18 ⟨a18,hres⟩;have es:(⟨#[41]⟩:ByteArray).data.toList=[41]:=rfl;rw [es] at hres;clear es;have z18:=a18.size;have A18:=A17.trans a18 A17.size;have hN18:=a18.keep hN17 (by omega) (by simp;omega);have hT18:=a18.keep hT17 (by omega) (by simp;omega);have rN18:=rN17.past a18 (fun i hi=>by simp;omega);have rE18:=rE17.past a18 (fun i hi=>by simp;omega);clear A17 hN17 hT17 h17 a18 rN17 rE17
          cases ht18:Ps.need I [41] n16 with
          | err c0 a0=>
           rw [ht18] at hres;obtain rfl:e=_:=hres;exact ⟨rfl,Post.fail (by rw [m16.out,ht18];rfl) A18⟩
          | ok u18 n18=>
           rw [ht18] at hres;obtain ⟨le18,h18,_,rfl,rfl⟩:=hres;have fa:=fun o=>fo hN18 o;have ca0:=co hN18 0;have ca1:=co hN18 1;have ca2:=co hN18 2;have ca3:=co hN18 3;have ca4:=co hN18 4;simp at ca0 ca1 ca2 ca3 ca4;have cb0:=co hT18 0;have cb1:=co hT18 1;have cb2:=co hT18 2;have cb3:=co hT18 3;have cb4:=co hT18 4;simp at cb0 cb1 cb2 cb3 cb4;go_wp2;refine bodyPost_ret (v:=.agg #[.int .i64 (t.place:Int),.slice aN l.length cN,.string s,.slice none 0 0,.slice aE e16.length cE]) (by simp [results,Tryz.results185,go_sem,ca0,ca1,ca2,ca3,ca4]) rfl ?_;exact Post.good (v:=⟨((I.pk nx).place:Int),l,s,[],e16⟩) (by rw [m16.out,ht18];rfl) (A18.put5 (k:=w.heap.size) nR ⟨(t.place:Int),aN,l.length,cN,s,none,0,0,aE,e16.length,cE⟩) (by omega) (h18.put5 (k:=w.heap.size) (by omega) (by omega) ⟨(t.place:Int),aN,l.length,cN,s,none,0,0,aE,e16.length,cE⟩) ⟨⟨(t.place:Int),aN,l.length,cN,s,none,0,0,aE,e16.length,cE⟩,rfl,⟨by rw [←HT.out],names_row ((rN18.put5 (k:=w.heap.size) (by omega) ⟨(t.place:Int),aN,l.length,cN,s,none,0,0,aE,e16.length,cE⟩).wide (fun i hi _=>by omega)),rfl,sizes_nil,exprs_row ((rE18.put5 (k:=w.heap.size) (by omega) ⟨(t.place:Int),aN,l.length,cN,s,none,0,0,aE,e16.length,cE⟩).wide (fun i hi _=>by omega))⟩⟩
      | true=>
       rw [hq10] at h10;simp only [if_true] at h10;go_wp2_with fail;refine (rowSize_any (fun n w h _=>size_any h) h10 (hG.far A10) 3 (by decide)).mono ?_;rintro e w11 ⟨a11,hres⟩;have z11:=a11.size;have A11:=A10.trans a11 A10.size;have hN11:=a11.keep hN10 (by omega) (by simp;omega);have hT11:=a11.keep hT10 (by omega) (by simp;omega);have rN11:=rN10.past a11 (fun i hi=>by simp;omega);clear A10 hN10 hT10 h10 a11 rN10
       cases ht11:Ps.row I (Ps.size I) 3 [] (n8+1) with
       | err c0 a0=>
        rw [ht11] at hres;obtain rfl:e=_:=hres;exact ⟨rfl,Post.fail (by rw [m8.out,hq10,if_pos rfl,ht11];rfl) A11⟩
       | ok z11 n11=>
        rw [ht11] at hres;obtain ⟨le11,h11,x11,rfl,hV⟩:=hres;obtain ⟨aS,cS,rfl,hS1',hS2'⟩:=hV.form;unfold maxLen at hS2';have rS11:=hV.wide (ok':=fun i=>w1.heap.size<i) (fun i hi _=>by omega);have m11:Hid (Ps.equation I nx=((Ps.need I [62] n11).bind fun _ n4=>Res.ok z11 n4).bind fun z n5=>Ps.callE I ((I.pk nx).place:Int) l s z n5):=by
         show Ps.equation I nx=_
         rw [m8.out,hq10,if_pos rfl,ht11];rfl
        clear ht11 hV m8;have tc:=co hT11 3;have tf:=fo hT11 3;simp at tc;have hT12:=set_in hT11 3 (.slice aS z11.length cS);have hN12:=keep_set hN11 (p:=⟨w1.heap.size,3,none⟩) (by simp;omega) (.slice aS z11.length cS);have h12:=h11.set (p:=⟨w1.heap.size,3,none⟩) (by simp;omega) (by simp;omega) (.slice aS z11.length cS);have A12:=A11.set (p:=⟨w1.heap.size,3,none⟩) (by simp;omega) (.slice aS z11.length cS);have z12:(w11.setCell ⟨w1.heap.size,3,none⟩ (.slice aS z11.length cS)).heap.size=w11.heap.size:=(by simp [World.setCell]);simp at hT12;have rN12:=rN11.set (p:=⟨w1.heap.size,3,none⟩) (by simp) (.slice aS z11.length cS);have rS12:=rS11.set (p:=⟨w1.heap.size,3,none⟩) (by simp) (.slice aS z11.length cS);go_wp2_with fail;generalize w11.setCell ⟨w1.heap.size,3,none⟩ (.slice aS z11.length cS)=w12 at hT12 hN12 h12 A12 z12 rN12 rS12 ⊢;clear tc tf A11 hN11 hT11 h11 rN11 rS11;refine (need_any h12 ⟨#[62]⟩ (by decide)).mono ?_;rintro e w13 ⟨a13,hres⟩;have es:(⟨#[62]⟩:ByteArray).data.toList=[62]:=rfl;rw [es] at hres;clear es;have z13:=a13.size;have A13:=A12.trans a13 A12.size;have hN13:=a13.keep hN12 (by omega) (by simp;omega);have hT13:=a13.keep hT12 (by omega) (by simp;omega);have rN13:=rN12.past a13 (fun i hi=>by simp;omega);have rS13:=rS12.past a13 (fun i hi=>by simp;omega);clear A12 hN12 hT12 h12 a13 rN12 rS12
        cases ht13:Ps.need I [62] n11 with
        | err c0 a0=>
         rw [ht13] at hres;obtain rfl:e=_:=hres;exact ⟨rfl,Post.fail (by rw [m11.out,ht13];rfl) A13⟩
        | ok u13 n13=>
         rw [ht13] at hres;obtain ⟨le13,h13,_,rfl,rfl⟩:=hres;have mP:Hid (Ps.equation I nx=Ps.callE I ((I.pk nx).place:Int) l s z11 n13):=by
          show Ps.equation I nx=_
          rw [m11.out,ht13];rfl
         clear ht13 m11;go_wp2_with fail;refine (need_any h13 ⟨#[40]⟩ (by decide)).mono ?_;rintro e w14 ⟨a14,hres⟩;have es:(⟨#[40]⟩:ByteArray).data.toList=[40]:=rfl;rw [es] at hres;clear es;have z14:=a14.size;have A14:=A13.trans a14 A13.size;have hN14:=a14.keep hN13 (by omega) (by simp;omega);have hT14:=a14.keep hT13 (by omega) (by simp;omega);have rN14:=rN13.past a14 (fun i hi=>by simp;omega);have rS14:=rS13.past a14 (fun i hi=>by simp;omega);clear A13 hN13 hT13 h13 a14 rN13 rS13
         cases ht14:Ps.need I [40] n13 with
         | err c0 a0=>
          rw [ht14] at hres;obtain rfl:e=_:=hres;exact ⟨rfl,Post.fail (by rw [mP.out];unfold Ps.callE;rw [ht14];rfl) A14⟩
         | ok u14 n14=>
          rw [ht14] at hres;obtain ⟨le14,h14,_,rfl,rfl⟩:=hres;have m14:Hid (Ps.equation I nx=(if Ps.sees I [41] n14=true then .ok [] (n14+1) else (Ps.row I (Ps.whole I) 30 [] n14).bind fun e n7=>(Ps.need I [41] n7).bind fun _ n8=>.ok e n8).bind fun e n9=>.ok ⟨((I.pk nx).place:Int),l,s,z11,e⟩ n9):=by
           show Ps.equation I nx=_
           rw [mP.out];unfold Ps.callE;rw [ht14];rfl
          clear ht14 mP;go_wp2_with fail;refine (take_any h14 ⟨#[41]⟩ (by decide)).mono ?_;rintro e w15 ⟨rfl,h15,a15⟩;have es:(⟨#[41]⟩:ByteArray).data.toList=[41]:=rfl;rw [es] at h15;simp only [es];clear es;have z15:=a15.size;have A15:=A14.trans a15 A14.size;have hN15:=a15.keep hN14 (by omega) (by simp;omega);have hT15:=a15.keep hT14 (by omega) (by simp;omega);have rN15:=rN14.past a15 (fun i hi=>by simp;omega);have rS15:=rS14.past a15 (fun i hi=>by simp;omega);clear A14 hN14 hT14 h14 a15 rN14 rS14
          cases hq15:Ps.sees I [41] n14 with
          | true=>
           rw [hq15] at h15;simp only [if_true] at h15;have fa:=fun o=>fo hN15 o;have ca0:=co hN15 0;have ca1:=co hN15 1;have ca2:=co hN15 2;have ca3:=co hN15 3;have ca4:=co hN15 4;simp at ca0 ca1 ca2 ca3 ca4;have cb0:=co hT15 0;have cb1:=co hT15 1;have cb2:=co hT15 2;have cb3:=co hT15 3;have cb4:=co hT15 4;simp at cb0 cb1 cb2 cb3 cb4;go_wp2;refine bodyPost_ret (v:=.agg #[.int .i64 (t.place:Int),.slice aN l.length cN,.string s,.slice aS z11.length cS,.slice none 0 0]) (by simp [results,Tryz.results185,go_sem,ca0,ca1,ca2,ca3,ca4]) rfl ?_;exact Post.good (v:=⟨((I.pk nx).place:Int),l,s,z11,[]⟩) (by rw [m14.out,hq15];rfl) (A15.put5 (k:=w.heap.size) nR ⟨(t.place:Int),aN,l.length,cN,s,aS,z11.length,cS,none,0,0⟩) (by omega) (h15.put5 (k:=w.heap.size) (by omega) (by omega) ⟨(t.place:Int),aN,l.length,cN,s,aS,z11.length,cS,none,0,0⟩) ⟨⟨(t.place:Int),aN,l.length,cN,s,aS,z11.length,cS,none,0,0⟩,rfl,⟨by rw [←HT.out],names_row ((rN15.put5 (k:=w.heap.size) (by omega) ⟨(t.place:Int),aN,l.length,cN,s,aS,z11.length,cS,none,0,0⟩).wide (fun i hi _=>by omega)),rfl,sizes_row ((rS15.put5 (k:=w.heap.size) (by omega) ⟨(t.place:Int),aN,l.length,cN,s,aS,z11.length,cS,none,0,0⟩).wide (fun i hi _=>by omega)),exprs_nil⟩⟩
          | false=>
           rw [hq15] at h15;simp only [Bool.false_eq_true,if_false] at h15;go_wp2_with fail;refine (rowExpr_any HW h15 (hG.far A15) 30 (by decide)).mono ?_;rintro e w16 ⟨a16,hres⟩;have z16:=a16.size;have A16:=A15.trans a16 A15.size;have hN16:=a16.keep hN15 (by omega) (by simp;omega);have hT16:=a16.keep hT15 (by omega) (by simp;omega);have rN16:=rN15.past a16 (fun i hi=>by simp;omega);have rS16:=rS15.past a16 (fun i hi=>by simp;omega);clear A15 hN15 hT15 h15 a16 rN15 rS15
           cases ht16:Ps.row I (Ps.whole I) 30 [] n14 with
           | err c0 a0=>
            rw [ht16] at hres;obtain rfl:e=_:=hres;exact ⟨rfl,Post.fail (by rw [m14.out,hq15];simp only [Bool.false_eq_true,if_false];rw [ht16];rfl) A16⟩
           | ok e16 n16=>
            rw [ht16] at hres;obtain ⟨le16,h16,x16,rfl,hV⟩:=hres;obtain ⟨aE,cE,rfl,hE1',hE2'⟩:=hV.form;unfold maxLen at hE2';have rE16:=hV.wide (ok':=fun i=>w1.heap.size<i) (fun i hi _=>by omega);have m16:Hid (Ps.equation I nx=(Ps.need I [41] n16).bind fun _ n8=>.ok ⟨((I.pk nx).place:Int),l,s,z11,e16⟩ n8):=by
             show Ps.equation I nx=_
             rw [m14.out,hq15];simp only [Bool.false_eq_true,if_false];rw [ht16]
             show ((Ps.need I [41] n16).bind fun _ n8=>Res.ok e16 n8).bind _=_
             rw [Res.bind_assoc];rfl
            clear ht16 hV m14;have tc:=co hT16 4;have tf:=fo hT16 4;simp at tc;have hT17:=set_in hT16 4 (.slice aE e16.length cE);have hN17:=keep_set hN16 (p:=⟨w1.heap.size,4,none⟩) (by simp;omega) (.slice aE e16.length cE);have h17:=h16.set (p:=⟨w1.heap.size,4,none⟩) (by simp;omega) (by simp;omega) (.slice aE e16.length cE);have A17:=A16.set (p:=⟨w1.heap.size,4,none⟩) (by simp;omega) (.slice aE e16.length cE);have z17:(w16.setCell ⟨w1.heap.size,4,none⟩ (.slice aE e16.length cE)).heap.size=w16.heap.size:=(by simp [World.setCell]);simp at hT17;have rN17:=rN16.set (p:=⟨w1.heap.size,4,none⟩) (by simp) (.slice aE e16.length cE);have rS17:=rS16.set (p:=⟨w1.heap.size,4,none⟩) (by simp) (.slice aE e16.length cE);have rE17:=rE16.set (p:=⟨w1.heap.size,4,none⟩) (by simp) (.slice aE e16.length cE);go_wp2_with fail;generalize w16.setCell ⟨w1.heap.size,4,none⟩ (.slice aE e16.length cE)=w17 at hT17 hN17 h17 A17 z17 rN17 rS17 rE17 ⊢;clear tc tf A16 hN16 hT16 h16 rN16 rS16 rE16;refine (need_any h17 ⟨#[41]⟩ (by decide)).mono ?_;rintro e w18 ⟨a18,hres⟩;have es:(⟨#[41]⟩:ByteArray).data.toList=[41]:=rfl;rw [es] at hres;clear es;have z18:=a18.size;have A18:=A17.trans a18 A17.size;have hN18:=a18.keep hN17 (by omega) (by simp;omega);have hT18:=a18.keep hT17 (by omega) (by simp;omega);have rN18:=rN17.past a18 (fun i hi=>by simp;omega);have rS18:=rS17.past a18 (fun i hi=>by simp;omega);have rE18:=rE17.past a18 (fun i hi=>by simp;omega);clear A17 hN17 hT17 h17 a18 rN17 rS17 rE17
            cases ht18:Ps.need I [41] n16 with
            | err c0 a0=>
             rw [ht18] at hres;obtain rfl:e=_:=hres;exact ⟨rfl,Post.fail (by rw [m16.out,ht18];rfl) A18⟩
            | ok u18 n18=>
             rw [ht18] at hres;obtain ⟨le18,h18,_,rfl,rfl⟩:=hres;have fa:=fun o=>fo hN18 o;have ca0:=co hN18 0;have ca1:=co hN18 1;have ca2:=co hN18 2;have ca3:=co hN18 3;have ca4:=co hN18 4;simp at ca0 ca1 ca2 ca3 ca4;have cb0:=co hT18 0;have cb1:=co hT18 1;have cb2:=co hT18 2;have cb3:=co hT18 3;have cb4:=co hT18 4;simp at cb0 cb1 cb2 cb3 cb4;go_wp2;refine bodyPost_ret (v:=.agg #[.int .i64 (t.place:Int),.slice aN l.length cN,.string s,.slice aS z11.length cS,.slice aE e16.length cE]) (by simp [results,Tryz.results185,go_sem,ca0,ca1,ca2,ca3,ca4]) rfl ?_;exact Post.good (v:=⟨((I.pk nx).place:Int),l,s,z11,e16⟩) (by rw [m16.out,ht18];rfl) (A18.put5 (k:=w.heap.size) nR ⟨(t.place:Int),aN,l.length,cN,s,aS,z11.length,cS,aE,e16.length,cE⟩) (by omega) (h18.put5 (k:=w.heap.size) (by omega) (by omega) ⟨(t.place:Int),aN,l.length,cN,s,aS,z11.length,cS,aE,e16.length,cE⟩) ⟨⟨(t.place:Int),aN,l.length,cN,s,aS,z11.length,cS,aE,e16.length,cE⟩,rfl,⟨by rw [←HT.out],names_row ((rN18.put5 (k:=w.heap.size) (by omega) ⟨(t.place:Int),aN,l.length,cN,s,aS,z11.length,cS,aE,e16.length,cE⟩).wide (fun i hi _=>by omega)),rfl,sizes_row ((rS18.put5 (k:=w.heap.size) (by omega) ⟨(t.place:Int),aN,l.length,cN,s,aS,z11.length,cS,aE,e16.length,cE⟩).wide (fun i hi _=>by omega)),exprs_row ((rE18.put5 (k:=w.heap.size) (by omega) ⟨(t.place:Int),aN,l.length,cN,s,aS,z11.length,cS,aE,e16.length,cE⟩).wide (fun i hi _=>by omega))⟩⟩
end Go.Proofs.YtkfgbhlpjkkgfaaGreatDoor
