import Derived.Test.YtkfgbhlpjkkgfaaGreatDoorT37
import Derived.Test.YtkfgbhlpjkkgfaaGreatDoorT03
import Derived.Test.YtkfgbhlpjkkgfaaGreatDoorT20
set_option linter.unusedVariables false
set_option linter.unusedSimpArgs false
set_option maxHeartbeats 64000000
set_option maxRecDepth 100000
namespace Go.Proofs.YtkfgbhlpjkkgfaaGreatDoor
open Go.RowKit Go.IntWalk
theorem Gives.post {F b g cap:Nat} {I:Inp} {op nx n1:Nat} {e:Ex} {res:Res Ex} (hG:Gives F b g cap I.L I.len op nx n1 e) (hr:res=.ok e n1) {w:World} (h:Rd w b g cap I.L I.len nx op):Calls Tryz.prog F #[.pointer (some ⟨b,0,none⟩)] w (Post b g cap I op exV nx w res):=by
 refine (hG.2 w h).mono ?_;rintro r w' ⟨x,rfl,he,hR,hA⟩;exact Post.good hr hA hG.1 hR ⟨x,rfl,he⟩
def FormC:Prop:=∀ (b g cap:Nat) (I:Inp) (op:Nat) (J:Option (Nat->Res Ex)),Inner b g cap I op J->∀ (nx:Nat) (w:World),Rd w b g cap I.L I.len nx op->GlobB b w ->
 Calls Tryz.prog 277 #[.pointer (some ⟨b,0,none⟩),.string (str (I.pk nx).text)] w (Post b g cap I op exV nx w (Ps.form I J nx))
theorem unit_any (aV:FormC) {b g cap:Nat} {I:Inp} {op:Nat} {J:Option (Nat->Res Ex)} (HJ:Inner b g cap I op J):Does 271 b g cap I op exV (Ps.unit I J):=by
 intro nx w h hG;by_cases qv:(I.pk nx).kind=3
 ·exact (unit_num (op:=op) qv (zEg (by rw [qv];decide))).post (by unfold Ps.unit;rw [if_pos qv];rfl) h
 by_cases jI:(I.pk nx).kind=2
 ·exact (unit_name (op:=op) jI (zEg (by rw [jI];decide))).post (by unfold Ps.unit;rw [if_neg qv,if_pos jI];rfl) h
 have hb:=h.bb;have hg:=h.gb;have m0:Hid (Ps.unit I J nx=if Ps.sees I [116,114,117,101] nx=true then .ok (.mk 2 0 1 ⟨#[]⟩ [] []) (nx+1) else if Ps.sees I [102,97,108,115,101] nx=true then .ok (.mk 2 0 0 ⟨#[]⟩ [] []) (nx+1)
   else if Ps.sees I [40] nx=true then Ps.opn I J nx fun A n1=>Ps.bracketed I (Ps.exprOf I A) n1
   else if Ps.sees I [105,102] nx=true then Ps.opn I J nx fun A n1=>Ps.choice I (Ps.exprOf I A) n1
   else Ps.form I J nx):=by
  show Ps.unit I J nx=_
  unfold Ps.unit;rw [if_neg qv,if_neg jI]
 have h0:=h.alloc (.cells #[.int .i64 0,.int .i64 0,.int .i64 0,.string ⟨#[]⟩,.slice none 0 0,.slice none 0 0] 54 (0,0));have dO:=zAC w (.cells #[.int .i64 0,.int .i64 0,.int .i64 0,.string ⟨#[]⟩,.slice none 0 0,.slice none 0 0] 54 (0,0));have z0:(w.alloc (.cells #[.int .i64 0,.int .i64 0,.int .i64 0,.string ⟨#[]⟩,.slice none 0 0,.slice none 0 0] 54 (0,0))).heap.size=w.heap.size+1:=(by simp);have A0:=(Aside.refl (S:=[b]) (B:=w.heap.size) w).alloc nR (.cells #[.int .i64 0,.int .i64 0,.int .i64 0,.string ⟨#[]⟩,.slice none 0 0,.slice none 0 0] 54 (0,0));have hp:=@zAT _ _ _ _ _ _ _ _ h0;obtain ⟨t,ht⟩:=nmQ (I.pk nx);have jH:peekT I.L I.len nx=t:=ht.symm;rw [jH] at hp;rw [<-ht] at qv jI;unfold tokV at hp;have HT:=zAA ht;clear jH ht;have DL:(t.kind==3)=false:=beq_eq_false_iff_ne.2 qv;have lj:(t.kind==2)=false:=beq_eq_false_iff_ne.2 jI;have oc:=zBi;go_enter Tryz.func271,Tryz.ntmps271;go_wp2_with fail;generalize w.alloc (.cells #[.int .i64 0,.int .i64 0,.int .i64 0,.string ⟨#[]⟩,.slice none 0 0,.slice none 0 0] 54 (0,0))=W at h0 dO z0 A0 hp ⊢;refine hp.mono ?_;rintro e w1 ⟨rfl,b1⟩;have z1:=b1.size;have h1:=(h0.below b1).alloc (.cells #[.int .i64 t.kind,.int .i64 (t.place:Int),.string (str t.text),.int .i64 t.n] 119 (0,0));have A1:=(A0.trans (aside b1) A0.size).alloc (by omega) (.cells #[.int .i64 t.kind,.int .i64 (t.place:Int),.string (str t.text),.int .i64 t.n] 119 (0,0));have aG:=kA ((aside b1 (S:=[])).keep dO (zAB dO) (by simp)) (.cells #[.int .i64 t.kind,.int .i64 (t.place:Int),.string (str t.text),.int .i64 t.n] 119 (0,0));have iu:=zAC w1 (.cells #[.int .i64 t.kind,.int .i64 (t.place:Int),.string (str t.text),.int .i64 t.n] 119 (0,0));have y1:(w1.alloc (.cells #[.int .i64 t.kind,.int .i64 (t.place:Int),.string (str t.text),.int .i64 t.n] 119 (0,0))).heap.size=w1.heap.size+1:=(by simp);clear hp h0 A0 dO b1;go_wp2_with fail;generalize w1.alloc (.cells #[.int .i64 t.kind,.int .i64 (t.place:Int),.string (str t.text),.int .i64 t.n] 119 (0,0))=W1 at h1 A1 aG iu y1 ⊢;refine (zAH h1 ⟨#[116,114,117,101]⟩ (by decide)).mono ?_;rintro e w3 ⟨rfl,h3,a3⟩;have es:(⟨#[116,114,117,101]⟩:ByteArray).data.toList=[116,114,117,101]:=rfl;rw [es] at h3;simp only [es];clear es;have z3:=a3.size;have A3:=A1.trans a3 A1.size;have eC:=a3.keep aG (by omega) (by simp;omega);have gU:=a3.keep iu (by omega) (by simp;omega);clear h1 A1 aG iu a3
 cases ko:Ps.sees I [116,114,117,101] nx with
 | true=>
  have ak:=zAR ko (by simp);rw [ko] at h3;simp only [if_true] at h3;have hN:=eC;have hA:=A3;have hR:=h3;clear eC A3 h3;have fa:=fun o=>fo hN o;have aB:=co hN 0;have ay:=co hN 1;have az:=co hN 2;have aF:=co hN 3;have aD:=co hN 4;have aH:=co hN 5;simp at aB ay az aF aD aH;go_wp2;refine bodyPost_ret (v:=.agg #[.int .i64 2,.int .i64 0,.int .i64 1,.string ⟨#[]⟩,.slice none 0 0,.slice none 0 0]) (by simp [results,Tryz.results271,go_sem,aB,ay,az,aF,aD,aH]) rfl ?_;exact Post.good (by rw [m0.out,ko];rfl) (hA.put6 (k:=w.heap.size) nR ⟨2,0,1,⟨#[]⟩,none,0,0,none,0,0⟩) (by omega) (hR.put6 (k:=w.heap.size) (by omega) (by omega) ⟨2,0,1,⟨#[]⟩,none,0,0,none,0,0⟩) ⟨⟨2,0,1,⟨#[]⟩,none,0,0,none,0,0⟩,rfl,HEx.leaf 2 0 1 ⟨#[]⟩⟩
 | false=>
  rw [ko] at h3;simp only [Bool.false_eq_true,if_false] at h3;go_wp2_with fail;refine (zAH h3 ⟨#[102,97,108,115,101]⟩ (by decide)).mono ?_;rintro e w4 ⟨rfl,h4,a4⟩;have es:(⟨#[102,97,108,115,101]⟩:ByteArray).data.toList=[102,97,108,115,101]:=rfl;rw [es] at h4;simp only [es];clear es;have z4:=a4.size;have A4:=A3.trans a4 A3.size;have dy:=a4.keep eC (by omega) (by simp;omega);have cA:=a4.keep gU (by omega) (by simp;omega);clear h3 A3 eC gU a4
  cases hq4:Ps.sees I [102,97,108,115,101] nx with
  | true=>
   rw [hq4] at h4;simp only [if_true] at h4;have hN:=dy;have hA:=A4;have hR:=h4;clear dy A4 h4;have fa:=fun o=>fo hN o;have aB:=co hN 0;have ay:=co hN 1;have az:=co hN 2;have aF:=co hN 3;have aD:=co hN 4;have aH:=co hN 5;simp at aB ay az aF aD aH;go_wp2;refine bodyPost_ret (v:=.agg #[.int .i64 2,.int .i64 0,.int .i64 0,.string ⟨#[]⟩,.slice none 0 0,.slice none 0 0]) (by simp [results,Tryz.results271,go_sem,aB,ay,az,aF,aD,aH]) rfl ?_;exact Post.good (by rw [m0.out,ko,hq4];rfl) (hA.put6 (k:=w.heap.size) nR ⟨2,0,0,⟨#[]⟩,none,0,0,none,0,0⟩) (by omega) (hR.put6 (k:=w.heap.size) (by omega) (by omega) ⟨2,0,0,⟨#[]⟩,none,0,0,none,0,0⟩) ⟨⟨2,0,0,⟨#[]⟩,none,0,0,none,0,0⟩,rfl,HEx.leaf 2 0 0 ⟨#[]⟩⟩
  | false=>
   rw [hq4] at h4;simp only [Bool.false_eq_true,if_false] at h4;go_wp2_with fail;refine (zCa h4 ⟨#[40]⟩).mono ?_;rintro e w5 ⟨rfl,b5⟩;have es:(⟨#[40]⟩:ByteArray).data.toList=[40]:=rfl;simp only [es];clear es;have z5:=b5.size;have h5:=h4.below b5;have A5:=A4.trans (aside b5) A4.size;have gY:=(aside b5 (S:=[])).keep dy (zAB dy) (by simp);have fh:=(aside b5 (S:=[])).keep cA (zAB cA) (by simp);clear h4 A4 dy cA b5
   cases hq5:Ps.sees I [40] nx with
   | true=>
    have ak:=zAR hq5 (by simp);go_wp2_with fail
    cases J with
    | none=>
     refine (zBO h5 HJ _).mono ?_;rintro e w9 ⟨rfl,a9⟩;exact ⟨rfl,Post.fail (by rw [m0.out,ko,hq4,hq5];rfl) (A5.trans a9 A5.size)⟩
    | some A=>
     have HF:∀ w',Rd w' b g cap I.L I.len (nx+1) (op+1)->Aside [b] w5.heap.size w5 w'->Calls Tryz.prog 275 (#[.pointer (some ⟨b,0,none⟩)]++#[]) w' (Post b g cap I (op+1) (exO fun _=>False) (nx+1) w' (Ps.bracketed I (Ps.exprOf I A) (nx+1))):=fun w' rE jj=>
      (zFw (zBZ HJ.2) _ _ rE (hG.far (A5.trans jj A5.size))).mono fun e w2 hp=>hp.mono fun B w x v hv=>exO_of _ hv
     refine (zCJ h5 (fun i hi=>hi.elim) HJ.1 ak enter125 HF).mono ?_;rintro e w9 ⟨a9,hres⟩;have z9:=a9.size;have A9:=A5.trans a9 A5.size;have dc:=a9.keep gY (by omega) (by simp;omega)
     cases ht9:Ps.bracketed I (Ps.exprOf I A) (nx+1) with
     | err c0 a0=>
      rw [ht9] at hres;obtain rfl:e=_:=hres;exact ⟨rfl,Post.fail (by rw [m0.out,ko,hq4,hq5];show Ps.bracketed I (Ps.exprOf I A) (nx+1)=_;exact ht9) A9⟩
     | ok e0 n1=>
      rw [ht9] at hres;obtain ⟨yW,h9,_,rfl,hx⟩:=hres;obtain ⟨y,rfl,ly⟩:=exV_of hx;have rp:=zAA ht9;clear ht9;have fa:=fun o=>fo dc o;have aB:=co dc 0;have ay:=co dc 1;have az:=co dc 2;have aF:=co dc 3;have aD:=co dc 4;have aH:=co dc 5;simp at aB ay az aF aD aH;have jQ:=ly.wide (ok':=fun i=>w.heap.size<i) (fun i hi hl=>by omega);go_wp2;refine bodyPost_ret (v:=.agg #[.int .i64 y.op,.int .i64 y.k,.int .i64 y.n,.string y.name,.slice y.aS y.nS y.cS,.slice y.aL y.nL y.cL]) (by simp [results,Tryz.results271,go_sem,aB,ay,az,aF,aD,aH]) rfl ?_;exact Post.good (by rw [m0.out,ko,hq4,hq5];show Ps.bracketed I (Ps.exprOf I A) (nx+1)=_;exact rp.out) (A9.put6 (k:=w.heap.size) nR y) (by omega) (h9.put6 (k:=w.heap.size) (by omega) (by omega) y) ⟨y,rfl,(jQ.put6 (k:=w.heap.size) (by simp) y).wide (fun i hi _=>Nat.le_of_lt hi)⟩
   | false=>
    go_wp2_with fail;refine (zCa h5 ⟨#[105,102]⟩).mono ?_;rintro e w6 ⟨rfl,b6⟩;have es:(⟨#[105,102]⟩:ByteArray).data.toList=[105,102]:=rfl;simp only [es];clear es;have z6:=b6.size;have h6:=h5.below b6;have A6:=A5.trans (aside b6) A5.size;have mN:=(aside b6 (S:=[])).keep gY (zAB gY) (by simp);have mu:=(aside b6 (S:=[])).keep fh (zAB fh) (by simp);clear h5 A5 gY fh b6
    cases hq6:Ps.sees I [105,102] nx with
    | true=>
     have ak:=zAR hq6 (by simp);go_wp2_with fail
     cases J with
     | none=>
      refine (zBO h6 HJ _).mono ?_;rintro e w9 ⟨rfl,a9⟩;exact ⟨rfl,Post.fail (by rw [m0.out,ko,hq4,hq5,hq6];rfl) (A6.trans a9 A6.size)⟩
     | some A=>
      have HF:∀ w',Rd w' b g cap I.L I.len (nx+1) (op+1)->Aside [b] w6.heap.size w6 w'->Calls Tryz.prog 276 (#[.pointer (some ⟨b,0,none⟩)]++#[]) w' (Post b g cap I (op+1) (exO fun _=>False) (nx+1) w' (Ps.choice I (Ps.exprOf I A) (nx+1))):=fun w' rE jj=>
       (choice_any (zBZ HJ.2) _ _ rE (hG.far (A6.trans jj A6.size))).mono fun e w2 hp=>hp.mono fun B w x v hv=>exO_of _ hv
      refine (zCJ h6 (fun i hi=>hi.elim) HJ.1 ak enter126 HF).mono ?_;rintro e w9 ⟨a9,hres⟩;have z9:=a9.size;have A9:=A6.trans a9 A6.size;have dc:=a9.keep mN (by omega) (by simp;omega)
      cases ht9:Ps.choice I (Ps.exprOf I A) (nx+1) with
      | err c0 a0=>
       rw [ht9] at hres;obtain rfl:e=_:=hres;exact ⟨rfl,Post.fail (by rw [m0.out,ko,hq4,hq5,hq6];show Ps.choice I (Ps.exprOf I A) (nx+1)=_;exact ht9) A9⟩
      | ok e0 n1=>
       rw [ht9] at hres;obtain ⟨yW,h9,_,rfl,hx⟩:=hres;obtain ⟨y,rfl,ly⟩:=exV_of hx;have rp:=zAA ht9;clear ht9;have fa:=fun o=>fo dc o;have aB:=co dc 0;have ay:=co dc 1;have az:=co dc 2;have aF:=co dc 3;have aD:=co dc 4;have aH:=co dc 5;simp at aB ay az aF aD aH;have jQ:=ly.wide (ok':=fun i=>w.heap.size<i) (fun i hi hl=>by omega);go_wp2;refine bodyPost_ret (v:=.agg #[.int .i64 y.op,.int .i64 y.k,.int .i64 y.n,.string y.name,.slice y.aS y.nS y.cS,.slice y.aL y.nL y.cL]) (by simp [results,Tryz.results271,go_sem,aB,ay,az,aF,aD,aH]) rfl ?_;exact Post.good (by rw [m0.out,ko,hq4,hq5,hq6];show Ps.choice I (Ps.exprOf I A) (nx+1)=_;exact rp.out) (A9.put6 (k:=w.heap.size) nR y) (by omega) (h9.put6 (k:=w.heap.size) (by omega) (by omega) y) ⟨y,rfl,(jQ.put6 (k:=w.heap.size) (by simp) y).wide (fun i hi _=>Nat.le_of_lt hi)⟩
    | false=>
     have ct:=co mu 2;simp only [gT,gZ,gS] at ct;have ag:=aV b g cap I op J HJ nx w6 h6 (hG.far A6);rw [<-HT.out] at ag;go_wp2_with fail;refine ag.mono ?_;rintro e w9 ⟨a9,hres⟩;have z9:=a9.size;have A9:=A6.trans a9 A6.size;have dc:=a9.keep mN (by omega) (by simp;omega)
     cases ht9:Ps.form I J nx with
     | err c0 a0=>
      rw [ht9] at hres;obtain rfl:e=_:=hres;exact ⟨rfl,Post.fail (by rw [m0.out,ko,hq4,hq5,hq6];show Ps.form I J nx=_;exact ht9) A9⟩
     | ok e0 n1=>
      rw [ht9] at hres;obtain ⟨yW,h9,_,rfl,hx⟩:=hres;obtain ⟨y,rfl,ly⟩:=hx;have rp:=zAA ht9;clear ht9;have fa:=fun o=>fo dc o;have aB:=co dc 0;have ay:=co dc 1;have az:=co dc 2;have aF:=co dc 3;have aD:=co dc 4;have aH:=co dc 5;simp at aB ay az aF aD aH;have jQ:=ly.wide (ok':=fun i=>w.heap.size<i) (fun i hi hl=>by omega);go_wp2;refine bodyPost_ret (v:=.agg #[.int .i64 y.op,.int .i64 y.k,.int .i64 y.n,.string y.name,.slice y.aS y.nS y.cS,.slice y.aL y.nL y.cL]) (by simp [results,Tryz.results271,go_sem,aB,ay,az,aF,aD,aH]) rfl ?_;exact Post.good (by rw [m0.out,ko,hq4,hq5,hq6];show Ps.form I J nx=_;exact rp.out) (A9.put6 (k:=w.heap.size) nR y) (by omega) (h9.put6 (k:=w.heap.size) (by omega) (by omega) y) ⟨y,rfl,(jQ.put6 (k:=w.heap.size) (by simp) y).wide (fun i hi _=>Nat.le_of_lt hi)⟩
theorem indices_stop {I:Inp} {J:Option (Nat->Res Ex)} {n:Nat} {e:Ex} (h:Ps.sees I [91] n=false):∀ k,Ps.indices I J k e n=.ok e n
 | 0=>rfl
 | _+1=>by simp [Ps.indices,h]
theorem indices_step {I:Inp} {J:Option (Nat->Res Ex)} {n:Nat} {e:Ex} (h:Ps.sees I [91] n=true) (k:Nat):Ps.indices I J (k+1) e n=(Ps.opn I J n fun A n1=>Ps.index I (Ps.exprOf I A) e n1).bind fun e1 n1=>Ps.indices I J k e1 n1:=by simp [Ps.indices,h]
theorem zFb {b g cap:Nat} {I:Inp} {op:Nat} {J:Option (Nat->Res Ex)} (HJ:Inner b g cap I op J) (HU:Does 271 b g cap I op exV (Ps.unit I J)):Does 269 b g cap I op exV (Ps.aheadS I J):=by
 intro nx w h hG;have hb:=h.bb;have hg:=h.gb;have h0:=h.alloc (.cells #[.int .i64 0,.int .i64 0,.int .i64 0,.string ⟨#[]⟩,.slice none 0 0,.slice none 0 0] 54 (0,0));have dO:=zAC w (.cells #[.int .i64 0,.int .i64 0,.int .i64 0,.string ⟨#[]⟩,.slice none 0 0,.slice none 0 0] 54 (0,0));have z0:(w.alloc (.cells #[.int .i64 0,.int .i64 0,.int .i64 0,.string ⟨#[]⟩,.slice none 0 0,.slice none 0 0] 54 (0,0))).heap.size=w.heap.size+1:=(by simp);have A0:=(Aside.refl (S:=[b]) (B:=w.heap.size) w).alloc nR (.cells #[.int .i64 0,.int .i64 0,.int .i64 0,.string ⟨#[]⟩,.slice none 0 0,.slice none 0 0] 54 (0,0));go_enter Tryz.func269,Tryz.ntmps269;go_wp2_with fail;generalize w.alloc (.cells #[.int .i64 0,.int .i64 0,.int .i64 0,.string ⟨#[]⟩,.slice none 0 0,.slice none 0 0] 54 (0,0))=W at h0 dO z0 A0 ⊢;refine (zCa h0 ⟨#[45]⟩).mono ?_;rintro e w1 ⟨rfl,b1⟩;have es:(⟨#[45]⟩:ByteArray).data.toList=[45]:=rfl;simp only [es];clear es;have z1:=b1.size;have h1:=h0.below b1;have A1:=A0.trans (aside b1) A0.size;have aG:=(aside b1 (S:=[])).keep dO (zAB dO) (by simp);clear h0 A0 dO b1
 cases dh:Ps.sees I [45] nx with
 | true=>
  have ak:=zAR dh (by simp);go_wp2_with fail;refine (zEn 13 HJ ak h1 (hG.far A1)).mono ?_;rintro e w9 ⟨a9,hres⟩;have z9:=a9.size;have A9:=A1.trans a9 A1.size;have dc:=a9.keep aG (by omega) (by simp;omega)
  cases ht9:(Ps.opn I J nx fun A n1=>Ps.signed A 13 n1) with
  | err c0 a0=>
   rw [ht9] at hres;obtain rfl:e=_:=hres;exact ⟨rfl,Post.fail (by unfold Ps.aheadS;rw [dh,if_pos rfl];exact ht9) A9⟩
  | ok e0 n1=>
   rw [ht9] at hres;obtain ⟨yW,h9,_,rfl,y,rfl,ly⟩:=hres;have rp:=zAA ht9;clear ht9;have fa:=fun o=>fo dc o;have aB:=co dc 0;have ay:=co dc 1;have az:=co dc 2;have aF:=co dc 3;have aD:=co dc 4;have aH:=co dc 5;simp at aB ay az aF aD aH;have jQ:=ly.wide (ok':=fun i=>w.heap.size<i) (fun i hi hl=>by omega);go_wp2;refine bodyPost_ret (v:=.agg #[.int .i64 y.op,.int .i64 y.k,.int .i64 y.n,.string y.name,.slice y.aS y.nS y.cS,.slice y.aL y.nL y.cL]) (by simp [results,Tryz.results269,go_sem,aB,ay,az,aF,aD,aH]) rfl ?_;exact Post.good (by unfold Ps.aheadS;rw [dh,if_pos rfl];exact rp.out) (A9.put6 (k:=w.heap.size) nR y) (by omega) (h9.put6 (k:=w.heap.size) (by omega) (by omega) y) ⟨y,rfl,(jQ.put6 (k:=w.heap.size) (by simp) y).wide (fun i hi _=>Nat.le_of_lt hi)⟩
 | false=>
  go_wp2_with fail;refine (zCa h1 ⟨#[110,111,116]⟩).mono ?_;rintro e w2 ⟨rfl,b2⟩;have es:(⟨#[110,111,116]⟩:ByteArray).data.toList=[110,111,116]:=rfl;simp only [es];clear es;have z2:=b2.size;have h2:=h1.below b2;have A2:=A1.trans (aside b2) A1.size;have gH:=(aside b2 (S:=[])).keep aG (zAB aG) (by simp);clear h1 A1 aG b2
  cases dK:Ps.sees I [110,111,116] nx with
  | true=>
   have ak:=zAR dK (by simp);go_wp2_with fail;refine (zEn 14 HJ ak h2 (hG.far A2)).mono ?_;rintro e w9 ⟨a9,hres⟩;have z9:=a9.size;have A9:=A2.trans a9 A2.size;have dc:=a9.keep gH (by omega) (by simp;omega)
   cases ht9:(Ps.opn I J nx fun A n1=>Ps.signed A 14 n1) with
   | err c0 a0=>
    rw [ht9] at hres;obtain rfl:e=_:=hres;exact ⟨rfl,Post.fail (by unfold Ps.aheadS;rw [dh,if_neg (by simp),dK,if_pos rfl];exact ht9) A9⟩
   | ok e0 n1=>
    rw [ht9] at hres;obtain ⟨yW,h9,_,rfl,y,rfl,ly⟩:=hres;have rp:=zAA ht9;clear ht9;have fa:=fun o=>fo dc o;have aB:=co dc 0;have ay:=co dc 1;have az:=co dc 2;have aF:=co dc 3;have aD:=co dc 4;have aH:=co dc 5;simp at aB ay az aF aD aH;have jQ:=ly.wide (ok':=fun i=>w.heap.size<i) (fun i hi hl=>by omega);go_wp2;refine bodyPost_ret (v:=.agg #[.int .i64 y.op,.int .i64 y.k,.int .i64 y.n,.string y.name,.slice y.aS y.nS y.cS,.slice y.aL y.nL y.cL]) (by simp [results,Tryz.results269,go_sem,aB,ay,az,aF,aD,aH]) rfl ?_;exact Post.good (by unfold Ps.aheadS;rw [dh,if_neg (by simp),dK,if_pos rfl];exact rp.out) (A9.put6 (k:=w.heap.size) nR y) (by omega) (h9.put6 (k:=w.heap.size) (by omega) (by omega) y) ⟨y,rfl,(jQ.put6 (k:=w.heap.size) (by simp) y).wide (fun i hi _=>Nat.le_of_lt hi)⟩
  | false=>
   have m0:Hid (Ps.aheadS I J nx=(Ps.unit I J nx).bind fun e n1=>Ps.indices I J (I.L.length-n1) e n1):=by
    show Ps.aheadS I J nx=_
    unfold Ps.aheadS;rw [dh,if_neg (by simp),dK,if_neg (by simp)]
   go_wp2_with fail;refine (HU _ _ h2 (hG.far A2)).mono ?_;rintro e w3 ⟨a3,hres⟩;have z3:=a3.size;have A3:=A2.trans a3 A2.size;have eC:=a3.keep gH (by omega) (by simp;omega);clear h2 A2 gH a3
   cases ht:Ps.unit I J nx with
   | err c0 a0=>
    rw [ht] at hres;obtain rfl:e=_:=hres;exact ⟨rfl,Post.fail (by rw [m0.out,ht];rfl) A3⟩
   | ok e0 n1=>
    rw [ht] at hres;obtain ⟨oh,h3,_,rfl,x0,rfl,iD⟩:=hres;have aw:Hid (Ps.aheadS I J nx=Ps.indices I J (I.L.length-n1) e0 n1):=by
     show Ps.aheadS I J nx=_
     rw [m0.out,ht];rfl
    clear ht m0;go_wp2;go_loopg [] (I.L.length-n1) (fun k wr=>∃ (n:Nat) (y:ExV) (e:Ex),I.L.length<=n+k/\nx<=n/\HEx (fun i=>w.heap.size<i/\i≠w3.heap.size) wr y.cells e/\Rd wr b g cap I.L I.len n op/\Aside [b] w.heap.size w wr /\
      wr.heap[w.heap.size]?=some (.cells #[.int .i64 0,.int .i64 0,.int .i64 0,.string ⟨#[]⟩,.slice none 0 0,.slice none 0 0] 54 (0,0)) /\
      wr.heap[w3.heap.size]?=some (.cells #[.int .i64 y.op,.int .i64 y.k,.int .i64 y.n,.string y.name,.slice y.aS y.nS y.cS,.slice y.aL y.nL y.cL] 54 (0,0))/\Hid (Ps.aheadS I J nx=Ps.indices I J k e n))
    case atStart=>exact ⟨n1,x0,e0,by omega,oh,(iD.wide (ok':=fun i=>w.heap.size<i/\i≠w3.heap.size) (fun i hi hl=>⟨by omega,by omega⟩)).under ((Below.refl _ w3).alloc nR _),h3.alloc _,A3.alloc (by omega) _,kA eC _,zAC _ _,aw⟩
    case round=>
     clear aw A3 eC h3 iD;obtain ⟨n,y,e,hn,ii,he,nZ,has,hA,hB,aw⟩:=hrel;have zA:=zAB hA;have zB:=zAB hB;go_wp2_with fail;refine (zCa nZ ⟨#[91]⟩).mono ?_;rintro r w4 ⟨rfl,b4⟩;have es:(⟨#[91]⟩:ByteArray).data.toList=[91]:=rfl;simp only [es];clear es;have z4:=b4.size;have eB:=(aside b4 (S:=[])).keep hA (zAB hA) (by simp);have dZ:=(aside b4 (S:=[])).keep hB (zAB hB) (by simp);have iz:=he.under b4;have h4:=nZ.below b4;have A4:=has.trans (aside b4) has.size;clear hA hB he nZ has b4
     cases hq4:Ps.sees I [91] n with
     | false=>
      have fa:=fun o=>fo eB o;have bw:=co dZ 0;have bz:=co dZ 1;have bv:=co dZ 2;have bU:=co dZ 3;have bT:=co dZ 4;have dm:=co dZ 5;simp at bw bz bv bU bT dm;have aB:=co eB 0;have ay:=co eB 1;have az:=co eB 2;have aF:=co eB 3;have aD:=co eB 4;have aH:=co eB 5;simp at aB ay az aF aD aH;go_wp2;refine bodyPost_ret (v:=.agg #[.int .i64 y.op,.int .i64 y.k,.int .i64 y.n,.string y.name,.slice y.aS y.nS y.cS,.slice y.aL y.nL y.cL]) (by simp [results,Tryz.results269,go_sem,aB,ay,az,aF,aD,aH]) rfl ?_;exact Post.good (by rw [aw.out];exact indices_stop hq4 gk) (A4.put6 (k:=w.heap.size) nR y) ii (h4.put6 (k:=w.heap.size) (by omega) (by omega) y) ⟨y,rfl,(iz.put6 (k:=w.heap.size) (by simp) y).wide (fun i hi _=>Nat.le_of_lt hi.1)⟩
     | true=>
      have ak:=zAR hq4 (by simp);obtain ⟨f,rfl⟩:∃ f,gk=f+1:=⟨gk-1,by omega⟩;have eG:=zAA (aw.out.trans (indices_step (J:=J) (e:=e) hq4 f));clear aw;have bw:=co dZ 0;have bz:=co dZ 1;have bv:=co dZ 2;have bU:=co dZ 3;have bT:=co dZ 4;have dm:=co dZ 5;simp at bw bz bv bU bT dm;go_wp2_with fail;refine (indexed_any (ok0:=fun i=>w.heap.size<i/\i≠w3.heap.size/\i<w4.heap.size) HJ ak h4 (hG.far A4) (iz.wide (fun i hi hl=>⟨hi.1,hi.2,hl⟩)) (fun i hi=>⟨hi.2.2,by omega⟩)).mono ?_;rintro r w5 ⟨a5,hres⟩;have z5:=a5.size;have A5:=A4.trans a5 A4.size;have jt:=a5.keep eB (by omega) (by simp;omega);have ei:=a5.keep dZ (by omega) (by simp;omega);clear eB dZ iz h4 A4 a5 bw bz bv bU bT dm
      cases ht:(Ps.opn I J n fun A n1=>Ps.index I (Ps.exprOf I A) e n1) with
      | err c0 a0=>
       rw [ht] at hres;obtain rfl:r=_:=hres;exact ⟨rfl,Post.fail (by rw [eG.out,ht];rfl) A5⟩
      | ok e6 n6=>
       rw [ht] at hres;obtain ⟨ym,h5,_,rfl,z,rfl,ix⟩:=hres;have aw:Hid (Ps.aheadS I J nx=Ps.indices I J f e6 n6):=by
        show Ps.aheadS I J nx=_
        rw [eG.out,ht];rfl
       clear eG ht;have qp:=ix.wide (ok':=fun i=>w.heap.size<i/\i≠w3.heap.size) (fun i hi _=>hi.elim (fun q=>⟨q.1,q.2.1⟩) (fun q=>⟨by omega,by omega⟩));have fB:=fun o=>fo ei o;have bw:=co ei 0;have bz:=co ei 1;have bv:=co ei 2;have bU:=co ei 3;have bT:=co ei 4;have dm:=co ei 5;simp at bw bz bv bU bT dm;go_wp2;go_roundg f
       case measure=>omega
       case rel=>exact ⟨n6,z,_,by omega,by omega,qp.put6 (k:=w3.heap.size) (by simp) z,h5.put6 (k:=w3.heap.size) (by omega) (by omega) z,A5.put6 (k:=w3.heap.size) (by omega) z,keep6 jt (by omega) z,put6_in ei z,aw⟩
theorem zEE (aV:FormC) {b g cap:Nat} {I:Inp}:∀ (d op:Nat),op+d=60->Does 269 b g cap I op exV (Ps.ahead I d)
 | 0,op,h=>zFb (J:=none) (show 60<=op by omega) (unit_any aV (J:=none) (show 60<=op by omega))
 | d+1,op,h=>zFb (J:=some (Ps.ahead I d)) ⟨by omega,zEE aV d (op+1) (by omega)⟩ (unit_any aV (J:=some (Ps.ahead I d)) ⟨by omega,zEE aV d (op+1) (by omega)⟩)
theorem exprs_any (aV:FormC) {b g cap:Nat} {I:Inp}:Does 245 b g cap I 0 exV (Ps.expr I 60):=zBZ (zEE aV 60 0 rfl)
end Go.Proofs.YtkfgbhlpjkkgfaaGreatDoor
namespace Go.Proofs.YtkfgbhlpjkkgfaaGreatDoor
mutual
theorem count_eq:∀ e:Ex,Ps.count e=parts e
 | .mk _ _ _ _ _ L=>by rw [Ps.count,parts,countL_eq L]
theorem countL_eq:∀ L:List Ex,Ps.countL L=partsL L
 | []=>by rw [Ps.countL,partsL]
 | x :: xs=>by rw [Ps.countL,partsL,count_eq x,countL_eq xs]
end
theorem Res.bind_ok {α β:Type} {r:Res α} {k:α->Nat->Res β} {v:β} {n:Nat} (h:r.bind k=.ok v n):∃ u m,r=.ok u m/\k u m=.ok v n:=by
 cases r with
 | ok u m=>exact ⟨u,m,rfl,h⟩
 | err c a=>cases h
theorem zAN {α:Type} {a b:α} {m n:Nat} (h:Res.ok a m=Res.ok b n):a=b/\m=n:=by
 injection h with h1 h2;exact ⟨h1,h2⟩
theorem zBu {α:Type} {I:Inp} {n:Nat} {v:α} {m:Nat} (h:(Ps.refuse I n:Res α)=.ok v m):False:=by cases h
theorem zBB {I:Inp} {s:List UInt8} {n:Nat} {u:Unit} {m:Nat} (h:Ps.need I s n=.ok u m):m=n+1:=by
 unfold Ps.need at h
 split at h
 ·exact (zAN h).2.symm
 ·exact (zBu h).elim
theorem name_ok {I:Inp} {n:Nat} {u:ByteArray} {m:Nat} (h:Ps.name I n=.ok u m):m=n+1:=by
 unfold Ps.name at h
 split at h
 ·exact (zAN h).2.symm
 ·exact (zBu h).elim
theorem term_ok {I:Inp} {b:Bool} {n:Nat} {u:Tm} {m:Nat} (h:Ps.term I b n=.ok u m):n<m:=by
 unfold Ps.term at h
 split at h
 ·split at h
  ·obtain ⟨s,k,h1,h2⟩:=Res.bind_ok h
   have:=name_ok h1;have:=(zAN h2).2;omega
  ·have:=(zAN h).2
   omega
 ·obtain ⟨s,k,h1,h2⟩:=Res.bind_ok h
  have:=name_ok h1;have:=(zAN h2).2;omega
theorem terms_ok {I:Inp}:∀ (f:Nat) (acc:List Tm) (n:Nat) {u:List Tm} {m:Nat},Ps.terms I f acc n=.ok u m->n<=m
 | 0,acc,n,u,m,h=>by
  unfold Ps.terms at h
  split at h
  ·cases h
  ·have:=(zAN h).2
   omega
 | f+1,acc,n,u,m,h=>by
  unfold Ps.terms at h
  split at h
  ·obtain ⟨t,k,h1,h2⟩:=Res.bind_ok h
   have:=term_ok h1;have:=terms_ok f _ k h2;omega
  ·have:=(zAN h).2
   omega
theorem size_ok {I:Inp} {n:Nat} {u:List Tm} {m:Nat} (h:Ps.size I n=.ok u m):n<m:=by
 unfold Ps.size at h;obtain ⟨t,k,h1,h2⟩:=Res.bind_ok h;have h3:=term_ok h1;have h4:=terms_ok _ _ _ h2
 split at h3<;>omega
theorem oper_ok {I:Inp} {n:Nat} {u:Int} {m:Nat} (h:Ps.oper I n=.ok u m):m=n+1:=by
 unfold Ps.oper at h
 split at h
 ·exact (zAN h).2.symm
 ·exact (zBu h).elim
def Nice (R:Nat->Res Ex):Prop:=∀ n e m,R n=.ok e m->parts e+n<=m
theorem more_nice {I:Inp} {R:Nat->Res Ex} {a c:Int} (hR:Nice R):∀ (f:Nat) (e:Ex) (n:Nat) {x:Ex} {m n0:Nat},parts e+n0<=n->Ps.more I R a c f e n=.ok x m->parts x+n0<=m
 | 0,e,n,x,m,n0,h0,h=>by
  obtain ⟨rfl,rfl⟩:=zAN h;exact h0
 | f+1,e,n,x,m,n0,h0,h=>by
  unfold Ps.more at h
  split at h
  ·obtain ⟨rfl,rfl⟩:=zAN h
   exact h0
  ·obtain ⟨r,k,h1,h2⟩:=Res.bind_ok h
   have h3:=hR _ _ _ h1;refine more_nice hR f _ k ?_ h2;simp only [parts,partsL];omega
theorem zBH {I:Inp} {R:Nat->Res Ex} {a c:Int} (hR:Nice R):Nice (Ps.fromLeft I R a c):=fun n e m h=>by
 obtain ⟨r,k,h1,h2⟩:=Res.bind_ok h;exact more_nice hR _ _ _ (hR _ _ _ h1) h2
theorem cmp_nice {I:Inp} {R:Nat->Res Ex} (hR:Nice R):Nice (Ps.cmp I R):=fun n e m h=>by
 obtain ⟨r,k,h1,h2⟩:=Res.bind_ok h;have h3:=hR _ _ _ h1
 split at h2
 ·obtain ⟨rfl,rfl⟩:=zAN h2
  exact h3
 ·obtain ⟨s,j,h4,h5⟩:=Res.bind_ok h2
  obtain ⟨rfl,rfl⟩:=zAN h5;have h6:=hR _ _ _ h4;simp only [parts,partsL];omega
theorem zAe {I:Inp} {A:Nat->Res Ex} (hA:Nice A):Nice (Ps.exprOf I A):=zBH (zBH (cmp_nice (zBH (zBH hA))))
theorem zCz:∀ (a b:List Ex),partsL (a++b)=partsL a+partsL b
 | [],b=>by simp [partsL]
 | x :: a,b=>by simp [partsL,zCz a b];omega
theorem zCI (e x:Ex):parts (Ps.Ex.addL e x)=parts e+parts x:=by
 obtain ⟨o,k,n,s,S,L⟩:=e;simp [Ps.Ex.addL,Ex.L,parts,zCz,partsL];omega
theorem addS_parts (e:Ex) (s:List Tm):parts (Ps.Ex.addS e s)=parts e:=by
 obtain ⟨o,k,n,s,S,L⟩:=e;simp [Ps.Ex.addS,Ex.L,parts]
theorem setK_parts (e:Ex) (k:Int):parts (Ps.Ex.setK e k)=parts e:=by
 obtain ⟨o,k,n,s,S,L⟩:=e;simp [Ps.Ex.setK,Ex.L,parts]
theorem part_nice {I:Inp} {E:Nat->Res Ex} (hE:Nice E) (p:Ps.Pt) {e x:Ex} {n m:Nat} (h:Ps.part I E p e n=.ok x m):parts x+n<=parts e+m:=by
 cases p with
 | part=>
  obtain ⟨r,k,h1,h2⟩:=Res.bind_ok h;obtain ⟨rfl,rfl⟩:=zAN h2;have:=hE _ _ _ h1;rw [zCI];omega
 | size=>
  obtain ⟨r,k,h1,h2⟩:=Res.bind_ok h;obtain ⟨rfl,rfl⟩:=zAN h2;have:=size_ok h1;rw [addS_parts];omega
 | oper=>
  obtain ⟨r,k,h1,h2⟩:=Res.bind_ok h;obtain ⟨rfl,rfl⟩:=zAN h2;have:=oper_ok h1;rw [setK_parts];omega
 | oneOrTwo=>
  obtain ⟨r,k,h1,h2⟩:=Res.bind_ok h;have h3:=hE _ _ _ h1
  split at h2
  ·obtain ⟨s,j,h4,h5⟩:=Res.bind_ok h2
   obtain ⟨rfl,rfl⟩:=zAN h5;have:=hE _ _ _ h4;rw [zCI,zCI];omega
  ·obtain ⟨rfl,rfl⟩:=zAN h2
   rw [zCI];omega
theorem zFc {I:Inp} {E:Nat->Res Ex} (hE:Nice E):∀ (ps:List Ps.Pt) {e x:Ex} {n m:Nat},Ps.parts I E ps e n=.ok x m->parts x+n<=parts e+m
 | [],e,x,n,m,h=>by
  obtain ⟨rfl,rfl⟩:=zAN h;omega
 | p :: ps,e,x,n,m,h=>by
  obtain ⟨u,k,h1,h2⟩:=Res.bind_ok h;obtain ⟨r,j,h3,h4⟩:=Res.bind_ok h2;have:=zBB h1;have:=part_nice hE p h3;have:=zFc hE ps h4;omega
theorem zFv {I:Inp} {E:Nat->Res Ex} (hE:Nice E) {p:Ps.Pt} {ps:List Ps.Pt} {e x:Ex} {n m:Nat} (h:Ps.brackets I E p ps e n=.ok x m):parts x+n<=parts e+m:=by
 obtain ⟨u,k,h1,h2⟩:=Res.bind_ok h;obtain ⟨r,j,h3,h4⟩:=Res.bind_ok h2;obtain ⟨s,i,h5,h6⟩:=Res.bind_ok h4;obtain ⟨v,l,h7,h8⟩:=Res.bind_ok h6;obtain ⟨rfl,rfl⟩:=zAN h8;have:=zBB h1;have:=part_nice hE p h3;have:=zFc hE ps h5;have:=zBB h7;omega
def NiceO (J:Option (Nat->Res Ex)):Prop:=∀ A,J=some A->Nice A
theorem opn_ok {I:Inp} {J:Option (Nat->Res Ex)} {n:Nat} {k:(Nat->Res Ex)->Nat->Res Ex} {x:Ex} {m:Nat} (h:Ps.opn I J n k=.ok x m):∃ A,J=some A/\k A (n+1)=.ok x m:=by
 cases J with
 | none=>cases h
 | some A=>exact ⟨A,rfl,h⟩
theorem form_nice {I:Inp} {J:Option (Nat->Res Ex)} (hJ:NiceO J):Nice (Ps.form I J):=fun n e m h=>by
 unfold Ps.form at h;have go:∀ {op k:Int} {p:Ps.Pt} {ps:List Ps.Pt},(Ps.opn I J n fun A n1=>Ps.brackets I (Ps.exprOf I A) p ps (Ps.bare op k) n1)=.ok e m->parts e+n<=m:=fun {op k p ps} h=>by
  obtain ⟨A,hA,h1⟩:=opn_ok h;have h2:=zFv (zAe (hJ A hA)) h1;have h3:parts (Ps.bare op k)=1:=(by simp [Ps.bare,parts,partsL]);omega
 simp only [] at h
 repeat (first | (split at h;exact go h) | exact (zBu h).elim)
theorem unit_nice {I:Inp} {J:Option (Nat->Res Ex)} (hJ:NiceO J):Nice (Ps.unit I J):=fun n e m h=>by
 unfold Ps.unit at h
 split at h
 ·obtain ⟨rfl,rfl⟩:=zAN h;simp [parts,partsL];omega
 split at h
 ·obtain ⟨rfl,rfl⟩:=zAN h;simp [parts,partsL];omega
 split at h
 ·obtain ⟨rfl,rfl⟩:=zAN h;simp [parts,partsL];omega
 split at h
 ·obtain ⟨rfl,rfl⟩:=zAN h;simp [parts,partsL];omega
 split at h
 ·obtain ⟨A,hA,h1⟩:=opn_ok h
  obtain ⟨r,k,h2,h3⟩:=Res.bind_ok h1;obtain ⟨u,j,h4,h5⟩:=Res.bind_ok h3;obtain ⟨rfl,rfl⟩:=zAN h5;have:=zAe (hJ A hA) _ _ _ h2;have:=zBB h4;omega
 split at h
 ·obtain ⟨A,hA,h1⟩:=opn_ok h
  obtain ⟨r,k,h2,h3⟩:=Res.bind_ok h1;obtain ⟨u,j,h4,h5⟩:=Res.bind_ok h3;obtain ⟨r2,k2,h6,h7⟩:=Res.bind_ok h5;obtain ⟨u2,j2,h8,h9⟩:=Res.bind_ok h7;obtain ⟨r3,k3,cQ,lW⟩:=Res.bind_ok h9;obtain ⟨rfl,rfl⟩:=zAN lW;have:=zAe (hJ A hA) _ _ _ h2;have:=zBB h4;have:=zAe (hJ A hA) _ _ _ h6;have:=zBB h8;have:=zAe (hJ A hA) _ _ _ cQ;simp only [parts,partsL];omega
 exact form_nice hJ _ _ _ h
theorem zDl {I:Inp} {J:Option (Nat->Res Ex)} (hJ:NiceO J):∀ (f:Nat) (e:Ex) (n:Nat) {x:Ex} {m n0:Nat},parts e+n0<=n->Ps.indices I J f e n=.ok x m->parts x+n0<=m
 | 0,e,n,x,m,n0,h0,h=>by
  obtain ⟨rfl,rfl⟩:=zAN h;exact h0
 | f+1,e,n,x,m,n0,h0,h=>by
  unfold Ps.indices at h
  split at h
  ·obtain ⟨r,k,h1,h2⟩:=Res.bind_ok h
   obtain ⟨A,hA,h3⟩:=opn_ok h1;obtain ⟨r1,k1,h4,h5⟩:=Res.bind_ok h3;obtain ⟨u,j,h6,h7⟩:=Res.bind_ok h5;obtain ⟨r2,k2,h8,h9⟩:=Res.bind_ok h7;obtain ⟨u2,j2,cQ,lW⟩:=Res.bind_ok h9;obtain ⟨rfl,rfl⟩:=zAN lW;have:=zAe (hJ A hA) _ _ _ h4;have:=zBB h6;have:=zAe (hJ A hA) _ _ _ h8;have:=zBB cQ;refine zDl hJ f _ _ ?_ h2;simp only [parts,partsL];omega
  ·obtain ⟨rfl,rfl⟩:=zAN h
   exact h0
theorem zEU {I:Inp} {J:Option (Nat->Res Ex)} (hJ:NiceO J):Nice (Ps.aheadS I J):=fun n e m h=>by
 have sg:∀ {k:Int},(Ps.opn I J n fun A n1=>Ps.signed A k n1)=.ok e m->parts e+n<=m:=fun {k} h=>by
  obtain ⟨A,hA,h1⟩:=opn_ok h;obtain ⟨r,j,h2,h3⟩:=Res.bind_ok h1;obtain ⟨rfl,rfl⟩:=zAN h3;have:=hJ A hA _ _ _ h2;simp only [parts,partsL];omega
 unfold Ps.aheadS at h
 split at h
 ·exact sg h
 split at h
 ·exact sg h
 obtain ⟨r,k,h1,h2⟩:=Res.bind_ok h;exact zDl hJ _ _ _ (unit_nice hJ _ _ _ h1) h2
theorem zFe (I:Inp):∀ d,Nice (Ps.ahead I d)
 | 0=>zEU fun A h=>by cases h
 | d+1=>zEU fun A h=>by
  injection h with h;rw [<-h];exact zFe I d
theorem expr_nice (I:Inp) (d:Nat):Nice (Ps.expr I d):=zAe (zFe I d)
end Go.Proofs.YtkfgbhlpjkkgfaaGreatDoor
namespace Go.Proofs.YtkfgbhlpjkkgfaaGreatDoor
open Go.RowKit Go.IntWalk
theorem whole_any (aV:FormC) {b g cap:Nat} {I:Inp} (hL:I.L.length<=1099511627776):Does 222 b g cap I 0 exV (Ps.whole I):=by
 intro nx w h hG;have HE:=exprs_any aV (b:=b) (g:=g) (cap:=cap) (I:=I);have hb:=h.bb;have hg:=h.gb;have h0:=h.alloc (.cells #[.int .i64 0,.int .i64 0,.int .i64 0,.string ⟨#[]⟩,.slice none 0 0,.slice none 0 0] 54 (0,0));have dO:=zAC w (.cells #[.int .i64 0,.int .i64 0,.int .i64 0,.string ⟨#[]⟩,.slice none 0 0,.slice none 0 0] 54 (0,0));have z0:(w.alloc (.cells #[.int .i64 0,.int .i64 0,.int .i64 0,.string ⟨#[]⟩,.slice none 0 0,.slice none 0 0] 54 (0,0))).heap.size=w.heap.size+1:=(by simp);have A0:=(Aside.refl (S:=[b]) (B:=w.heap.size) w).alloc nR (.cells #[.int .i64 0,.int .i64 0,.int .i64 0,.string ⟨#[]⟩,.slice none 0 0,.slice none 0 0] 54 (0,0));have hp:=@zAT _ _ _ _ _ _ _ _ h0;obtain ⟨t,ht⟩:=nmQ (I.pk nx);have jH:peekT I.L I.len nx=t:=ht.symm;rw [jH] at hp;unfold tokV at hp;have HT:=zAA ht;clear jH ht;have hf:=fun x w=>tokF1 t x w;go_enter Tryz.func222,Tryz.ntmps222;go_wp2_with fail;generalize w.alloc (.cells #[.int .i64 0,.int .i64 0,.int .i64 0,.string ⟨#[]⟩,.slice none 0 0,.slice none 0 0] 54 (0,0))=W at h0 dO z0 A0 hp ⊢;refine hp.mono ?_;rintro e w1 ⟨rfl,b1⟩;have z1:=b1.size;have h1:=h0.below b1;have A1:=A0.trans (aside b1) A0.size;have aG:=(aside b1 (S:=[])).keep dO (zAB dO) (by simp);clear hp h0 A0 dO b1;go_wp2_with fail;refine (HE _ _ h1 (hG.far A1)).mono ?_;rintro e w3 ⟨a3,hres⟩;have z3:=a3.size;have A3:=A1.trans a3 A1.size;have eC:=a3.keep aG (by omega) (by simp;omega);clear h1 A1 aG a3 HE
 cases ht:Ps.expr I 60 nx with
 | err c0 a0=>
  rw [ht] at hres;obtain rfl:e=_:=hres;exact ⟨rfl,Post.fail (by unfold Ps.whole;rw [ht];rfl) A3⟩
 | ok e0 n1=>
  rw [ht] at hres;obtain ⟨oh,h3,_,rfl,y,rfl,iD⟩:=hres;have vd:parts e0<=1099511627776:=by
   have h9:=expr_nice I 60 _ _ _ ht;have h8:=h3.le;omega
  have aw:Hid (Ps.whole I nx=if 30<parts e0 then .err 7 (I.pk nx).place else .ok e0 n1):=by
   show Ps.whole I nx=_
   unfold Ps.whole;rw [ht];simp only [Res.bind,count_eq]
  clear ht;have iz:=(iD.wide (ok':=fun i=>w.heap.size<i) (fun i hi hl=>by omega)).under ((Below.refl _ w3).alloc nR (.cells #[.int .i64 y.op,.int .i64 y.k,.int .i64 y.n,.string y.name,.slice y.aS y.nS y.cS,.slice y.aL y.nL y.cL] 54 (0,0)));have h4:=h3.alloc (.cells #[.int .i64 y.op,.int .i64 y.k,.int .i64 y.n,.string y.name,.slice y.aS y.nS y.cS,.slice y.aL y.nL y.cL] 54 (0,0));have A4:=A3.alloc A3.size (.cells #[.int .i64 y.op,.int .i64 y.k,.int .i64 y.n,.string y.name,.slice y.aS y.nS y.cS,.slice y.aL y.nL y.cL] 54 (0,0));have dy:=kA eC (.cells #[.int .i64 y.op,.int .i64 y.k,.int .i64 y.n,.string y.name,.slice y.aS y.nS y.cS,.slice y.aL y.nL y.cL] 54 (0,0));have cA:=zAC w3 (.cells #[.int .i64 y.op,.int .i64 y.k,.int .i64 y.n,.string y.name,.slice y.aS y.nS y.cS,.slice y.aL y.nL y.cL] 54 (0,0));have z4:(w3.alloc (.cells #[.int .i64 y.op,.int .i64 y.k,.int .i64 y.n,.string y.name,.slice y.aS y.nS y.cS,.slice y.aL y.nL y.cL] 54 (0,0))).heap.size=w3.heap.size+1:=(by simp);clear iD h3 A3 eC;go_wp2_with fail;generalize w3.alloc (.cells #[.int .i64 y.op,.int .i64 y.k,.int .i64 y.n,.string y.name,.slice y.aS y.nS y.cS,.slice y.aL y.nL y.cL] 54 (0,0))=w4 at iz h4 A4 dy cA z4 ⊢;refine (zCc _ e0 vd nR _ y _ iz).mono ?_;rintro e w5 ⟨rfl,b5⟩;have z5:=b5.size;have h5:=h4.below b5;have A5:=A4.trans (aside b5) A4.size;have gY:=(aside b5 (S:=[])).keep dy (zAB dy) (by simp);have fh:=(aside b5 (S:=[])).keep cA (zAB cA) (by simp);have kM:=iz.under b5;clear iz h4 A4 dy cA b5;by_cases hc:30<parts e0
  ·have hd:decide ((30:Int)<(parts e0:Int))=true:=by simp;omega
   go_wp2_with fail;refine (zBC _ _ _).mono ?_;rintro e w6 ⟨rfl,rfl⟩;exact ⟨rfl,Post.fail (by rw [aw.out,if_pos hc,<-HT.out]) A5⟩
  ·have hd:decide ((30:Int)<(parts e0:Int))=false:=by simp;omega
   have fa:=fun o=>fo gY o;have aB:=co gY 0;have ay:=co gY 1;have az:=co gY 2;have aF:=co gY 3;have aD:=co gY 4;have aH:=co gY 5;simp at aB ay az aF aD aH;have bw:=co fh 0;have bz:=co fh 1;have bv:=co fh 2;have bU:=co fh 3;have bT:=co fh 4;have dm:=co fh 5;simp at bw bz bv bU bT dm;go_wp2;refine bodyPost_ret (v:=.agg #[.int .i64 y.op,.int .i64 y.k,.int .i64 y.n,.string y.name,.slice y.aS y.nS y.cS,.slice y.aL y.nL y.cL]) (by simp [results,Tryz.results222,go_sem,aB,ay,az,aF,aD,aH]) rfl ?_;exact Post.good (by rw [aw.out,if_neg hc]) (A5.put6 (k:=w.heap.size) nR y) oh (h5.put6 (k:=w.heap.size) (by omega) (by omega) y) ⟨y,rfl,(kM.put6 (k:=w.heap.size) (by simp) y).wide (fun i hi _=>Nat.le_of_lt hi)⟩
theorem HRow.past {α:Type} {T:Kind α} {ok:Nat->Prop} {S:List Nat} {w w':World} {v:Value} {l:List α} (h:HRow T ok w v l) (a:Aside S w.heap.size w w') (hS:∀ i,ok i->i ∉ S):HRow T ok w' v l:=h.keep a.size fun i hi hl=>a.block i hl (hS i hi)
theorem HRow.under {α:Type} {T:Kind α} {ok:Nat->Prop} {w w':World} {v:Value} {l:List α} (h:HRow T ok w v l) (a:Below w.heap.size w w'):HRow T ok w' v l:=h.keep a.size fun i _ hl=>a.block i hl
theorem HRow.set {α:Type} {T:Kind α} {ok:Nat->Prop} {w:World} {v:Value} {l:List α} (h:HRow T ok w v l) {p:Addr} (hp:¬ok p.block) (u:Value):HRow T ok (w.setCell p u) v l :=
 h.keep (by simp [World.setCell]) fun i hi hl=>Below.heap_setCell _ _ _ _ (fun e=>hp (e ▸ hi))
theorem HRow.nil {α:Type} {T:Kind α} {ok:Nat->Prop} {w:World}:HRow T ok w (.slice none 0 0) []:=⟨fun _=>[],Sl.nil,fun i h=>absurd h (Nat.not_lt_zero _)⟩
end Go.Proofs.YtkfgbhlpjkkgfaaGreatDoor
