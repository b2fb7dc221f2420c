import Derived.Test.YtkfgbhlpjkkgfaaGreatDoorN36
import Derived.Test.YtkfgbhlpjkkgfaaGreatDoorN04
set_option linter.unusedVariables false
set_option linter.unusedSimpArgs false
set_option maxHeartbeats 64000000
set_option maxRecDepth 100000
namespace Go.Proofs.YtkfgbhlpjkkgfaaGreatDoor
open Go.RowKit Go.IntWalk
theorem Gives.post {F b g cap:Nat} {I:Inp} {op nx n1:Nat} {e:Ex} {res:Res Ex} (hG:Gives F b g cap I.L I.len op nx n1 e) (hr:res=.ok e n1) {w:World} (h:Rd w b g cap I.L I.len nx op):Calls Tryz.prog F #[.pointer (some ⟨b,0,none⟩)] w (Post b g cap I op exV nx w res):=by
 refine (hG.2 w h).mono ?_;rintro r w' ⟨x,rfl,he,hR,hA⟩;exact Post.good hr hA hG.1 hR ⟨x,rfl,he⟩
def FormC:Prop:=∀ (b g cap:Nat) (I:Inp) (op:Nat) (J:Option (Nat→Res Ex)),Inner b g cap I op J→∀ (nx:Nat) (w:World),Rd w b g cap I.L I.len nx op→GlobB b w →
 Calls Tryz.prog 277 #[.pointer (some ⟨b,0,none⟩),.string (str (I.pk nx).text)] w (Post b g cap I op exV nx w (Ps.form I J nx))
theorem unit_any (hform:FormC) {b g cap:Nat} {I:Inp} {op:Nat} {J:Option (Nat→Res Ex)} (HJ:Inner b g cap I op J):Does 271 b g cap I op exV (Ps.unit I J):=by
 intro nx w h hG;by_cases hk3:(I.pk nx).kind=3
 ·exact (unit_num (op:=op) hk3 (kind_lt (by rw [hk3];decide))).post (by unfold Ps.unit;rw [if_pos hk3];rfl) h
 by_cases hk2:(I.pk nx).kind=2
 ·exact (unit_name (op:=op) hk2 (kind_lt (by rw [hk2];decide))).post (by unfold Ps.unit;rw [if_neg hk3,if_pos hk2];rfl) h
 have hb:=h.bb;have hg:=h.gb;have m0:Hid (Ps.unit I J nx=if Ps.sees I [116,114,117,101] nx=true then .ok (.mk 2 0 1 ⟨#[]⟩ [] []) (nx+1) else if Ps.sees I [102,97,108,115,101] nx=true then .ok (.mk 2 0 0 ⟨#[]⟩ [] []) (nx+1)
   else if Ps.sees I [40] nx=true then Ps.opn I J nx fun A n1=>Ps.bracketed I (Ps.exprOf I A) n1
   else if Ps.sees I [105,102] nx=true then Ps.opn I J nx fun A n1=>Ps.choice I (Ps.exprOf I A) n1
   else Ps.form I J nx):=by
  show Ps.unit I J nx=_
  unfold Ps.unit;rw [if_neg hk3,if_neg hk2]
 have h0:=h.alloc (.cells #[.int .i64 0,.int .i64 0,.int .i64 0,.string ⟨#[]⟩,.slice none 0 0,.slice none 0 0] 54 (0,0));have hN0:=heap_new w (.cells #[.int .i64 0,.int .i64 0,.int .i64 0,.string ⟨#[]⟩,.slice none 0 0,.slice none 0 0] 54 (0,0));have z0:(w.alloc (.cells #[.int .i64 0,.int .i64 0,.int .i64 0,.string ⟨#[]⟩,.slice none 0 0,.slice none 0 0] 54 (0,0))).heap.size=w.heap.size+1:=(by simp);have A0:=(Aside.refl (S:=[b]) (B:=w.heap.size) w).alloc nR (.cells #[.int .i64 0,.int .i64 0,.int .i64 0,.string ⟨#[]⟩,.slice none 0 0,.slice none 0 0] 54 (0,0));have hp:=@peek_any _ _ _ _ _ _ _ _ h0;obtain ⟨t,ht⟩:=nmQ (I.pk nx);have hpk:peekT I.L I.len nx=t:=ht.symm;rw [hpk] at hp;rw [←ht] at hk3 hk2;unfold tokV at hp;have HT:=hide ht;clear hpk ht;have hb3:(t.kind==3)=false:=beq_eq_false_iff_ne.2 hk3;have hb2:(t.kind==2)=false:=beq_eq_false_iff_ne.2 hk2;have hmf:=makes;go_enter Tryz.func271,Tryz.ntmps271;go_wp2_with fail;generalize w.alloc (.cells #[.int .i64 0,.int .i64 0,.int .i64 0,.string ⟨#[]⟩,.slice none 0 0,.slice none 0 0] 54 (0,0))=W at h0 hN0 z0 A0 hp ⊢;refine hp.mono ?_;rintro e w1 ⟨rfl,b1⟩;have z1:=b1.size;have h1:=(h0.below b1).alloc (.cells #[.int .i64 t.kind,.int .i64 (t.place:Int),.string (str t.text),.int .i64 t.n] 119 (0,0));have A1:=(A0.trans (aside b1) A0.size).alloc (by omega) (.cells #[.int .i64 t.kind,.int .i64 (t.place:Int),.string (str t.text),.int .i64 t.n] 119 (0,0));have hN1:=kA ((aside b1 (S:=[])).keep hN0 (lt_of hN0) (by simp)) (.cells #[.int .i64 t.kind,.int .i64 (t.place:Int),.string (str t.text),.int .i64 t.n] 119 (0,0));have hT1:=heap_new w1 (.cells #[.int .i64 t.kind,.int .i64 (t.place:Int),.string (str t.text),.int .i64 t.n] 119 (0,0));have y1:(w1.alloc (.cells #[.int .i64 t.kind,.int .i64 (t.place:Int),.string (str t.text),.int .i64 t.n] 119 (0,0))).heap.size=w1.heap.size+1:=(by simp);clear hp h0 A0 hN0 b1;go_wp2_with fail;generalize w1.alloc (.cells #[.int .i64 t.kind,.int .i64 (t.place:Int),.string (str t.text),.int .i64 t.n] 119 (0,0))=W1 at h1 A1 hN1 hT1 y1 ⊢;refine (take_any h1 ⟨#[116,114,117,101]⟩ (by decide)).mono ?_;rintro e w3 ⟨rfl,h3,a3⟩;have es:(⟨#[116,114,117,101]⟩:ByteArray).data.toList=[116,114,117,101]:=rfl;rw [es] at h3;simp only [es];clear es;have z3:=a3.size;have A3:=A1.trans a3 A1.size;have hN3:=a3.keep hN1 (by omega) (by simp;omega);have hT3:=a3.keep hT1 (by omega) (by simp;omega);clear h1 A1 hN1 hT1 a3
 cases hq3:Ps.sees I [116,114,117,101] nx with
 | true=>
  have hlt:=sees_lt hq3 (by simp);rw [hq3] at h3;simp only [if_true] at h3;have hN:=hN3;have hA:=A3;have hR:=h3;clear hN3 A3 h3;have fa:=fun o=>fo hN o;have ca0:=co hN 0;have ca1:=co hN 1;have ca2:=co hN 2;have ca3:=co hN 3;have ca4:=co hN 4;have ca5:=co hN 5;simp at ca0 ca1 ca2 ca3 ca4 ca5;go_wp2;refine bodyPost_ret (v:=.agg #[.int .i64 2,.int .i64 0,.int .i64 1,.string ⟨#[]⟩,.slice none 0 0,.slice none 0 0]) (by simp [results,Tryz.results271,go_sem,ca0,ca1,ca2,ca3,ca4,ca5]) rfl ?_;exact Post.good (by rw [m0.out,hq3];rfl) (hA.put6 (k:=w.heap.size) nR ⟨2,0,1,⟨#[]⟩,none,0,0,none,0,0⟩) (by omega) (hR.put6 (k:=w.heap.size) (by omega) (by omega) ⟨2,0,1,⟨#[]⟩,none,0,0,none,0,0⟩) ⟨⟨2,0,1,⟨#[]⟩,none,0,0,none,0,0⟩,rfl,HEx.leaf 2 0 1 ⟨#[]⟩⟩
 | false=>
  rw [hq3] at h3;simp only [Bool.false_eq_true,if_false] at h3;go_wp2_with fail;refine (take_any h3 ⟨#[102,97,108,115,101]⟩ (by decide)).mono ?_;rintro e w4 ⟨rfl,h4,a4⟩;have es:(⟨#[102,97,108,115,101]⟩:ByteArray).data.toList=[102,97,108,115,101]:=rfl;rw [es] at h4;simp only [es];clear es;have z4:=a4.size;have A4:=A3.trans a4 A3.size;have hN4:=a4.keep hN3 (by omega) (by simp;omega);have hT4:=a4.keep hT3 (by omega) (by simp;omega);clear h3 A3 hN3 hT3 a4
  cases hq4:Ps.sees I [102,97,108,115,101] nx with
  | true=>
   rw [hq4] at h4;simp only [if_true] at h4;have hN:=hN4;have hA:=A4;have hR:=h4;clear hN4 A4 h4;have fa:=fun o=>fo hN o;have ca0:=co hN 0;have ca1:=co hN 1;have ca2:=co hN 2;have ca3:=co hN 3;have ca4:=co hN 4;have ca5:=co hN 5;simp at ca0 ca1 ca2 ca3 ca4 ca5;go_wp2;refine bodyPost_ret (v:=.agg #[.int .i64 2,.int .i64 0,.int .i64 0,.string ⟨#[]⟩,.slice none 0 0,.slice none 0 0]) (by simp [results,Tryz.results271,go_sem,ca0,ca1,ca2,ca3,ca4,ca5]) rfl ?_;exact Post.good (by rw [m0.out,hq3,hq4];rfl) (hA.put6 (k:=w.heap.size) nR ⟨2,0,0,⟨#[]⟩,none,0,0,none,0,0⟩) (by omega) (hR.put6 (k:=w.heap.size) (by omega) (by omega) ⟨2,0,0,⟨#[]⟩,none,0,0,none,0,0⟩) ⟨⟨2,0,0,⟨#[]⟩,none,0,0,none,0,0⟩,rfl,HEx.leaf 2 0 0 ⟨#[]⟩⟩
  | false=>
   rw [hq4] at h4;simp only [Bool.false_eq_true,if_false] at h4;go_wp2_with fail;refine (seesI h4 ⟨#[40]⟩).mono ?_;rintro e w5 ⟨rfl,b5⟩;have es:(⟨#[40]⟩:ByteArray).data.toList=[40]:=rfl;simp only [es];clear es;have z5:=b5.size;have h5:=h4.below b5;have A5:=A4.trans (aside b5) A4.size;have hN5:=(aside b5 (S:=[])).keep hN4 (lt_of hN4) (by simp);have hT5:=(aside b5 (S:=[])).keep hT4 (lt_of hT4) (by simp);clear h4 A4 hN4 hT4 b5
   cases hq5:Ps.sees I [40] nx with
   | true=>
    have hlt:=sees_lt hq5 (by simp);go_wp2_with fail
    cases J with
    | none=>
     refine (opened_deep h5 HJ _).mono ?_;rintro e w9 ⟨rfl,a9⟩;exact ⟨rfl,Post.fail (by rw [m0.out,hq3,hq4,hq5];rfl) (A5.trans a9 A5.size)⟩
    | some A=>
     have HF:∀ w',Rd w' b g cap I.L I.len (nx+1) (op+1)→Aside [b] w5.heap.size w5 w'→Calls Tryz.prog 275 (#[.pointer (some ⟨b,0,none⟩)]++#[]) w' (Post b g cap I (op+1) (exO fun _=>False) (nx+1) w' (Ps.bracketed I (Ps.exprOf I A) (nx+1))):=fun w' hr' ha'=>
      (bracketed_any (exprOf_any HJ.2) _ _ hr' (hG.far (A5.trans ha' A5.size))).mono fun e w2 hp=>hp.mono fun B w x v hv=>exO_of _ hv
     refine (opened_any h5 (fun i hi=>hi.elim) HJ.1 hlt enter125 HF).mono ?_;rintro e w9 ⟨a9,hres⟩;have z9:=a9.size;have A9:=A5.trans a9 A5.size;have hN9:=a9.keep hN5 (by omega) (by simp;omega)
     cases ht9:Ps.bracketed I (Ps.exprOf I A) (nx+1) with
     | err c0 a0=>
      rw [ht9] at hres;obtain rfl:e=_:=hres;exact ⟨rfl,Post.fail (by rw [m0.out,hq3,hq4,hq5];show Ps.bracketed I (Ps.exprOf I A) (nx+1)=_;exact ht9) A9⟩
     | ok e0 n1=>
      rw [ht9] at hres;obtain ⟨le9,h9,_,rfl,hx⟩:=hres;obtain ⟨y,rfl,he9⟩:=exV_of hx;have HT9:=hide ht9;clear ht9;have fa:=fun o=>fo hN9 o;have ca0:=co hN9 0;have ca1:=co hN9 1;have ca2:=co hN9 2;have ca3:=co hN9 3;have ca4:=co hN9 4;have ca5:=co hN9 5;simp at ca0 ca1 ca2 ca3 ca4 ca5;have he10:=he9.wide (ok':=fun i=>w.heap.size<i) (fun i hi hl=>by omega);go_wp2;refine bodyPost_ret (v:=.agg #[.int .i64 y.op,.int .i64 y.k,.int .i64 y.n,.string y.name,.slice y.aS y.nS y.cS,.slice y.aL y.nL y.cL]) (by simp [results,Tryz.results271,go_sem,ca0,ca1,ca2,ca3,ca4,ca5]) rfl ?_;exact Post.good (by rw [m0.out,hq3,hq4,hq5];show Ps.bracketed I (Ps.exprOf I A) (nx+1)=_;exact HT9.out) (A9.put6 (k:=w.heap.size) nR y) (by omega) (h9.put6 (k:=w.heap.size) (by omega) (by omega) y) ⟨y,rfl,(he10.put6 (k:=w.heap.size) (by simp) y).wide (fun i hi _=>Nat.le_of_lt hi)⟩
   | false=>
    go_wp2_with fail;refine (seesI h5 ⟨#[105,102]⟩).mono ?_;rintro e w6 ⟨rfl,b6⟩;have es:(⟨#[105,102]⟩:ByteArray).data.toList=[105,102]:=rfl;simp only [es];clear es;have z6:=b6.size;have h6:=h5.below b6;have A6:=A5.trans (aside b6) A5.size;have hN6:=(aside b6 (S:=[])).keep hN5 (lt_of hN5) (by simp);have hT6:=(aside b6 (S:=[])).keep hT5 (lt_of hT5) (by simp);clear h5 A5 hN5 hT5 b6
    cases hq6:Ps.sees I [105,102] nx with
    | true=>
     have hlt:=sees_lt hq6 (by simp);go_wp2_with fail
     cases J with
     | none=>
      refine (opened_deep h6 HJ _).mono ?_;rintro e w9 ⟨rfl,a9⟩;exact ⟨rfl,Post.fail (by rw [m0.out,hq3,hq4,hq5,hq6];rfl) (A6.trans a9 A6.size)⟩
     | some A=>
      have HF:∀ w',Rd w' b g cap I.L I.len (nx+1) (op+1)→Aside [b] w6.heap.size w6 w'→Calls Tryz.prog 276 (#[.pointer (some ⟨b,0,none⟩)]++#[]) w' (Post b g cap I (op+1) (exO fun _=>False) (nx+1) w' (Ps.choice I (Ps.exprOf I A) (nx+1))):=fun w' hr' ha'=>
       (choice_any (exprOf_any HJ.2) _ _ hr' (hG.far (A6.trans ha' A6.size))).mono fun e w2 hp=>hp.mono fun B w x v hv=>exO_of _ hv
      refine (opened_any h6 (fun i hi=>hi.elim) HJ.1 hlt enter126 HF).mono ?_;rintro e w9 ⟨a9,hres⟩;have z9:=a9.size;have A9:=A6.trans a9 A6.size;have hN9:=a9.keep hN6 (by omega) (by simp;omega)
      cases ht9:Ps.choice I (Ps.exprOf I A) (nx+1) with
      | err c0 a0=>
       rw [ht9] at hres;obtain rfl:e=_:=hres;exact ⟨rfl,Post.fail (by rw [m0.out,hq3,hq4,hq5,hq6];show Ps.choice I (Ps.exprOf I A) (nx+1)=_;exact ht9) A9⟩
      | ok e0 n1=>
       rw [ht9] at hres;obtain ⟨le9,h9,_,rfl,hx⟩:=hres;obtain ⟨y,rfl,he9⟩:=exV_of hx;have HT9:=hide ht9;clear ht9;have fa:=fun o=>fo hN9 o;have ca0:=co hN9 0;have ca1:=co hN9 1;have ca2:=co hN9 2;have ca3:=co hN9 3;have ca4:=co hN9 4;have ca5:=co hN9 5;simp at ca0 ca1 ca2 ca3 ca4 ca5;have he10:=he9.wide (ok':=fun i=>w.heap.size<i) (fun i hi hl=>by omega);go_wp2;refine bodyPost_ret (v:=.agg #[.int .i64 y.op,.int .i64 y.k,.int .i64 y.n,.string y.name,.slice y.aS y.nS y.cS,.slice y.aL y.nL y.cL]) (by simp [results,Tryz.results271,go_sem,ca0,ca1,ca2,ca3,ca4,ca5]) rfl ?_;exact Post.good (by rw [m0.out,hq3,hq4,hq5,hq6];show Ps.choice I (Ps.exprOf I A) (nx+1)=_;exact HT9.out) (A9.put6 (k:=w.heap.size) nR y) (by omega) (h9.put6 (k:=w.heap.size) (by omega) (by omega) y) ⟨y,rfl,(he10.put6 (k:=w.heap.size) (by simp) y).wide (fun i hi _=>Nat.le_of_lt hi)⟩
    | false=>
     have ct:=co hT6 2;simp only [gT,gZ,gS] at ct;have hcall:=hform b g cap I op J HJ nx w6 h6 (hG.far A6);rw [←HT.out] at hcall;go_wp2_with fail;refine hcall.mono ?_;rintro e w9 ⟨a9,hres⟩;have z9:=a9.size;have A9:=A6.trans a9 A6.size;have hN9:=a9.keep hN6 (by omega) (by simp;omega)
     cases ht9:Ps.form I J nx with
     | err c0 a0=>
      rw [ht9] at hres;obtain rfl:e=_:=hres;exact ⟨rfl,Post.fail (by rw [m0.out,hq3,hq4,hq5,hq6];show Ps.form I J nx=_;exact ht9) A9⟩
     | ok e0 n1=>
      rw [ht9] at hres;obtain ⟨le9,h9,_,rfl,hx⟩:=hres;obtain ⟨y,rfl,he9⟩:=hx;have HT9:=hide ht9;clear ht9;have fa:=fun o=>fo hN9 o;have ca0:=co hN9 0;have ca1:=co hN9 1;have ca2:=co hN9 2;have ca3:=co hN9 3;have ca4:=co hN9 4;have ca5:=co hN9 5;simp at ca0 ca1 ca2 ca3 ca4 ca5;have he10:=he9.wide (ok':=fun i=>w.heap.size<i) (fun i hi hl=>by omega);go_wp2;refine bodyPost_ret (v:=.agg #[.int .i64 y.op,.int .i64 y.k,.int .i64 y.n,.string y.name,.slice y.aS y.nS y.cS,.slice y.aL y.nL y.cL]) (by simp [results,Tryz.results271,go_sem,ca0,ca1,ca2,ca3,ca4,ca5]) rfl ?_;exact Post.good (by rw [m0.out,hq3,hq4,hq5,hq6];show Ps.form I J nx=_;exact HT9.out) (A9.put6 (k:=w.heap.size) nR y) (by omega) (h9.put6 (k:=w.heap.size) (by omega) (by omega) y) ⟨y,rfl,(he10.put6 (k:=w.heap.size) (by simp) y).wide (fun i hi _=>Nat.le_of_lt hi)⟩
theorem indices_stop {I:Inp} {J:Option (Nat→Res Ex)} {n:Nat} {e:Ex} (h:Ps.sees I [91] n=false):∀ k,Ps.indices I J k e n=.ok e n
 | 0=>rfl
 | _+1=>by simp [Ps.indices,h]
theorem indices_step {I:Inp} {J:Option (Nat→Res Ex)} {n:Nat} {e:Ex} (h:Ps.sees I [91] n=true) (k:Nat):Ps.indices I J (k+1) e n=(Ps.opn I J n fun A n1=>Ps.index I (Ps.exprOf I A) e n1).bind fun e1 n1=>Ps.indices I J k e1 n1:=by simp [Ps.indices,h]
theorem aheadS_any {b g cap:Nat} {I:Inp} {op:Nat} {J:Option (Nat→Res Ex)} (HJ:Inner b g cap I op J) (HU:Does 271 b g cap I op exV (Ps.unit I J)):Does 269 b g cap I op exV (Ps.aheadS I J):=by
 intro nx w h hG;have hb:=h.bb;have hg:=h.gb;have h0:=h.alloc (.cells #[.int .i64 0,.int .i64 0,.int .i64 0,.string ⟨#[]⟩,.slice none 0 0,.slice none 0 0] 54 (0,0));have hN0:=heap_new w (.cells #[.int .i64 0,.int .i64 0,.int .i64 0,.string ⟨#[]⟩,.slice none 0 0,.slice none 0 0] 54 (0,0));have z0:(w.alloc (.cells #[.int .i64 0,.int .i64 0,.int .i64 0,.string ⟨#[]⟩,.slice none 0 0,.slice none 0 0] 54 (0,0))).heap.size=w.heap.size+1:=(by simp);have A0:=(Aside.refl (S:=[b]) (B:=w.heap.size) w).alloc nR (.cells #[.int .i64 0,.int .i64 0,.int .i64 0,.string ⟨#[]⟩,.slice none 0 0,.slice none 0 0] 54 (0,0));go_enter Tryz.func269,Tryz.ntmps269;go_wp2_with fail;generalize w.alloc (.cells #[.int .i64 0,.int .i64 0,.int .i64 0,.string ⟨#[]⟩,.slice none 0 0,.slice none 0 0] 54 (0,0))=W at h0 hN0 z0 A0 ⊢;refine (seesI h0 ⟨#[45]⟩).mono ?_;rintro e w1 ⟨rfl,b1⟩;have es:(⟨#[45]⟩:ByteArray).data.toList=[45]:=rfl;simp only [es];clear es;have z1:=b1.size;have h1:=h0.below b1;have A1:=A0.trans (aside b1) A0.size;have hN1:=(aside b1 (S:=[])).keep hN0 (lt_of hN0) (by simp);clear h0 A0 hN0 b1
 cases hq1:Ps.sees I [45] nx with
 | true=>
  have hlt:=sees_lt hq1 (by simp);go_wp2_with fail;refine (signed_any 13 HJ hlt h1 (hG.far A1)).mono ?_;rintro e w9 ⟨a9,hres⟩;have z9:=a9.size;have A9:=A1.trans a9 A1.size;have hN9:=a9.keep hN1 (by omega) (by simp;omega)
  cases ht9:(Ps.opn I J nx fun A n1=>Ps.signed A 13 n1) with
  | err c0 a0=>
   rw [ht9] at hres;obtain rfl:e=_:=hres;exact ⟨rfl,Post.fail (by unfold Ps.aheadS;rw [hq1,if_pos rfl];exact ht9) A9⟩
  | ok e0 n1=>
   rw [ht9] at hres;obtain ⟨le9,h9,_,rfl,y,rfl,he9⟩:=hres;have HT9:=hide ht9;clear ht9;have fa:=fun o=>fo hN9 o;have ca0:=co hN9 0;have ca1:=co hN9 1;have ca2:=co hN9 2;have ca3:=co hN9 3;have ca4:=co hN9 4;have ca5:=co hN9 5;simp at ca0 ca1 ca2 ca3 ca4 ca5;have he10:=he9.wide (ok':=fun i=>w.heap.size<i) (fun i hi hl=>by omega);go_wp2;refine bodyPost_ret (v:=.agg #[.int .i64 y.op,.int .i64 y.k,.int .i64 y.n,.string y.name,.slice y.aS y.nS y.cS,.slice y.aL y.nL y.cL]) (by simp [results,Tryz.results269,go_sem,ca0,ca1,ca2,ca3,ca4,ca5]) rfl ?_;exact Post.good (by unfold Ps.aheadS;rw [hq1,if_pos rfl];exact HT9.out) (A9.put6 (k:=w.heap.size) nR y) (by omega) (h9.put6 (k:=w.heap.size) (by omega) (by omega) y) ⟨y,rfl,(he10.put6 (k:=w.heap.size) (by simp) y).wide (fun i hi _=>Nat.le_of_lt hi)⟩
 | false=>
  go_wp2_with fail;refine (seesI h1 ⟨#[110,111,116]⟩).mono ?_;rintro e w2 ⟨rfl,b2⟩;have es:(⟨#[110,111,116]⟩:ByteArray).data.toList=[110,111,116]:=rfl;simp only [es];clear es;have z2:=b2.size;have h2:=h1.below b2;have A2:=A1.trans (aside b2) A1.size;have hN2:=(aside b2 (S:=[])).keep hN1 (lt_of hN1) (by simp);clear h1 A1 hN1 b2
  cases hq2:Ps.sees I [110,111,116] nx with
  | true=>
   have hlt:=sees_lt hq2 (by simp);go_wp2_with fail;refine (signed_any 14 HJ hlt h2 (hG.far A2)).mono ?_;rintro e w9 ⟨a9,hres⟩;have z9:=a9.size;have A9:=A2.trans a9 A2.size;have hN9:=a9.keep hN2 (by omega) (by simp;omega)
   cases ht9:(Ps.opn I J nx fun A n1=>Ps.signed A 14 n1) with
   | err c0 a0=>
    rw [ht9] at hres;obtain rfl:e=_:=hres;exact ⟨rfl,Post.fail (by unfold Ps.aheadS;rw [hq1,if_neg (by simp),hq2,if_pos rfl];exact ht9) A9⟩
   | ok e0 n1=>
    rw [ht9] at hres;obtain ⟨le9,h9,_,rfl,y,rfl,he9⟩:=hres;have HT9:=hide ht9;clear ht9;have fa:=fun o=>fo hN9 o;have ca0:=co hN9 0;have ca1:=co hN9 1;have ca2:=co hN9 2;have ca3:=co hN9 3;have ca4:=co hN9 4;have ca5:=co hN9 5;simp at ca0 ca1 ca2 ca3 ca4 ca5;have he10:=he9.wide (ok':=fun i=>w.heap.size<i) (fun i hi hl=>by omega);go_wp2;refine bodyPost_ret (v:=.agg #[.int .i64 y.op,.int .i64 y.k,.int .i64 y.n,.string y.name,.slice y.aS y.nS y.cS,.slice y.aL y.nL y.cL]) (by simp [results,Tryz.results269,go_sem,ca0,ca1,ca2,ca3,ca4,ca5]) rfl ?_;exact Post.good (by unfold Ps.aheadS;rw [hq1,if_neg (by simp),hq2,if_pos rfl];exact HT9.out) (A9.put6 (k:=w.heap.size) nR y) (by omega) (h9.put6 (k:=w.heap.size) (by omega) (by omega) y) ⟨y,rfl,(he10.put6 (k:=w.heap.size) (by simp) y).wide (fun i hi _=>Nat.le_of_lt hi)⟩
  | false=>
   have m0:Hid (Ps.aheadS I J nx=(Ps.unit I J nx).bind fun e n1=>Ps.indices I J (I.L.length-n1) e n1):=by
    show Ps.aheadS I J nx=_
    unfold Ps.aheadS;rw [hq1,if_neg (by simp),hq2,if_neg (by simp)]
   go_wp2_with fail;refine (HU _ _ h2 (hG.far A2)).mono ?_;rintro e w3 ⟨a3,hres⟩;have z3:=a3.size;have A3:=A2.trans a3 A2.size;have hN3:=a3.keep hN2 (by omega) (by simp;omega);clear h2 A2 hN2 a3
   cases ht:Ps.unit I J nx with
   | err c0 a0=>
    rw [ht] at hres;obtain rfl:e=_:=hres;exact ⟨rfl,Post.fail (by rw [m0.out,ht];rfl) A3⟩
   | ok e0 n1=>
    rw [ht] at hres;obtain ⟨le3,h3,_,rfl,x0,rfl,he3⟩:=hres;have hmod:Hid (Ps.aheadS I J nx=Ps.indices I J (I.L.length-n1) e0 n1):=by
     show Ps.aheadS I J nx=_
     rw [m0.out,ht];rfl
    clear ht m0;go_wp2;go_loopg [] (I.L.length-n1) (fun k wr=>∃ (n:Nat) (y:ExV) (e:Ex),I.L.length≤n+k∧nx≤n∧HEx (fun i=>w.heap.size<i∧i≠w3.heap.size) wr y.cells e∧Rd wr b g cap I.L I.len n op∧Aside [b] w.heap.size w wr ∧
      wr.heap[w.heap.size]?=some (.cells #[.int .i64 0,.int .i64 0,.int .i64 0,.string ⟨#[]⟩,.slice none 0 0,.slice none 0 0] 54 (0,0)) ∧
      wr.heap[w3.heap.size]?=some (.cells #[.int .i64 y.op,.int .i64 y.k,.int .i64 y.n,.string y.name,.slice y.aS y.nS y.cS,.slice y.aL y.nL y.cL] 54 (0,0))∧Hid (Ps.aheadS I J nx=Ps.indices I J k e n))
    case atStart=>exact ⟨n1,x0,e0,by omega,le3,(he3.wide (ok':=fun i=>w.heap.size<i∧i≠w3.heap.size) (fun i hi hl=>⟨by omega,by omega⟩)).under ((Below.refl _ w3).alloc nR _),h3.alloc _,A3.alloc (by omega) _,kA hN3 _,heap_new _ _,hmod⟩
    case round=>
     clear hmod A3 hN3 h3 he3;obtain ⟨n,y,e,hn,hle,he,hrd,has,hA,hB,hmod⟩:=hrel;have zA:=lt_of hA;have zB:=lt_of hB;go_wp2_with fail;refine (seesI hrd ⟨#[91]⟩).mono ?_;rintro r w4 ⟨rfl,b4⟩;have es:(⟨#[91]⟩:ByteArray).data.toList=[91]:=rfl;simp only [es];clear es;have z4:=b4.size;have hA4:=(aside b4 (S:=[])).keep hA (lt_of hA) (by simp);have hB4:=(aside b4 (S:=[])).keep hB (lt_of hB) (by simp);have he4:=he.under b4;have h4:=hrd.below b4;have A4:=has.trans (aside b4) has.size;clear hA hB he hrd has b4
     cases hq4:Ps.sees I [91] n with
     | false=>
      have fa:=fun o=>fo hA4 o;have cb0:=co hB4 0;have cb1:=co hB4 1;have cb2:=co hB4 2;have cb3:=co hB4 3;have cb4:=co hB4 4;have cb5:=co hB4 5;simp at cb0 cb1 cb2 cb3 cb4 cb5;have ca0:=co hA4 0;have ca1:=co hA4 1;have ca2:=co hA4 2;have ca3:=co hA4 3;have ca4:=co hA4 4;have ca5:=co hA4 5;simp at ca0 ca1 ca2 ca3 ca4 ca5;go_wp2;refine bodyPost_ret (v:=.agg #[.int .i64 y.op,.int .i64 y.k,.int .i64 y.n,.string y.name,.slice y.aS y.nS y.cS,.slice y.aL y.nL y.cL]) (by simp [results,Tryz.results269,go_sem,ca0,ca1,ca2,ca3,ca4,ca5]) rfl ?_;exact Post.good (by rw [hmod.out];exact indices_stop hq4 gk) (A4.put6 (k:=w.heap.size) nR y) hle (h4.put6 (k:=w.heap.size) (by omega) (by omega) y) ⟨y,rfl,(he4.put6 (k:=w.heap.size) (by simp) y).wide (fun i hi _=>Nat.le_of_lt hi.1)⟩
     | true=>
      have hlt:=sees_lt hq4 (by simp);obtain ⟨f,rfl⟩:∃ f,gk=f+1:=⟨gk-1,by omega⟩;have hst:=hide (hmod.out.trans (indices_step (J:=J) (e:=e) hq4 f));clear hmod;have cb0:=co hB4 0;have cb1:=co hB4 1;have cb2:=co hB4 2;have cb3:=co hB4 3;have cb4:=co hB4 4;have cb5:=co hB4 5;simp at cb0 cb1 cb2 cb3 cb4 cb5;go_wp2_with fail;refine (indexed_any (ok0:=fun i=>w.heap.size<i∧i≠w3.heap.size∧i<w4.heap.size) HJ hlt h4 (hG.far A4) (he4.wide (fun i hi hl=>⟨hi.1,hi.2,hl⟩)) (fun i hi=>⟨hi.2.2,by omega⟩)).mono ?_;rintro r w5 ⟨a5,hres⟩;have z5:=a5.size;have A5:=A4.trans a5 A4.size;have hA5:=a5.keep hA4 (by omega) (by simp;omega);have hB5:=a5.keep hB4 (by omega) (by simp;omega);clear hA4 hB4 he4 h4 A4 a5 cb0 cb1 cb2 cb3 cb4 cb5
      cases ht:(Ps.opn I J n fun A n1=>Ps.index I (Ps.exprOf I A) e n1) with
      | err c0 a0=>
       rw [ht] at hres;obtain rfl:r=_:=hres;exact ⟨rfl,Post.fail (by rw [hst.out,ht];rfl) A5⟩
      | ok e6 n6=>
       rw [ht] at hres;obtain ⟨le5,h5,_,rfl,z,rfl,he6⟩:=hres;have hmod:Hid (Ps.aheadS I J nx=Ps.indices I J f e6 n6):=by
        show Ps.aheadS I J nx=_
        rw [hst.out,ht];rfl
       clear hst ht;have he7:=he6.wide (ok':=fun i=>w.heap.size<i∧i≠w3.heap.size) (fun i hi _=>hi.elim (fun q=>⟨q.1,q.2.1⟩) (fun q=>⟨by omega,by omega⟩));have fB:=fun o=>fo hB5 o;have cb0:=co hB5 0;have cb1:=co hB5 1;have cb2:=co hB5 2;have cb3:=co hB5 3;have cb4:=co hB5 4;have cb5:=co hB5 5;simp at cb0 cb1 cb2 cb3 cb4 cb5;go_wp2;go_roundg f
       case measure=>omega
       case rel=>exact ⟨n6,z,_,by omega,by omega,he7.put6 (k:=w3.heap.size) (by simp) z,h5.put6 (k:=w3.heap.size) (by omega) (by omega) z,A5.put6 (k:=w3.heap.size) (by omega) z,keep6 hA5 (by omega) z,put6_in hB5 z,hmod⟩
theorem ahead_any (hform:FormC) {b g cap:Nat} {I:Inp}:∀ (d op:Nat),op+d=60→Does 269 b g cap I op exV (Ps.ahead I d)
 | 0,op,h=>aheadS_any (J:=none) (show 60≤op by omega) (unit_any hform (J:=none) (show 60≤op by omega))
 | d+1,op,h=>aheadS_any (J:=some (Ps.ahead I d)) ⟨by omega,ahead_any hform d (op+1) (by omega)⟩ (unit_any hform (J:=some (Ps.ahead I d)) ⟨by omega,ahead_any hform d (op+1) (by omega)⟩)
theorem exprs_any (hform:FormC) {b g cap:Nat} {I:Inp}:Does 245 b g cap I 0 exV (Ps.expr I 60):=exprOf_any (ahead_any hform 60 0 rfl)
end Go.Proofs.YtkfgbhlpjkkgfaaGreatDoor
