import Derived.Test.YtkfgbhlpjkkgfaaGreatDoorT43
set_option linter.unusedVariables false
set_option linter.unusedSimpArgs false
set_option maxHeartbeats 64000000
set_option maxRecDepth 100000
namespace Go.Proofs.YtkfgbhlpjkkgfaaGreatDoor
open Go.RowKit Go.IntWalk
theorem idx0 (w:World):(Instr.index 279 (.agg #[.string ⟨#[97,100,100]⟩,.string ⟨#[115,117,98]⟩,.string ⟨#[109,117,108]⟩,.string ⟨#[100,105,118]⟩,.string ⟨#[109,111,100]⟩,.string ⟨#[109,105,110]⟩,.string ⟨#[109,97,120]⟩,.string ⟨#[108,101,115,115]⟩,.string ⟨#[101,113]⟩,.string ⟨#[97,110,100]⟩,.string ⟨#[111,114]⟩,.string ⟨#[120,111,114]⟩,.string ⟨#[110,101,103]⟩,.string ⟨#[110,111,116]⟩]) (.int .i64 0)).run Tryz.prog w=.ok (.string ⟨#[97,100,100]⟩) w:=by kernel_rfl
theorem idx1 (w:World):(Instr.index 279 (.agg #[.string ⟨#[97,100,100]⟩,.string ⟨#[115,117,98]⟩,.string ⟨#[109,117,108]⟩,.string ⟨#[100,105,118]⟩,.string ⟨#[109,111,100]⟩,.string ⟨#[109,105,110]⟩,.string ⟨#[109,97,120]⟩,.string ⟨#[108,101,115,115]⟩,.string ⟨#[101,113]⟩,.string ⟨#[97,110,100]⟩,.string ⟨#[111,114]⟩,.string ⟨#[120,111,114]⟩,.string ⟨#[110,101,103]⟩,.string ⟨#[110,111,116]⟩]) (.int .i64 1)).run Tryz.prog w=.ok (.string ⟨#[115,117,98]⟩) w:=by kernel_rfl
theorem idx2 (w:World):(Instr.index 279 (.agg #[.string ⟨#[97,100,100]⟩,.string ⟨#[115,117,98]⟩,.string ⟨#[109,117,108]⟩,.string ⟨#[100,105,118]⟩,.string ⟨#[109,111,100]⟩,.string ⟨#[109,105,110]⟩,.string ⟨#[109,97,120]⟩,.string ⟨#[108,101,115,115]⟩,.string ⟨#[101,113]⟩,.string ⟨#[97,110,100]⟩,.string ⟨#[111,114]⟩,.string ⟨#[120,111,114]⟩,.string ⟨#[110,101,103]⟩,.string ⟨#[110,111,116]⟩]) (.int .i64 2)).run Tryz.prog w=.ok (.string ⟨#[109,117,108]⟩) w:=by kernel_rfl
theorem idx3 (w:World):(Instr.index 279 (.agg #[.string ⟨#[97,100,100]⟩,.string ⟨#[115,117,98]⟩,.string ⟨#[109,117,108]⟩,.string ⟨#[100,105,118]⟩,.string ⟨#[109,111,100]⟩,.string ⟨#[109,105,110]⟩,.string ⟨#[109,97,120]⟩,.string ⟨#[108,101,115,115]⟩,.string ⟨#[101,113]⟩,.string ⟨#[97,110,100]⟩,.string ⟨#[111,114]⟩,.string ⟨#[120,111,114]⟩,.string ⟨#[110,101,103]⟩,.string ⟨#[110,111,116]⟩]) (.int .i64 3)).run Tryz.prog w=.ok (.string ⟨#[100,105,118]⟩) w:=by kernel_rfl
theorem idx4 (w:World):(Instr.index 279 (.agg #[.string ⟨#[97,100,100]⟩,.string ⟨#[115,117,98]⟩,.string ⟨#[109,117,108]⟩,.string ⟨#[100,105,118]⟩,.string ⟨#[109,111,100]⟩,.string ⟨#[109,105,110]⟩,.string ⟨#[109,97,120]⟩,.string ⟨#[108,101,115,115]⟩,.string ⟨#[101,113]⟩,.string ⟨#[97,110,100]⟩,.string ⟨#[111,114]⟩,.string ⟨#[120,111,114]⟩,.string ⟨#[110,101,103]⟩,.string ⟨#[110,111,116]⟩]) (.int .i64 4)).run Tryz.prog w=.ok (.string ⟨#[109,111,100]⟩) w:=by kernel_rfl
theorem idx5 (w:World):(Instr.index 279 (.agg #[.string ⟨#[97,100,100]⟩,.string ⟨#[115,117,98]⟩,.string ⟨#[109,117,108]⟩,.string ⟨#[100,105,118]⟩,.string ⟨#[109,111,100]⟩,.string ⟨#[109,105,110]⟩,.string ⟨#[109,97,120]⟩,.string ⟨#[108,101,115,115]⟩,.string ⟨#[101,113]⟩,.string ⟨#[97,110,100]⟩,.string ⟨#[111,114]⟩,.string ⟨#[120,111,114]⟩,.string ⟨#[110,101,103]⟩,.string ⟨#[110,111,116]⟩]) (.int .i64 5)).run Tryz.prog w=.ok (.string ⟨#[109,105,110]⟩) w:=by kernel_rfl
theorem idx6 (w:World):(Instr.index 279 (.agg #[.string ⟨#[97,100,100]⟩,.string ⟨#[115,117,98]⟩,.string ⟨#[109,117,108]⟩,.string ⟨#[100,105,118]⟩,.string ⟨#[109,111,100]⟩,.string ⟨#[109,105,110]⟩,.string ⟨#[109,97,120]⟩,.string ⟨#[108,101,115,115]⟩,.string ⟨#[101,113]⟩,.string ⟨#[97,110,100]⟩,.string ⟨#[111,114]⟩,.string ⟨#[120,111,114]⟩,.string ⟨#[110,101,103]⟩,.string ⟨#[110,111,116]⟩]) (.int .i64 6)).run Tryz.prog w=.ok (.string ⟨#[109,97,120]⟩) w:=by kernel_rfl
theorem idx7 (w:World):(Instr.index 279 (.agg #[.string ⟨#[97,100,100]⟩,.string ⟨#[115,117,98]⟩,.string ⟨#[109,117,108]⟩,.string ⟨#[100,105,118]⟩,.string ⟨#[109,111,100]⟩,.string ⟨#[109,105,110]⟩,.string ⟨#[109,97,120]⟩,.string ⟨#[108,101,115,115]⟩,.string ⟨#[101,113]⟩,.string ⟨#[97,110,100]⟩,.string ⟨#[111,114]⟩,.string ⟨#[120,111,114]⟩,.string ⟨#[110,101,103]⟩,.string ⟨#[110,111,116]⟩]) (.int .i64 7)).run Tryz.prog w=.ok (.string ⟨#[108,101,115,115]⟩) w:=by kernel_rfl
theorem idx8 (w:World):(Instr.index 279 (.agg #[.string ⟨#[97,100,100]⟩,.string ⟨#[115,117,98]⟩,.string ⟨#[109,117,108]⟩,.string ⟨#[100,105,118]⟩,.string ⟨#[109,111,100]⟩,.string ⟨#[109,105,110]⟩,.string ⟨#[109,97,120]⟩,.string ⟨#[108,101,115,115]⟩,.string ⟨#[101,113]⟩,.string ⟨#[97,110,100]⟩,.string ⟨#[111,114]⟩,.string ⟨#[120,111,114]⟩,.string ⟨#[110,101,103]⟩,.string ⟨#[110,111,116]⟩]) (.int .i64 8)).run Tryz.prog w=.ok (.string ⟨#[101,113]⟩) w:=by kernel_rfl
theorem idx9 (w:World):(Instr.index 279 (.agg #[.string ⟨#[97,100,100]⟩,.string ⟨#[115,117,98]⟩,.string ⟨#[109,117,108]⟩,.string ⟨#[100,105,118]⟩,.string ⟨#[109,111,100]⟩,.string ⟨#[109,105,110]⟩,.string ⟨#[109,97,120]⟩,.string ⟨#[108,101,115,115]⟩,.string ⟨#[101,113]⟩,.string ⟨#[97,110,100]⟩,.string ⟨#[111,114]⟩,.string ⟨#[120,111,114]⟩,.string ⟨#[110,101,103]⟩,.string ⟨#[110,111,116]⟩]) (.int .i64 9)).run Tryz.prog w=.ok (.string ⟨#[97,110,100]⟩) w:=by kernel_rfl
theorem idx10 (w:World):(Instr.index 279 (.agg #[.string ⟨#[97,100,100]⟩,.string ⟨#[115,117,98]⟩,.string ⟨#[109,117,108]⟩,.string ⟨#[100,105,118]⟩,.string ⟨#[109,111,100]⟩,.string ⟨#[109,105,110]⟩,.string ⟨#[109,97,120]⟩,.string ⟨#[108,101,115,115]⟩,.string ⟨#[101,113]⟩,.string ⟨#[97,110,100]⟩,.string ⟨#[111,114]⟩,.string ⟨#[120,111,114]⟩,.string ⟨#[110,101,103]⟩,.string ⟨#[110,111,116]⟩]) (.int .i64 10)).run Tryz.prog w=.ok (.string ⟨#[111,114]⟩) w:=by kernel_rfl
theorem idx11 (w:World):(Instr.index 279 (.agg #[.string ⟨#[97,100,100]⟩,.string ⟨#[115,117,98]⟩,.string ⟨#[109,117,108]⟩,.string ⟨#[100,105,118]⟩,.string ⟨#[109,111,100]⟩,.string ⟨#[109,105,110]⟩,.string ⟨#[109,97,120]⟩,.string ⟨#[108,101,115,115]⟩,.string ⟨#[101,113]⟩,.string ⟨#[97,110,100]⟩,.string ⟨#[111,114]⟩,.string ⟨#[120,111,114]⟩,.string ⟨#[110,101,103]⟩,.string ⟨#[110,111,116]⟩]) (.int .i64 11)).run Tryz.prog w=.ok (.string ⟨#[120,111,114]⟩) w:=by kernel_rfl
theorem idx12 (w:World):(Instr.index 279 (.agg #[.string ⟨#[97,100,100]⟩,.string ⟨#[115,117,98]⟩,.string ⟨#[109,117,108]⟩,.string ⟨#[100,105,118]⟩,.string ⟨#[109,111,100]⟩,.string ⟨#[109,105,110]⟩,.string ⟨#[109,97,120]⟩,.string ⟨#[108,101,115,115]⟩,.string ⟨#[101,113]⟩,.string ⟨#[97,110,100]⟩,.string ⟨#[111,114]⟩,.string ⟨#[120,111,114]⟩,.string ⟨#[110,101,103]⟩,.string ⟨#[110,111,116]⟩]) (.int .i64 12)).run Tryz.prog w=.ok (.string ⟨#[110,101,103]⟩) w:=by kernel_rfl
theorem idx13 (w:World):(Instr.index 279 (.agg #[.string ⟨#[97,100,100]⟩,.string ⟨#[115,117,98]⟩,.string ⟨#[109,117,108]⟩,.string ⟨#[100,105,118]⟩,.string ⟨#[109,111,100]⟩,.string ⟨#[109,105,110]⟩,.string ⟨#[109,97,120]⟩,.string ⟨#[108,101,115,115]⟩,.string ⟨#[101,113]⟩,.string ⟨#[97,110,100]⟩,.string ⟨#[111,114]⟩,.string ⟨#[120,111,114]⟩,.string ⟨#[110,101,103]⟩,.string ⟨#[110,111,116]⟩]) (.int .i64 13)).run Tryz.prog w=.ok (.string ⟨#[110,111,116]⟩) w:=by kernel_rfl
def intV:Nat->World->Value->Int->Prop:=fun _ _ x k=>x=.int .i64 k
theorem zAL {I:Inp} {n:Nat}:∀ (l:List (List UInt8)) (i:Nat) (k:Int),(∀ j (h:j<l.length),j<i->Ps.sees I l[j] n=false)->Ps.wordAt I n l k=Ps.wordAt I n (l.drop i) (k+i)
 | l,0,k,h=>by simp
 | [],i+1,k,h=>by simp [Ps.wordAt]
 | x :: l,i+1,k,h=>by
  have h0:=h 0 (by simp) (by omega);simp only [List.getElem_cons_zero] at h0;rw [Ps.wordAt,if_neg (by rw [h0];simp),zAL l i (k+1) (fun j hj bJ=>by have:=h (j+1) (by simp;omega) (by omega);simpa using this)];simp only [List.drop_succ_cons]
  congr 1
  omega
theorem operator_any {b g cap:Nat} {I:Inp} {op:Nat}:Does 282 b g cap I op intV (Ps.oper I):=by
 intro nx w h hG;have hb:=h.bb;have hg:=h.gb;obtain ⟨ke,h1,hw⟩:=hG;have PG:Ps.words.length=14:=rfl;have t0:w.cell? ⟨7,0,none⟩=some (.string ⟨#[97,100,100]⟩):=hw 0 (by decide);have t1:w.cell? ⟨7,1,none⟩=some (.string ⟨#[115,117,98]⟩):=hw 1 (by decide);have t2:w.cell? ⟨7,2,none⟩=some (.string ⟨#[109,117,108]⟩):=hw 2 (by decide);have t3:w.cell? ⟨7,3,none⟩=some (.string ⟨#[100,105,118]⟩):=hw 3 (by decide);have t4:w.cell? ⟨7,4,none⟩=some (.string ⟨#[109,111,100]⟩):=hw 4 (by decide);have t5:w.cell? ⟨7,5,none⟩=some (.string ⟨#[109,105,110]⟩):=hw 5 (by decide);have t6:w.cell? ⟨7,6,none⟩=some (.string ⟨#[109,97,120]⟩):=hw 6 (by decide);have t7:w.cell? ⟨7,7,none⟩=some (.string ⟨#[108,101,115,115]⟩):=hw 7 (by decide);have t8:w.cell? ⟨7,8,none⟩=some (.string ⟨#[101,113]⟩):=hw 8 (by decide);have t9:w.cell? ⟨7,9,none⟩=some (.string ⟨#[97,110,100]⟩):=hw 9 (by decide);have Kb:w.cell? ⟨7,10,none⟩=some (.string ⟨#[111,114]⟩):=hw 10 (by decide);have P8:w.cell? ⟨7,11,none⟩=some (.string ⟨#[120,111,114]⟩):=hw 11 (by decide);have Qj:w.cell? ⟨7,12,none⟩=some (.string ⟨#[110,101,103]⟩):=hw 12 (by decide);have Md:w.cell? ⟨7,13,none⟩=some (.string ⟨#[110,111,116]⟩):=hw 13 (by decide);clear hw;go_enter Tryz.func282,Tryz.ntmps282;go_wp2;go_loopg [3,4,6] 14 (fun k v3 v4 v6 wr=>∃ (i:Nat),i<=14/\k=14-i/\v6=.int .i64 (i:Nat)/\Rd wr b g cap I.L I.len nx op/\Aside [b] w.heap.size w wr/\Hid (∀ j (h:j<Ps.words.length),j<i->Ps.sees I Ps.words[j] nx=false))
 case atStart=>exact ⟨0,Nat.zero_le _,rfl,rfl,h,Aside.refl _,fun j _ hj=>absurd hj (Nat.not_lt_zero _)⟩
 case round=>
  obtain ⟨i,hi,rfl,rfl,hr,hA,hf⟩:=hrel;by_cases kE:i=14
  ·subst kE
   go_wp2_with fail;refine (zBY hr).mono ?_;rintro r w1 ⟨rfl,b1⟩;refine ⟨rfl,Post.fail ?_ (hA.trans (aside b1) hA.size)⟩;unfold Ps.oper;rw [zAL Ps.words 14 1 (fun j hj eJ=>hf.out j hj eJ)];rfl
  ·have uK:i=0\/i=1\/i=2\/i=3\/i=4\/i=5\/i=6\/i=7\/i=8\/i=9\/i=10\/i=11\/i=12\/i=13:=by omega
   clear kE hi;rcases uK with rfl | rfl | rfl | rfl | rfl | rfl | rfl | rfl | rfl | rfl | rfl | rfl | rfl | rfl
   ·have gg:=idx0
    go_wp2_with fail;clear gg;refine (zAH hr ⟨#[97,100,100]⟩ (by decide)).mono ?_;rintro r w1 ⟨rfl,h1,a1⟩;have es:(⟨#[97,100,100]⟩:ByteArray).data.toList=[97,100,100]:=rfl;rw [es] at h1;simp only [es];clear es;have A1:=hA.trans a1 hA.size
    cases hq:Ps.sees I [97,100,100] nx with
    | true=>
     rw [hq] at h1;simp only [if_true] at h1;have hm:Hid (Ps.oper I nx=.ok 1 (nx+1)):=by
      show Ps.oper I nx=_
      unfold Ps.oper;rw [zAL Ps.words 0 1 (fun j hj eJ=>hf.out j hj eJ)];simp [Ps.words,Ps.wordAt,hq]
     go_wp2;go_ret;exact Post.good hm.out A1 (Nat.le_succ _) h1 rfl
    | false=>
     rw [hq] at h1;simp only [Bool.false_eq_true,if_false] at h1;go_wp2;go_roundg (14-1)
     case measure=>omega
     case rel=>
      refine ⟨1,by omega,rfl,rfl,h1,A1,fun q dh dK=>?_⟩;by_cases e:q=0
      ·subst e
       exact hq
      ·exact hf.out q dh (by omega)
   ·have gg:=idx1
    go_wp2_with fail;clear gg;refine (zAH hr ⟨#[115,117,98]⟩ (by decide)).mono ?_;rintro r w1 ⟨rfl,h1,a1⟩;have es:(⟨#[115,117,98]⟩:ByteArray).data.toList=[115,117,98]:=rfl;rw [es] at h1;simp only [es];clear es;have A1:=hA.trans a1 hA.size
    cases hq:Ps.sees I [115,117,98] nx with
    | true=>
     rw [hq] at h1;simp only [if_true] at h1;have hm:Hid (Ps.oper I nx=.ok 2 (nx+1)):=by
      show Ps.oper I nx=_
      unfold Ps.oper;rw [zAL Ps.words 1 1 (fun j hj eJ=>hf.out j hj eJ)];simp [Ps.words,Ps.wordAt,hq]
     go_wp2;go_ret;exact Post.good hm.out A1 (Nat.le_succ _) h1 rfl
    | false=>
     rw [hq] at h1;simp only [Bool.false_eq_true,if_false] at h1;go_wp2;go_roundg (14-2)
     case measure=>omega
     case rel=>
      refine ⟨2,by omega,rfl,rfl,h1,A1,fun q dh dK=>?_⟩;by_cases e:q=1
      ·subst e
       exact hq
      ·exact hf.out q dh (by omega)
   ·have gg:=idx2
    go_wp2_with fail;clear gg;refine (zAH hr ⟨#[109,117,108]⟩ (by decide)).mono ?_;rintro r w1 ⟨rfl,h1,a1⟩;have es:(⟨#[109,117,108]⟩:ByteArray).data.toList=[109,117,108]:=rfl;rw [es] at h1;simp only [es];clear es;have A1:=hA.trans a1 hA.size
    cases hq:Ps.sees I [109,117,108] nx with
    | true=>
     rw [hq] at h1;simp only [if_true] at h1;have hm:Hid (Ps.oper I nx=.ok 3 (nx+1)):=by
      show Ps.oper I nx=_
      unfold Ps.oper;rw [zAL Ps.words 2 1 (fun j hj eJ=>hf.out j hj eJ)];simp [Ps.words,Ps.wordAt,hq]
     go_wp2;go_ret;exact Post.good hm.out A1 (Nat.le_succ _) h1 rfl
    | false=>
     rw [hq] at h1;simp only [Bool.false_eq_true,if_false] at h1;go_wp2;go_roundg (14-3)
     case measure=>omega
     case rel=>
      refine ⟨3,by omega,rfl,rfl,h1,A1,fun q dh dK=>?_⟩;by_cases e:q=2
      ·subst e
       exact hq
      ·exact hf.out q dh (by omega)
   ·have gg:=idx3
    go_wp2_with fail;clear gg;refine (zAH hr ⟨#[100,105,118]⟩ (by decide)).mono ?_;rintro r w1 ⟨rfl,h1,a1⟩;have es:(⟨#[100,105,118]⟩:ByteArray).data.toList=[100,105,118]:=rfl;rw [es] at h1;simp only [es];clear es;have A1:=hA.trans a1 hA.size
    cases hq:Ps.sees I [100,105,118] nx with
    | true=>
     rw [hq] at h1;simp only [if_true] at h1;have hm:Hid (Ps.oper I nx=.ok 4 (nx+1)):=by
      show Ps.oper I nx=_
      unfold Ps.oper;rw [zAL Ps.words 3 1 (fun j hj eJ=>hf.out j hj eJ)];simp [Ps.words,Ps.wordAt,hq]
     go_wp2;go_ret;exact Post.good hm.out A1 (Nat.le_succ _) h1 rfl
    | false=>
     rw [hq] at h1;simp only [Bool.false_eq_true,if_false] at h1;go_wp2;go_roundg (14-4)
     case measure=>omega
     case rel=>
      refine ⟨4,by omega,rfl,rfl,h1,A1,fun q dh dK=>?_⟩;by_cases e:q=3
      ·subst e
       exact hq
      ·exact hf.out q dh (by omega)
   ·have gg:=idx4
    go_wp2_with fail;clear gg;refine (zAH hr ⟨#[109,111,100]⟩ (by decide)).mono ?_;rintro r w1 ⟨rfl,h1,a1⟩;have es:(⟨#[109,111,100]⟩:ByteArray).data.toList=[109,111,100]:=rfl;rw [es] at h1;simp only [es];clear es;have A1:=hA.trans a1 hA.size
    cases hq:Ps.sees I [109,111,100] nx with
    | true=>
     rw [hq] at h1;simp only [if_true] at h1;have hm:Hid (Ps.oper I nx=.ok 5 (nx+1)):=by
      show Ps.oper I nx=_
      unfold Ps.oper;rw [zAL Ps.words 4 1 (fun j hj eJ=>hf.out j hj eJ)];simp [Ps.words,Ps.wordAt,hq]
     go_wp2;go_ret;exact Post.good hm.out A1 (Nat.le_succ _) h1 rfl
    | false=>
     rw [hq] at h1;simp only [Bool.false_eq_true,if_false] at h1;go_wp2;go_roundg (14-5)
     case measure=>omega
     case rel=>
      refine ⟨5,by omega,rfl,rfl,h1,A1,fun q dh dK=>?_⟩;by_cases e:q=4
      ·subst e
       exact hq
      ·exact hf.out q dh (by omega)
   ·have gg:=idx5
    go_wp2_with fail;clear gg;refine (zAH hr ⟨#[109,105,110]⟩ (by decide)).mono ?_;rintro r w1 ⟨rfl,h1,a1⟩;have es:(⟨#[109,105,110]⟩:ByteArray).data.toList=[109,105,110]:=rfl;rw [es] at h1;simp only [es];clear es;have A1:=hA.trans a1 hA.size
    cases hq:Ps.sees I [109,105,110] nx with
    | true=>
     rw [hq] at h1;simp only [if_true] at h1;have hm:Hid (Ps.oper I nx=.ok 6 (nx+1)):=by
      show Ps.oper I nx=_
      unfold Ps.oper;rw [zAL Ps.words 5 1 (fun j hj eJ=>hf.out j hj eJ)];simp [Ps.words,Ps.wordAt,hq]
     go_wp2;go_ret;exact Post.good hm.out A1 (Nat.le_succ _) h1 rfl
    | false=>
     rw [hq] at h1;simp only [Bool.false_eq_true,if_false] at h1;go_wp2;go_roundg (14-6)
     case measure=>omega
     case rel=>
      refine ⟨6,by omega,rfl,rfl,h1,A1,fun q dh dK=>?_⟩;by_cases e:q=5
      ·subst e
       exact hq
      ·exact hf.out q dh (by omega)
   ·have gg:=idx6
    go_wp2_with fail;clear gg;refine (zAH hr ⟨#[109,97,120]⟩ (by decide)).mono ?_;rintro r w1 ⟨rfl,h1,a1⟩;have es:(⟨#[109,97,120]⟩:ByteArray).data.toList=[109,97,120]:=rfl;rw [es] at h1;simp only [es];clear es;have A1:=hA.trans a1 hA.size
    cases hq:Ps.sees I [109,97,120] nx with
    | true=>
     rw [hq] at h1;simp only [if_true] at h1;have hm:Hid (Ps.oper I nx=.ok 7 (nx+1)):=by
      show Ps.oper I nx=_
      unfold Ps.oper;rw [zAL Ps.words 6 1 (fun j hj eJ=>hf.out j hj eJ)];simp [Ps.words,Ps.wordAt,hq]
     go_wp2;go_ret;exact Post.good hm.out A1 (Nat.le_succ _) h1 rfl
    | false=>
     rw [hq] at h1;simp only [Bool.false_eq_true,if_false] at h1;go_wp2;go_roundg (14-7)
     case measure=>omega
     case rel=>
      refine ⟨7,by omega,rfl,rfl,h1,A1,fun q dh dK=>?_⟩;by_cases e:q=6
      ·subst e
       exact hq
      ·exact hf.out q dh (by omega)
   ·have gg:=idx7
    go_wp2_with fail;clear gg;refine (zAH hr ⟨#[108,101,115,115]⟩ (by decide)).mono ?_;rintro r w1 ⟨rfl,h1,a1⟩;have es:(⟨#[108,101,115,115]⟩:ByteArray).data.toList=[108,101,115,115]:=rfl;rw [es] at h1;simp only [es];clear es;have A1:=hA.trans a1 hA.size
    cases hq:Ps.sees I [108,101,115,115] nx with
    | true=>
     rw [hq] at h1;simp only [if_true] at h1;have hm:Hid (Ps.oper I nx=.ok 8 (nx+1)):=by
      show Ps.oper I nx=_
      unfold Ps.oper;rw [zAL Ps.words 7 1 (fun j hj eJ=>hf.out j hj eJ)];simp [Ps.words,Ps.wordAt,hq]
     go_wp2;go_ret;exact Post.good hm.out A1 (Nat.le_succ _) h1 rfl
    | false=>
     rw [hq] at h1;simp only [Bool.false_eq_true,if_false] at h1;go_wp2;go_roundg (14-8)
     case measure=>omega
     case rel=>
      refine ⟨8,by omega,rfl,rfl,h1,A1,fun q dh dK=>?_⟩;by_cases e:q=7
      ·subst e
       exact hq
      ·exact hf.out q dh (by omega)
   ·have gg:=idx8
    go_wp2_with fail;clear gg;refine (zAH hr ⟨#[101,113]⟩ (by decide)).mono ?_;rintro r w1 ⟨rfl,h1,a1⟩;have es:(⟨#[101,113]⟩:ByteArray).data.toList=[101,113]:=rfl;rw [es] at h1;simp only [es];clear es;have A1:=hA.trans a1 hA.size
    cases hq:Ps.sees I [101,113] nx with
    | true=>
     rw [hq] at h1;simp only [if_true] at h1;have hm:Hid (Ps.oper I nx=.ok 9 (nx+1)):=by
      show Ps.oper I nx=_
      unfold Ps.oper;rw [zAL Ps.words 8 1 (fun j hj eJ=>hf.out j hj eJ)];simp [Ps.words,Ps.wordAt,hq]
     go_wp2;go_ret;exact Post.good hm.out A1 (Nat.le_succ _) h1 rfl
    | false=>
     rw [hq] at h1;simp only [Bool.false_eq_true,if_false] at h1;go_wp2;go_roundg (14-9)
     case measure=>omega
     case rel=>
      refine ⟨9,by omega,rfl,rfl,h1,A1,fun q dh dK=>?_⟩;by_cases e:q=8
      ·subst e
       exact hq
      ·exact hf.out q dh (by omega)
   ·have gg:=idx9
    go_wp2_with fail;clear gg;refine (zAH hr ⟨#[97,110,100]⟩ (by decide)).mono ?_;rintro r w1 ⟨rfl,h1,a1⟩;have es:(⟨#[97,110,100]⟩:ByteArray).data.toList=[97,110,100]:=rfl;rw [es] at h1;simp only [es];clear es;have A1:=hA.trans a1 hA.size
    cases hq:Ps.sees I [97,110,100] nx with
    | true=>
     rw [hq] at h1;simp only [if_true] at h1;have hm:Hid (Ps.oper I nx=.ok 10 (nx+1)):=by
      show Ps.oper I nx=_
      unfold Ps.oper;rw [zAL Ps.words 9 1 (fun j hj eJ=>hf.out j hj eJ)];simp [Ps.words,Ps.wordAt,hq]
     go_wp2;go_ret;exact Post.good hm.out A1 (Nat.le_succ _) h1 rfl
    | false=>
     rw [hq] at h1;simp only [Bool.false_eq_true,if_false] at h1;go_wp2;go_roundg (14-10)
     case measure=>omega
     case rel=>
      refine ⟨10,by omega,rfl,rfl,h1,A1,fun q dh dK=>?_⟩;by_cases e:q=9
      ·subst e
       exact hq
      ·exact hf.out q dh (by omega)
   ·have gg:=idx10
    go_wp2_with fail;clear gg;refine (zAH hr ⟨#[111,114]⟩ (by decide)).mono ?_;rintro r w1 ⟨rfl,h1,a1⟩;have es:(⟨#[111,114]⟩:ByteArray).data.toList=[111,114]:=rfl;rw [es] at h1;simp only [es];clear es;have A1:=hA.trans a1 hA.size
    cases hq:Ps.sees I [111,114] nx with
    | true=>
     rw [hq] at h1;simp only [if_true] at h1;have hm:Hid (Ps.oper I nx=.ok 11 (nx+1)):=by
      show Ps.oper I nx=_
      unfold Ps.oper;rw [zAL Ps.words 10 1 (fun j hj eJ=>hf.out j hj eJ)];simp [Ps.words,Ps.wordAt,hq]
     go_wp2;go_ret;exact Post.good hm.out A1 (Nat.le_succ _) h1 rfl
    | false=>
     rw [hq] at h1;simp only [Bool.false_eq_true,if_false] at h1;go_wp2;go_roundg (14-11)
     case measure=>omega
     case rel=>
      refine ⟨11,by omega,rfl,rfl,h1,A1,fun q dh dK=>?_⟩;by_cases e:q=10
      ·subst e
       exact hq
      ·exact hf.out q dh (by omega)
   ·have gg:=idx11
    go_wp2_with fail;clear gg;refine (zAH hr ⟨#[120,111,114]⟩ (by decide)).mono ?_;rintro r w1 ⟨rfl,h1,a1⟩;have es:(⟨#[120,111,114]⟩:ByteArray).data.toList=[120,111,114]:=rfl;rw [es] at h1;simp only [es];clear es;have A1:=hA.trans a1 hA.size
    cases hq:Ps.sees I [120,111,114] nx with
    | true=>
     rw [hq] at h1;simp only [if_true] at h1;have hm:Hid (Ps.oper I nx=.ok 12 (nx+1)):=by
      show Ps.oper I nx=_
      unfold Ps.oper;rw [zAL Ps.words 11 1 (fun j hj eJ=>hf.out j hj eJ)];simp [Ps.words,Ps.wordAt,hq]
     go_wp2;go_ret;exact Post.good hm.out A1 (Nat.le_succ _) h1 rfl
    | false=>
     rw [hq] at h1;simp only [Bool.false_eq_true,if_false] at h1;go_wp2;go_roundg (14-12)
     case measure=>omega
     case rel=>
      refine ⟨12,by omega,rfl,rfl,h1,A1,fun q dh dK=>?_⟩;by_cases e:q=11
      ·subst e
       exact hq
      ·exact hf.out q dh (by omega)
   ·have gg:=idx12
    go_wp2_with fail;clear gg;refine (zAH hr ⟨#[110,101,103]⟩ (by decide)).mono ?_;rintro r w1 ⟨rfl,h1,a1⟩;have es:(⟨#[110,101,103]⟩:ByteArray).data.toList=[110,101,103]:=rfl;rw [es] at h1;simp only [es];clear es;have A1:=hA.trans a1 hA.size
    cases hq:Ps.sees I [110,101,103] nx with
    | true=>
     rw [hq] at h1;simp only [if_true] at h1;have hm:Hid (Ps.oper I nx=.ok 13 (nx+1)):=by
      show Ps.oper I nx=_
      unfold Ps.oper;rw [zAL Ps.words 12 1 (fun j hj eJ=>hf.out j hj eJ)];simp [Ps.words,Ps.wordAt,hq]
     go_wp2;go_ret;exact Post.good hm.out A1 (Nat.le_succ _) h1 rfl
    | false=>
     rw [hq] at h1;simp only [Bool.false_eq_true,if_false] at h1;go_wp2;go_roundg (14-13)
     case measure=>omega
     case rel=>
      refine ⟨13,by omega,rfl,rfl,h1,A1,fun q dh dK=>?_⟩;by_cases e:q=12
      ·subst e
       exact hq
      ·exact hf.out q dh (by omega)
   ·have gg:=idx13
    go_wp2_with fail;clear gg;refine (zAH hr ⟨#[110,111,116]⟩ (by decide)).mono ?_;rintro r w1 ⟨rfl,h1,a1⟩;have es:(⟨#[110,111,116]⟩:ByteArray).data.toList=[110,111,116]:=rfl;rw [es] at h1;simp only [es];clear es;have A1:=hA.trans a1 hA.size
    cases hq:Ps.sees I [110,111,116] nx with
    | true=>
     rw [hq] at h1;simp only [if_true] at h1;have hm:Hid (Ps.oper I nx=.ok 14 (nx+1)):=by
      show Ps.oper I nx=_
      unfold Ps.oper;rw [zAL Ps.words 13 1 (fun j hj eJ=>hf.out j hj eJ)];simp [Ps.words,Ps.wordAt,hq]
     go_wp2;go_ret;exact Post.good hm.out A1 (Nat.le_succ _) h1 rfl
    | false=>
     rw [hq] at h1;simp only [Bool.false_eq_true,if_false] at h1;go_wp2;go_roundg (14-14)
     case measure=>omega
     case rel=>
      refine ⟨14,by omega,rfl,rfl,h1,A1,fun q dh dK=>?_⟩;by_cases e:q=13
      ·subst e
       exact hq
      ·exact hf.out q dh (by omega)
theorem ExSt.keepA {N0 eb:Nat} {S:List Nat} {w w':World} {e:Ex} (h:ExSt N0 eb w e) (a:Aside S w.heap.size w w') (hS:∀ k ∈ S,k<N0) (he:eb ∉ S):ExSt N0 eb w' e:=by
 obtain ⟨vS,vL,okS,okL,h1,h2,h3,h4,h5,h6⟩:=h;exact ⟨vS,vL,okS,okL,a.keep h1 (zAB h1) he,h2.past a (fun i hi hm=>by have:=h4 i hi;have:=hS i hm;omega),h3.past a (fun i hi hm=>by have:=h5 i hi;have:=hS i hm;omega),h4,h5,h6⟩
theorem operC_any {b g cap rb eb N0:Nat} {I:Inp} {op nx:Nat} {E:Nat->Res Ex} {e:Ex} {w:World} (hv:Env b g rb eb N0) (h:Rd w b g cap I.L I.len nx op) (hG:GlobB b w) (dO:N0<=w.heap.size) (hrb:w.heap[rb]?=some (.cells #[.pointer (some ⟨b,0,none⟩)] 124 (0,0))) (hS:ExSt N0 eb w e) :
  Calls Tryz.prog 281 #[.pointer (some ⟨rb,0,none⟩),.pointer (some ⟨eb,0,none⟩)] w (PostE b g cap eb N0 I op nx w (Ps.part I E .oper e nx)):=by
 obtain ⟨v0,v1,v2,v3,v4,v5,v6,v7⟩:=hv;have cr:=co hrb 0;simp at cr;go_enter Tryz.func281,Tryz.ntmps281;go_wp2_with fail;refine (operator_any _ _ h hG).mono ?_;rintro r w1 ⟨a1,hres⟩;have A1:Aside [b,eb] N0 w w1:=zBg (a1.mono dO);have fp:=hS.keepA a1 (by simp;exact v0) (by simp;exact v5)
 cases ht:Ps.oper I nx with
 | err c0 a0=>
  rw [ht] at hres;obtain rfl:r=_:=hres;exact ⟨rfl,PostE.fail (by unfold Ps.part;simp only [];rw [ht];rfl) A1⟩
 | ok k n1=>
  rw [ht] at hres;obtain ⟨dx,h1,_,rfl,rfl⟩:=hres;have hm:Hid (Ps.part I E .oper e nx=.ok (Ps.Ex.setK e k) n1):=by
   show Ps.part I E .oper e nx=_
   unfold Ps.part;simp only [];rw [ht];rfl
  clear ht;obtain ⟨vS,vL,okS,okL,jL,oS,oL,dd,aM,cY⟩:=fp;have c1:=co jL 1;have f1:=fun o=>fo jL o;simp at c1;have eo:=zAD jL 1 (.int .i64 k);simp only [sT,sZ,sS] at eo;go_wp2;go_end0;exact PostE.good hm.out (A1.trans (Aside.setCell (by simp) _) nR) dx (h1.set (by simp;omega) (by simp;omega) _) ⟨vS,vL,okS,okL,eo,oS.set (by intro hh;have:=dd eb hh;omega) _,oL.set (by intro hh;have:=aM eb hh;omega) _,dd,aM,cY⟩
end Go.Proofs.YtkfgbhlpjkkgfaaGreatDoor
