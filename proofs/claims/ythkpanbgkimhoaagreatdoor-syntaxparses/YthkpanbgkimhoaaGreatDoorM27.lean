import Derived.Test.YthkpanbgkimhoaaGreatDoorM22
import Derived.Test.YthkpanbgkimhoaaGreatDoorPg30
import Derived.Test.YthkpanbgkimhoaaGreatDoorM26
import Derived.Test.YthkpanbgkimhoaaGreatDoorM07
import Derived.Test.YthkpanbgkimhoaaGreatDoorRows
import Derived.Lib.LaidTab
import Derived.FnData
set_option linter.unusedVariables false
set_option linter.unusedSimpArgs false
set_option maxHeartbeats 64000000
set_option maxRecDepth 100000
namespace Go.Proofs.YthkpanbgkimhoaaGreatDoor
open Go.RowKit Go.IntWalk
theorem glob_below {w w':World} (h:GlobT w) (b:Below w.heap.size w w'):GlobT w':=h.keep b.size (b.block 1 h.1)
theorem parses_walk (s:ByteArray) (hs:s.size≤maxLen) (w:World) (hG:GlobT w) :
  Calls Tryz.prog 3 #[.string s] w fun e w'=>e=.returned (.bool true)∧Below w.heap.size w w':=by
 unfold maxLen at hs;by_cases h6:13000<s.size
 ·have h6i:(13000:Int)<(s.size:Int):=by omega
  go_enter Tryz.func3,Tryz.ntmps3
  go_wp2_with (go_at_call 5;refine (begun_any _).mono ?_;rintro e w' ⟨rfl,hb⟩)
  go_ret;exact ⟨rfl,hb⟩
 ·have h6i:¬(13000:Int)<(s.size:Int):=by omega
  obtain ⟨P,hP⟩:=nm (parseT s.data.toList);have HP:=zD hP;clear hP;obtain ⟨l,c,a⟩:=P;go_enter Tryz.func3,Tryz.ntmps3
  go_wp2_with (go_at_call 5;refine (begun_any _).mono ?_;rintro e w0 ⟨rfl,b0⟩)
  have G0:=glob_below hG b0;refine (parse_all s w0 (by omega) G0).mono ?_;rintro r w1 ⟨b1,a1,n1,c1,he,hN1⟩;rw [←HP.out] at he hN1;subst he;have B1:=b0.trans (b1.mono b0.size);clear b0 b1 G0 hG;obtain ⟨w2,hw2⟩:=nm ((w1.alloc (.cells #[.slice a1 n1 c1] 25 (0,0))).alloc (.cells #[.int .i64 c,.int .i64 a] 27 (0,0)));have b2:Below w1.heap.size w1 w2:=(by rw [hw2];exact ((Below.refl _ w1).alloc nR _).alloc (by simp) _);have P_w2:w2.heap[w1.heap.size]?=some (.cells #[.slice a1 n1 c1] 25 (0,0)):=(by rw [hw2];exact kA (zF w1 _) _);have F_w2:w2.heap[w1.heap.size+1]?=some (.cells #[.int .i64 c,.int .i64 a] 27 (0,0)):=by
   have h9:=zF (w1.alloc (.cells #[.slice a1 n1 c1] 25 (0,0))) (.cells #[.int .i64 c,.int .i64 a] 27 (0,0));rw [show (w1.alloc (.cells #[.slice a1 n1 c1] 25 (0,0))).heap.size=w1.heap.size+1 by simp] at h9;rw [hw2];exact h9
  have N_w2:=hN1.under b2;have B2:=B1.trans (b2.mono B1.size);go_wp2_with fail;rw [←hw2];clear hw2 hN1 B1;refine (refParse_any s w2 (by omega)).mono ?_;rintro r w3 ⟨b3,a3,n3,c3,he3,hN3⟩;rw [←HP.out] at he3 hN3;subst he3;have P_w3:=(b3.block _ (zC P_w2)).trans P_w2;have F_w3:=(b3.block _ (zC F_w2)).trans F_w2;have N_w3:=N_w2.under b3;have B3:=B2.trans (b3.mono B2.size);clear b3 P_w2 F_w2 N_w2 B2 b2;obtain ⟨w4,hw4⟩:=nm ((w3.alloc (.cells #[.slice a3 n3 c3] 25 (0,0))).alloc (.cells #[.int .i64 c,.int .i64 a] 27 (0,0)));have b4:Below w3.heap.size w3 w4:=(by rw [hw4];exact ((Below.refl _ w3).alloc nR _).alloc (by simp) _);have Q_w4:w4.heap[w3.heap.size]?=some (.cells #[.slice a3 n3 c3] 25 (0,0)):=(by rw [hw4];exact kA (zF w3 _) _);have H_w4:w4.heap[w3.heap.size+1]?=some (.cells #[.int .i64 c,.int .i64 a] 27 (0,0)):=by
   have h9:=zF (w3.alloc (.cells #[.slice a3 n3 c3] 25 (0,0))) (.cells #[.int .i64 c,.int .i64 a] 27 (0,0));rw [show (w3.alloc (.cells #[.slice a3 n3 c3] 25 (0,0))).heap.size=w3.heap.size+1 by simp] at h9;rw [hw4];exact h9
  have P_w4:=(b4.block _ (zC P_w3)).trans P_w3;have F_w4:=(b4.block _ (zC F_w3)).trans F_w3;have N_w4:=N_w3.under b4;have M_w4:=hN3.under b4;have B4:=B3.trans (b4.mono B3.size);go_upto_region 7 with fail;rw [←hw4];clear hw4 hN3 B3 b4 P_w3 F_w3 N_w3;have p0:=co P_w4 0;have f0:=co F_w4 0;have f1:=co F_w4 1;have q0:=co Q_w4 0;have h0:=co H_w4 0;have h1:=co H_w4 1;simp at p0 f0 f1 q0 h0 h1;have hcc:(c==c)=true:=(by simp);have haa:(a==a)=true:=(by simp);clear P_w4 F_w4 Q_w4 H_w4;go_wp2_with fail;refine (zCZ N_w4 M_w4).mono ?_;rintro r w5 ⟨rfl,b5⟩;have B5:=B4.trans (b5.mono B4.size);go_wp2;go_ret;exact ⟨rfl,B5⟩
theorem zDl {H:Type} {enc:TypeId × Value→H} {P:Program} {w:World} {base:Nat} {sp:Nat→Bool} {held:Bool} {fuel:Nat} {t e:TypeId} {n:Nat} {cs:List Value} {zs:List (List UInt8)} {p:List MemPlace}
  (ht:P.underlying t=some (.array n e)) (he:P.underlying e=some .string) (hce:P.cellsOf e=1) (hct:P.cellsOf t=n)
  (h:DataW.trod enc P w base sp held fuel t cs=some (.agg (zs.map fun z=>.lit (.string z)),p)):cs=zs.map fun z=>Value.string (str z):=by
 cases fuel with
 | zero=>simp [DataW.trod] at h
 | succ fuel=>
  simp only [DataW.trod,ht,hce,hct,Nat.mul_one] at h
  split at h
  ·rename_i hl
   obtain ⟨xs,hm,hx⟩:=Option.map_eq_some_iff.1 h;have hxs:xs.map (·.1)=zs.map fun z=>(DataW.lit (.string z):DataW H):=by
    have:=congrArg Prod.fst hx
    simpa using this
   have hxl:xs.length=n:=(by simpa using Lib.mapM_length hm);have hzl:zs.length=n:=by
    have:=congrArg List.length hxs;simp at this;omega
   apply List.ext_getElem?
   intro i;by_cases hi:i<n
   ·obtain ⟨b,hb,hf⟩:=Lib.mapM_at hm i i (by simp [hi])
    obtain ⟨s,hc,rfl,_⟩:=DataW.trod_string he hf;have h1:cs[i]?=some (.string s):=by
     have:=congrArg (·[0]?) hc
     simpa [List.getElem?_take,List.getElem?_drop] using this
    have h2:(xs.map (·.1))[i]?=some (DataW.lit (.string s.data.toList):DataW H):=(by simp [hb]);rw [hxs] at h2;simp only [List.getElem?_map,Option.map_eq_some_iff,DataW.lit.injEq,Lit.string.injEq] at h2;obtain ⟨z',hz',rfl⟩:=h2;simp [h1,hz',str]
   ·rw [List.getElem?_eq_none (by omega),List.getElem?_eq_none (by simp;omega)]
  ·cases h
theorem glob_of_laid {W : World} (h : laidMetH Tryz.prog [("loomwork/syntax.operators", Rows.laid_loomwork_syntax_operators)] W) : GlobT W := by
 have h : laidMet Tryz.prog [("loomwork/syntax.operators", Rows.laid_loomwork_syntax_operators)] W := h;obtain ⟨ps, ⟨g', t', cs, fuel, p, q, hg', ht', hvar, hd, _, _⟩, _⟩ := h;obtain rfl := Option.some.inj ((show Tryz.prog.globalNamed "loomwork/syntax.operators" = some 1 by kernel_rfl).symm.trans hg');obtain rfl := Option.some.inj ((show (Tryz.prog.globals[1]?).map (·.type) = some 144 by kernel_rfl).symm.trans ht');have hcs := zDl (zs := Ps.words) Tryz.underlying144 Tryz.underlying9 (by kernel_rfl) (by kernel_rfl) hd;have hc : ∀ j (h : j < Ps.words.length), W.cell? ⟨1, j, none⟩ = some (.string (str Ps.words[j])) := by
  intro j hj;have := World.var?_cell (show Tryz.prog.globalNamed "loomwork/syntax.operators" = some 1 by kernel_rfl) hvar j;rw [this, ← Array.getElem?_toList, hcs];simp [hj]
 refine ⟨?_,hc⟩;have h0:=hc 0 (by decide)
 apply Classical.byContradiction
 intro hlt;have:W.heap[1]?=none:=(by simp;omega);simp [World.cell?,this] at h0
end Go.Proofs.YthkpanbgkimhoaaGreatDoor
