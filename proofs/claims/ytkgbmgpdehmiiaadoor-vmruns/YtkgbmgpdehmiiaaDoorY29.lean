import Derived.Test.YtkgbmgpdehmiiaaDoorY15
import Derived.Test.YtkgbmgpdehmiiaaDoorY12
import Derived.WalkKit
import Derived.WalkSpells
import Derived.IntWalk
import Derived.Deep.Cut
import Derived.Deep.LoopGhost
import Derived.Laws.Cover1
import Derived.Lib.Hide
set_option linter.unusedVariables false
set_option linter.unusedSimpArgs false
set_option maxHeartbeats 64000000
set_option maxRecDepth 100000
namespace Go.Proofs.YtkgbmgpdehmiiaaDoor
open Go.RowKit Go.IntWalk
set_option linter.unusedVariables false
set_option linter.unusedSimpArgs false
theorem two_set {w : World} {b : Nat} {ty : TypeId} {v0 v1 : Value} (k : w.heap[b]? = some (.cells #[v0, v1] ty (0, 0))) (u0 u1 : Value) : ((w.setCell ⟨b, 0, none⟩ u0).setCell ⟨b, 1, none⟩ u1).heap[b]? = some (.cells #[u0, u1] ty (0, 0)) := by
  have h := set_in (set_in k 0 u0) 1 u1
  simpa using h
theorem aside_two {S : List Nat} {B : Nat} {w : World} {b : Nat} (hb : b ∈ S) (u0 u1 : Value) : Aside S B w ((w.setCell ⟨b, 0, none⟩ u0).setCell ⟨b, 1, none⟩ u1) :=
  (Aside.setCell (p := ⟨b, 0, none⟩) hb u0).trans (Aside.setCell (B := B) (p := ⟨b, 1, none⟩) hb u1) (Nat.le_refl _)
end Go.Proofs.YtkgbmgpdehmiiaaDoor
namespace Go.Proofs.YtkgbmgpdehmiiaaDoor
open Go.RowKit Go.IntWalk
set_option linter.unusedVariables false
set_option linter.unusedSimpArgs false
theorem aside_low {S : List Nat} {B : Nat} {w w1 w2 : World} (b : Below B w w1) (a : Aside S w1.heap.size w1 w2) (hB : B ≤ w.heap.size) (h : ∀ i ∈ S, B ≤ i) : Below B w w2 :=
  b.trans ⟨a.os, a.tape, a.output, a.size, fun k hk => a.block k (Nat.lt_of_lt_of_le hk (Nat.le_trans hB b.size)) (fun hm => absurd (h k hm) (by omega))⟩
theorem HInts.below {ok : Nat → Prop} {w w' : World} {v : Value} {l : List Int} (h : HInts ok w v l) (b : Below w.heap.size w w') : HInts ok w' v l := h.under b
theorem HInts.pastS {ok : Nat → Prop} {w w' : World} {v : Value} {l : List Int} (h : HInts ok w v l) {S : List Nat} (a : Aside S w.heap.size w w') (hS : ∀ i, ok i → i ∉ S) : HInts ok w' v l := h.keep a.size fun i hi hl => a.block i hl (hS i hi)
theorem clone25_any {ok : Nat → Prop} {w : World} {v : Value} {l : List Int} (N : Nat) (hl : HInts ok w v l) (hlen : l.length ≤ 1000000) (hN : N ≤ w.heap.size) : Calls Tryd.prog 21 #[v] w fun e w' => ∃ a c, e = .returned (.slice a l.length c) ∧ HInts (fun i => N ≤ i) w' (.slice a l.length c) l ∧ Below w.heap.size w w' := by
  refine (clone53_any (ok := ok) hl hlen).mono ?_
  rintro e w' ⟨v', rfl, o, b⟩
  obtain ⟨a, c, rfl, -, -⟩ := o.form
  exact ⟨a, c, rfl, (ints_row o.row).wide (fun i h _ => Nat.le_trans hN h), b⟩
end Go.Proofs.YtkgbmgpdehmiiaaDoor
namespace Go.Proofs.YtkgbmgpdehmiiaaDoor
open Go.RowKit Go.IntWalk
set_option linter.unusedVariables false
set_option linter.unusedSimpArgs false
theorem in36_any {ok : Nat → Prop} {w : World} {aB : Option Addr} {cB : Nat} {B : List Int} (hB : HInts ok w (.slice aB B.length cB) B) (x : Int) : Calls Tryd.prog 31 #[.slice aB B.length cB, .int .i64 x] w fun e w' => e = .returned (.bool (decide (x ∈ B))) ∧ w' = w := by
  obtain ⟨r, hr⟩ : ∃ r : Bool, r = decide (x ∈ B) := ⟨_, rfl⟩
  rw [← hr]
  have HR := hide hr
  clear hr
  obtain ⟨ao, cap, e, hc1, hc2, -⟩ := hB.at2
  injection e with e1 e2 e3
  subst e1 e3
  have HB := hide hB
  obtain ⟨n, hn⟩ : ∃ n, n = B.length := ⟨_, rfl⟩
  have hnl : n ≤ maxLen := by omega
  unfold maxLen at hnl
  rw [← hn]
  have HN := hide hn
  clear hB e2 hc1 hc2 hn
  go_enter Tryd.func31, Tryd.ntmps31
  go_wp2_with fail
  go_loopg [5] n (fun kz v5 wr => ∃ (i : Nat), i ≤ n ∧ kz = n - i ∧ v5 = .int .i64 (i : Nat) ∧ wr = w ∧ Hid (∀ (j : Nat) (h : j < B.length), j < i → B[j] ≠ x))
  case atStart => exact ⟨0, Nat.zero_le _, rfl, rfl, rfl, hide (fun j h hj => absurd hj (by omega))⟩
  case round =>
    obtain ⟨i, hi, rfl, rfl, rfl, H⟩ := hrel
    by_cases hlt : i < n
    case neg =>
      have hin : i = n := by omega
      subst hin
      have hd : decide (x ∈ B) = false := by
        rw [decide_eq_false_iff_not]
        intro hm
        obtain ⟨j, hj, e⟩ := List.mem_iff_getElem.1 hm
        exact H.out j hj (by have := HN.out; omega) e
      have HD := hide (HR.out.trans hd)
      clear hd H HR
      go_wp2
      go_ret
      exact ⟨by rw [show r = _ from HD.out]; rfl, rfl⟩
    case pos =>
      obtain ⟨ao, cap, e, -, -, hat⟩ := HB.out.at2
      injection e with q1 q2 q3
      have hiB : i < B.length := by have := HN.out; omega
      obtain ⟨b, o, ea, y, -, e0⟩ := hat i hiB
      rw [← q1] at ea
      subst ea
      have hil : (i : Int) < (n : Int) := by omega
      clear hat q1 q2 q3
      by_cases hx : B[i] = x
      case pos =>
        have hd : decide (x ∈ B) = true := by
          rw [decide_eq_true_iff, ← hx]
          exact List.getElem_mem hiB
        have HD := hide (HR.out.trans hd)
        rw [hx] at e0
        clear hd H hx hiB HR
        go_wp2
        go_ret
        exact ⟨by rw [show r = _ from HD.out]; rfl, rfl⟩
      case neg =>
        have H2 := hide (show ∀ (j : Nat) (h : j < B.length), j < i + 1 → B[j] ≠ x from fun j h hj => by
          by_cases hji : j = i
          · subst hji
            exact hx
          · exact H.out j h (by omega))
        have hxb : (B[i] == x) = false := by simpa using hx
        generalize B[i] = y0 at e0 hxb
        clear H hx hiB
        go_wp2_with fail
        go_roundg (n - (i + 1))
        case measure => omega
        case rel => exact ⟨i + 1, by omega, rfl, by go_num, rfl, H2⟩
end Go.Proofs.YtkgbmgpdehmiiaaDoor
namespace Go.Proofs.YtkgbmgpdehmiiaaDoor
open Go.RowKit Go.IntWalk
set_option linter.unusedVariables false
set_option linter.unusedSimpArgs false
namespace Dx
/-- a row that is not done: nothing of the code that is run is other -/
structure DRowNo (w : World) (gb cb nc cc : Nat) (v0 v1 v2 v3 v4 v5 v6 : Value) (st : Int) (M : List Int) (code at_ : Int) (e : Ending) (w' : World) : Prop where
  out : e = .returned (.tuple #[.slice none 0 0, .agg #[.int .i64 code, .int .i64 at_]])
  g : GAt w' gb cb nc cc v0 v1 v2 v3 v4 v5 v6 st
  m : LX w' cb M
  a : Aside [gb, cb] w.heap.size w w'
theorem drow_end {w wr : World} {gb cb nc cc : Nat} {v0 v1 v2 v3 v4 v5 v6 : Value} {st : Int} {M : List Int} {ty : TypeId} {u0 u1 : Value} (kF : wr.heap[w.heap.size]? = some (.cells #[u0, u1] ty (0, 0))) (hg : GAt wr gb cb nc cc v0 v1 v2 v3 v4 v5 v6 st) (hm : LX wr cb M) (At : Aside [gb, cb] w.heap.size w wr) (yg : gb < w.heap.size) (yc : cb < w.heap.size) (c a : Int) :
    GAt ((wr.setCell ⟨w.heap.size, 0, none⟩ (.int .i64 c)).setCell ⟨w.heap.size, 1, none⟩ (.int .i64 a)) gb cb nc cc v0 v1 v2 v3 v4 v5 v6 st ∧ LX ((wr.setCell ⟨w.heap.size, 0, none⟩ (.int .i64 c)).setCell ⟨w.heap.size, 1, none⟩ (.int .i64 a)) cb M ∧ Aside [gb, cb] w.heap.size w ((wr.setCell ⟨w.heap.size, 0, none⟩ (.int .i64 c)).setCell ⟨w.heap.size, 1, none⟩ (.int .i64 a)) := by
  have aF : Aside [w.heap.size] wr.heap.size wr ((wr.setCell ⟨w.heap.size, 0, none⟩ (.int .i64 c)).setCell ⟨w.heap.size, 1, none⟩ (.int .i64 a)) := aside_two (by simp) _ _
  have hne1 : w.heap.size ≠ gb := by omega
  have hne2 : w.heap.size ≠ cb := by omega
  exact ⟨hg.keep (aF.block gb (lt_of hg) (by simpa using hne1.symm)), hm.keep (aF.block cb hm.lt (by simpa using hne2.symm)), ⟨aF.os.trans At.os, aF.tape.trans At.tape, aF.output.trans At.output, Nat.le_trans At.size aF.size, fun j hj hs => (aF.block j (Nat.lt_of_lt_of_le hj At.size) (by simp; omega)).trans (At.block j hj hs)⟩⟩
set_option maxHeartbeats 16000000 in
theorem drow19_len {w : World} {gb cb nc cc : Nat} {v0 v1 v2 v4 v5 v6 : Value} {st : Int} {aP aI : Option Addr} {np cP ni cI : Nat} {M : List Int} (hg : GAt w gb cb nc cc v0 v1 v2 (.slice aP np cP) v4 v5 v6 st) (hm : LX w cb M) (hne : ni ≠ np) :
    Calls Tryd.prog 14 #[.pointer (some ⟨gb, 0, none⟩), .slice aI ni cI] w (DRowNo w gb cb nc cc v0 v1 v2 (.slice aP np cP) v4 v5 v6 st M 17 (-1)) := by
  have b1 : Below w.heap.size w (w.alloc (.cells #[.int .i64 0, .int .i64 0] 34 (0, 0))) := (Below.refl _ _).alloc (Nat.le_refl _) _
  have kF := heap_new w (.cells #[.int .i64 0, .int .i64 0] 34 (0, 0))
  have hg1 := hg.keep (b1.block _ (lt_of hg))
  have hm1 := hm.under b1
  have hnb : ((ni : Int) != (np : Int)) = true := by simp; omega
  have ygw := lt_of hg
  have ycw := hm.lt
  clear hg hm
  go_enter Tryd.func14, Tryd.ntmps14
  go_upto_region 1 with fail
  generalize w.alloc (.cells #[.int .i64 0, .int .i64 0] 34 (0, 0)) = w1 at b1 kF hg1 hm1 ⊢
  have kg : w1.heap[gb]? = some (.cells #[v0, v1, v2, .slice aP np cP, v4, v5, v6, .slice (some ⟨cb, 0, none⟩) nc cc, .int .i64 st] 46 (0, 0)) := hg1
  have g3 := cell_of kg 3
  simp at g3
  have yg := lt_of kg
  go_wp2_with fail
  refine (f27_any 17 (-1) w1).mono ?_
  rintro e wr ⟨rfl, br⟩
  have A1 : Aside [gb, cb] w.heap.size w w1 := aside b1
  have At : Aside [gb, cb] w.heap.size w wr := A1.trans (aside (S := [gb, cb]) br) A1.size
  have hgt := hg1.keep (br.block _ yg)
  have kCt := hm1.under br
  have kFt := (br.block _ (lt_of kF)).trans kF
  have HEND := hide (drow_end kFt hgt kCt At ygw ycw 17 (-1))
  have KF := two_set kFt (.int .i64 17) (.int .i64 (-1))
  have z0 := cell_of KF 0
  have z1 := cell_of KF 1
  have sz0 := cell_of kFt 0
  have sz1 := cell_of kFt 1
  have fz0 := free_of kFt 0
  have fz1 := free_of kFt 1
  simp at z0 z1 sz0 sz1
  clear kF kFt KF hgt kCt At A1 br b1 hg1 hm1 kg g3
  go_wp2
  exact bodyPost_ret (v := .tuple #[.slice none 0 0, .agg #[.int .i64 17, .int .i64 (-1)]]) (by simp [results, Tryd.results14, go_sem, z0, z1]) rfl ⟨rfl, HEND.out.1, HEND.out.2.1, HEND.out.2.2⟩
end Dx
end Go.Proofs.YtkgbmgpdehmiiaaDoor
namespace Go.Proofs.YtkgbmgpdehmiiaaDoor
open Go.RowKit Go.IntWalk
set_option linter.unusedVariables false
set_option linter.unusedSimpArgs false
theorem in36T {ok : Nat → Prop} {w : World} {aB : Option Addr} {n cB : Nat} {B : List Int} (hB : HInts ok w (.slice aB n cB) B) (hn : n = B.length) (x : Int) (hx : x ∈ B) : Calls Tryd.prog 31 #[.slice aB n cB, .int .i64 x] w fun e w' => e = .returned (.bool true) ∧ Below w.heap.size w w' := by
  subst hn
  exact (in36_any hB x).mono (by rintro e w' ⟨rfl, rfl⟩; exact ⟨by rw [decide_eq_true hx], Below.refl _ _⟩)
theorem in36F {ok : Nat → Prop} {w : World} {aB : Option Addr} {n cB : Nat} {B : List Int} (hB : HInts ok w (.slice aB n cB) B) (hn : n = B.length) (x : Int) (hx : x ∉ B) : Calls Tryd.prog 31 #[.slice aB n cB, .int .i64 x] w fun e w' => e = .returned (.bool false) ∧ Below w.heap.size w w' := by
  subst hn
  exact (in36_any hB x).mono (by rintro e w' ⟨rfl, rfl⟩; exact ⟨by rw [decide_eq_false hx], Below.refl _ _⟩)
/-- a number that may be put -/
def Fine (B : List Int) (p x : Int) : Prop := x = 0 ∨ x = 1 ∨ p ∉ B
end Go.Proofs.YtkgbmgpdehmiiaaDoor
